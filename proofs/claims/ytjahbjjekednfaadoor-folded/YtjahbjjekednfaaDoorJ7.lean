import Derived.Test.YtjahbjjekednfaaDoorJt
import Derived.Test.YtjahbjjekednfaaDoorQ2
import Derived.Test.YtjahbjjekednfaaDoorF1
import Derived.Test.YtjahbjjekednfaaDoorSt8
import Derived.Deep.LoopGhost
namespace Go.Proofs.YtjahbjjekednfaaDoor
open Go.RowKit

theorem xof_any (a : Qn) (m : Nat) (v : Value) (w : World) (hv : XN w v a) (hm : m ≤ 40000000) (f : QF m a) (hd : QD a) : Calls Tryd.prog 33 #[v] w (RetRR w (p0 a) (q0 a) (n0 a)) := by
 unfold p0 q0 n0
 by_cases h : a.q < 0
 ·rw [if_pos h, if_pos h]
  exact of_neg a m v w hv hm f hd (Int.sign_eq_neg_one_of_neg h)
 ·rw [if_neg h, if_neg h]
  refine of_pos a m v w hv hm f hd ?_
  rcases sign3 a.q with ⟨s1, h1⟩ | ⟨s1, h1⟩ | ⟨s1, h1⟩ <;> omega

set_option maxHeartbeats 3200000 in
set_option maxRecDepth 100000 in
/-- surd.Terms. -/
theorem sterms_any (s : ByteArray) (N : Int) (r : Rs) (ts : List Int) (all : Bool) (er : Int) (w : World) (h : Rk s r) (hN0 : -9223372036854775808 ≤ N) (hN1 : N ≤ 9223372036854775807) (ho : OutT r N ts all er) (ht : Tens w) :
  Calls Tryd.prog 20 #[.string s, .int .i64 N] w (RetTm w ts all er) := by
 obtain ⟨i0, hi, hz0, hz1, hz2⟩ := info_parts Tryd.infoStr
 have HR := Hid.mk (reckon_any s r w h)
 rcases ho with ⟨he, rfl, rfl, rfl⟩ | ⟨he, hN, rfl, rfl, rfl⟩ | ⟨he, h0, h1, K, hK, rfl, rfl, rfl⟩
 ·have hb : (r.e != 0) = true := by simp [he]
  have Hh := Hid.mk he
  clear he
  go_enter Tryd.func20, Tryd.ntmps20
  go_wp2_with fail
  refine HR.out.mono ?_
  rintro e w1 ⟨v1, rfl, hv, hk1⟩
  obtain ⟨b1, ao1, n1, c1, b2, ao2, n2, c2, b3, ao3, n3, c3, rfl, _, _, _⟩ := id hv
  go_wp2_with fail
  refine bodyPost_ret (v := .tuple #[.slice none 0 0, .bool false, .int .i64 r.e]) (by simp [results, Tryd.results20, go_sem]) rfl ?_
  exact ⟨_, rfl, World.ownsRow_nil _ _ _ _, hk1.alloc' _⟩
 ·have hb : (r.e != 0) = false := by simp [he]
  have Hh := Hid.mk he
  clear he
  go_enter Tryd.func20, Tryd.ntmps20
  go_wp2_with fail
  refine HR.out.mono ?_
  rintro e w1 ⟨v1, rfl, hv, hk1⟩
  obtain ⟨b1, ao1, n1, c1, b2, ao2, n2, c2, b3, ao3, n3, c3, rfl, _, _, _⟩ := id hv
  by_cases h3 : N < 0
  ·clear hN
   go_wp2_with fail
   refine bodyPost_ret (v := .tuple #[.slice none 0 0, .bool false, .int .i64 5]) (by simp [results, Tryd.results20, go_sem]) rfl ?_
   exact ⟨_, rfl, World.ownsRow_nil _ _ _ _, hk1.alloc' _⟩
  ·have h4 : 100 < N := by omega
   clear hN
   go_wp2_with fail
   refine bodyPost_ret (v := .tuple #[.slice none 0 0, .bool false, .int .i64 5]) (by simp [results, Tryd.results20, go_sem]) rfl ?_
   exact ⟨_, rfl, World.ownsRow_nil _ _ _ _, hk1.alloc' _⟩
 ·have hb : (r.e != 0) = false := by simp [he]
  have Hcn := Hid.mk (rk_cn h he)
  have Hsz := Hid.mk (rk_size h he)
  have Hqd : Hid (QD r.v) := ⟨by have := Hcn.out.ok.d0; omega, by have := Hcn.out.ok.d1; omega⟩
  have Hh := Hid.mk he
  clear he
  obtain ⟨n, rfl⟩ := Int.eq_ofNat_of_zero_le h0
  have HK := Hid.mk hK
  simp only [Int.toNat_natCast] at HK
  clear hK
  have hKn : K ≤ n := HK.out.le
  have HSZ : Hid (∀ i, i ≤ K → Sz r.v i) := fun i hi => sz_all Hcn.out Hsz.out (by omega) (fun j hj => HK.out.on j (by omega))
  have HFT : Hid (∀ i, i < K → Fit (tm (p0 r.v) (q0 r.v) (n0 r.v) i)) := fun i hi => (sz_num Hcn.out Hsz.out (by omega) (fun j hj => HK.out.on j (by omega))).2.fit (by decide)
  have HNN := Hid.mk (n0_nn Hcn.out)
  go_enter Tryd.func20, Tryd.ntmps20
  go_wp2_with fail
  refine HR.out.mono ?_
  rintro e w1 ⟨v1, rfl, hv, hk1⟩
  obtain ⟨b1, ao1, n1, c1, b2, ao2, n2, c2, b3, ao3, n3, c3, rfl, _, _, _⟩ := id hv
  have hOf := xof_any r.v 1100000 _ ((w1.alloc (.cells #[.bool b1, .slice ao1 n1 c1, .bool b2, .slice ao2 n2 c2, .bool b3, .slice ao3 n3 c3, .int .i64 r.v.d] 58)).alloc (.cells #[] 9)) (hv.keep (Kp.alloc' (kp_alloc w1 (.cells #[.bool b1, .slice ao1 n1 c1, .bool b2, .slice ao2 n2 c2, .bool b3, .slice ao3 n3 c3, .int .i64 r.v.d] 58)) (.cells #[] 9))) (by decide) Hsz.out Hqd.out
  have BX : Blk ((w1.alloc (.cells #[.bool b1, .slice ao1 n1 c1, .bool b2, .slice ao2 n2 c2, .bool b3, .slice ao3 n3 c3, .int .i64 r.v.d] 58)).alloc (.cells #[] 9)) w1.heap.size #[.bool b1, .slice ao1 n1 c1, .bool b2, .slice ao2 n2 c2, .bool b3, .slice ao3 n3 c3, .int .i64 r.v.d] 58 := Blk.alloc (Blk.new w1 _ _) _
  have bxc := BX.cell
  have bxl := BX.lt
  go_wp2_with fail
  refine hOf.mono ?_
  rintro e w2 ⟨v2, rfl, hR, hk2⟩
  obtain ⟨br1, aor1, nr1, cr1, br2, aor2, nr2, cr2, br3, aor3, nr3, cr3, br4, aor4, nr4, cr4, rfl, _, _, _, _⟩ := id hR
  have hown0 : ((w1.alloc (.cells #[.bool b1, .slice ao1 n1 c1, .bool b2, .slice ao2 n2 c2, .bool b3, .slice ao3 n3 c3, .int .i64 r.v.d] 58)).alloc (.cells #[] 9)).ownsRow w.heap.size 9 1 (.slice (some ⟨w1.heap.size + 1, 0, none⟩) 0 0) 0 [] := by
   have := World.ownsRow_made (base := w.heap.size) (e := 9) (size := 1) (w1.alloc (.cells #[.bool b1, .slice ao1 n1 c1, .bool b2, .slice ao2 n2 c2, .bool b3, .slice ao3 n3 c3, .int .i64 r.v.d] 58)) #[] 0 (by have := hk1.size; simp; omega) (by decide) rfl
   simpa using this
  have hkA : Kp ((w1.alloc (.cells #[.bool b1, .slice ao1 n1 c1, .bool b2, .slice ao2 n2 c2, .bool b3, .slice ao3 n3 c3, .int .i64 r.v.d] 58)).alloc (.cells #[] 9)) (w2.alloc (.cells #[.bool br1, .slice aor1 nr1 cr1, .bool br2, .slice aor2 nr2 cr2, .bool br3, .slice aor3 nr3 cr3, .bool br4, .slice aor4 nr4 cr4] 72)) := hk2.alloc' _
  replace hown0 := owns_keep hkA hown0
  have hkB : Kp w (w2.alloc (.cells #[.bool br1, .slice aor1 nr1 cr1, .bool br2, .slice aor2 nr2 cr2, .bool br3, .slice aor3 nr3 cr3, .bool br4, .slice aor4 nr4 cr4] 72)) := (Kp.alloc' (Kp.alloc' hk1 _) _).trans' hkA
  have BR0 := Blk.new w2 #[.bool br1, .slice aor1 nr1 cr1, .bool br2, .slice aor2 nr2 cr2, .bool br3, .slice aor3 nr3 cr3, .bool br4, .slice aor4 nr4 cr4] 72
  replace hR := hR.keep (kp_alloc w2 (.cells #[.bool br1, .slice aor1 nr1 cr1, .bool br2, .slice aor2 nr2 cr2, .bool br3, .slice aor3 nr3 cr3, .bool br4, .slice aor4 nr4 cr4] 72))
  have geR : w.heap.size ≤ w2.heap.size := ((Kp.alloc' (Kp.alloc' hk1 (.cells #[.bool b1, .slice ao1 n1 c1, .bool b2, .slice ao2 n2 c2, .bool b3, .slice ao3 n3 c3, .int .i64 r.v.d] 58)) (.cells #[] 9)).trans' hk2).size
  clear hk1 hk2 hkA hOf BX bxc bxl hv
  go_wp2_with fail
  generalize w2.alloc (.cells #[.bool br1, .slice aor1 nr1 cr1, .bool br2, .slice aor2 nr2 cr2, .bool br3, .slice aor3 nr3 cr3, .bool br4, .slice aor4 nr4 cr4] 72) = wa at *
  generalize w2.heap.size = AR at *
  go_loopg [10] n (fun gk t wr => ∃ (k : Nat) (br1 : Bool) (aor1 : Option Addr) (nr1 cr1 : Nat) (br2 : Bool) (aor2 : Option Addr) (nr2 cr2 : Nat) (br3 : Bool) (aor3 : Option Addr) (nr3 cr3 : Nat) (br4 : Bool) (aor4 : Option Addr) (nr4 cr4 : Nat), gk + k = n ∧ k ≤ K ∧ wr.ownsRow w.heap.size 9 1 t k (strsV (tms (p0 r.v) (q0 r.v) (n0 r.v) k)) ∧ Blk wr AR #[.bool br1, .slice aor1 nr1 cr1, .bool br2, .slice aor2 nr2 cr2, .bool br3, .slice aor3 nr3 cr3, .bool br4, .slice aor4 nr4 cr4] 72 ∧ RR wr (.agg #[.bool br1, .slice aor1 nr1 cr1, .bool br2, .slice aor2 nr2 cr2, .bool br3, .slice aor3 nr3 cr3, .bool br4, .slice aor4 nr4 cr4]) (rs r.v k).1 (rs r.v k).2 (n0 r.v) ∧ Kp w wr)
  case atStart => exact ⟨0, _, _, _, _, _, _, _, _, _, _, _, _, _, _, _, _, by omega, by omega, hown0, BR0, hR, hkB⟩
  case round =>
   clear hown0 BR0 hR hkB
   obtain ⟨k, br1, aor1, nr1, cr1, br2, aor2, nr2, cr2, br3, aor3, nr3, cr3, br4, aor4, nr4, cr4, hgk, hkK, hown, BR, hR, hkr⟩ := hrel
   have brc := BR.cell
   have brl := BR.lt
   obtain ⟨ao10, c10, hsl, hcp⟩ : ∃ ao10 c10, u10 = .slice ao10 k c10 ∧ k ≤ c10 := by
    rcases hown.2 with ⟨e, h2⟩ | ⟨g, cap, cur, e, _, _, hc, _⟩
    ·exact ⟨none, 0, by rw [e, h2], by omega⟩
    ·exact ⟨_, cap, e, hc⟩
   have hEn := ended_any _ _ _ _ wr hR
   by_cases hkn : k < n
   ·have hki : (k : Int) < (n : Int) := by omega
    by_cases hq : (rs r.v k).2 = 0
    ·have HKk : Hid (k = K) := by
      unfold Hid
      rcases Nat.lt_or_ge k K with e | e
      ·exact absurd hq (HK.out.on k e)
      ·omega
     rw [decide_eq_true hq] at hEn
     subst hsl
     go_wp2_with fail
     refine hEn.mono ?_
     rintro e w3 ⟨rfl, hk3⟩
     replace BR := BR.keep hk3
     replace hR := hR.keep hk3
     replace hown := owns_keep hk3 hown
     replace hkr := hkr.trans' hk3
     have hEn2 := ended_any _ _ _ _ w3 hR
     have HE : Hid (decide ((rs r.v K).2 = 0) = true) := by unfold Hid; rw [← HKk.out]; exact decide_eq_true hq
     rw [decide_eq_true hq] at hEn2
     clear brc brl hk3 hEn hq
     have brc := BR.cell
     have brl := BR.lt
     go_wp2_with fail
     refine hEn2.mono ?_
     rintro e w4 ⟨rfl, hk4⟩
     clear brc brl hEn2
     go_wp2_with fail
     refine bodyPost_ret (v := .tuple #[.slice ao10 k c10, .bool true, .int .i64 0]) (by simp [results, Tryd.results20, go_sem]) rfl ?_
     exact ⟨_, by rw [HE.out], by rw [tms_len, ← HKk.out]; exact owns_keep hk4 hown, hkr.trans' hk4⟩
    ·have hkK2 : k < K := by
      rcases HK.out.stop with e | e
      ·omega
      ·rcases Nat.lt_or_ge k K with e2 | e2
       ·exact e2
       ·rw [show K = k by omega] at e; exact absurd e hq
     rw [decide_eq_false hq] at hEn
     have hs := HSZ.out k hkK
     have HNX := Hid.mk (fun (W : World) (hW : RR W (.agg #[.bool br1, .slice aor1 nr1 cr1, .bool br2, .slice aor2 nr2 cr2, .bool br3, .slice aor3 nr3 cr3, .bool br4, .slice aor4 nr4 cr4]) (rs r.v k).1 (rs r.v k).2 (n0 r.v)) => next_any _ _ _ 4500000 _ W hW (by decide) (hs.p.mono (by decide)) (hs.q.mono (by decide)) hs.n (hs.r.mono (by decide)) hq HNN.out)
     clear hs hq
     have hsl' := Hid.mk hsl
     clear hsl
     have HFk := Hid.mk (HFT.out k hkK2)
     subst hsl'
     go_wp2_with fail
     refine hEn.mono ?_
     rintro e w3 ⟨rfl, hk3⟩
     replace BR := BR.keep hk3
     replace hR := hR.keep hk3
     replace hown := owns_keep hk3 hown
     replace hkr := hkr.trans' hk3
     have hNx := HNX.out w3 hR
     clear brc brl hk3 hEn
     have brc := BR.cell
     have brl := BR.lt
     go_wp2_with fail
     refine hNx.mono ?_
     rintro e w4 ⟨v4, v5, rfl, hT, hY, hk4⟩
     obtain ⟨bt, aot, nt, ct, rfl⟩ := hT.shape'
     obtain ⟨by1, aoy1, ny1, cy1, by2, aoy2, ny2, cy2, by3, aoy3, ny3, cy3, by4, aoy4, ny4, cy4, rfl, _, _, _, _⟩ := id hY
     have ka : Kp w4 ((w4.alloc (.cells #[.bool bt, .slice aot nt ct] 56)).alloc (.cells #[.bool by1, .slice aoy1 ny1 cy1, .bool by2, .slice aoy2 ny2 cy2, .bool by3, .slice aoy3 ny3 cy3, .bool by4, .slice aoy4 ny4 cy4] 72)) := Kp.alloc' (kp_alloc w4 _) _
     have neA : AR ≠ w4.heap.size := by have := (BR.keep hk4).lt; omega
     have neB : AR ≠ w4.heap.size + 1 := by have := (BR.keep hk4).lt; omega
     replace BR := BR.keep (hk4.trans' ka)
     have BT : Blk ((w4.alloc (.cells #[.bool bt, .slice aot nt ct] 56)).alloc (.cells #[.bool by1, .slice aoy1 ny1 cy1, .bool by2, .slice aoy2 ny2 cy2, .bool by3, .slice aoy3 ny3 cy3, .bool by4, .slice aoy4 ny4 cy4] 72)) w4.heap.size #[.bool bt, .slice aot nt ct] 56 := Blk.alloc (Blk.new w4 _ _) _
     have BY : Blk ((w4.alloc (.cells #[.bool bt, .slice aot nt ct] 56)).alloc (.cells #[.bool by1, .slice aoy1 ny1 cy1, .bool by2, .slice aoy2 ny2 cy2, .bool by3, .slice aoy3 ny3 cy3, .bool by4, .slice aoy4 ny4 cy4] 72)) (w4.heap.size + 1) #[.bool by1, .slice aoy1 ny1 cy1, .bool by2, .slice aoy2 ny2 cy2, .bool by3, .slice aoy3 ny3 cy3, .bool by4, .slice aoy4 ny4 cy4] 72 := Blk.at (Blk.new (w4.alloc (.cells #[.bool bt, .slice aot nt ct] 56)) _ _) (by simp)
     replace hT := hT.keep ka
     replace hY := hY.keep ka
     replace hown := owns_keep (hk4.trans' ka) hown
     replace hkr := hkr.trans' (hk4.trans' ka)
     clear brc brl hk4 ka hNx HNX hR
     have brc := BR.cell
     have brf := BR.frozen
     have brl := BR.lt
     have byc := BY.cell
     have byl := BY.lt
     have sfS := (sf8 (E := 2) (.bool by1) (.slice aoy1 ny1 cy1) (.bool by2) (.slice aoy2 ny2 cy2) (.bool by3) (.slice aoy3 ny3 cy3) (.bool by4) (.slice aoy4 ny4 cy4) BR (by decide))
     have BRn := (bl8 (.bool by1) (.slice aoy1 ny1 cy1) (.bool by2) (.slice aoy2 ny2 cy2) (.bool by3) (.slice aoy3 ny3 cy3) (.bool by4) (.slice aoy4 ny4 cy4) BR)
     have BTn := (ot8 (A := AR) (.bool by1) (.slice aoy1 ny1 cy1) (.bool by2) (.slice aoy2 ny2 cy2) (.bool by3) (.slice aoy3 ny3 cy3) (.bool by4) (.slice aoy4 ny4 cy4) BT (by omega))
     have hTn := hT.soft sfS
     have hYn := hY.soft sfS
     have hownn := owns_sf (sf8 (.bool by1) (.slice aoy1 ny1 cy1) (.bool by2) (.slice aoy2 ny2 cy2) (.bool by3) (.slice aoy3 ny3 cy3) (.bool by4) (.slice aoy4 ny4 cy4) BR (by decide)) hown
     have hkn := (kp8 (A := AR) (.bool by1) (.slice aoy1 ny1 cy1) (.bool by2) (.slice aoy2 ny2 cy2) (.bool by3) (.slice aoy3 ny3 cy3) (.bool by4) (.slice aoy4 ny4 cy4) hkr geR)
     have hTx := text_any _ _ _ hTn HFk.out (ht.keep hkn)
     have HS := Hid.mk (strsV_snoc (tms (p0 r.v) (q0 r.v) (n0 r.v) k) (tm (p0 r.v) (q0 r.v) (n0 r.v) k))
     rw [← tms_succ] at HS
     change Calls _ _ _ _ (RetV _ (.string (strOf (Go.Lib.itoa (tm (p0 r.v) (q0 r.v) (n0 r.v) k))))) at hTx
     generalize strOf (Go.Lib.itoa (tm (p0 r.v) (q0 r.v) (n0 r.v) k)) = S at *
     have btc := BTn.cell
     have btl := BTn.lt
     clear sfS hT hY hown hkr BT BY BR hTn
     go_wp2_with fail
     refine hTx.mono ?_
     rintro e w6 ⟨rfl, hk6⟩
     replace hownn := owns_keep hk6 hownn
     replace hkn := hkn.trans' hk6
     replace BRn := BRn.keep hk6
     replace hYn := hYn.keep hk6
     clear hTx brc brf brl byc byl btc btl BTn
     go_wp2_with (at_builtin; (refine wpList_append_el w6 rfl _ _ 42 rfl w 9 i0 (.string ByteArray.empty) 1 16 Tryd.underlying42 hi hz0 hz1 hz2 rfl (by decide) (.slice ao10 k c10) k _ #[.string S] rfl (by simp [Value.oneCell']) rfl hownn hkn rfl (by unfold maxLen; omega) (by omega) ?_))
     intro o' w7 hown' hkr' hsf
     replace BRn := Blk.sf (hsf 72 (by decide)) BRn
     replace hYn := hYn.soft (hsf 2 (by decide))
     clear hownn hkn hsf hk6
     go_wp2_with fail
     go_roundg (gk - 1)
     case rel => exact ⟨k + 1, _, _, _, _, _, _, _, _, _, _, _, _, _, _, _, _, by omega, by omega, by rw [HS.out]; exact hown', BRn, hYn, hkr'⟩
     case measure => omega
   ·have HKk : Hid (k = K) := by unfold Hid; omega
    have HE : Hid (decide ((rs r.v K).2 = 0) = decide ((rs r.v k).2 = 0)) := by unfold Hid; rw [← HKk.out]
    have hki : ¬ (k : Int) < (n : Int) := by omega
    have hsl' := Hid.mk hsl
    clear hsl
    subst hsl'
    generalize decide ((rs r.v k).2 = 0) = A at hEn HE
    go_wp2_with fail
    refine hEn.mono ?_
    rintro e w3 ⟨rfl, hk3⟩
    clear brc brl hEn
    go_wp2_with fail
    refine bodyPost_ret (v := .tuple #[.slice ao10 k c10, .bool A, .int .i64 0]) (by simp [results, Tryd.results20, go_sem]) rfl ?_
    exact ⟨_, by rw [HE.out], by rw [tms_len, ← HKk.out]; exact owns_keep hk3 hown, hkr.trans' hk3⟩

end Go.Proofs.YtjahbjjekednfaaDoor
