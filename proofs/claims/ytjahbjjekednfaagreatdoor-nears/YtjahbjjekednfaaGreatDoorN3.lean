import Derived.Test.YtjahbjjekednfaaGreatDoorJ4
import Derived.Test.YtjahbjjekednfaaGreatDoorR19
import Derived.Test.YtjahbjjekednfaaGreatDoorV1
import Derived.Test.YtjahbjjekednfaaGreatDoorN1
import Derived.Test.YtjahbjjekednfaaGreatDoorF10
import Derived.Test.YtjahbjjekednfaaGreatDoorRows
import Derived.Test.YtjahbjjekednfaaGreatDoorTie
import Derived.Test.YtjahbjjekednfaaGreatDoorCards
import Derived.WalkKit
import Derived.ProofKit
import Derived.LaidMore
import Derived.OpenShut
import Derived.ShutString
import Derived.ChangeOld
import Derived.Below
import Derived.Lib.LaidTab
import Derived.Stop.Joined
import Derived.SevenTiedAt
namespace Go.Proofs.YtjahbjjekednfaaGreatDoor
open Go.RowKit

/-- What Near tells. -/
def OutN (r : Rs) (k : Int) (s1 s2 : ByteArray) (er : Int) : Prop :=
 (r.e ≠ 0 ∧ s1 = ⟨#[]⟩ ∧ s2 = ⟨#[]⟩ ∧ er = r.e) ∨ (r.e = 0 ∧ (k < 0 ∨ 100 ≤ k) ∧ s1 = ⟨#[]⟩ ∧ s2 = ⟨#[]⟩ ∧ er = 5) ∨
 (r.e = 0 ∧ 0 ≤ k ∧ k < 100 ∧ ∃ K, Exq (p0 r.v) (q0 r.v) (n0 r.v) (k.toNat + 1) K ∧ s1 = strOf (Go.Lib.itoa (cv (p0 r.v) (q0 r.v) (n0 r.v) K).lp) ∧ s2 = strOf (Go.Lib.itoa (cv (p0 r.v) (q0 r.v) (n0 r.v) K).lq) ∧ er = 0)
theorem outN_ex (r : Rs) (k : Int) : ∃ s1 s2 er, OutN r k s1 s2 er := by
 by_cases h1 : r.e = 0
 ·by_cases h2 : 0 ≤ k ∧ k < 100
  ·obtain ⟨K, hK⟩ := exq_ex (p0 r.v) (q0 r.v) (n0 r.v) (k.toNat + 1)
   exact ⟨_, _, _, Or.inr (Or.inr ⟨h1, h2.1, h2.2, K, hK, rfl, rfl, rfl⟩)⟩
  ·exact ⟨_, _, _, Or.inr (Or.inl ⟨h1, by omega, rfl, rfl, rfl⟩)⟩
 ·exact ⟨_, _, _, Or.inl ⟨h1, rfl, rfl, rfl⟩⟩

set_option maxHeartbeats 6400000 in
set_option maxRecDepth 100000 in
/-- surdref.Near. -/
theorem rnear_any (s : ByteArray) (k : Int) (r : Rs) (s1 s2 : ByteArray) (er : Int) (w : World) (h : Rk s r) (hk0 : -9223372036854775808 ≤ k) (hk1 : k ≤ 9223372036854775807) (ho : OutN r k s1 s2 er) :
  Calls Tryz.prog 11 #[.string s, .int .i64 k] w (RetV w (.tuple #[.string s1, .string s2, .int .i64 er])) := by
 have HR := Hid.mk (rread_any s r w h)
 rcases ho with ⟨he, rfl, rfl, rfl⟩ | ⟨he, hN, rfl, rfl, rfl⟩ | ⟨he, h0, h1, K, hK, rfl, rfl, rfl⟩
 ·have hb : (r.e != 0) = true := by simp [he]
  have Hh := Hid.mk he
  clear he
  go_enter Tryz.func11, Tryz.ntmps11
  go_wp2_with fail
  refine HR.out.mono ?_
  rintro e w1 ⟨v1, a1, rfl, hv, _, hk1⟩
  obtain ⟨b1, ao1, n1, c1, b2, ao2, n2, c2, b3, ao3, n3, c3, rfl, _, _, _⟩ := id hv
  go_wp2_with fail
  refine bodyPost_ret (v := .tuple #[.string ⟨#[]⟩, .string ⟨#[]⟩, .int .i64 r.e]) (by simp [results, Tryz.results11, go_sem]) rfl ?_
  exact ⟨rfl, hk1.alloc' _⟩
 ·have hb : (r.e != 0) = false := by simp [he]
  have Hh := Hid.mk he
  clear he
  go_enter Tryz.func11, Tryz.ntmps11
  go_wp2_with fail
  refine HR.out.mono ?_
  rintro e w1 ⟨v1, a1, rfl, hv, _, hk1⟩
  obtain ⟨b1, ao1, n1, c1, b2, ao2, n2, c2, b3, ao3, n3, c3, rfl, _, _, _⟩ := id hv
  by_cases h3 : k < 0
  ·clear hN
   go_wp2_with fail
   refine bodyPost_ret (v := .tuple #[.string ⟨#[]⟩, .string ⟨#[]⟩, .int .i64 5]) (by simp [results, Tryz.results11, go_sem]) rfl ?_
   exact ⟨rfl, hk1.alloc' _⟩
  ·have h4 : 100 ≤ k := by omega
   clear hN
   go_wp2_with fail
   refine bodyPost_ret (v := .tuple #[.string ⟨#[]⟩, .string ⟨#[]⟩, .int .i64 5]) (by simp [results, Tryz.results11, go_sem]) rfl ?_
   exact ⟨rfl, hk1.alloc' _⟩
 ·have hb : (r.e != 0) = false := by simp [he]
  have Hcn := Hid.mk (rk_cn h he)
  have Hsz := Hid.mk (rk_size h he)
  have Hh := Hid.mk he
  clear he
  obtain ⟨n, rfl⟩ := Int.eq_ofNat_of_zero_le h0
  have HK := Hid.mk hK
  simp only [Int.toNat_natCast] at HK
  clear hK
  have hKn : K ≤ n + 1 := HK.out.le
  have HNM : Hid (∀ i, i < K → QF 2400000 (num r.v (p0 r.v) (q0 r.v) (n0 r.v) i) ∧ Ft 2400000 (tm (p0 r.v) (q0 r.v) (n0 r.v) i)) := fun i hi => sz_num Hcn.out Hsz.out (by omega) (fun j hj => HK.out.on j (by omega))
  have HBK := Hid.mk (cv_bk (p0 r.v) (q0 r.v) (n0 r.v) K)
  have HFB : Hid (∀ j, j ≤ K → Fit (bk ((tms (p0 r.v) (q0 r.v) (n0 r.v) K).drop j)).1 ∧ Fit (bk ((tms (p0 r.v) (q0 r.v) (n0 r.v) K).drop j)).2 ∧ Fit (at0 (tms (p0 r.v) (q0 r.v) (n0 r.v) K) j * (bk ((tms (p0 r.v) (q0 r.v) (n0 r.v) K).drop (j + 1))).1)) := by
   have hmem : ∀ t, t ∈ tms (p0 r.v) (q0 r.v) (n0 r.v) K → Ft 2400000 t := fun t ht => by
    obtain ⟨i, hi, rfl⟩ := List.mem_map.1 ht
    exact (HNM.out i (by simpa using hi)).2
   intro j hj
   have hb := fun j => bk_ft (m := 2400000) ((tms (p0 r.v) (q0 r.v) (n0 r.v) K).drop j) (fun t ht => hmem t (List.mem_of_mem_drop ht))
   have hl : ∀ j, ((tms (p0 r.v) (q0 r.v) (n0 r.v) K).drop j).length ≤ 100 := fun j => by rw [List.length_drop, tms_len]; omega
   have hj1 := hl j
   have hj2 := hl (j + 1)
   refine ⟨(hb j).1.fit (by omega), (hb j).2.fit (by omega), ?_⟩
   by_cases hjK : j < K
   ·have h1 : Ft 2400000 (at0 (tms (p0 r.v) (q0 r.v) (n0 r.v) K) j) := by rw [tms_at hjK]; exact (HNM.out j hjK).2
    exact (h1.mul (hb (j + 1)).1).fit (by omega)
   ·rw [at0_ge (by rw [tms_len]; omega), Int.zero_mul]
    exact ⟨1, by decide, by decide⟩
  have HFT : Hid (∀ i, i < K → Fit (tm (p0 r.v) (q0 r.v) (n0 r.v) i)) := fun i hi => (HNM.out i hi).2.fit (by decide)
  have HTS := Hid.mk (fun (u : Value) (W : World) (hu : NN W u r.v) => terms_ref _ (p0 r.v) (q0 r.v) (n0 r.v) r.v (n + 1) K 2400000 u W hu (rl_start Hcn.out) HK.out (by decide) (by omega) HNM.out)
  have HS1 : Hid (strOf (Go.Lib.itoa (bk (tms (p0 r.v) (q0 r.v) (n0 r.v) K)).1) = strOf (Go.Lib.itoa (cv (p0 r.v) (q0 r.v) (n0 r.v) K).lp)) := by unfold Hid; rw [HBK.out]
  have HS2 : Hid (strOf (Go.Lib.itoa (bk (tms (p0 r.v) (q0 r.v) (n0 r.v) K)).2) = strOf (Go.Lib.itoa (cv (p0 r.v) (q0 r.v) (n0 r.v) K).lq)) := by unfold Hid; rw [HBK.out]
  have hn1 : ((n : Int) + 1) = ((n + 1 : Nat) : Int) := by omega
  have hlen := tms_len (p0 r.v) (q0 r.v) (n0 r.v) K
  have HTM : Hid (∀ i, i < K → at0 (tms (p0 r.v) (q0 r.v) (n0 r.v) K) i = tm (p0 r.v) (q0 r.v) (n0 r.v) i) := fun i hi => tms_at hi
  go_enter Tryz.func11, Tryz.ntmps11
  go_wp2_with fail
  refine HR.out.mono ?_
  rintro e w1 ⟨v1, a1, rfl, hv, hav, hk1⟩
  obtain rfl := hav Hh.out
  obtain ⟨b1, ao1, n1, c1, b2, ao2, n2, c2, b3, ao3, n3, c3, rfl, _, _, _⟩ := id hv
  replace hk1 := hk1.alloc' (.cells #[.bool b1, .slice ao1 n1 c1, .bool b2, .slice ao2 n2 c2, .bool b3, .slice ao3 n3 c3, .int .i64 r.v.d] 54)
  have hT := HTS.out _ _ (hv.keep (kp_alloc w1 (.cells #[.bool b1, .slice ao1 n1 c1, .bool b2, .slice ao2 n2 c2, .bool b3, .slice ao3 n3 c3, .int .i64 r.v.d] 54)))
  rw [← hn1] at hT
  generalize decide ((rst (p0 r.v) (q0 r.v) (n0 r.v) K).2 = 0) = AA at hT
  clear hn1
  go_wp2_with fail
  refine hT.mono ?_
  rintro e w2 ⟨v2, rfl, hrow, hk2⟩
  have hkW := hk1.trans' hk2
  clear hv hT hk1 hk2
  generalize tms (p0 r.v) (q0 r.v) (n0 r.v) K = ts at *
  obtain ⟨aol, capl, bl, hvl, hcl, hcm, hal, hel⟩ := id hrow
  rw [hlen] at hvl hcl hal
  subst hvl
  clear hel
  go_wp2_with fail
  refine (of_any 1 _ (by decide) (by decide)).mono ?_
  rintro e w3 ⟨v5, rfl, hP, hk3⟩
  obtain ⟨b5, ao5, n5, c5, rfl⟩ := hP.shape'
  have kaa : Kp w3 ((w3.alloc (.cells #[.bool b5, .slice ao5 n5 c5] 52)).alloc (.cells #[.bool false, .slice none 0 0] 52)) := Kp.alloc' (kp_alloc w3 _) _
  have BP0 : Blk ((w3.alloc (.cells #[.bool b5, .slice ao5 n5 c5] 52)).alloc (.cells #[.bool false, .slice none 0 0] 52)) w3.heap.size #[.bool b5, .slice ao5 n5 c5] 52 := Blk.alloc (Blk.new w3 _ _) _
  have BQ0 : Blk ((w3.alloc (.cells #[.bool b5, .slice ao5 n5 c5] 52)).alloc (.cells #[.bool false, .slice none 0 0] 52)) (w3.heap.size + 1) #[.bool false, .slice none 0 0] 52 := Blk.at (Blk.new (w3.alloc (.cells #[.bool b5, .slice ao5 n5 c5] 52)) _ _) (by simp)
  have hkr0 := hk3.trans' kaa
  replace hP := hP.keep kaa
  have geP : w2.heap.size ≤ w3.heap.size := hk3.size
  have neAB : w3.heap.size ≠ w3.heap.size + 1 := by omega
  have geQ : w2.heap.size ≤ w3.heap.size + 1 := by omega
  clear hk3 kaa
  go_wp2_with fail
  generalize (w3.alloc (.cells #[.bool b5, .slice ao5 n5 c5] 52)).alloc (.cells #[.bool false, .slice none 0 0] 52) = wa at *
  generalize hAQ : w3.heap.size + 1 = AQ at *
  generalize w3.heap.size = AP at *
  clear hAQ
  go_loopw [14] (fun i wr => ∃ (j : Nat) (b5 : Bool) (ao5 : Option Addr) (n5 c5 : Nat) (b6 : Bool) (ao6 : Option Addr) (n6 c6 : Nat), i = .int .i64 ((j : Int) - 1) ∧ j ≤ K ∧ Blk wr AP #[.bool b5, .slice ao5 n5 c5] 52 ∧ IN wr (.agg #[.bool b5, .slice ao5 n5 c5]) (bk (ts.drop j)).1 ∧ Blk wr AQ #[.bool b6, .slice ao6 n6 c6] 52 ∧ IN wr (.agg #[.bool b6, .slice ao6 n6 c6]) (bk (ts.drop j)).2 ∧ Kp w2 wr)
   (fun i _ => (intOf i + 1).toNat)
  case atStart => exact ⟨K, _, _, _, _, _, _, _, _, by go_num, by omega, BP0, by rw [← hlen, List.drop_length]; exact hP, BQ0, by rw [← hlen, List.drop_length]; exact in_zero _, hkr0⟩
  case round =>
   clear hP BP0 BQ0 hkr0
   obtain ⟨j, b5, ao5, n5, c5, b6, ao6, n6, c6, rfl, hj, BP, hP, BQ, hQ, hkr⟩ := hrel
   by_cases hj0 : 0 < j
   ·obtain ⟨t, rfl⟩ : ∃ t, j = t + 1 := ⟨j - 1, by omega⟩
    have htK : t < K := by omega
    have ha := (hal (by omega)).1
    subst ha
    obtain ⟨ao', cap', b', e', _, _, ha', he'⟩ := RowI.keep hkr hrow
    rw [hlen] at e' ha' he'
    simp only [Value.slice.injEq] at e'
    obtain ⟨e1, -, -⟩ := e'
    have ha2 := (ha' (by omega)).1
    rw [← e1] at ha2
    obtain rfl : bl = b' := by simpa using ha2
    have hbl := (ha' (by omega)).2
    obtain ⟨bb, aa, nn, cc, hc1, hc2, hT⟩ := he' t htK
    rw [Nat.mul_comm] at hc1 hc2
    have HD := Hid.mk (bk_drop (l := ts) (i := t) (by omega))
    have fT : Fit (at0 ts t) := by rw [HTM.out t htK]; exact HFT.out t htK
    have fA := (HFB.out (t + 1) (by omega)).1
    have fB := (HFB.out (t + 1) (by omega)).2.1
    have fTA := (HFB.out t (by omega)).2.2
    generalize (bk (ts.drop (t + 1))).1 = A at *
    generalize (bk (ts.drop (t + 1))).2 = B at *
    generalize at0 ts t = T at *
    have hti : ((t + 1 : Nat) : Int) - 1 = (t : Int) := by omega
    rw [hti]
    have ht1 : (t : Int) < (K : Int) := by omega
    have ht0 : (0 : Int) ≤ (t : Int) := by omega
    clear hti e1 ha' he' ha2 hal
    have bpl := BP.lt
    have bql := BQ.lt
    go_wp2_with fail
    go_cut [15] from 43 to 56 (fun p wx => ∃ (bp : Nat) (b7 : Bool) (ao7 : Option Addr) (n7 c7 : Nat), p = .pointer (some ⟨bp, 0, none⟩) ∧ Blk wx bp #[.bool b7, .slice ao7 n7 c7] 52 ∧ IN wx (.agg #[.bool b7, .slice ao7 n7 c7]) (T * A + B) ∧ Kp wr wx ∧ wr.heap.size ≤ bp)
    case first =>
     refine wp_region_l (S := fun w' => Kp wr w') (by kernel_rfl) (Kp.drew' (Below.refl _ _)) (fun hS0 => ?_)
     generalize wr.drew = wd at *
     refine wpAnyL_tk (i := 0) (k := 2) (v := .slice (some ⟨bl, 0, none⟩) K capl) rfl ?_ hS0 ?_
     ·intro w' hw'; go_simp
     simp only [sq]
     refine wpAnyL_tk (i := 1) (k := 2) (v := .int .i64 t) rfl ?_ hS0 ?_
     ·intro w' hw'; go_simp
     simp only [sq]
     refine wpAnyL_tk (i := 2) (k := 3) (v := .pointer (some ⟨bl, t * 2, none⟩)) rfl ?_ hS0 ?_
     ·intro w' hw'; go_simp
     simp only [sq]
     refine wpAnyL_tk (i := 3) (k := 5) (v := .agg #[.bool bb, .slice aa nn cc]) rfl ?_ hS0 ?_
     ·intro w' hw'; have hd1 := (World.cell?_of_block (w := wr) (hw'.block bl hbl)).trans hc1; have hd2 := (World.cell?_of_block (w := wr) (hw'.block bl hbl)).trans hc2; go_simp
     simp only [sq]
     refine wpAnyL_tk (i := 4) (k := 5) (v := .agg #[.bool b5, .slice ao5 n5 c5]) rfl ?_ hS0 ?_
     ·intro w' hw'; have hc := ((BP).keep hw').cell; go_simp
     simp only [sq]
     refine wpAnyL_tk (i := 6) (k := 7) (v := .agg #[.bool b6, .slice ao6 n6 c6]) rfl ?_ hS0 ?_
     ·intro w' hw'; have hc := ((BQ).keep hw').cell; go_simp
     simp only [sq]
     refine wpAnyL_ready (rs := [5, 8]) (by kernel_rfl) (by simp) ?_
     refine AllReadyL.cons rfl (fun K hK => ?_) ?_
     ·go_simp
      refine (rtimes_any T A _ _ _ (hT.keep hS0) (hP.keep hS0) fT fA).mono ?_
      rintro e w105 ⟨v105, rfl, hv105, hk105⟩
      obtain ⟨b105, ao105, n105, c105, rfl⟩ := hv105.shape'
      go_wp2_with fail
      refine hK.out _ _ (hS0.trans' hk105) (fun hS1 => ?_)
      clear hK K
      refine wpAnyL_ready (rs := [7, 8]) (by kernel_rfl) (by simp) ?_
      refine AllReadyL.cons rfl (fun K hK => ?_) ?_
      ·go_simp
       refine (rplus_any (T * A) B _ _ _ hv105 (hQ.keep hS1) fTA fB).mono ?_
       rintro e w107 ⟨v107, rfl, hv107, hk107⟩
       obtain ⟨b107, ao107, n107, c107, rfl⟩ := hv107.shape'
       go_wp2_with fail
       refine hK.out _ _ (hS1.trans' hk107) (fun hS2 => ?_)
       clear hK K
       refine wpAnyL_on (i := 8) rfl (fun K hK => ?_)
       go_simp
       refine hK.out _ _ (Kp.alloc' hS2 (.cells #[.bool false, .slice none 0 0] 52)) (fun hS3 => ?_)
       clear hK K
       have NB8 : Blk (w107.alloc (.cells #[.bool false, .slice none 0 0] 52)) w107.heap.size #[.bool false, .slice none 0 0] 52 := Blk.new w107 _ _
       have ge8 : wr.heap.size ≤ w107.heap.size := hS2.size
       replace hv107 := hv107.keep (kp_alloc w107 (.cells #[.bool false, .slice none 0 0] 52))
       try simp only [sq]
       generalize hA8 : w107.heap.size = A8 at *
       generalize w107.alloc (.cells #[.bool false, .slice none 0 0] 52) = wn8 at *
       have st_c := NB8.cell
       have st_f := NB8.frozen
       have st_l := NB8.lt
       refine wpAnyL_last (i := 9) rfl (by kernel_rfl) (by kernel_rfl) (by kernel_rfl) (fun K hK => ?_)
       go_simp
       refine hK.out _ _ ?_
       clear hK K
       go_wp2_with fail
       go_meet
       case rel => exact ⟨A8, _, _, _, _, rfl, (bl2 (.bool b107) (.slice ao107 n107 c107) NB8), hv107.soft (sf2 (.bool b107) (.slice ao107 n107 c107) NB8 (by decide)), (kp2 (A := A8) (.bool b107) (.slice ao107 n107 c107) hS3 ge8), ge8⟩
      refine AllReadyL.cons rfl (fun K hK => ?_) ?_
      ·go_simp
       refine hK.out _ _ (Kp.alloc' hS1 (.cells #[.bool false, .slice none 0 0] 52)) (fun hS2 => ?_)
       clear hK K
       have NB8 : Blk (w105.alloc (.cells #[.bool false, .slice none 0 0] 52)) w105.heap.size #[.bool false, .slice none 0 0] 52 := Blk.new w105 _ _
       have ge8 : wr.heap.size ≤ w105.heap.size := hS1.size
       replace hv105 := hv105.keep (kp_alloc w105 (.cells #[.bool false, .slice none 0 0] 52))
       try simp only [sq]
       generalize hA8 : w105.heap.size = A8 at *
       generalize w105.alloc (.cells #[.bool false, .slice none 0 0] 52) = wn8 at *
       refine wpAnyL_on (i := 7) rfl (fun K hK => ?_)
       go_simp
       refine (rplus_any (T * A) B _ _ _ hv105 (hQ.keep hS2) fTA fB).mono ?_
       rintro e w107 ⟨v107, rfl, hv107, hk107⟩
       obtain ⟨b107, ao107, n107, c107, rfl⟩ := hv107.shape'
       replace NB8 := NB8.keep hk107
       go_wp2_with fail
       refine hK.out _ _ (hS2.trans' hk107) (fun hS3 => ?_)
       clear hK K
       have st_c := NB8.cell
       have st_f := NB8.frozen
       have st_l := NB8.lt
       refine wpAnyL_last (i := 9) rfl (by kernel_rfl) (by kernel_rfl) (by kernel_rfl) (fun K hK => ?_)
       go_simp
       refine hK.out _ _ ?_
       clear hK K
       go_wp2_with fail
       go_meet
       case rel => exact ⟨A8, _, _, _, _, rfl, (bl2 (.bool b107) (.slice ao107 n107 c107) NB8), hv107.soft (sf2 (.bool b107) (.slice ao107 n107 c107) NB8 (by decide)), (kp2 (A := A8) (.bool b107) (.slice ao107 n107 c107) hS3 ge8), ge8⟩
      exact AllReadyL.nil
     refine AllReadyL.cons rfl (fun K hK => ?_) ?_
     ·go_simp
      refine hK.out _ _ (Kp.alloc' hS0 (.cells #[.bool false, .slice none 0 0] 52)) (fun hS1 => ?_)
      clear hK K
      have NB8 : Blk (wd.alloc (.cells #[.bool false, .slice none 0 0] 52)) wd.heap.size #[.bool false, .slice none 0 0] 52 := Blk.new wd _ _
      have ge8 : wr.heap.size ≤ wd.heap.size := hS0.size
      try simp only [sq]
      generalize hA8 : wd.heap.size = A8 at *
      generalize wd.alloc (.cells #[.bool false, .slice none 0 0] 52) = wn8 at *
      refine wpAnyL_on (i := 5) rfl (fun K hK => ?_)
      go_simp
      refine (rtimes_any T A _ _ _ (hT.keep hS1) (hP.keep hS1) fT fA).mono ?_
      rintro e w105 ⟨v105, rfl, hv105, hk105⟩
      obtain ⟨b105, ao105, n105, c105, rfl⟩ := hv105.shape'
      replace NB8 := NB8.keep hk105
      go_wp2_with fail
      refine hK.out _ _ (hS1.trans' hk105) (fun hS2 => ?_)
      clear hK K
      refine wpAnyL_on (i := 7) rfl (fun K hK => ?_)
      go_simp
      refine (rplus_any (T * A) B _ _ _ hv105 (hQ.keep hS2) fTA fB).mono ?_
      rintro e w107 ⟨v107, rfl, hv107, hk107⟩
      obtain ⟨b107, ao107, n107, c107, rfl⟩ := hv107.shape'
      replace NB8 := NB8.keep hk107
      go_wp2_with fail
      refine hK.out _ _ (hS2.trans' hk107) (fun hS3 => ?_)
      clear hK K
      have st_c := NB8.cell
      have st_f := NB8.frozen
      have st_l := NB8.lt
      refine wpAnyL_last (i := 9) rfl (by kernel_rfl) (by kernel_rfl) (by kernel_rfl) (fun K hK => ?_)
      go_simp
      refine hK.out _ _ ?_
      clear hK K
      go_wp2_with fail
      go_meet
      case rel => exact ⟨A8, _, _, _, _, rfl, (bl2 (.bool b107) (.slice ao107 n107 c107) NB8), hv107.soft (sf2 (.bool b107) (.slice ao107 n107 c107) NB8 (by decide)), (kp2 (A := A8) (.bool b107) (.slice ao107 n107 c107) hS3 ge8), ge8⟩
     exact AllReadyL.nil
    case rest =>
     obtain ⟨bp, b7, ao7, n7, c7, rfl, BR, hR, hkc, hge⟩ := hcut
     replace BP := BP.keep hkc
     replace BQ := BQ.keep hkc
     replace hP := hP.keep hkc
     replace hkr := hkr.trans' hkc
     have bpc := BP.cell
     have bqc := BQ.cell
     have bqf := BQ.frozen
     have bpf := BP.frozen
     have brc := BR.cell
     have bpl2 := BP.lt
     have bql2 := BQ.lt
     have brl2 := BR.lt
     have BQn := (bl2 (.bool b5) (.slice ao5 n5 c5) BQ)
     have BPn := (ot2 (A := AQ) (.bool b5) (.slice ao5 n5 c5) BP (by omega))
     have BRn := (ot2 (A := AQ) (.bool b5) (.slice ao5 n5 c5) BR (by omega))
     have hPn := hP.soft (sf2 (E := 3) (.bool b5) (.slice ao5 n5 c5) BQ (by decide))
     have hRn := hR.soft (sf2 (E := 3) (.bool b5) (.slice ao5 n5 c5) BQ (by decide))
     have hkn := (kp2 (A := AQ) (.bool b5) (.slice ao5 n5 c5) hkr geQ)
     have brc2 := BRn.cell
     have bpf2 := BPn.frozen
     have bpc2 := BPn.cell
     go_wp2_with fail
     go_roundw
     case rel => exact ⟨t, _, _, _, _, _, _, _, _, by go_num, by omega, (bl2 (.bool b7) (.slice ao7 n7 c7) BPn), by rw [HD.out]; exact hRn.soft (sf2 (.bool b7) (.slice ao7 n7 c7) BPn (by decide)), (ot2 (A := AP) (.bool b7) (.slice ao7 n7 c7) BQn (by omega)), by rw [HD.out]; exact hPn.soft (sf2 (.bool b7) (.slice ao7 n7 c7) BPn (by decide)), (kp2 (A := AP) (.bool b7) (.slice ao7 n7 c7) hkn geP)⟩
     case measure => simp [intOf]
   ·have hj1 : j = 0 := by omega
    subst hj1
    rw [List.drop_zero] at hP hQ
    have f1 := (HFB.out 0 (by omega)).1
    have f2 := (HFB.out 0 (by omega)).2.1
    rw [List.drop_zero] at f1 f2
    have HT1 := fun (u : Value) (W : World) (hu : IN W u (bk ts).1) => text_ref _ u W hu f1
    have HT2 := fun (u : Value) (W : World) (hu : IN W u (bk ts).2) => text_ref _ u W hu f2
    generalize strOf (Go.Lib.itoa (bk ts).1) = S1 at *
    generalize strOf (Go.Lib.itoa (bk ts).2) = S2 at *
    go_wp2_with fail
    refine wp_region_l (S := fun w' => Kp wr w') (by kernel_rfl) (Kp.drew' (Below.refl _ _)) (fun hS0 => ?_)
    generalize wr.drew = wd at *
    refine wpAnyL_tk (i := 0) (k := 1) (v := .agg #[.bool b5, .slice ao5 n5 c5]) rfl ?_ hS0 ?_
    ·intro w' hw'; have hc := ((BP).keep hw').cell; go_simp
    simp only [sq]
    refine wpAnyL_tk (i := 2) (k := 3) (v := .agg #[.bool b6, .slice ao6 n6 c6]) rfl ?_ hS0 ?_
    ·intro w' hw'; have hc := ((BQ).keep hw').cell; go_simp
    simp only [sq]
    refine wpAnyL_on (i := 1) rfl (fun K hK => ?_)
    go_simp
    refine (HT1 _ _ (hP.keep hS0)).mono ?_
    rintro e w101 ⟨rfl, hk101⟩
    go_wp2_with fail
    refine hK.out _ _ (hS0.trans' hk101) (fun hS1 => ?_)
    clear hK K
    refine wpAnyL_on (i := 3) rfl (fun K hK => ?_)
    go_simp
    refine (HT2 _ _ (hQ.keep hS1)).mono ?_
    rintro e w103 ⟨rfl, hk103⟩
    go_wp2_with fail
    refine hK.out _ _ (hS1.trans' hk103) (fun hS2 => ?_)
    clear hK K
    refine wpAnyL_tk (i := 4) (k := 5) (v := .string S1) rfl ?_ hS2 ?_
    ·intro w' hw'; go_simp
    simp only [sq]
    refine wpAnyL_tk (i := 5) (k := 6) (v := .string S2) rfl ?_ hS2 ?_
    ·intro w' hw'; go_simp
    simp only [sq]
    refine wpAnyL_last (i := 6) rfl (by kernel_rfl) (by kernel_rfl) (by kernel_rfl) (fun K hK => ?_)
    go_simp
    refine hK.out _ _ ?_
    clear hK K
    go_wp2_with fail
    refine bodyPost_ret (v := .tuple #[.string S1, .string S2, .int .i64 0]) (by simp [results, Tryz.results11, go_sem]) rfl ?_
    exact ⟨by rw [HS1.out, HS2.out], hkW.trans' (hkr.trans' hS2)⟩
open Go.RowKit

set_option maxHeartbeats 3200000 in
set_option maxRecDepth 100000 in
/-- surd.Near. -/
theorem snear_any (s : ByteArray) (k : Int) (r : Rs) (s1 s2 : ByteArray) (er : Int) (w : World) (h : Rk s r) (hk0 : -9223372036854775808 ≤ k) (hk1 : k ≤ 9223372036854775807) (ho : OutN r k s1 s2 er) (ht : Tens w) :
  Calls Tryz.prog 10 #[.string s, .int .i64 k] w (RetV w (.tuple #[.string s1, .string s2, .int .i64 er])) := by
 have HR := Hid.mk (reckon_any s r w h)
 rcases ho with ⟨he, rfl, rfl, rfl⟩ | ⟨he, hN, rfl, rfl, rfl⟩ | ⟨he, h0, h1, K, hK, rfl, rfl, rfl⟩
 ·have hb : (r.e != 0) = true := by simp [he]
  have Hh := Hid.mk he
  clear he
  go_enter Tryz.func10, Tryz.ntmps10
  go_wp2_with fail
  refine HR.out.mono ?_
  rintro e w1 ⟨v1, rfl, hv, hk1⟩
  obtain ⟨b1, ao1, n1, c1, b2, ao2, n2, c2, b3, ao3, n3, c3, rfl, _, _, _⟩ := id hv
  go_wp2_with fail
  refine bodyPost_ret (v := .tuple #[.string ⟨#[]⟩, .string ⟨#[]⟩, .int .i64 r.e]) (by simp [results, Tryz.results10, go_sem]) rfl ?_
  exact ⟨rfl, hk1.alloc' _⟩
 ·have hb : (r.e != 0) = false := by simp [he]
  have Hh := Hid.mk he
  clear he
  go_enter Tryz.func10, Tryz.ntmps10
  go_wp2_with fail
  refine HR.out.mono ?_
  rintro e w1 ⟨v1, rfl, hv, hk1⟩
  obtain ⟨b1, ao1, n1, c1, b2, ao2, n2, c2, b3, ao3, n3, c3, rfl, _, _, _⟩ := id hv
  by_cases h3 : k < 0
  ·clear hN
   go_wp2_with fail
   refine bodyPost_ret (v := .tuple #[.string ⟨#[]⟩, .string ⟨#[]⟩, .int .i64 5]) (by simp [results, Tryz.results10, go_sem]) rfl ?_
   exact ⟨rfl, hk1.alloc' _⟩
  ·have h4 : 100 ≤ k := by omega
   clear hN
   go_wp2_with fail
   refine bodyPost_ret (v := .tuple #[.string ⟨#[]⟩, .string ⟨#[]⟩, .int .i64 5]) (by simp [results, Tryz.results10, go_sem]) rfl ?_
   exact ⟨rfl, hk1.alloc' _⟩
 ·have hb : (r.e != 0) = false := by simp [he]
  have Hcn := Hid.mk (rk_cn h he)
  have Hsz := Hid.mk (rk_size h he)
  have Hqd : Hid (QD r.v) := ⟨by have := Hcn.out.ok.d0; omega, by have := Hcn.out.ok.d1; omega⟩
  have Hh := Hid.mk he
  clear he
  obtain ⟨n, rfl⟩ := Int.eq_ofNat_of_zero_le h0
  have HK := Hid.mk hK
  simp only [Int.toNat_natCast] at HK
  clear hK
  have hKn : K ≤ n + 1 := HK.out.le
  have hcf := cv_ft (p := p0 r.v) (q := q0 r.v) (n := n0 r.v) (m := 2400000) K (fun j hj => (sz_num Hcn.out Hsz.out (by omega) (fun t ht => HK.out.on t (by omega))).2)
  have HF1 : Hid (Fit (cv (p0 r.v) (q0 r.v) (n0 r.v) K).lp) := hcf.1.fit (by omega)
  have HF2 : Hid (Fit (cv (p0 r.v) (q0 r.v) (n0 r.v) K).lq) := hcf.2.1.fit (by omega)
  clear hcf
  have hn1 : ((n : Int) + 1) = ((n + 1 : Nat) : Int) := by omega
  have HNR := Hid.mk (fun (u : Value) (W : World) (hu : XN W u r.v) => near_any r.v (n + 1) K u W hu Hcn.out Hsz.out Hqd.out (by omega) HK.out)
  have HTX := fun (u : Value) (W : World) (hu : FR W u (cv (p0 r.v) (q0 r.v) (n0 r.v) K).lp (cv (p0 r.v) (q0 r.v) (n0 r.v) K).lq) (hW : Tens W) => texts_any _ _ u W hu HF1.out HF2.out hW
  generalize strOf (Go.Lib.itoa (cv (p0 r.v) (q0 r.v) (n0 r.v) K).lp) = S1 at *
  generalize strOf (Go.Lib.itoa (cv (p0 r.v) (q0 r.v) (n0 r.v) K).lq) = S2 at *
  replace HTX := Hid.mk HTX
  go_enter Tryz.func10, Tryz.ntmps10
  go_wp2_with fail
  refine HR.out.mono ?_
  rintro e w1 ⟨v1, rfl, hv, hk1⟩
  obtain ⟨b1, ao1, n1, c1, b2, ao2, n2, c2, b3, ao3, n3, c3, rfl, _, _, _⟩ := id hv
  have hkA := hk1.alloc' (.cells #[.bool b1, .slice ao1 n1 c1, .bool b2, .slice ao2 n2 c2, .bool b3, .slice ao3 n3 c3, .int .i64 r.v.d] 40)
  have hNr := HNR.out _ _ (hv.keep (kp_alloc w1 (.cells #[.bool b1, .slice ao1 n1 c1, .bool b2, .slice ao2 n2 c2, .bool b3, .slice ao3 n3 c3, .int .i64 r.v.d] 40)))
  rw [← hn1] at hNr
  have BX := Blk.new w1 #[.bool b1, .slice ao1 n1 c1, .bool b2, .slice ao2 n2 c2, .bool b3, .slice ao3 n3 c3, .int .i64 r.v.d] 40
  have bxc := BX.cell
  have bxl := BX.lt
  clear hn1
  go_wp2_with fail
  refine hNr.mono ?_
  rintro e w2 ⟨v2, rfl, hF, hk2⟩
  obtain ⟨b5, ao5, n5, c5, b6, ao6, n6, c6, rfl, _, _⟩ := id hF
  have hkB := (hkA.trans' hk2).alloc' (.cells #[.bool b5, .slice ao5 n5 c5, .bool b6, .slice ao6 n6 c6] 62)
  have hTx := HTX.out _ _ (hF.soft (Sf.keep (kp_alloc w2 (.cells #[.bool b5, .slice ao5 n5 c5, .bool b6, .slice ao6 n6 c6] 62)))) (ht.keep hkB)
  clear bxc bxl BX hNr
  go_wp2_with fail
  refine hTx.mono ?_
  rintro e w3 ⟨rfl, hk3⟩
  go_wp2_with fail
  refine bodyPost_ret (v := .tuple #[.string S1, .string S2, .int .i64 0]) (by simp [results, Tryz.results10, go_sem]) rfl ?_
  exact ⟨rfl, hkB.trans' hk3⟩

set_option maxHeartbeats 1600000 in
theorem numn_any (n : Int) (w : World) : Calls Tryz.prog 9 #[.int .i64 n] w (RetV w (.int .i64 n)) := by
 go_enter Tryz.func9, Tryz.ntmps9
 go_wp2_with fail
 go_ret
 exact ⟨rfl, Below.refl _ _⟩

set_option maxHeartbeats 1600000 in
/-- Nears. -/
theorem nears_any (s : ByteArray) (k : Int) (w : World) (hk0 : -9223372036854775808 ≤ k) (hk1 : k ≤ 9223372036854775807) (ht : Tens w) : Calls Tryz.prog 4 #[.string s, .int .i64 k] w (RetV w (.bool true)) := by
 obtain ⟨r, hr⟩ := rk_all s
 obtain ⟨s1, s2, er, ho⟩ := outN_ex r k
 go_enter Tryz.func4, Tryz.ntmps4
 go_wp2_with fail
 refine (snear_any s k r s1 s2 er _ hr hk0 hk1 ho ht).mono ?_
 rintro e w1 ⟨rfl, h1⟩
 go_wp2_with fail
 refine (rnear_any s k r s1 s2 er _ hr hk0 hk1 ho).mono ?_
 rintro e w2 ⟨rfl, h2⟩
 go_wp2_with fail
 refine (numn_any er _).mono ?_
 rintro e w3 ⟨rfl, h3⟩
 go_wp2_with fail
 go_ret
 exact ⟨rfl, (h1.trans' h2).trans' h3⟩

end Go.Proofs.YtjahbjjekednfaaGreatDoor

namespace Go.Proofs.YtjahbjjekednfaaGreatDoor.nears
open Go.ChangeShapes Go.WideShapes Go.ChangeAt Go.RowKit
open Go.ChangeMaps (open_string shut_string)

theorem own : ownKnob Tryz.prog.godebug = none := by kernel_rfl
theorem gTens : Tryz.prog.globalNamed "internal/strconv.uint64pow10" = some 0 := by kernel_rfl
theorem tTens : (Tryz.prog.globals[0]?).map (·.type) = some 150 := by kernel_rfl

/-- The door's own heap meets the condition. -/
theorem door_met (os : Os) (args : Array Value) : laidMetH Tryz.prog Rows.nearsRow.laid ((World.doorLaid Tryz.prog 24 os).forCall (fun _ _ => 0) ⟨#[], args, []⟩).memory :=
 laidMetH_of_parts3 (fuel := 8) (laidMet_of_run' 8 (by kernel_rfl) (by kernel_rfl)) (by kernel_rfl) (by kernel_rfl)

theorem tens_of {W : World} (h : laidMetH Tryz.prog Rows.nearsRow.laid W) : Tens W := by
 rw [MakeChecks.laidMetH_plain _ _ _ (by kernel_rfl)] at h
 obtain ⟨ps, ⟨g0, t0, cs0, f0, p0, q0, _, _, _, _, ⟨g1, t1, cs1, f1, p1, q1, _, _, _, _, ⟨g2, t2, cs2, f2, p2, q2, hg2, ht2, hv2, hd2, _, _⟩, _⟩, _⟩, _, _⟩ := h
 obtain rfl := Option.some.inj (gTens.symm.trans hg2)
 obtain rfl := Option.some.inj (tTens.symm.trans ht2)
 unfold Tens Lib.TabIs
 rw [hv2, ← Lib.cells_of_tab (k := .u64) (zs := Lib.pow10Tab) (n := 20) Tryz.underlying150 Tryz.underlying134 (by kernel_rfl) (by kernel_rfl) hd2]

theorem wf_bd {n : Int} (h : (Lit.int .i64 n).wf = true) : -9223372036854775808 ≤ n ∧ n ≤ 9223372036854775807 := by
 simp only [Lit.wf, IntKind.min, IntKind.max, IntKind.signed, IntKind.bits, Bool.and_eq_true, decide_eq_true_eq, if_true] at h
 omega
theorem walk (a0 : ByteArray) (a1 : Int) (w : World) (h1 : -9223372036854775808 ≤ a1) (k1 : a1 ≤ 9223372036854775807) (ht : Tens w) :
  Calls Tryz.prog 4 #[.string a0, .int .i64 a1] w fun e w' => e = .returned (.bool true) ∧ Below w.heap.size w w' := nears_any a0 a1 w h1 k1 ht

set_option maxRecDepth 100000 in
theorem lifted (os : Os) (started : os.Started) (H : Type) (enc : TypeId × Value → H) :
  ReturnsInHanded {} Tryz.checked os 4 .any (fun w args => (Rows.nearsSpec.pre enc Tryz.prog Tryz.f4 [] false w args ∧ laidMetH Tryz.prog Rows.nearsRow.laid w) ∧ sizedMet enc Tryz.prog Tryz.f4 (OpenSpec.ofChange Rows.nearsSpec) false w args)
   (Rows.nearsSpec.post enc Tryz.prog Tryz.f4 false true false false) := by
 refine returnsInHanded_of_change_and (C := Tryz.checked) (X := fun w _ => laidMetH Tryz.prog Rows.nearsRow.laid w) (fun _ _ _ hh h => h.of_heap hh) own started (by kernel_rfl) Tryz.func4
  (ChangeSpec.witness_shaped (enc := enc) (C := Tryz.checked) (os := os) (X := fun w _ => laidMetH Tryz.prog Rows.nearsRow.laid w) false (World.doorLaid Tryz.prog 24 os) #[.string ByteArray.empty, .int .i64 0] 8 rfl (World.shaped_of_RefB (by kernel_rfl) (by kernel_rfl)) (by kernel_rfl) (by kernel_rfl) (by kernel_rfl) (door_met os _)) ?_
 intro W base args ds gs before hval0 hW _ _ hL _
 have hval : ∀ (j : Nat) t v, Tryz.f4.params[j]? = some t → args[j]? = some v → Value.okWide Tryz.prog W .any base t v := hval0
 have hW' := hW
 obtain ⟨p, q, hA0, hV, rfl, hfz, hnd⟩ := hW
 have hA : DataW.TrodAll enc Tryz.prog W 0 (fun _ => true) true Tryz.f4.params.toList args.toList ds p := hA0
 rw [Tryz.params4] at hA hval
 obtain ⟨v0, vs0, d0, ds0, p0, q0, hargs, rfl, rfl, h0, r0⟩ := trodAll_cons hA
 obtain ⟨v1, vs1, d1, ds1, p1, q1, rfl, rfl, rfl, h1, r1⟩ := trodAll_cons r0
 obtain ⟨rfl, rfl, rfl⟩ := trodAll_nil r1
 obtain rfl : args = #[v0, v1] := by cases args; simp_all
 obtain ⟨rfl, rfl⟩ := trodVars_none hV
 obtain ⟨a0, rfl, rfl, rfl, w0⟩ := open_string Tryz.underlying9 (hval 0 9 v0 rfl rfl) h0
 obtain ⟨a1, rfl, rfl, rfl, w1⟩ := open_int Tryz.underlying3 (hval 1 3 v1 rfl rfl) h1
 clear hA0 hval0
 refine (walk a0 a1 W (wf_bd w1).1 (wf_bd w1).2 (tens_of hL)).mono fun e W' ⟨he, bel⟩ => ?_
 subst he
 exact ⟨_, rfl, _, _, _, [], _, [], hW', trodAll_mk1 (shut_bool Tryz.underlying4 _), trodAll_cons_mk (shut_string Tryz.underlying9 w0) (trodAll_cons_mk (shut_int Tryz.underlying3 w1) trodAll_mk0), rfl, bel.frame _, fun h => by cases h⟩

theorem over : Rows.nearsRow.holds Tryz.pinned (OpenSpec.ofChange Rows.nearsSpec) :=
 OpenClaim.holds_of_wide 4 Tryz.f4 rfl rfl rfl rfl rfl rfl rfl ⟨rfl, rfl, rfl, rfl, rfl⟩ rfl rfl rfl rfl rfl (by kernel_rfl) Tryz.func4 (by kernel_rfl)
  (of_decide_eq_true (by kernel_rfl)) (by unfold Func.isWrapper; first | (rw [if_pos (by decide +kernel)]; kernel_rfl) | (rw [if_neg (by decide +kernel)]; exact ⟨rfl, rfl⟩))
  (fun os started H enc _ => lifted os started H enc)

theorem card : Rows.NearsCardSaid :=
 Claim7.holds_tied_plain_at .later [] [.data, .data, .data] true Rows.nearsCard.stood.harness false
  over (fun _ h => by cases h) (by kernel_rfl) (fun _ h => by cases h) nears_row_tie rfl ⟨rfl, rfl⟩ (by kernel_rfl) rfl
  (fun f fn hf hfn => by
   obtain rfl : f = 4 := Option.some.inj ((show Tryz.prog.funcNamed "surd/surdlaw.Nears" = some 4 by kernel_rfl).symm.trans hf) |>.symm
   obtain rfl : fn = Tryz.f4 := (Option.some.inj (Tryz.func4.symm.trans hfn)).symm
   exact ⟨by kernel_rfl, fun j t ht => by
    rw [Tryz.params4] at ht
    have hm : t ∈ [9, 3] := by simpa using Array.mem_of_getElem? ht
    have hall : ([9, 3].all fun u => !Tryz.prog.wantsStandIn u) = true := by kernel_rfl
    exact (show Tryz.prog.wantsStandIn t = false by simpa using List.all_eq_true.1 hall t hm)⟩)
  (by kernel_rfl)

end Go.Proofs.YtjahbjjekednfaaGreatDoor.nears

namespace Go.Proofs.YtjahbjjekednfaaGreatDoor
theorem nears_holds : Rows.NearsCardSaid := nears.card
#print axioms nears_holds
end Go.Proofs.YtjahbjjekednfaaGreatDoor
