import Derived.Test.YtjahbjjekednfaaDoorN1
import Derived.Test.YtjahbjjekednfaaDoorQ2
import Derived.Test.YtjahbjjekednfaaDoorV1
import Derived.Test.YtjahbjjekednfaaDoorF10
namespace Go.Proofs.YtjahbjjekednfaaDoor
open Go.RowKit

set_option maxHeartbeats 6400000 in
set_option maxRecDepth 100000 in
/-- expansion.Near. -/
theorem near_any (a : Qn) (n K : Nat) (v : Value) (w : World) (hv : XN w v a) (hc : Cn a) (f : QF 1100000 a) (hd : QD a) (hn : n ≤ 100) (hK : Exq (p0 a) (q0 a) (n0 a) n K) :
  Calls Tryd.prog 37 #[v, .int .i64 n] w (RetFR w (cv (p0 a) (q0 a) (n0 a) K).lp (cv (p0 a) (q0 a) (n0 a) K).lq) := by
 have hKn : K ≤ n := hK.le
 have HK := Hid.mk hK
 have HSZ : Hid (∀ i, i ≤ K → Sz a i) := fun i hi => sz_all hc f (by omega) (fun j hj => hK.on j (by omega))
 have HCV : Hid (∀ i, i ≤ K → Ft ((2400000 + 1) * i + 1) (cv (p0 a) (q0 a) (n0 a) i).lp ∧ Ft ((2400000 + 1) * i + 1) (cv (p0 a) (q0 a) (n0 a) i).lq ∧ Ft ((2400000 + 1) * i + 1) (cv (p0 a) (q0 a) (n0 a) i).ap ∧ Ft ((2400000 + 1) * i + 1) (cv (p0 a) (q0 a) (n0 a) i).aq) := fun i hi => cv_ft i (fun j hj => (sz_num hc f (by omega) (fun t ht => hK.on t (by omega))).2)
 have HNN := Hid.mk (n0_nn hc)
 have HBG := Hid.mk (fun (W : World) (hW : XN W v a) => begin_any a 1100000 v W hW (by decide) f hd)
 obtain ⟨b1, ao1, n1, c1, b2, ao2, n2, c2, b3, ao3, n3, c3, rfl, _, _, _⟩ := id hv
 clear hc f hd hK
 have kp0 : Kp w ((w.alloc (.cells #[.bool b1, .slice ao1 n1 c1, .bool b2, .slice ao2 n2 c2, .bool b3, .slice ao3 n3 c3, .int .i64 a.d] 58)).alloc (.cells #[.bool false, .slice none 0 0, .bool false, .slice none 0 0] 78)) := Kp.alloc' (kp_alloc w _) _
 have BX0 : Blk ((w.alloc (.cells #[.bool b1, .slice ao1 n1 c1, .bool b2, .slice ao2 n2 c2, .bool b3, .slice ao3 n3 c3, .int .i64 a.d] 58)).alloc (.cells #[.bool false, .slice none 0 0, .bool false, .slice none 0 0] 78)) w.heap.size #[.bool b1, .slice ao1 n1 c1, .bool b2, .slice ao2 n2 c2, .bool b3, .slice ao3 n3 c3, .int .i64 a.d] 58 := Blk.alloc (Blk.new w _ _) _
 have BE0 : Blk ((w.alloc (.cells #[.bool b1, .slice ao1 n1 c1, .bool b2, .slice ao2 n2 c2, .bool b3, .slice ao3 n3 c3, .int .i64 a.d] 58)).alloc (.cells #[.bool false, .slice none 0 0, .bool false, .slice none 0 0] 78)) (w.heap.size + 1) #[.bool false, .slice none 0 0, .bool false, .slice none 0 0] 78 := Blk.at (Blk.new (w.alloc (.cells #[.bool b1, .slice ao1 n1 c1, .bool b2, .slice ao2 n2 c2, .bool b3, .slice ao3 n3 c3, .int .i64 a.d] 58)) _ _) (by simp)
 have hB := HBG.out _ (hv.keep kp0)
 have bxc := BX0.cell
 have bxl := BX0.lt
 go_enter Tryd.func37, Tryd.ntmps37
 go_wp2_with fail
 refine hB.mono ?_
 rintro e w1 ⟨v1, rfl, hW, hk1⟩
 obtain ⟨b4, ao4, n4, c4, b5, ao5, n5, c5, b6, ao6, n6, c6, b7, ao7, n7, c7, b8, ao8, n8, c8, b9, ao9, n9, c9, b10, ao10, n10, c10, b11, ao11, n11, c11, rfl, _, _, _, _, _, _, _, _⟩ := id hW
 have hkw := (kp0.trans' hk1).alloc' (.cells #[.bool b4, .slice ao4 n4 c4, .bool b5, .slice ao5 n5 c5, .bool b6, .slice ao6 n6 c6, .bool b7, .slice ao7 n7 c7, .bool b8, .slice ao8 n8 c8, .bool b9, .slice ao9 n9 c9, .bool b10, .slice ao10 n10 c10, .bool b11, .slice ao11 n11 c11] 102)
 replace BE0 := (BE0.keep hk1).alloc (.cells #[.bool b4, .slice ao4 n4 c4, .bool b5, .slice ao5 n5 c5, .bool b6, .slice ao6 n6 c6, .bool b7, .slice ao7 n7 c7, .bool b8, .slice ao8 n8 c8, .bool b9, .slice ao9 n9 c9, .bool b10, .slice ao10 n10 c10, .bool b11, .slice ao11 n11 c11] 102)
 have BA0 := Blk.new w1 #[.bool b4, .slice ao4 n4 c4, .bool b5, .slice ao5 n5 c5, .bool b6, .slice ao6 n6 c6, .bool b7, .slice ao7 n7 c7, .bool b8, .slice ao8 n8 c8, .bool b9, .slice ao9 n9 c9, .bool b10, .slice ao10 n10 c10, .bool b11, .slice ao11 n11 c11] 102
 replace hW := hW.keep (kp_alloc w1 (.cells #[.bool b4, .slice ao4 n4 c4, .bool b5, .slice ao5 n5 c5, .bool b6, .slice ao6 n6 c6, .bool b7, .slice ao7 n7 c7, .bool b8, .slice ao8 n8 c8, .bool b9, .slice ao9 n9 c9, .bool b10, .slice ao10 n10 c10, .bool b11, .slice ao11 n11 c11] 102))
 have hsz : w.heap.size + 2 ≤ w1.heap.size := by have := hk1.size; simp only [World.size_alloc] at this; omega
 clear kp0 hk1 BX0 bxc bxl hB
 go_wp2_with fail
 generalize w1.alloc (.cells #[.bool b4, .slice ao4 n4 c4, .bool b5, .slice ao5 n5 c5, .bool b6, .slice ao6 n6 c6, .bool b7, .slice ao7 n7 c7, .bool b8, .slice ao8 n8 c8, .bool b9, .slice ao9 n9 c9, .bool b10, .slice ao10 n10 c10, .bool b11, .slice ao11 n11 c11] 102) = wa at *
 generalize w1.heap.size = AT at *
 go_loopw [6] (fun i wr => ∃ (j : Nat) (b4 : Bool) (ao4 : Option Addr) (n4 c4 : Nat) (b5 : Bool) (ao5 : Option Addr) (n5 c5 : Nat) (b6 : Bool) (ao6 : Option Addr) (n6 c6 : Nat) (b7 : Bool) (ao7 : Option Addr) (n7 c7 : Nat) (b8 : Bool) (ao8 : Option Addr) (n8 c8 : Nat) (b9 : Bool) (ao9 : Option Addr) (n9 c9 : Nat) (b10 : Bool) (ao10 : Option Addr) (n10 c10 : Nat) (b11 : Bool) (ao11 : Option Addr) (n11 c11 : Nat), i = .int .i64 j ∧ j ≤ K ∧ Blk wr AT #[.bool b4, .slice ao4 n4 c4, .bool b5, .slice ao5 n5 c5, .bool b6, .slice ao6 n6 c6, .bool b7, .slice ao7 n7 c7, .bool b8, .slice ao8 n8 c8, .bool b9, .slice ao9 n9 c9, .bool b10, .slice ao10 n10 c10, .bool b11, .slice ao11 n11 c11] 102 ∧ WK wr (.agg #[.bool b4, .slice ao4 n4 c4, .bool b5, .slice ao5 n5 c5, .bool b6, .slice ao6 n6 c6, .bool b7, .slice ao7 n7 c7, .bool b8, .slice ao8 n8 c8, .bool b9, .slice ao9 n9 c9, .bool b10, .slice ao10 n10 c10, .bool b11, .slice ao11 n11 c11]) (rs a j).1 (rs a j).2 (n0 a) (cv (p0 a) (q0 a) (n0 a) j).lp (cv (p0 a) (q0 a) (n0 a) j).lq (cv (p0 a) (q0 a) (n0 a) j).ap (cv (p0 a) (q0 a) (n0 a) j).aq ∧ Blk wr (w.heap.size + 1) #[.bool false, .slice none 0 0, .bool false, .slice none 0 0] 78 ∧ Kp w wr)
  (fun i _ => n - (intOf i).toNat)
 case atStart => exact ⟨0, _, _, _, _, _, _, _, _, _, _, _, _, _, _, _, _, _, _, _, _, _, _, _, _, _, _, _, _, _, _, _, _, rfl, by omega, BA0, hW, BE0, hkw⟩
 case round =>
  clear hW BA0 BE0 hkw hv
  obtain ⟨j, b4, ao4, n4, c4, b5, ao5, n5, c5, b6, ao6, n6, c6, b7, ao7, n7, c7, b8, ao8, n8, c8, b9, ao9, n9, c9, b10, ao10, n10, c10, b11, ao11, n11, c11, rfl, hjK, BA, hW, BE, hkr⟩ := hrel
  have hR := hW.rr.1
  have hEn := ended_any _ _ _ _ wr hR
  by_cases hjn : j < n
  ·have hji : (j : Int) < (n : Int) := by omega
   have bac := BA.cell
   have bal := BA.lt
   by_cases hq : (rs a j).2 = 0
   ·have HKk : Hid (j = K) := by
     unfold Hid
     rcases Nat.lt_or_ge j K with e | e
     ·exact absurd hq (HK.out.on j e)
     ·omega
    rw [decide_eq_true hq] at hEn
    clear hq
    go_wp2_with fail
    refine hEn.mono ?_
    rintro e w2 ⟨rfl, hk2⟩
    replace BA := BA.keep hk2
    replace BE := BE.keep hk2
    replace hW := hW.keep hk2
    replace hkr := hkr.trans' hk2
    clear hEn bac bal hk2 hR
    obtain ⟨-, g5, g6⟩ := hW.rr
    rw [HKk.out] at g5 g6
    have bac := BA.cell
    have bal := BA.lt
    have bec := BE.cell
    have bef := BE.frozen
    have bel := BE.lt
    go_wp2_with fail
    refine bodyPost_ret (v := .agg #[.bool b8, .slice ao8 n8 c8, .bool b9, .slice ao9 n9 c9]) (by simp [results, Tryd.results37, go_sem, bec]) rfl ?_
    have hwe : ∀ o, w.heap.size ≤ (⟨w.heap.size + 1, o, none⟩ : Addr).block := fun _ => by show w.heap.size ≤ w.heap.size + 1; omega
    have sfE := (Sf.set (E := 2) (t := 78) (c := w.heap.size + 1) (o := 3) (y := .slice ao9 n9 c9) (Sf.set (t := 78) (c := w.heap.size + 1) (o := 2) (y := .bool b9) (Sf.set (t := 78) (c := w.heap.size + 1) (o := 1) (y := .slice ao8 n8 c8) (Sf.set (t := 78) (c := w.heap.size + 1) (o := 0) (y := .bool b8) (Sf.refl 2 w2) BE.elem (by decide)) (by simp only [elemOf_setCell]; exact BE.elem) (by decide)) (by simp only [elemOf_setCell]; exact BE.elem) (by decide)) (by simp only [elemOf_setCell]; exact BE.elem) (by decide))
    exact ⟨_, rfl, ⟨_, _, _, _, _, _, _, _, rfl, g5.soft sfE, g6.soft sfE⟩, Below.setCell (Below.setCell (Below.setCell (Below.setCell hkr (hwe _) _) (hwe _) _) (hwe _) _) (hwe _) _⟩
   ·have hjK2 : j < K := by
     rcases HK.out.stop with e | e
     ·omega
     ·rcases Nat.lt_or_ge j K with e2 | e2
      ·exact e2
      ·rw [show K = j by omega] at e; exact absurd e hq
    rw [decide_eq_false hq] at hEn
    have hs := HSZ.out j hjK
    obtain ⟨g1, g2, g3, g4⟩ := HCV.out j hjK
    have HNX := Hid.mk (fun (W : World) (hW : WK W (.agg #[.bool b4, .slice ao4 n4 c4, .bool b5, .slice ao5 n5 c5, .bool b6, .slice ao6 n6 c6, .bool b7, .slice ao7 n7 c7, .bool b8, .slice ao8 n8 c8, .bool b9, .slice ao9 n9 c9, .bool b10, .slice ao10 n10 c10, .bool b11, .slice ao11 n11 c11]) (rs a j).1 (rs a j).2 (n0 a) (cv (p0 a) (q0 a) (n0 a) j).lp (cv (p0 a) (q0 a) (n0 a) j).lq (cv (p0 a) (q0 a) (n0 a) j).ap (cv (p0 a) (q0 a) (n0 a) j).aq) => wnext_any _ _ _ _ _ _ _ 4500000 ((2400000 + 1) * j + 1) _ W hW (by decide) (by omega) (hs.p.mono (by decide)) (hs.q.mono (by decide)) hs.n (hs.r.mono (by decide)) hq HNN.out g1 g2 g3 g4)
    clear hs hq g1 g2 g3 g4
    go_wp2_with fail
    refine hEn.mono ?_
    rintro e w2 ⟨rfl, hk2⟩
    replace BA := BA.keep hk2
    replace BE := BE.keep hk2
    replace hW := hW.keep hk2
    replace hkr := hkr.trans' hk2
    have hNx := HNX.out w2 hW
    clear hEn bac bal hk2 hR
    have bac := BA.cell
    have bal := BA.lt
    go_wp2_with fail
    refine hNx.mono ?_
    rintro e w3 ⟨v3, rfl, hY, hk3⟩
    obtain ⟨b12, ao12, n12, c12, b13, ao13, n13, c13, b14, ao14, n14, c14, b15, ao15, n15, c15, b16, ao16, n16, c16, b17, ao17, n17, c17, b18, ao18, n18, c18, b19, ao19, n19, c19, rfl, _, _, _, _, _, _, _, _⟩ := id hY
    replace BA := BA.keep hk3
    replace BE := BE.keep hk3
    replace hkr := hkr.trans' hk3
    clear bac bal hNx HNX hW hk3
    have bac := BA.cell
    have baf := BA.frozen
    have bal := BA.lt
    go_wp2_with fail
    go_roundw
    case rel => exact ⟨j + 1, _, _, _, _, _, _, _, _, _, _, _, _, _, _, _, _, _, _, _, _, _, _, _, _, _, _, _, _, _, _, _, _, by go_num, by omega, (bl16 (.bool b12) (.slice ao12 n12 c12) (.bool b13) (.slice ao13 n13 c13) (.bool b14) (.slice ao14 n14 c14) (.bool b15) (.slice ao15 n15 c15) (.bool b16) (.slice ao16 n16 c16) (.bool b17) (.slice ao17 n17 c17) (.bool b18) (.slice ao18 n18 c18) (.bool b19) (.slice ao19 n19 c19) BA), hY.soft (sf16 (.bool b12) (.slice ao12 n12 c12) (.bool b13) (.slice ao13 n13 c13) (.bool b14) (.slice ao14 n14 c14) (.bool b15) (.slice ao15 n15 c15) (.bool b16) (.slice ao16 n16 c16) (.bool b17) (.slice ao17 n17 c17) (.bool b18) (.slice ao18 n18 c18) (.bool b19) (.slice ao19 n19 c19) BA (by decide)), (ot16 (A := AT) (.bool b12) (.slice ao12 n12 c12) (.bool b13) (.slice ao13 n13 c13) (.bool b14) (.slice ao14 n14 c14) (.bool b15) (.slice ao15 n15 c15) (.bool b16) (.slice ao16 n16 c16) (.bool b17) (.slice ao17 n17 c17) (.bool b18) (.slice ao18 n18 c18) (.bool b19) (.slice ao19 n19 c19) BE (by omega)), (kp16 (A := AT) (.bool b12) (.slice ao12 n12 c12) (.bool b13) (.slice ao13 n13 c13) (.bool b14) (.slice ao14 n14 c14) (.bool b15) (.slice ao15 n15 c15) (.bool b16) (.slice ao16 n16 c16) (.bool b17) (.slice ao17 n17 c17) (.bool b18) (.slice ao18 n18 c18) (.bool b19) (.slice ao19 n19 c19) hkr (by omega))⟩
    case measure => simp [intOf]; omega
  ·have HKk : Hid (j = K) := by unfold Hid; omega
   have hji : ¬ (j : Int) < (n : Int) := by omega
   clear hEn hR
   obtain ⟨-, g5, g6⟩ := hW.rr
   rw [HKk.out] at g5 g6
   have bac := BA.cell
   have bal := BA.lt
   have bec := BE.cell
   have bef := BE.frozen
   have bel := BE.lt
   go_wp2_with fail
   refine bodyPost_ret (v := .agg #[.bool b8, .slice ao8 n8 c8, .bool b9, .slice ao9 n9 c9]) (by simp [results, Tryd.results37, go_sem, bec]) rfl ?_
   have hwe : ∀ o, w.heap.size ≤ (⟨w.heap.size + 1, o, none⟩ : Addr).block := fun _ => by show w.heap.size ≤ w.heap.size + 1; omega
   have sfE := (Sf.set (E := 2) (t := 78) (c := w.heap.size + 1) (o := 3) (y := .slice ao9 n9 c9) (Sf.set (t := 78) (c := w.heap.size + 1) (o := 2) (y := .bool b9) (Sf.set (t := 78) (c := w.heap.size + 1) (o := 1) (y := .slice ao8 n8 c8) (Sf.set (t := 78) (c := w.heap.size + 1) (o := 0) (y := .bool b8) (Sf.refl 2 wr) BE.elem (by decide)) (by simp only [elemOf_setCell]; exact BE.elem) (by decide)) (by simp only [elemOf_setCell]; exact BE.elem) (by decide)) (by simp only [elemOf_setCell]; exact BE.elem) (by decide))
   exact ⟨_, rfl, ⟨_, _, _, _, _, _, _, _, rfl, g5.soft sfE, g6.soft sfE⟩, Below.setCell (Below.setCell (Below.setCell (Below.setCell hkr (hwe _) _) (hwe _) _) (hwe _) _) (hwe _) _⟩

end Go.Proofs.YtjahbjjekednfaaDoor

namespace Go.Proofs.YtjahbjjekednfaaDoor
open Go.RowKit

/-- What Near tells. -/
def OutN (r : Rs) (k : Int) (s1 s2 : ByteArray) (er : Int) : Prop :=
 (r.e ≠ 0 ∧ s1 = ⟨#[]⟩ ∧ s2 = ⟨#[]⟩ ∧ er = r.e) ∨ (r.e = 0 ∧ (k < 0 ∨ 100 ≤ k) ∧ s1 = ⟨#[]⟩ ∧ s2 = ⟨#[]⟩ ∧ er = 5) ∨
 (r.e = 0 ∧ 0 ≤ k ∧ k < 100 ∧ ∃ K, Exq (p0 r.v) (q0 r.v) (n0 r.v) (k.toNat + 1) K ∧ s1 = strOf (Go.Lib.itoa (cv (p0 r.v) (q0 r.v) (n0 r.v) K).lp) ∧ s2 = strOf (Go.Lib.itoa (cv (p0 r.v) (q0 r.v) (n0 r.v) K).lq) ∧ er = 0)
theorem outN_ex (r : Rs) (k : Int) : ∃ s1 s2 er, OutN r k s1 s2 er := by
 by_cases h1 : r.e = 0
 ·by_cases h2 : 0 ≤ k ∧ k < 100
  ·obtain ⟨K, hK⟩ := exq_ex (p0 r.v) (q0 r.v) (n0 r.v) (k.toNat + 1)
   exact ⟨_, _, _, Or.inr (Or.inr ⟨h1, h2.1, h2.2, K, hK, rfl, rfl, rfl⟩)⟩
  ·exact ⟨_, _, _, Or.inr (Or.inl ⟨h1, by omega, rfl, rfl, rfl⟩)⟩
 ·exact ⟨_, _, _, Or.inl ⟨h1, rfl, rfl, rfl⟩⟩

end Go.Proofs.YtjahbjjekednfaaDoor

namespace Go.Proofs.YtjahbjjekednfaaDoor
open Go.RowKit

set_option maxHeartbeats 3200000 in
set_option maxRecDepth 100000 in
/-- surd.Near. -/
theorem snear_any (s : ByteArray) (k : Int) (r : Rs) (s1 s2 : ByteArray) (er : Int) (w : World) (h : Rk s r) (hk0 : -9223372036854775808 ≤ k) (hk1 : k ≤ 9223372036854775807) (ho : OutN r k s1 s2 er) (ht : Tens w) :
  Calls Tryd.prog 22 #[.string s, .int .i64 k] w (RetV w (.tuple #[.string s1, .string s2, .int .i64 er])) := by
 have HR := Hid.mk (reckon_any s r w h)
 rcases ho with ⟨he, rfl, rfl, rfl⟩ | ⟨he, hN, rfl, rfl, rfl⟩ | ⟨he, h0, h1, K, hK, rfl, rfl, rfl⟩
 ·have hb : (r.e != 0) = true := by simp [he]
  have Hh := Hid.mk he
  clear he
  go_enter Tryd.func22, Tryd.ntmps22
  go_wp2_with fail
  refine HR.out.mono ?_
  rintro e w1 ⟨v1, rfl, hv, hk1⟩
  obtain ⟨b1, ao1, n1, c1, b2, ao2, n2, c2, b3, ao3, n3, c3, rfl, _, _, _⟩ := id hv
  go_wp2_with fail
  refine bodyPost_ret (v := .tuple #[.string ⟨#[]⟩, .string ⟨#[]⟩, .int .i64 r.e]) (by simp [results, Tryd.results22, go_sem]) rfl ?_
  exact ⟨rfl, hk1.alloc' _⟩
 ·have hb : (r.e != 0) = false := by simp [he]
  have Hh := Hid.mk he
  clear he
  go_enter Tryd.func22, Tryd.ntmps22
  go_wp2_with fail
  refine HR.out.mono ?_
  rintro e w1 ⟨v1, rfl, hv, hk1⟩
  obtain ⟨b1, ao1, n1, c1, b2, ao2, n2, c2, b3, ao3, n3, c3, rfl, _, _, _⟩ := id hv
  by_cases h3 : k < 0
  ·clear hN
   go_wp2_with fail
   refine bodyPost_ret (v := .tuple #[.string ⟨#[]⟩, .string ⟨#[]⟩, .int .i64 5]) (by simp [results, Tryd.results22, go_sem]) rfl ?_
   exact ⟨rfl, hk1.alloc' _⟩
  ·have h4 : 100 ≤ k := by omega
   clear hN
   go_wp2_with fail
   refine bodyPost_ret (v := .tuple #[.string ⟨#[]⟩, .string ⟨#[]⟩, .int .i64 5]) (by simp [results, Tryd.results22, go_sem]) rfl ?_
   exact ⟨rfl, hk1.alloc' _⟩
 ·have hb : (r.e != 0) = false := by simp [he]
  have Hcn := Hid.mk (rk_cn h he)
  have Hsz := Hid.mk (rk_size h he)
  have Hqd : Hid (QD r.v) := ⟨by have := Hcn.out.ok.d0; omega, by have := Hcn.out.ok.d1; omega⟩
  have Hh := Hid.mk he
  clear he
  obtain ⟨n, rfl⟩ := Int.eq_ofNat_of_zero_le h0
  have HK := Hid.mk hK
  simp only [Int.toNat_natCast] at HK
  clear hK
  have hKn : K ≤ n + 1 := HK.out.le
  have hcf := cv_ft (p := p0 r.v) (q := q0 r.v) (n := n0 r.v) (m := 2400000) K (fun j hj => (sz_num Hcn.out Hsz.out (by omega) (fun t ht => HK.out.on t (by omega))).2)
  have HF1 : Hid (Fit (cv (p0 r.v) (q0 r.v) (n0 r.v) K).lp) := hcf.1.fit (by omega)
  have HF2 : Hid (Fit (cv (p0 r.v) (q0 r.v) (n0 r.v) K).lq) := hcf.2.1.fit (by omega)
  clear hcf
  have hn1 : ((n : Int) + 1) = ((n + 1 : Nat) : Int) := by omega
  have HNR := Hid.mk (fun (u : Value) (W : World) (hu : XN W u r.v) => near_any r.v (n + 1) K u W hu Hcn.out Hsz.out Hqd.out (by omega) HK.out)
  have HTX := fun (u : Value) (W : World) (hu : FR W u (cv (p0 r.v) (q0 r.v) (n0 r.v) K).lp (cv (p0 r.v) (q0 r.v) (n0 r.v) K).lq) (hW : Tens W) => texts_any _ _ u W hu HF1.out HF2.out hW
  generalize strOf (Go.Lib.itoa (cv (p0 r.v) (q0 r.v) (n0 r.v) K).lp) = S1 at *
  generalize strOf (Go.Lib.itoa (cv (p0 r.v) (q0 r.v) (n0 r.v) K).lq) = S2 at *
  replace HTX := Hid.mk HTX
  go_enter Tryd.func22, Tryd.ntmps22
  go_wp2_with fail
  refine HR.out.mono ?_
  rintro e w1 ⟨v1, rfl, hv, hk1⟩
  obtain ⟨b1, ao1, n1, c1, b2, ao2, n2, c2, b3, ao3, n3, c3, rfl, _, _, _⟩ := id hv
  have hkA := hk1.alloc' (.cells #[.bool b1, .slice ao1 n1 c1, .bool b2, .slice ao2 n2 c2, .bool b3, .slice ao3 n3 c3, .int .i64 r.v.d] 58)
  have hNr := HNR.out _ _ (hv.keep (kp_alloc w1 (.cells #[.bool b1, .slice ao1 n1 c1, .bool b2, .slice ao2 n2 c2, .bool b3, .slice ao3 n3 c3, .int .i64 r.v.d] 58)))
  rw [← hn1] at hNr
  have BX := Blk.new w1 #[.bool b1, .slice ao1 n1 c1, .bool b2, .slice ao2 n2 c2, .bool b3, .slice ao3 n3 c3, .int .i64 r.v.d] 58
  have bxc := BX.cell
  have bxl := BX.lt
  clear hn1
  go_wp2_with fail
  refine hNr.mono ?_
  rintro e w2 ⟨v2, rfl, hF, hk2⟩
  obtain ⟨b5, ao5, n5, c5, b6, ao6, n6, c6, rfl, _, _⟩ := id hF
  have hkB := (hkA.trans' hk2).alloc' (.cells #[.bool b5, .slice ao5 n5 c5, .bool b6, .slice ao6 n6 c6] 78)
  have hTx := HTX.out _ _ (hF.soft (Sf.keep (kp_alloc w2 (.cells #[.bool b5, .slice ao5 n5 c5, .bool b6, .slice ao6 n6 c6] 78)))) (ht.keep hkB)
  clear bxc bxl BX hNr
  go_wp2_with fail
  refine hTx.mono ?_
  rintro e w3 ⟨rfl, hk3⟩
  go_wp2_with fail
  refine bodyPost_ret (v := .tuple #[.string S1, .string S2, .int .i64 0]) (by simp [results, Tryd.results22, go_sem]) rfl ?_
  exact ⟨rfl, hkB.trans' hk3⟩

end Go.Proofs.YtjahbjjekednfaaDoor
