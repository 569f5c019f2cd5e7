import Derived.Test.YtjahbjjekednfaaDoorBb
import Derived.Test.YtjahbjjekednfaaDoorBm
import Derived.Test.YtjahbjjekednfaaDoorN2
namespace Go.Proofs.YtjahbjjekednfaaDoor
open Go.RowKit

theorem nq_or (o : Int) (l g : Int × Int) : nq o l g = l ∨ nq o l g = g := by
 unfold nq
 by_cases h : 0 < (if o = 0 then (l.2 - g.2).sign else o)
 ·exact Or.inr (if_pos h)
 ·exact Or.inl (if_neg h)
theorem bst_ft {a : Qn} {n : Int} {J : Nat} (h : Cn a) (f : QF 1100000 a) (hn : 1 ≤ n) (hn1 : n ≤ 1000) (hJ : BAt a n J) : Ft 2400010 (bst a n J).1 ∧ Ft 2400010 (bst a n J).2 := by
 have f1 := oth_ft h f hn hn1 hJ
 have f2 : Ft 2400010 (lst' a J).1 ∧ Ft 2400010 (lst' a J).2 := ⟨(hJ.ft h f hn hn1 J (Nat.le_refl _)).1.mono (by decide), (hJ.ft h f hn hn1 J (Nat.le_refl _)).2.mono (by decide)⟩
 unfold bst
 split
 ·exact f2
 ·split
  ·rcases nq_or (qcmp a (md (lst' a J).1 (lst' a J).2 (oth a n J).1 (oth a n J).2)) (oth a n J) (lst' a J) with e | e <;> rw [e]
   ·exact f1
   ·exact f2
  ·rcases nq_or (qcmp a (md (lst' a J).1 (lst' a J).2 (oth a n J).1 (oth a n J).2)) (lst' a J) (oth a n J) with e | e <;> rw [e]
   ·exact f2
   ·exact f1
/-- What Best tells. -/
def OutB (r : Rs) (n : Int) (s1 s2 : ByteArray) (er : Int) : Prop :=
 (r.e ≠ 0 ∧ s1 = ⟨#[]⟩ ∧ s2 = ⟨#[]⟩ ∧ er = r.e) ∨ (r.e = 0 ∧ (n < 1 ∨ 1000 < n) ∧ s1 = ⟨#[]⟩ ∧ s2 = ⟨#[]⟩ ∧ er = 5) ∨
 (r.e = 0 ∧ 1 ≤ n ∧ n ≤ 1000 ∧ ∃ J, BAt r.v n J ∧ s1 = strOf (Go.Lib.itoa (bst r.v n J).1) ∧ s2 = strOf (Go.Lib.itoa (bst r.v n J).2) ∧ er = 0)

set_option maxHeartbeats 3200000 in
set_option maxRecDepth 100000 in
/-- surd.Best. -/
theorem sbest_any (s : ByteArray) (n : Int) (r : Rs) (s1 s2 : ByteArray) (er : Int) (w : World) (h : Rk s r) (hk0 : -9223372036854775808 ≤ n) (hk1 : n ≤ 9223372036854775807) (ho : OutB r n s1 s2 er) (ht : Tens w) :
  Calls Tryd.prog 24 #[.string s, .int .i64 n] w (RetV w (.tuple #[.string s1, .string s2, .int .i64 er])) := by
 have HR := Hid.mk (reckon_any s r w h)
 rcases ho with ⟨he, rfl, rfl, rfl⟩ | ⟨he, hN, rfl, rfl, rfl⟩ | ⟨he, h0, h1, J, hJ, rfl, rfl, rfl⟩
 ·have hb : (r.e != 0) = true := by simp [he]
  have Hh := Hid.mk he
  clear he
  go_enter Tryd.func24, Tryd.ntmps24
  go_wp2_with fail
  refine HR.out.mono ?_
  rintro e w1 ⟨v1, rfl, hv, hk1⟩
  obtain ⟨b1, ao1, n1, c1, b2, ao2, n2, c2, b3, ao3, n3, c3, rfl, _, _, _⟩ := id hv
  go_wp2_with fail
  refine bodyPost_ret (v := .tuple #[.string ⟨#[]⟩, .string ⟨#[]⟩, .int .i64 r.e]) (by simp [results, Tryd.results24, go_sem]) rfl ?_
  exact ⟨rfl, hk1.alloc' _⟩
 ·have hb : (r.e != 0) = false := by simp [he]
  have Hh := Hid.mk he
  clear he
  go_enter Tryd.func24, Tryd.ntmps24
  go_wp2_with fail
  refine HR.out.mono ?_
  rintro e w1 ⟨v1, rfl, hv, hk1⟩
  obtain ⟨b1, ao1, n1, c1, b2, ao2, n2, c2, b3, ao3, n3, c3, rfl, _, _, _⟩ := id hv
  by_cases h3 : n < 1
  ·clear hN
   go_wp2_with fail
   refine bodyPost_ret (v := .tuple #[.string ⟨#[]⟩, .string ⟨#[]⟩, .int .i64 5]) (by simp [results, Tryd.results24, go_sem]) rfl ?_
   exact ⟨rfl, hk1.alloc' _⟩
  ·have h4 : 1000 < n := by omega
   clear hN
   go_wp2_with fail
   refine bodyPost_ret (v := .tuple #[.string ⟨#[]⟩, .string ⟨#[]⟩, .int .i64 5]) (by simp [results, Tryd.results24, go_sem]) rfl ?_
   exact ⟨rfl, hk1.alloc' _⟩
 ·have hb : (r.e != 0) = false := by simp [he]
  have Hcn := Hid.mk (rk_cn h he)
  have Hsz := Hid.mk (rk_size h he)
  have Hqd : Hid (QD r.v) := ⟨by have := Hcn.out.ok.d0; omega, by have := Hcn.out.ok.d1; omega⟩
  have Hh := Hid.mk he
  clear he
  have hbf := bst_ft Hcn.out Hsz.out h0 h1 hJ
  have HF1 : Hid (Fit (bst r.v n J).1) := hbf.1.fit (by decide)
  have HF2 : Hid (Fit (bst r.v n J).2) := hbf.2.fit (by decide)
  clear hbf
  have HNR := Hid.mk (fun (u : Value) (W : World) (hu : XN W u r.v) => best_any r.v n J u W hu Hcn.out Hsz.out Hqd.out h0 h1 hJ)
  have HTX := fun (u : Value) (W : World) (hu : FR W u (bst r.v n J).1 (bst r.v n J).2) (hW : Tens W) => texts_any _ _ u W hu HF1.out HF2.out hW
  clear hJ
  generalize strOf (Go.Lib.itoa (bst r.v n J).1) = S1 at *
  generalize strOf (Go.Lib.itoa (bst r.v n J).2) = S2 at *
  replace HTX := Hid.mk HTX
  go_enter Tryd.func24, Tryd.ntmps24
  go_wp2_with fail
  refine HR.out.mono ?_
  rintro e w1 ⟨v1, rfl, hv, hk1⟩
  obtain ⟨b1, ao1, n1, c1, b2, ao2, n2, c2, b3, ao3, n3, c3, rfl, _, _, _⟩ := id hv
  have hkA := hk1.alloc' (.cells #[.bool b1, .slice ao1 n1 c1, .bool b2, .slice ao2 n2 c2, .bool b3, .slice ao3 n3 c3, .int .i64 r.v.d] 58)
  have hNr := HNR.out _ _ (hv.keep (kp_alloc w1 (.cells #[.bool b1, .slice ao1 n1 c1, .bool b2, .slice ao2 n2 c2, .bool b3, .slice ao3 n3 c3, .int .i64 r.v.d] 58)))
  have BX := Blk.new w1 #[.bool b1, .slice ao1 n1 c1, .bool b2, .slice ao2 n2 c2, .bool b3, .slice ao3 n3 c3, .int .i64 r.v.d] 58
  have bxc := BX.cell
  have bxl := BX.lt
  go_wp2_with fail
  refine hNr.mono ?_
  rintro e w2 ⟨v2, rfl, hF, hk2⟩
  obtain ⟨b5, ao5, n5, c5, b6, ao6, n6, c6, rfl, _, _⟩ := id hF
  have hkB := (hkA.trans' hk2).alloc' (.cells #[.bool b5, .slice ao5 n5 c5, .bool b6, .slice ao6 n6 c6] 78)
  have hTx := HTX.out _ _ (hF.soft (Sf.keep (kp_alloc w2 (.cells #[.bool b5, .slice ao5 n5 c5, .bool b6, .slice ao6 n6 c6] 78)))) (ht.keep hkB)
  clear bxc bxl BX hNr
  go_wp2_with fail
  refine hTx.mono ?_
  rintro e w3 ⟨rfl, hk3⟩
  go_wp2_with fail
  refine bodyPost_ret (v := .tuple #[.string S1, .string S2, .int .i64 0]) (by simp [results, Tryd.results24, go_sem]) rfl ?_
  exact ⟨rfl, hkB.trans' hk3⟩

end Go.Proofs.YtjahbjjekednfaaDoor
