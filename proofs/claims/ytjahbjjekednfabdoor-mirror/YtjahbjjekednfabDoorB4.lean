import Derived.Test.YtjahbjjekednfabDoorB0
import Derived.Test.YtjahbjjekednfabDoorB3
import Derived.Test.YtjahbjjekednfabDoorQ2
namespace Go.Proofs.YtjahbjjekednfabDoor
open Go.RowKit

/-- The rests of an irrational number never end. -/
theorem rs_on {a : Qn} (h : Cn a) (hd : a.d ≠ 1) : ∀ i, ∀ j, j ≤ i → (rs a j).2 ≠ 0
 | 0, j, hj => by
  have : j = 0 := by omega
  subst this
  exact (rl_start h).q0
 | i + 1, j, hj => by
  have ih := rs_on h hd i
  by_cases e : j ≤ i
  ·exact ih j e
  ·have e2 : j = i + 1 := by omega
   subst e2
   intro hz
   have hr := rl_num (rl_start h) i ih
   have h0 := ((nxq_zero hr).1 hz).2
   have h1 := hr.ey
   rw [h0, Int.zero_mul] at h1
   have h2 := hr.cn.ok.r
   have h3 := h.ok.r
   have h4 : a.q ≠ 0 := fun k => hd (h.ok.q.1 k)
   rcases Int.mul_eq_zero.1 h1.symm with k | k
   ·rcases Int.mul_eq_zero.1 k with k | k <;> omega
   ·omega
theorem rs_irr {a : Qn} (h : Cn a) (hd : a.d ≠ 1) (j : Nat) : (rs a j).2 ≠ 0 := rs_on h hd j j (Nat.le_refl _)
/-- No rest ahead of J was there before. -/
def Fst (a : Qn) (J : Nat) : Prop := ∀ j, j < J → ∀ i, i < j → rs a i ≠ rs a j
/-- J is the first rest that was there before, at i. -/
structure Rep (a : Qn) (i J : Nat) : Prop where
 fst : Fst a J
 lt : i < J
 eq : rs a i = rs a J
theorem fst_or (a : Qn) : ∀ N, Fst a N ∨ ∃ J i, J < N ∧ Rep a i J
 | 0 => Or.inl fun j hj => absurd hj (by omega)
 | N + 1 => by
  rcases fst_or a N with h | ⟨J, i, h1, h2⟩
  ·by_cases e : ∃ i, i < N ∧ rs a i = rs a N
   ·obtain ⟨i, h1, h2⟩ := e
    exact Or.inr ⟨N, i, by omega, h, h1, h2⟩
   ·refine Or.inl fun j hj i hi k => ?_
    by_cases e2 : j < N
    ·exact h j e2 i hi k
    ·have e3 : j = N := by omega
     subst e3
     exact e ⟨i, hi, k⟩
  ·exact Or.inr ⟨J, i, by omega, h2⟩
theorem Rep.uni {a : Qn} {i J i' J' : Nat} (h : Rep a i J) (h' : Rep a i' J') : i = i' ∧ J = J' := by
 have e : J = J' := by
  rcases Nat.lt_trichotomy J J' with k | k | k
  ·exact absurd h.eq (h'.fst J k i h.lt)
  ·exact k
  ·exact absurd h'.eq (h.fst J' k i' h'.lt)
 subst e
 refine ⟨?_, rfl⟩
 rcases Nat.lt_trichotomy i i' with k | k | k
 ·exact absurd (h.eq.trans h'.eq.symm) (h.fst i' h'.lt i k)
 ·exact k
 ·exact absurd (h'.eq.trans h.eq.symm) (h.fst i h.lt i' k)
/-- What Period tells. -/
def OutD (r : Rs) (x y er : Int) : Prop :=
 (r.e ≠ 0 ∧ x = 0 ∧ y = 0 ∧ er = r.e) ∨ (r.e = 0 ∧ r.v.d = 1 ∧ x = 0 ∧ y = 0 ∧ er = 6) ∨ (r.e = 0 ∧ r.v.d ≠ 1 ∧ Fst r.v 201 ∧ x = 0 ∧ y = 0 ∧ er = 7) ∨
 (r.e = 0 ∧ r.v.d ≠ 1 ∧ ∃ i J : Nat, J ≤ 200 ∧ Rep r.v i J ∧ x = i ∧ y = (J : Int) - i ∧ er = 0)
theorem outD_ex (r : Rs) : ∃ x y er, OutD r x y er := by
 by_cases he : r.e = 0
 ·by_cases hd : r.v.d = 1
  ·exact ⟨_, _, _, Or.inr (Or.inl ⟨he, hd, rfl, rfl, rfl⟩)⟩
  ·rcases fst_or r.v 201 with h | ⟨J, i, h1, h2⟩
   ·exact ⟨_, _, _, Or.inr (Or.inr (Or.inl ⟨he, hd, h, rfl, rfl, rfl⟩))⟩
   ·exact ⟨_, _, _, Or.inr (Or.inr (Or.inr ⟨he, hd, i, J, by omega, h2, rfl, rfl, rfl⟩))⟩
 ·exact ⟨_, _, _, Or.inl ⟨he, rfl, rfl, rfl⟩⟩
theorem rep_per {a : Qn} {J i : Nat} (hc : Cn a) (hd : a.d ≠ 1) (f : QF 1100000 a) (hJ : J ≤ 201) (hF : Fst a J) (hy : J ≤ 200 → Rep a i J) (v : Value) (w : World) (hv : XN w v a) :
 Calls Tryd.prog 31 #[v, .int .i64 200] w (RetV w (perV J i)) :=
 period_any a J i v w hv hc f ⟨by have := hc.ok.d0; omega, by have := hc.ok.d1; omega⟩ (fun j _ => rs_irr hc hd j) hJ (fun j hj k hk e => hF j hj k hk (Prod.ext e.1 e.2))
  (fun h => ⟨(hy h).lt, congrArg Prod.fst (hy h).eq, congrArg Prod.snd (hy h).eq⟩)

set_option maxHeartbeats 3200000 in
set_option maxRecDepth 100000 in
/-- surd.Period. -/
theorem speriod_any (s : ByteArray) (r : Rs) (x y er : Int) (w : World) (h : Rk s r) (ho : OutD r x y er) :
 Calls Tryd.prog 11 #[.string s] w (RetV w (.tuple #[.int .i64 x, .int .i64 y, .int .i64 er])) := by
 have HR := Hid.mk (reckon_any s r w h)
 by_cases he : r.e = 0
 ·have hb : (r.e != 0) = false := by simp [he]
  have Hcn := Hid.mk (rk_cn h he)
  have Hsz := Hid.mk (rk_size h he)
  have HRT := Hid.mk (fun (v : Value) (W : World) (hv : XN W v r.v) => rational_any r.v v W hv)
  by_cases hd : r.v.d = 1
  ·obtain ⟨rfl, rfl, rfl⟩ : x = 0 ∧ y = 0 ∧ er = 6 := by
    rcases ho with ⟨k, _⟩ | ⟨_, _, h⟩ | ⟨_, k, _⟩ | ⟨_, k, _⟩
    ·exact absurd he k
    ·exact h
    ·exact absurd hd k
    ·exact absurd hd k
   rw [decide_eq_true hd] at HRT
   clear he hd ho
   go_enter Tryd.func11, Tryd.ntmps11
   go_wp2_with fail
   refine HR.out.mono ?_
   rintro e w1 ⟨v1, rfl, hv, hk1⟩
   obtain ⟨b1, ao1, n1, c1, b2, ao2, n2, c2, b3, ao3, n3, c3, rfl, _, _, _⟩ := id hv
   go_wp2_with fail
   refine (HRT.out _ _ (hv.keep (kp_alloc w1 _))).mono ?_
   rintro e w2 ⟨rfl, hk2⟩
   go_wp2_with fail
   refine bodyPost_ret (v := .tuple #[.int .i64 0, .int .i64 0, .int .i64 6]) (by simp [results, Tryd.results11, go_sem]) rfl ?_
   exact ⟨rfl, (hk1.alloc' _).trans' hk2⟩
  ·have hp : ∃ J i : Nat, (∀ (v : Value) (w : World), XN w v r.v → Calls Tryd.prog 31 #[v, .int .i64 200] w (RetV w (perV J i))) ∧ ((J ≤ 200 ∧ x = i ∧ y = (J : Int) - i ∧ er = 0) ∨ (¬ J ≤ 200 ∧ x = 0 ∧ y = 0 ∧ er = 7)) := by
    rcases ho with ⟨k, _⟩ | ⟨_, k, _⟩ | ⟨_, _, hF, h⟩ | ⟨_, _, i, J, hJ, hP, h⟩
    ·exact absurd he k
    ·exact absurd k hd
    ·exact ⟨201, 0, rep_per Hcn.out hd Hsz.out (by decide) hF (fun k => absurd k (by decide)), Or.inr ⟨by decide, h⟩⟩
    ·exact ⟨J, i, rep_per Hcn.out hd Hsz.out (by omega) hP.fst (fun _ => hP), Or.inl ⟨hJ, h⟩⟩
   obtain ⟨J, i, HP, hor⟩ := hp
   replace HP := Hid.mk HP
   rw [decide_eq_false hd] at HRT
   clear he hd ho Hcn Hsz
   rcases hor with ⟨hJ, rfl, rfl, rfl⟩ | ⟨hJ, rfl, rfl, rfl⟩
   ·have HE : perV J i = .tuple #[.int .i64 i, .int .i64 ((J : Int) - i), .bool true] := if_pos hJ
    rw [HE] at HP
    clear HE hJ
    generalize (J : Int) - i = L at *
    go_enter Tryd.func11, Tryd.ntmps11
    go_wp2_with fail
    refine HR.out.mono ?_
    rintro e w1 ⟨v1, rfl, hv, hk1⟩
    obtain ⟨b1, ao1, n1, c1, b2, ao2, n2, c2, b3, ao3, n3, c3, rfl, _, _, _⟩ := id hv
    have BX := Blk.new w1 #[.bool b1, .slice ao1 n1 c1, .bool b2, .slice ao2 n2 c2, .bool b3, .slice ao3 n3 c3, .int .i64 r.v.d] 62
    replace hv := hv.keep (kp_alloc w1 (.cells #[.bool b1, .slice ao1 n1 c1, .bool b2, .slice ao2 n2 c2, .bool b3, .slice ao3 n3 c3, .int .i64 r.v.d] 62))
    go_wp2_with fail
    refine (HRT.out _ _ hv).mono ?_
    rintro e w2 ⟨rfl, hk2⟩
    replace BX := BX.keep hk2
    have bxc := BX.cell
    have bxl := BX.lt
    go_wp2_with fail
    refine (HP.out _ _ (hv.keep hk2)).mono ?_
    rintro e w3 ⟨rfl, hk3⟩
    go_wp2_with fail
    refine bodyPost_ret (v := .tuple #[.int .i64 i, .int .i64 L, .int .i64 0]) (by simp [results, Tryd.results11, go_sem]) rfl ?_
    exact ⟨rfl, ((hk1.alloc' _).trans' hk2).trans' hk3⟩
   ·have HE : perV J i = .tuple #[.int .i64 0, .int .i64 0, .bool false] := if_neg hJ
    rw [HE] at HP
    clear HE hJ
    go_enter Tryd.func11, Tryd.ntmps11
    go_wp2_with fail
    refine HR.out.mono ?_
    rintro e w1 ⟨v1, rfl, hv, hk1⟩
    obtain ⟨b1, ao1, n1, c1, b2, ao2, n2, c2, b3, ao3, n3, c3, rfl, _, _, _⟩ := id hv
    have BX := Blk.new w1 #[.bool b1, .slice ao1 n1 c1, .bool b2, .slice ao2 n2 c2, .bool b3, .slice ao3 n3 c3, .int .i64 r.v.d] 62
    replace hv := hv.keep (kp_alloc w1 (.cells #[.bool b1, .slice ao1 n1 c1, .bool b2, .slice ao2 n2 c2, .bool b3, .slice ao3 n3 c3, .int .i64 r.v.d] 62))
    go_wp2_with fail
    refine (HRT.out _ _ hv).mono ?_
    rintro e w2 ⟨rfl, hk2⟩
    replace BX := BX.keep hk2
    have bxc := BX.cell
    have bxl := BX.lt
    go_wp2_with fail
    refine (HP.out _ _ (hv.keep hk2)).mono ?_
    rintro e w3 ⟨rfl, hk3⟩
    go_wp2_with fail
    refine bodyPost_ret (v := .tuple #[.int .i64 0, .int .i64 0, .int .i64 7]) (by simp [results, Tryd.results11, go_sem]) rfl ?_
    exact ⟨rfl, ((hk1.alloc' _).trans' hk2).trans' hk3⟩
 ·obtain ⟨rfl, rfl, rfl⟩ : x = 0 ∧ y = 0 ∧ er = r.e := by
   rcases ho with ⟨_, h⟩ | ⟨k, _⟩ | ⟨k, _⟩ | ⟨k, _⟩
   ·exact h
   ·exact absurd k he
   ·exact absurd k he
   ·exact absurd k he
  have hb : (r.e != 0) = true := by simp [he]
  clear he ho
  go_enter Tryd.func11, Tryd.ntmps11
  go_wp2_with fail
  refine HR.out.mono ?_
  rintro e w1 ⟨v1, rfl, hv, hk1⟩
  obtain ⟨b1, ao1, n1, c1, b2, ao2, n2, c2, b3, ao3, n3, c3, rfl, _, _, _⟩ := id hv
  go_wp2_with fail
  refine bodyPost_ret (v := .tuple #[.int .i64 0, .int .i64 0, .int .i64 r.e]) (by simp [results, Tryd.results11, go_sem]) rfl ?_
  exact ⟨rfl, hk1.alloc' _⟩

end Go.Proofs.YtjahbjjekednfabDoor
