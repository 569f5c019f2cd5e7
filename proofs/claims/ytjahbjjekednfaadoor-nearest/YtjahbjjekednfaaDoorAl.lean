import Derived.Test.YtjahbjjekednfaaDoorA1
import Derived.Test.YtjahbjjekednfaaDoorV5
import Derived.Test.YtjahbjjekednfaaDoorQ8
namespace Go.Proofs.YtjahbjjekednfaaDoor
open Go.RowKit

theorem Gv.atom {n : Nat} {s : List Int} {r : Rs} (h : Atom s r) : Gv (Fc n) s (r.v, r.e) := fun _ => ⟨r, Fc.atom h, rfl, rfl⟩
theorem digs_one {c : Int} (h : isDig c = true) : Digs [c] := by
 intro x hx
 simp only [List.mem_singleton] at hx
 subst hx
 exact h
theorem atom_one {c : Int} (h : isDig c = true) : Atom [c] ⟨⟨decN [c], 0, 1, 1⟩, 0, 0⟩ := Or.inl ⟨by simp, by simp, digs_one h, rfl⟩

theorem Gv.root {n : Nat} {t : List Int} (h1 : t ≠ []) (h2 : t.length ≤ 6) (h3 : Digs t) : Gv (Fc n) (114 :: t) (qsqrt (decN t).toNat, 0) := fun _ => ⟨⟨qsqrt (decN t).toNat, 0, 0⟩, Fc.atom (Or.inr ⟨t, rfl, h1, h2, h3, rfl⟩), rfl, rfl⟩

/-- 1+2*r8/4 -/
theorem alive_one {r : Rs} (h : Rk ⟨#[49, 43, 50, 42, 114, 56, 47, 52]⟩ r) : r.e = 0 ∧ r.v = ⟨1, 1, 1, 2⟩ := by
 have g : Gv (Sm 8) (bl ⟨#[49, 43, 50, 42, 114, 56, 47, 52]⟩) (⟨1, 1, 1, 2⟩, 0) := by
  have g1 : Gv (Fc 8) [49] (⟨decN [49], 0, 1, 1⟩, 0) := Gv.atom (atom_one (c := 49) rfl)
  have g2 : Gv (Fc 8) [50] (⟨decN [50], 0, 1, 1⟩, 0) := Gv.atom (atom_one (c := 50) rfl)
  have g4 : Gv (Fc 8) [52] (⟨decN [52], 0, 1, 1⟩, 0) := Gv.atom (atom_one (c := 52) rfl)
  have g8 := Gv.root (n := 8) (t := [56]) (by simp) (by simp) (digs_one rfl)
  have g9 := add43 (p2s (f2p g1)) (Gv.op (c := 47) (Or.inr rfl) (mul42 (f2p g2) g8) g4)
  have e : opX 43 (⟨decN [49], 0, 1, 1⟩, 0) (opX 47 (opX 42 (⟨decN [50], 0, 1, 1⟩, 0) (qsqrt (decN [56]).toNat, 0)) (⟨decN [52], 0, 1, 1⟩, 0)) = (⟨1, 1, 1, 2⟩, 0) := by kernel_rfl
  rw [e] at g9
  exact g9
 rcases rk_gv h g with ⟨_, g1⟩ | ⟨_, _, g1⟩ | ⟨_, _, g1, g2⟩
 ·exact absurd g1 (by decide)
 ·exact absurd g1 (by rw [show plFault ⟨#[49, 43, 50, 42, 114, 56, 47, 52]⟩ 0 (ByteArray.size ⟨#[49, 43, 50, 42, 114, 56, 47, 52]⟩) = -1 by kernel_rfl]; decide)
 ·exact ⟨g1, g2 g1⟩
/-- 1/(2-2) -/
theorem alive_two {r : Rs} (h : Rk ⟨#[49, 47, 40, 50, 45, 50, 41]⟩ r) : r.e = 3 ∧ r.k = 1 := by
 have a1 := atom_one (c := 49) rfl
 have a2 := atom_one (c := 50) rfl
 have hs : Sm 7 [50, 45, 50] 3 (opR 45 4 ⟨⟨decN [50], 0, 1, 1⟩, 0, 0⟩ ⟨⟨decN [50], 0, 1, 1⟩, 0, 0⟩) :=
  ⟨1, [50], [45, 50], _, rfl, ⟨0, [50], [], _, rfl, Fc.atom a2, rfl, rfl⟩, 45, [50], [], _, Or.inr rfl, rfl, ⟨0, [50], [], _, rfl, Fc.atom a2, rfl, rfl⟩, rfl, rfl⟩
 have hf : Fc 8 [40, 50, 45, 50, 41] 2 (opR 45 4 ⟨⟨decN [50], 0, 1, 1⟩, 0, 0⟩ ⟨⟨decN [50], 0, 1, 1⟩, 0, 0⟩) := fc_core.2 ⟨0, _, _, rfl, Or.inr ⟨7, [50, 45, 50], rfl, rfl, hs⟩, rfl⟩
 have hw : Sm 8 (bl ⟨#[49, 47, 40, 50, 45, 50, 41]⟩) 0 (opR 47 1 ⟨⟨decN [49], 0, 1, 1⟩, 0, 0⟩ (opR 45 4 ⟨⟨decN [50], 0, 1, 1⟩, 0, 0⟩ ⟨⟨decN [50], 0, 1, 1⟩, 0, 0⟩)) :=
  ⟨0, _, [], _, (List.append_nil _).symm, ⟨1, [49], [47, 40, 50, 45, 50, 41], _, rfl, Fc.atom a1, 47, [40, 50, 45, 50, 41], [], _, Or.inr rfl, rfl, hf, rfl, rfl⟩, rfl, rfl⟩
 have e : opR 47 1 ⟨⟨decN [49], 0, 1, 1⟩, 0, 0⟩ (opR 45 4 ⟨⟨decN [50], 0, 1, 1⟩, 0, 0⟩ ⟨⟨decN [50], 0, 1, 1⟩, 0, 0⟩) = ⟨qzero, 3, 1⟩ := by kernel_rfl
 rw [e] at hw
 rcases h with ⟨g1, rfl⟩ | ⟨_, g1, rfl⟩ | ⟨_, _, r0, h3, rfl⟩
 ·exact absurd g1 (by decide)
 ·exact absurd g1 (by rw [show plFault ⟨#[49, 47, 40, 50, 45, 50, 41]⟩ 0 (ByteArray.size ⟨#[49, 47, 40, 50, 45, 50, 41]⟩) = -1 by kernel_rfl]; decide)
 ·have := sm_det h3 hw
  subst this
  exact ⟨rfl, rfl⟩

set_option maxHeartbeats 1600000 in
theorem alive_any (w : World) (ht : Tens w) : Calls Tryd.prog 12 #[] w (RetV w (.bool true)) := by
 obtain ⟨r1, h1⟩ := rk_all ⟨#[49, 43, 50, 42, 114, 56, 47, 52]⟩
 obtain ⟨r2, h2⟩ := rk_all ⟨#[49, 47, 40, 50, 45, 50, 41]⟩
 obtain ⟨a1, a2⟩ := alive_one h1
 obtain ⟨b1, b2⟩ := alive_two h2
 have H1 := fun (W : World) (hT : Tens W) => sval_any _ r1 W h1 hT
 have H2 := fun (W : World) => check_any _ r2 W h2
 have hV : valV r1 = .agg #[.string ⟨#[49]⟩, .string ⟨#[49]⟩, .string ⟨#[49]⟩, .int .i64 2] := by
  unfold valV
  rw [if_pos a1, a2]
  unfold formV
  rw [show Go.Lib.itoa 1 = [49] by rw [Go.Lib.itoa, if_neg (by decide), Go.Lib.decDigits, dif_pos (by decide)]; rfl]
  rfl
 rw [hV, a1] at H1
 rw [b1, b2] at H2
 clear hV a1 a2 b1 b2 h1 h2
 go_enter Tryd.func12, Tryd.ntmps12
 go_wp2_with fail
 refine (H1 _ ht).mono ?_
 rintro e w1 ⟨rfl, hk1⟩
 have kp1 := kp_alloc w1 (.cells #[.string ⟨#[49]⟩, .string ⟨#[49]⟩, .string ⟨#[49]⟩, .int .i64 2] 23)
 have B1 := Blk.new w1 #[.string ⟨#[49]⟩, .string ⟨#[49]⟩, .string ⟨#[49]⟩, .int .i64 2] 23
 go_wp2_with fail
 refine (H2 _).mono ?_
 rintro e w2 ⟨rfl, hk2⟩
 replace B1 := B1.keep hk2
 have b1c := B1.cell
 have b1l := B1.lt
 go_wp2_with fail
 go_ret
 exact ⟨rfl, (hk1.trans' kp1).trans' hk2⟩

end Go.Proofs.YtjahbjjekednfaaDoor
