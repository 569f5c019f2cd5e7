import Derived.Test.YtjahbjjekednfaaR14
import Derived.Test.YtjahbjjekednfaaE1
namespace Go.Proofs.Ytjahbjjekednfaa
open Go.RowKit

theorem comb_root {c : Int} {a b : Qn} (_ : Qok a) (hb : Qok b) (h : (comb c a b).2 = 0) : qroot a.d b.d ≠ 0 := by
 intro hz
 unfold comb at h
 split at h
 ·unfold qadd at h; rw [if_pos hz] at h; exact absurd h (by decide)
 ·split at h
  ·unfold qsub qadd at h
   have : qroot a.d (qneg b).d = 0 := hz
   rw [if_pos this] at h; exact absurd h (by decide)
  ·split at h
   ·unfold qmul at h; rw [if_pos hz] at h; exact absurd h (by decide)
   ·unfold qdiv at h
    split at h
    ·exact absurd h (by decide)
    ·rename_i h1
     unfold qmul at h
     rw [qinv_d hb h1, if_pos hz] at h
     exact absurd h (by decide)

theorem worked_any (c : Int) (a b : Qn) (m : Nat) (u v : Value) (w : World) (ha : NN w u a) (hb : NN w v b) (oa : Qok a) (ob : Qok b) (hm : m ≤ 9000000) (fa : QF m a) (fb : QF m b) (hc : c = 43 ∨ c = 45 ∨ c = 42 ∨ c = 47) (h : (comb c a b).2 = 0) :
  Calls Try.prog 30 #[u, .int .u8 c, v] w (RetNN w (comb c a b).1) := by
 have hroot := comb_root oa ob h
 have hD := qroot_eq oa hroot
 have hR := rooted oa ob hroot
 have D0 : 0 ≤ qroot a.d b.d := by have := hR.d0; omega
 have D2 : qroot a.d b.d ≤ 1000000 := by have := hR.d1; omega
 have hr0 : a.r * b.r ≠ 0 := mul_ne oa.r ob.r
 rcases hc with rfl | rfl | rfl | rfl
 ·have e : (comb 43 a b).1 = qaddN a b := by unfold comb qadd; rw [if_pos rfl, if_neg hroot]
  rw [e]
  exact worked_add a b m _ u v w ha hb (by omega) fa fb hD D0 D2 hr0
 ·have e : (comb 45 a b).1 = qaddN a (qneg b) := by
   unfold comb qsub qadd
   have : qroot a.d (qneg b).d ≠ 0 := hroot
   rw [if_neg (by decide), if_pos rfl, if_neg this]
  rw [e]
  exact worked_sub a b m _ u v w ha hb (by omega) fa fb hD D0 D2 hr0
 ·have e : (comb 42 a b).1 = qreduce ((a.p * b.p) + ((a.q * b.q) * qroot a.d b.d)) ((a.p * b.q) + (a.q * b.p)) (a.r * b.r) (qroot a.d b.d) := by
   unfold comb qmul
   rw [if_neg (by decide), if_neg (by decide), if_pos rfl, if_neg hroot, Int.mul_assoc]
   rfl
  rw [e]
  exact worked_mul a b m _ u v w ha hb (by omega) fa fb hD D0 D2 hr0
 ·have hz : ¬ (b.p = 0 ∧ b.q = 0) := by
   intro hz
   unfold comb qdiv at h
   rw [if_neg (by decide), if_neg (by decide), if_neg (by decide), if_pos hz] at h
   exact absurd h (by decide)
  have e : (comb 47 a b).1 = qmulN a (qinv b) := by
   have : qroot a.d (qinv b).d ≠ 0 := by rw [qinv_d ob hz]; exact hroot
   unfold comb qdiv qmul
   rw [if_neg (by decide), if_neg (by decide), if_neg (by decide), if_neg hz, if_neg this]
  have hn : (b.p * b.p) - ((b.q * b.q) * b.d) ≠ 0 := by
   have := norm_ne ob hz
   have eN : b.p * b.p - b.q * b.q * b.d = b.p * b.p + b.q * (-b.q * b.d) := by rw [Int.neg_mul, Int.mul_neg, Int.mul_assoc]; omega
   rw [eN]; exact this
  rw [e, ← ref_div oa ob hz rfl]
  exact worked_div a b m _ u v w ha hb hm fa fb hD D0 D2 47 (by decide) (by decide) (by decide) oa.r hn (by have := ob.d0; omega) (by have := ob.d1; omega)

end Go.Proofs.Ytjahbjjekednfaa
