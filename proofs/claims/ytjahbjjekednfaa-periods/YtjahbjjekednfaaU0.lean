import Derived.Test.YtjahbjjekednfaaR9
namespace Go.Proofs.Ytjahbjjekednfaa
open Go.RowKit

/-- Digits tell a number in one way. -/
theorem dig_uni {B : Int} (hB : 0 < B) {l m : List Int} (hl : Dig B l) (hm : Dig B m) (h : val B l = val B m) : ∀ n i, l.length + m.length ≤ i + n → at0 l i = at0 m i
 | 0, i, hi => by rw [at0_ge (by omega), at0_ge (by omega)]
 | n + 1, i, hi => by
  have ih := fun j (hj : i < j) => dig_uni hB hl hm h n j (by omega)
  rcases Int.lt_trichotomy (at0 l i) (at0 m i) with k | k | k
  ·have := val_lt_top hB hl hm ih k
   omega
  ·exact k
  ·have := val_lt_top hB hm hl (fun j hj => (ih j hj).symm) k
   omega
theorem canon_len {B : Int} (hB : 1 < B) {l m : List Int} (hl : Canon B l) (hm : Canon B m) (h : val B l = val B m) : l.length = m.length := by
 rcases Nat.lt_trichotomy l.length m.length with k | k | k
 ·have := hl.lt_of_len hB hm k
  omega
 ·exact k
 ·have := hm.lt_of_len hB hl k
  omega
theorem rev_same {l m : List Int} (hl : l.length = m.length) (h : ∀ i, i < l.length → at0 l.reverse i = at0 m.reverse i) : ∀ i, at0 l i = at0 m i := fun i => by
 by_cases hi : i < l.length
 ·have := h (l.length - 1 - i) (by omega)
  rw [at0_reverse (by omega), at0_reverse (by omega), ← hl, show l.length - 1 - (l.length - 1 - i) = i by omega] at this
  exact this
 ·rw [at0_ge (by omega), at0_ge (by omega)]

end Go.Proofs.Ytjahbjjekednfaa
