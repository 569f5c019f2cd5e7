import Derived.Test.YtjahbjjekednfabDoorD1
namespace Go.Proofs.YtjahbjjekednfabDoor

/-- The program's way alone. -/
def pchk (d : Nat) : Bool := bif Nat.beq (kq d 50 0 * kq d 50 0) d then true else (prun d (kq d 50 0) 300 ⟨0, 1, 1, 0, 0, 1⟩).isSome
def pchkAll : Nat → Nat → Bool
 | 0, _ => true
 | n + 1, d => pchk d && pchkAll n (d + 1)
theorem pchkAll_at : ∀ (n lo d : Nat), pchkAll n lo = true → lo ≤ d → d < lo + n → pchk d = true
 | 0, lo, d, _, h1, h2 => by omega
 | n + 1, lo, d, h, h1, h2 => by
  unfold pchkAll at h
  rw [Bool.and_eq_true] at h
  by_cases e : d = lo
  ·rw [e]; exact h.1
  ·exact pchkAll_at n (lo + 1) d h.2 (by omega) (by omega)
/-- Reckoned by the kernel: the program comes to an end. -/
theorem ptab : pchkAll 2001 0 = true := by decide +kernel
theorem pell_ex {n : Nat} (hn : n ≤ 2000) (hs : ∀ m, m * m ≠ n) : ∃ J, PellAt n J := by
 have h := pchkAll_at _ _ n ptab (by omega) (by omega)
 have h1 := kq_ok (d := n) 50 0 (by omega) (by omega)
 unfold pchk at h
 have h2 : Nat.beq (kq n 50 0 * kq n 50 0) n = false := by
  cases e : Nat.beq (kq n 50 0 * kq n 50 0) n with
  | false => rfl
  | true => exact absurd (Nat.eq_of_beq_eq_true e) (hs _)
 rw [h2, cond_false] at h
 obtain ⟨⟨x, y⟩, hxy⟩ := Option.isSome_iff_exists.1 h
 obtain ⟨J, k1, _, _⟩ := pell_link h1.1 h1.2 hn hxy
 exact ⟨J, k1⟩

end Go.Proofs.YtjahbjjekednfabDoor
