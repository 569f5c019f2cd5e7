import Derived.Test.YtjahbjjekednfaaDoorQ1
import Derived.Test.YtjahbjjekednfaaDoorW8
import Derived.Test.YtjahbjjekednfaaDoorV1
namespace Go.Proofs.YtjahbjjekednfaaDoor
open Go.RowKit

theorem decN_fold : ∀ (b : List Int) (n : Int), b.foldl (fun n c => n * 10 + (c - 48)) n = n * 10 ^ b.length + decN b
 | [], n => by simp [decN]
 | c :: b, n => by
  unfold decN
  rw [List.foldl_cons, List.foldl_cons, decN_fold b, decN_fold b (0 * 10 + (c - 48)), List.length_cons, Int.pow_succ]
  grind
theorem decN_app (a b : List Int) : decN (a ++ b) = decN a * 10 ^ b.length + decN b := by
 rw [← decN_fold b (decN a)]
 unfold decN
 rw [List.foldl_append]
/-- A part of the digits. -/
def chk (t : List Int) (a b : Nat) : Int := decN ((t.take b).drop a)
theorem chk_nil (t : List Int) (a : Nat) : chk t a a = 0 := by
 unfold chk
 rw [List.drop_eq_nil_of_le (by rw [List.length_take]; omega)]
 rfl
theorem chk_step {t : List Int} {a b : Nat} (h : a ≤ b) (hb : b < t.length) : chk t a (b + 1) = chk t a b * 10 + (at0 t b - 48) := by
 unfold chk
 rw [take_snoc hb, List.drop_append_of_le_length (by rw [List.length_take]; omega), decN_snoc]
theorem chk_bd {t : List Int} (h : Digs t) (a b : Nat) : 0 ≤ chk t a b ∧ chk t a b < 10 ^ (b - a) := by
 have hd : Digs ((t.take b).drop a) := fun c hc => h c (List.mem_of_mem_take (List.mem_of_mem_drop hc))
 obtain ⟨h0, h1⟩ := decN_bd hd
 refine ⟨h0, Int.lt_of_lt_of_le h1 ?_⟩
 exact_mod_cast Nat.pow_le_pow_right (show 0 < 10 by decide) (show ((t.take b).drop a).length ≤ b - a by rw [List.length_drop, List.length_take]; omega)
theorem chk_split {t : List Int} {a b : Nat} (h : a ≤ b) (hb : b ≤ t.length) : decN (t.drop a) = chk t a b * 10 ^ (t.length - b) + decN (t.drop b) := by
 unfold chk
 have e : t.drop a = (t.take b).drop a ++ t.drop b := by
  conv => lhs; rw [← List.take_append_drop b t]
  rw [List.drop_append_of_le_length (by rw [List.length_take]; omega)]
 rw [e, decN_app, List.length_drop]

end Go.Proofs.YtjahbjjekednfaaDoor

namespace Go.Proofs.YtjahbjjekednfaaDoor
open Go.RowKit Go.Lib

/-- Bytes as numbers. -/
def bi (t : List UInt8) : List Int := t.map (fun b => (b.toNat : Int))
theorem bi_app (a b : List UInt8) : bi (a ++ b) = bi a ++ bi b := List.map_append
theorem decN_dec : ∀ (n u : Nat), u ≤ n → Digs (bi (decDigits u)) ∧ decN (bi (decDigits u)) = u
 | 0, u, h => by
  obtain rfl : u = 0 := by omega
  rw [decDigits, dif_pos (by decide)]
  exact ⟨fun c hc => by simp [bi] at hc; rw [hc]; rfl, rfl⟩
 | n + 1, u, h => by
  by_cases h1 : u < 10
  ·rw [decDigits, dif_pos h1]
   have e : (UInt8.ofNat (48 + u)).toNat = 48 + u := by simp; omega
   have e2 : bi [UInt8.ofNat (48 + u)] = [((48 + u : Nat) : Int)] := by unfold bi; rw [List.map_cons, e]; rfl
   rw [e2]
   refine ⟨fun c hc => ?_, ?_⟩
   ·simp only [List.mem_singleton] at hc
    rw [hc]; unfold isDig; simp; omega
   ·unfold decN; simp; omega
  ·obtain ⟨k1, k2⟩ := decN_dec n (u / 10) (by omega)
   rw [dec_big h1, bi_app]
   have e : (UInt8.ofNat (48 + u % 10)).toNat = 48 + u % 10 := by simp; omega
   have e2 : bi [UInt8.ofNat (48 + u % 10)] = [((48 + u % 10 : Nat) : Int)] := by unfold bi; rw [List.map_cons, e]; rfl
   rw [e2]
   refine ⟨fun c hc => ?_, ?_⟩
   ·rcases List.mem_append.1 hc with hc | hc
    ·exact k1 c hc
    ·simp only [List.mem_singleton] at hc
     rw [hc]; unfold isDig; simp; omega
   ·rw [decN_snoc, k2]; omega
/-- Digits without a nought ahead are a numeral. -/
theorem dec_decN : ∀ (n : Nat) (t : List UInt8), t.length = n + 1 → Digs (bi t) → t.head? ≠ some 48 → 0 < decN (bi t) ∧ decDigits (decN (bi t)).toNat = t
 | 0, t, hl, hd, hh => by
  match t, hl with
  | [c], _ =>
   have hc := isDig_bd (hd (c.toNat : Int) (by simp [bi]))
   have hc2 : c.toNat ≠ 48 := fun e => hh (by rw [show c = 48 from UInt8.toNat_inj.1 e]; rfl)
   have e : decN (bi [c]) = (c.toNat : Int) - 48 := by unfold decN bi; simp
   rw [e]
   refine ⟨by omega, ?_⟩
   rw [decDigits, dif_pos (by omega)]
   congr 1
   apply UInt8.toNat_inj.1
   simp
   omega
 | n + 1, t, hl, hd, hh => by
  obtain ⟨a, c, rfl⟩ : ∃ a c, t = a ++ [c] := ⟨t.dropLast, t.getLast (by intro e; rw [e] at hl; simp at hl), (List.dropLast_concat_getLast _).symm⟩
  have hla : a.length = n + 1 := by rw [List.length_append] at hl; simpa using hl
  rw [bi_app] at *
  have hda : Digs (bi a) := fun x hx => hd x (List.mem_append_left _ hx)
  have hc := isDig_bd (hd (c.toNat : Int) (by simp [bi]))
  have hha : a.head? ≠ some 48 := by
   intro e
   apply hh
   cases a with
   | nil => simp at hla
   | cons x y => exact e
  obtain ⟨k1, k2⟩ := dec_decN n a hla hda hha
  have e : decN (bi a ++ bi [c]) = decN (bi a) * 10 + ((c.toNat : Int) - 48) := decN_snoc _ _
  rw [e]
  refine ⟨by omega, ?_⟩
  rw [dec_big (by omega), show (decN (bi a) * 10 + ((c.toNat : Int) - 48)).toNat / 10 = (decN (bi a)).toNat by omega, k2]
  congr 2
  apply UInt8.toNat_inj.1
  simp
  omega

theorem bl_strOf (t : List UInt8) : bl (strOf t) = bi t := rfl

/-- The text tells the number z. -/
def NumT (s : ByteArray) (z : Int) : Prop := s = strOf (itoa z)
theorem dec_ne (u : Nat) : decDigits u ≠ [] := by
 rw [decDigits]
 split <;> simp
theorem dec_h {u : Nat} (h : 0 < u) : (decDigits u).head? ≠ some 48 := by
 obtain ⟨c, l, e, h1⟩ := dec_head u u (Nat.le_refl _) h
 rw [e]
 intro k
 exact h1 (by simpa using k)
/-- What a whole number's text looks like: digits with no nought ahead, maybe behind a '-'; or "0". -/
def Shp (t : List UInt8) : Prop := t = [48] ∨ (t ≠ [] ∧ Digs (bi t) ∧ t.head? ≠ some 48)
theorem numT_pos {t : List UInt8} (h : Shp t) : NumT (strOf t) (decN (bi t)) := by
 unfold NumT
 rcases h with h | ⟨h1, h2, h3⟩
 ·subst h; rw [show decN (bi [48]) = 0 by rfl, itoa, if_neg (by decide), decDigits, dif_pos (by decide)]; rfl
 ·obtain ⟨k1, k2⟩ := dec_decN (t.length - 1) t (by have := List.length_pos_iff.2 h1; omega) h2 h3
  rw [itoa, if_neg (by omega), k2]
theorem numT_neg {t : List UInt8} (h1 : t ≠ []) (h2 : Digs (bi t)) (h3 : t.head? ≠ some 48) : NumT (strOf (45 :: t)) (- decN (bi t)) := by
 unfold NumT
 obtain ⟨k1, k2⟩ := dec_decN (t.length - 1) t (by have := List.length_pos_iff.2 h1; omega) h2 h3
 rw [itoa, if_pos (by omega), show (-decN (bi t)).natAbs = (decN (bi t)).toNat by omega, k2]
theorem strOf_inj {a b : List UInt8} (h : strOf a = strOf b) : a = b := by
 have := congrArg (fun s : ByteArray => s.data.toList) h
 simpa [strOf] using this
/-- And all such texts. -/
theorem numT_of {t : List UInt8} {z : Int} (h : NumT (strOf t) z) : (0 ≤ z ∧ Shp t ∧ z = decN (bi t)) ∨ (z < 0 ∧ ∃ t', t = 45 :: t' ∧ t' ≠ [] ∧ Digs (bi t') ∧ t'.head? ≠ some 48 ∧ z = - decN (bi t')) := by
 have e := strOf_inj h
 unfold itoa at e
 by_cases hz : z < 0
 ·rw [if_pos hz] at e
  obtain ⟨k1, k2⟩ := decN_dec _ _ (Nat.le_refl z.natAbs)
  exact Or.inr ⟨hz, _, e, dec_ne _, k1, dec_h (by omega), by rw [k2]; omega⟩
 ·rw [if_neg hz] at e
  obtain ⟨k1, k2⟩ := decN_dec _ _ (Nat.le_refl z.toNat)
  rw [← e] at k1 k2
  refine Or.inl ⟨by omega, ?_, by rw [k2]; omega⟩
  by_cases h0 : z = 0
  ·left; rw [e, h0, decDigits, dif_pos (by decide)]; rfl
  ·right; exact ⟨by rw [e]; exact dec_ne _, k1, by rw [e]; exact dec_h (by omega)⟩
theorem numT_uni {s : ByteArray} {z z' : Int} (h : NumT s z) (h' : NumT s z') : z = z' := by
 obtain rfl := h
 rcases numT_of (t := itoa z) (z := z) rfl with ⟨a1, a2, a3⟩ | ⟨a1, t1, a2, a3, a4, a5, a6⟩ <;> rcases numT_of h' with ⟨b1, b2, b3⟩ | ⟨b1, t2, b2, b3, b4, b5, b6⟩
 ·omega
 ·exfalso
  rw [b2] at a2
  rcases a2 with e | ⟨_, e, _⟩
  ·simp at e
  ·have := e 45 (by simp [bi]); exact absurd this (by decide)
 ·exfalso
  rw [a2] at b2
  rcases b2 with e | ⟨_, e, _⟩
  ·simp at e
  ·have := e 45 (by simp [bi]); exact absurd this (by decide)
 ·rw [a2] at b2
  have : t1 = t2 := by simpa using b2
  rw [a6, b6, this]

theorem str_sz (c : UInt8) (t : List UInt8) : (strOf (c :: t)).size = t.length + 1 := by rw [strOf_size]; rfl

end Go.Proofs.YtjahbjjekednfaaDoor
