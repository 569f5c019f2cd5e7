import Derived.Test.YtjahbjjekednfaaE1
import Derived.Deep.QuietTactic
import Derived.BigQuiet
namespace Go.Proofs.Ytjahbjjekednfaa
open Go.RowKit


/-- A text's bytes. -/
def bl (s : ByteArray) : List Int := s.data.toList.map (fun b => (b.toNat : Int))
theorem bl_len (s : ByteArray) : (bl s).length = s.size := by
 unfold bl
 rw [List.length_map]
 simp
theorem byteAt_bl (s : ByteArray) (i : Nat) : byteAt s i = at0 (bl s) i := by
 unfold byteAt at0 bl
 rcases Nat.lt_or_ge i s.data.toList.length with h | h
 ·rw [List.getD_eq_getElem?_getD, List.getD_eq_getElem?_getD, List.getElem?_map, List.getElem?_eq_getElem h]
  rfl
 ·rw [List.getD_eq_getElem?_getD, List.getD_eq_getElem?_getD, List.getElem?_map, List.getElem?_eq_none h]
  rfl
theorem byteAt_end (s : ByteArray) (i : Nat) (h : s.size ≤ i) : byteAt s i = 0 := by
 rw [byteAt_bl]
 exact at0_ge (by rw [bl_len]; exact h)

theorem Kp.drewN {x w : World} (h : Kp x w) (n : Nat) : Kp x (w.drewN n) := h.trans ⟨rfl, rfl, rfl, Nat.le_refl _, fun _ _ => rfl⟩
theorem KeepsBut.drewN {c : Nat} {x w : World} (h : KeepsBut c x w) (n : Nat) : KeepsBut c x (w.drewN n) := h.trans ⟨rfl, rfl, rfl, Nat.le_refl _, fun _ _ _ => rfl⟩
theorem Blk.drewN {w : World} {b : Nat} {cs : Array Value} {t : TypeId} (h : Blk w b cs t) (n : Nat) : Blk (w.drewN n) b cs t := h

/-- The reader's place. -/
def atOf (b : Nat) (w : World) : Nat := (((w.cell? ⟨b, 1, none⟩).map intOf).getD 0).toNat
theorem atOf_blk {w : World} {b : Nat} {s : ByteArray} {i : Nat} {er ea : Int} (h : Blk w b #[.string s, .int .i64 i, .int .i64 er, .int .i64 ea] 62) : atOf b w = i := by
 unfold atOf
 rw [h.cell 1]
 simp [intOf]

set_option maxHeartbeats 800000 in
theorem peek_any (s : ByteArray) (i : Nat) (er ea : Int) (b : Nat) (w : World) (hB : Blk w b #[.string s, .int .i64 i, .int .i64 er, .int .i64 ea] 62) (_ : s.size ≤ 1000) (hi : i ≤ 1000) :
  Calls Try.prog 46 #[.pointer (some ⟨b, 0, none⟩)] w (RetV w (.int .u8 (byteAt s i))) := by
 have hc := hB.cell
 have hl := hB.lt
 by_cases h : i < s.size
 ·have hb := byteAt_eq s i h
  have h1 : (i : Int) < (s.size : Int) := by omega
  have h0 : (0 : Int) ≤ (i : Int) := by omega
  go_enter Try.func46, Try.ntmps46
  go_wp2_with fail
  go_quiet (fail)
  go_wp2_with fail
  go_quiet (fail)
  go_wp2_with fail
  go_ret
  exact ⟨rfl, Kp.drewN (Kp.drewN (Below.refl _ _) _) _⟩
 ·have hb := Hid.mk (byteAt_end s i (by omega))
  have h1 : ¬ (i : Int) < (s.size : Int) := by omega
  have h0 : (0 : Int) ≤ (i : Int) := by omega
  go_enter Try.func46, Try.ntmps46
  go_wp2_with fail
  go_quiet (fail)
  go_wp2_with fail
  go_ret
  exact ⟨by rw [hb.out]; rfl, Kp.drewN (Below.refl _ _) _⟩

theorem decN_snoc (t : List Int) (c : Int) : decN (t ++ [c]) = decN t * 10 + (c - 48) := by simp [decN]
theorem take_snoc {t : List Int} {j : Nat} (h : j < t.length) : t.take (j + 1) = t.take j ++ [at0 t j] := by
 rw [List.take_add_one, List.getElem?_eq_getElem h, at0_eq h]
 rfl
theorem digs_take {t : List Int} (h : Digs t) (j : Nat) : Digs (t.take j) := fun c hc => h c (List.mem_of_mem_take hc)
theorem digs_at {t : List Int} (h : Digs t) {j : Nat} (hj : j < t.length) : isDig (at0 t j) = true := by
 rw [at0_eq hj]; exact h _ (List.getElem_mem hj)
theorem isDig_bd {c : Int} (h : isDig c = true) : 48 ≤ c ∧ c ≤ 57 := by
 unfold isDig at h
 simpa using h

/-- The text from a place on. -/
def At (s : ByteArray) (p : Nat) (l : List Int) : Prop := ∃ pre, bl s = pre ++ l ∧ pre.length = p
theorem At.size {s : ByteArray} {p : Nat} {l : List Int} (h : At s p l) : p + l.length = s.size := by
 obtain ⟨pre, h1, h2⟩ := h
 rw [← bl_len, h1, List.length_append, h2]
theorem At.byte {s : ByteArray} {p : Nat} {l : List Int} (h : At s p l) (j : Nat) : byteAt s (p + j) = at0 l j := by
 obtain ⟨pre, h1, h2⟩ := h
 rw [byteAt_bl, h1, at0_append_ge (by omega)]
 congr 1
 omega
theorem At.step {s : ByteArray} {p : Nat} {t l : List Int} (h : At s p (t ++ l)) : At s (p + t.length) l := by
 obtain ⟨pre, h1, h2⟩ := h
 exact ⟨pre ++ t, by rw [h1, List.append_assoc], by rw [List.length_append, h2]⟩

def RetD (b : Nat) (s : ByteArray) (p : Nat) (n : Int) (w : World) (e : Ending) (w' : World) : Prop :=
 e = .returned (.int .i64 n) ∧ Blk w' b #[.string s, .int .i64 p, .int .i64 0, .int .i64 0] 62 ∧ KeepsBut b w w'

set_option maxHeartbeats 1600000 in
set_option maxRecDepth 100000 in
theorem digits_any (s : ByteArray) (p : Nat) (t post : List Int) (b : Nat) (w : World) (hB : Blk w b #[.string s, .int .i64 p, .int .i64 0, .int .i64 0] 62) (hs : s.size ≤ 1000) (hat : At s p (t ++ post)) (hd : Digs t) (hl : t.length ≤ 18) (hh : Hd isD post) :
  Calls Try.prog 99 #[.pointer (some ⟨b, 0, none⟩)] w (RetD b s (p + t.length) (decN t) w) := by
 have hsz := hat.size
 rw [List.length_append] at hsz
 have HA := Hid.mk hat
 clear hat
 go_enter Try.func99, Try.ntmps99
 go_wp2_with fail
 go_loopw [3, 4] (fun n _ wr => ∃ j i : Nat, Hid (i = p + j) ∧ j ≤ t.length ∧ n = .int .i64 (decN (t.take j)) ∧ Blk wr b #[.string s, .int .i64 i, .int .i64 0, .int .i64 0] 62 ∧ KeepsBut b w wr)
  (fun _ _ wr => s.size + 1 - atOf b wr)
 case atStart => exact ⟨0, p, rfl, by omega, rfl, hB, KeepsBut.refl _ _⟩
 case round =>
  obtain ⟨j, i, HI, hj, rfl, hBr, hkr⟩ := hrel
  have hij := HI.out
  have HM := Hid.mk (atOf_blk hBr)
  have hc := hBr.cell
  have hf := hBr.frozen
  have hlt := hBr.lt
  have h0 : (0 : Int) ≤ (i : Int) := by omega
  by_cases h1 : j < t.length
  ·have hps : i < s.size := by omega
   have hb := byteAt_eq s i hps
   have HY : Hid (byteAt s i = at0 t j) := by unfold Hid; rw [hij, HA.out.byte j, at0_append_lt h1]
   have HD : Hid (isDig (byteAt s i) = true) := by
    unfold Hid
    rw [HY.out]
    exact digs_at hd h1
   have hbd := isDig_bd HD.out
   have hn := decN_bd (digs_take hd j)
   have hlen : (t.take j).length = j := by rw [List.length_take]; omega
   rw [hlen] at hn
   have hn0 := hn.1
   have hn1 : decN (t.take j) < 100000000000000000 := Int.lt_of_lt_of_le hn.2 (show (10 : Int) ^ j ≤ 10 ^ 17 by exact_mod_cast Nat.pow_le_pow_right (show 0 < 10 by decide) (show j ≤ 17 by omega))
   have HN : Hid (decN (t.take (j + 1)) = decN (t.take j) * 10 + (byteAt s i - 48)) := by
    unfold Hid
    rw [take_snoc h1, decN_snoc, HY.out]
   have hpi : (i : Int) < (s.size : Int) := by omega
   clear hn hij
   generalize decN (t.take j) = N at *
   go_wp2_with fail
   go_quiet (fail)
   go_wp2_with fail
   go_quiet (fail)
   go_wp2_with fail
   refine (isDigit_any _ _).mono ?_
   rintro e w1 ⟨rfl, rfl⟩
   rw [HD.out]
   go_wp2_with fail
   go_roundw
   case rel =>
    refine ⟨j + 1, i + 1, by have := HI.out; unfold Hid; omega, by omega, by rw [HN.out], ?_, KeepsBut.setCell (hkr.drewN _) _ _⟩
    rw [show ((i + 1 : Nat) : Int) = (i : Int) + 1 by omega]
    exact Blk.set (o := 1) (y := .int .i64 ((i : Int) + 1)) (hBr.drewN _)
   case measure =>
    rw [HM.out, atOf_blk (i := i + 1) (s := s) (er := 0) (ea := 0) (by rw [show ((i + 1 : Nat) : Int) = (i : Int) + 1 by omega]; exact Blk.set (o := 1) (y := .int .i64 ((i : Int) + 1)) (hBr.drewN _))]
    omega
  ·have hje : j = t.length := by omega
   subst hje
   by_cases h2 : i < s.size
   ·have hb := byteAt_eq s i h2
    have HD : Hid (isDig (byteAt s i) = false) := by
     unfold Hid
     rw [hij, HA.out.byte t.length, at0_append_ge (Nat.le_refl _), Nat.sub_self]
     cases post with
     | nil => rw [List.length_nil] at hsz; omega
     | cons c l => rw [at0_cons_zero]; exact Bool.eq_false_iff.mpr (hh c l rfl)
    have hpi : (i : Int) < (s.size : Int) := by omega
    clear hij
    go_wp2_with fail
    go_quiet (fail)
    go_wp2_with fail
    go_quiet (fail)
    go_wp2_with fail
    refine (isDigit_any _ _).mono ?_
    rintro e w1 ⟨rfl, rfl⟩
    rw [HD.out]
    go_wp2_with fail
    go_ret
    have hij := HI.out
    subst hij
    exact ⟨rfl, hBr.drewN _, hkr.drewN _⟩
   ·have hpi : ¬ (i : Int) < (s.size : Int) := by omega
    clear hij
    go_wp2_with fail
    go_quiet (fail)
    go_wp2_with fail
    go_ret
    have hij := HI.out
    subst hij
    exact ⟨rfl, hBr.drewN _, hkr.drewN _⟩

end Go.Proofs.Ytjahbjjekednfaa
