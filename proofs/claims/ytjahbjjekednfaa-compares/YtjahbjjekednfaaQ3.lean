import Derived.Test.YtjahbjjekednfaaQ2
namespace Go.Proofs.Ytjahbjjekednfaa
open Go.RowKit

theorem operate_any (s : ByteArray) (i : Int) (c : Int) (p : Nat) (a r : Rs) (m : Nat) (b : Nat) (u v : Value) (w : World) (hB : Blk w b #[.string s, .int .i64 i, .int .i64 r.e, .int .i64 r.k] 62) (ha : XN w u a.v) (hb : XN w v r.v)
    (h1 : a.e = 0) (hm : m ≤ 15000000) (fa : RsOk m a) (fb : RsOk m r) :
    Calls Try.prog 47 #[.pointer (some ⟨b, 0, none⟩), u, .int .u8 c, .int .i64 p, v] w (RetO b s i (opR c p a r) w) := by
  by_cases h2 : r.e = 0
  · by_cases h3 : (comb c a.v r.v).2 = 0
    · have e : opR c p a r = ⟨(comb c a.v r.v).1, 0, r.k⟩ := by
        unfold opR
        rw [if_neg (by omega), if_neg (by omega), h3, if_pos rfl, fb.k h2]
      rw [e]
      exact operate_ok s i r.e r.k c p a r.v m b u v w hB ha hb h2 h3 hm fa.f fb.f fa.d fb.d
    · have e : opR c p a r = ⟨(comb c a.v r.v).1, (comb c a.v r.v).2, p⟩ := by
        unfold opR
        rw [if_neg (by omega), if_neg (by omega), if_neg h3]
      rw [e]
      exact operate_bad s i r.e r.k c p a r.v m b u v w hB ha hb h2 h3 hm fa.f fb.f fa.d fb.d
  · have e : opR c p a r = ⟨a.v, r.e, r.k⟩ := by
      unfold opR
      rw [if_neg (by omega), if_pos h2]
    rw [e]
    exact operate_e s i r.e r.k c p a r.v b u v w hB ha hb h2

/-- A call that has read up to a place, or come to an error ahead of it. -/
def RetS (b : Nat) (s : ByteArray) (q : Nat) (r : Rs) (w : World) (e : Ending) (w' : World) : Prop :=
  ∃ v, ∃ i : Nat, e = .returned v ∧ XN w' v r.v ∧ Blk w' b #[.string s, .int .i64 i, .int .i64 r.e, .int .i64 r.k] 62 ∧ (r.e = 0 → i = q) ∧ i ≤ q ∧ KeepsBut b w w'
/-- A function reads what F tells, where nothing of P comes next. -/
def Rds (f : Nat) (F : List Int → Nat → Rs → Prop) (P : Int → Prop) : Prop := ∀ (s : ByteArray) (p : Nat) (t post : List Int) (r : Rs) (b : Nat) (w : World), s.size ≤ 100 → At s p (t ++ post) → F t p r → Hd P post →
  Blk w b #[.string s, .int .i64 p, .int .i64 0, .int .i64 0] 62 → Calls Try.prog f #[.pointer (some ⟨b, 0, none⟩)] w (RetS b s (p + t.length) r w)
/-- A factor without a sign ahead. -/
def Bare (n : Nat) (core : List Int) (p : Nat) (r : Rs) : Prop := Atom core r ∨ ∃ n' t, n = n' + 1 ∧ core = 40 :: (t ++ [41]) ∧ Sm n' t (p + 1) r
theorem fc_bare {n : Nat} {s : List Int} {p : Nat} {r : Rs} (h : Fc n s p r) : ∃ m core r0, s = List.replicate m 45 ++ core ∧ Bare n core (p + m) r0 ∧ r = negs m r0 := by
  cases n with
  | zero =>
    obtain ⟨m, core, r0, h1, h2, h3⟩ := h
    exact ⟨m, core, r0, h1, Or.inl h2, h3⟩
  | succ n =>
    obtain ⟨m, core, r0, h1, h2, h3⟩ := h
    refine ⟨m, core, r0, h1, ?_, h3⟩
    rcases h2 with h2 | ⟨t, h4, h5⟩
    · exact Or.inl h2
    · exact Or.inr ⟨n, t, rfl, h4, h5⟩
def closes (c : Int) : Prop := (isD c ∨ mulOp c) ∨ addOp c

theorem Sf.butB {b : Nat} {w W : World} {cs : Array Value} (hB : Blk w b cs 62) (h : KeepsBut b w W) : Sf 2 w W := Sf.but h (by rw [hB.elem]; decide)

set_option maxHeartbeats 1600000 in
theorem bare_num (s : ByteArray) (p : Nat) (t post : List Int) (b : Nat) (w : World) (hs : s.size ≤ 100) (hat : At s p (t ++ post)) (ht : t ≠ []) (hl : t.length ≤ 18) (hd : Digs t) (hh : Hd isD post) (hB : Blk w b #[.string s, .int .i64 p, .int .i64 0, .int .i64 0] 62) :
    Calls Try.prog 91 #[.pointer (some ⟨b, 0, none⟩)] w (RetS b s (p + t.length) ⟨⟨decN t, 0, 1, 1⟩, 0, 0⟩ w) := by
  have hsz := hat.size
  have hlp : 0 < t.length := List.length_pos_iff.mpr ht
  have hp : p ≤ 1000 := by omega
  have hdig : isDig (byteAt s p) = true := by
    have := hat.byte 0
    rw [Nat.add_zero, at0_append_lt hlp] at this
    rw [this]; exact digs_at hd hlp
  have hbd := isDig_bd hdig
  have e1 : (byteAt s p == 40) = false := by simp; omega
  have e2 : (byteAt s p == 114) = false := by simp; omega
  have hn := decN_bd hd
  have hn2 : decN t ≤ 9223372036854775807 := by
    have : (10 : Int) ^ t.length ≤ 10 ^ 18 := by exact_mod_cast Nat.pow_le_pow_right (show 0 < 10 by decide) hl
    omega
  have hbl := hB.lt
  have hB1 : Blk (w.alloc (.cells #[.bool false, .slice none 0 0, .bool false, .slice none 0 0, .bool false, .slice none 0 0, .int .i64 0] 41)) b #[.string s, .int .i64 p, .int .i64 0, .int .i64 0] 62 := Blk.alloc hB (.cells #[.bool false, .slice none 0 0, .bool false, .slice none 0 0, .bool false, .slice none 0 0, .int .i64 0] 41)
  have R1 : Blk (w.alloc (.cells #[.bool false, .slice none 0 0, .bool false, .slice none 0 0, .bool false, .slice none 0 0, .int .i64 0] 41)) w.heap.size #[.bool false, .slice none 0 0, .bool false, .slice none 0 0, .bool false, .slice none 0 0, .int .i64 0] 41 := Blk.new w _ _
  go_enter Try.func91, Try.ntmps91
  go_wp2_with fail
  refine (peek_any s p 0 0 b _ hB1 (by omega) hp).mono ?_
  rintro e w1 ⟨rfl, hk1⟩
  replace hB1 := hB1.keep hk1
  replace R1 := R1.keep hk1
  have hkw : Kp w w1 := (kp_alloc w (.cells #[.bool false, .slice none 0 0, .bool false, .slice none 0 0, .bool false, .slice none 0 0, .int .i64 0] 41)).trans' hk1
  generalize byteAt s p = c0 at *
  go_wp2_with fail
  refine (digits_any s p t post b _ hB1 (by omega) hat hd hl hh).mono ?_
  rintro e w2 ⟨rfl, hB2, hk2⟩
  have R2 := R1.but hk2 (by omega)
  go_wp2_with fail
  refine (xfromInt_any (decN t) _ hn.1 hn2).mono ?_
  rintro e w3 ⟨v3, rfl, hv3, hk3⟩
  obtain ⟨b7, ao7, n7, c7, b8, ao8, n8, c8, b9, ao9, n9, c9, rfl, g1, g2, g3⟩ := id hv3
  clear g1 g2 g3
  have R3 := R2.keep hk3
  have R3c := R3.cell
  have R3f := R3.frozen
  have R3l := R3.lt
  have hB3 := hB2.keep hk3
  go_wp2_with fail
  refine bodyPost_ret (v := .agg #[.bool b7, .slice ao7 n7 c7, .bool b8, .slice ao8 n8 c8, .bool b9, .slice ao9 n9 c9, .int .i64 1]) (by simp [results, Try.results91, go_sem, R3c]) rfl ?_
  exact ⟨_, p + t.length, rfl, hv3.soft (Sf.set (t := 41) (c := w.heap.size) (o := 6) (y := .int .i64 1) (Sf.set (t := 41) (c := w.heap.size) (o := 5) (y := .slice ao9 n9 c9) (Sf.set (t := 41) (c := w.heap.size) (o := 4) (y := .bool b9) (Sf.set (t := 41) (c := w.heap.size) (o := 3) (y := .slice ao8 n8 c8) (Sf.set (t := 41) (c := w.heap.size) (o := 2) (y := .bool b8) (Sf.set (t := 41) (c := w.heap.size) (o := 1) (y := .slice ao7 n7 c7) (Sf.set (t := 41) (c := w.heap.size) (o := 0) (y := .bool b7) (Sf.refl 2 w3) (by first | (simp only [elemOf_setCell]; exact R3.elem) | exact R3.elem) (by decide)) (by first | (simp only [elemOf_setCell]; exact R3.elem) | exact R3.elem) (by decide)) (by first | (simp only [elemOf_setCell]; exact R3.elem) | exact R3.elem) (by decide)) (by first | (simp only [elemOf_setCell]; exact R3.elem) | exact R3.elem) (by decide)) (by first | (simp only [elemOf_setCell]; exact R3.elem) | exact R3.elem) (by decide)) (by first | (simp only [elemOf_setCell]; exact R3.elem) | exact R3.elem) (by decide)) (by first | (simp only [elemOf_setCell]; exact R3.elem) | exact R3.elem) (by decide)), (Blk.other (c := w.heap.size) (o := 6) (y := .int .i64 1) (Blk.other (c := w.heap.size) (o := 5) (y := .slice ao9 n9 c9) (Blk.other (c := w.heap.size) (o := 4) (y := .bool b9) (Blk.other (c := w.heap.size) (o := 3) (y := .slice ao8 n8 c8) (Blk.other (c := w.heap.size) (o := 2) (y := .bool b8) (Blk.other (c := w.heap.size) (o := 1) (y := .slice ao7 n7 c7) (Blk.other (c := w.heap.size) (o := 0) (y := .bool b7) hB3 (by omega)) (by omega)) (by omega)) (by omega)) (by omega)) (by omega)) (by omega)), fun _ => rfl, Nat.le_refl _, (KeepsBut.setNew (d := w.heap.size) (o := 6) (y := .int .i64 1) (KeepsBut.setNew (d := w.heap.size) (o := 5) (y := .slice ao9 n9 c9) (KeepsBut.setNew (d := w.heap.size) (o := 4) (y := .bool b9) (KeepsBut.setNew (d := w.heap.size) (o := 3) (y := .slice ao8 n8 c8) (KeepsBut.setNew (d := w.heap.size) (o := 2) (y := .bool b8) (KeepsBut.setNew (d := w.heap.size) (o := 1) (y := .slice ao7 n7 c7) (KeepsBut.setNew (d := w.heap.size) (o := 0) (y := .bool b7) (((KeepsBut.of_kp hkw).trans hk2).trans (KeepsBut.of_kp hk3)) (Nat.le_refl _)) (Nat.le_refl _)) (Nat.le_refl _)) (Nat.le_refl _)) (Nat.le_refl _)) (Nat.le_refl _)) (Nat.le_refl _))⟩

set_option maxHeartbeats 1600000 in
theorem bare_root (s : ByteArray) (p : Nat) (t post : List Int) (b : Nat) (w : World) (hs : s.size ≤ 100) (hat : At s p (114 :: (t ++ post))) (ht : t ≠ []) (hl : t.length ≤ 6) (hd : Digs t) (hh : Hd isD post) (hB : Blk w b #[.string s, .int .i64 p, .int .i64 0, .int .i64 0] 62) :
    Calls Try.prog 91 #[.pointer (some ⟨b, 0, none⟩)] w (RetS b s (p + (t.length + 1)) ⟨qsqrt (decN t).toNat, 0, 0⟩ w) := by
  have hsz := hat.size
  have hat1 : At s (p + 1) (t ++ post) := At.step (t := [114]) hat
  have hlp : 0 < t.length := List.length_pos_iff.mpr ht
  have hsz1 := hat1.size
  have hp : p ≤ 1000 := by omega
  have hc0 : byteAt s p = 114 := by
    have := hat.byte 0
    rwa [Nat.add_zero, at0_cons_zero] at this
  have hn := decN_bd hd
  have hn2 : (decN t).toNat < 1000000 := by
    have : (10 : Int) ^ t.length ≤ 10 ^ 6 := by exact_mod_cast Nat.pow_le_pow_right (show 0 < 10 by decide) hl
    omega
  have HDG := fun (w' : World) (hB' : Blk w' b #[.string s, .int .i64 ((p + 1 : Nat) : Int), .int .i64 0, .int .i64 0] 62) => digits_any s (p + 1) t post b w' hB' (by omega) hat1 hd (by omega) hh
  generalize decN t = D at *
  obtain ⟨N, rfl⟩ := Int.eq_ofNat_of_zero_le hn.1
  rw [Int.toNat_natCast] at *
  have hbl := hB.lt
  have hB1 : Blk (w.alloc (.cells #[.bool false, .slice none 0 0, .bool false, .slice none 0 0, .bool false, .slice none 0 0, .int .i64 0] 41)) b #[.string s, .int .i64 p, .int .i64 0, .int .i64 0] 62 := Blk.alloc hB (.cells #[.bool false, .slice none 0 0, .bool false, .slice none 0 0, .bool false, .slice none 0 0, .int .i64 0] 41)
  have R1 : Blk (w.alloc (.cells #[.bool false, .slice none 0 0, .bool false, .slice none 0 0, .bool false, .slice none 0 0, .int .i64 0] 41)) w.heap.size #[.bool false, .slice none 0 0, .bool false, .slice none 0 0, .bool false, .slice none 0 0, .int .i64 0] 41 := Blk.new w _ _
  go_enter Try.func91, Try.ntmps91
  go_wp2_with fail
  refine (peek_any s p 0 0 b _ hB1 (by omega) hp).mono ?_
  rintro e w1 ⟨rfl, hk1⟩
  replace hB1 := hB1.keep hk1
  replace R1 := R1.keep hk1
  have hkw : Kp w w1 := (kp_alloc w (.cells #[.bool false, .slice none 0 0, .bool false, .slice none 0 0, .bool false, .slice none 0 0, .int .i64 0] 41)).trans' hk1
  rw [hc0]
  have b1c := hB1.cell
  have b1f := hB1.frozen
  have b1l := hB1.lt
  go_wp2_with fail
  have hB1' : Blk (w1.setCell ⟨b, 1, none⟩ (.int .i64 ((p : Int) + 1))) b #[.string s, .int .i64 ((p + 1 : Nat) : Int), .int .i64 0, .int .i64 0] 62 := by
    rw [show ((p + 1 : Nat) : Int) = (p : Int) + 1 by omega]
    exact Blk.set (o := 1) (y := .int .i64 ((p : Int) + 1)) hB1
  refine (HDG _ hB1').mono ?_
  rintro e w2 ⟨rfl, hB2, hk2⟩
  have hk2' : KeepsBut b w1 w2 := (KeepsBut.setCell (KeepsBut.refl b w1) 1 (.int .i64 ((p : Int) + 1))).trans hk2
  have R2 := R1.but hk2' (by omega)
  go_wp2_with fail
  refine (root_any N _ hn2).mono ?_
  rintro e w3 ⟨v3, rfl, hv3, hk3⟩
  obtain ⟨b7, ao7, n7, c7, b8, ao8, n8, c8, b9, ao9, n9, c9, rfl, g1, g2, g3⟩ := id hv3
  clear g1 g2 g3
  generalize qsqrt N = Q at *
  have R3 := R2.keep hk3
  have R3c := R3.cell
  have R3f := R3.frozen
  have R3l := R3.lt
  have hB3 := hB2.keep hk3
  go_wp2_with fail
  refine bodyPost_ret (v := .agg #[.bool b7, .slice ao7 n7 c7, .bool b8, .slice ao8 n8 c8, .bool b9, .slice ao9 n9 c9, .int .i64 Q.d]) (by simp [results, Try.results91, go_sem, R3c]) rfl ?_
  exact ⟨_, p + 1 + t.length, rfl, hv3.soft (Sf.set (t := 41) (c := w.heap.size) (o := 6) (y := .int .i64 Q.d) (Sf.set (t := 41) (c := w.heap.size) (o := 5) (y := .slice ao9 n9 c9) (Sf.set (t := 41) (c := w.heap.size) (o := 4) (y := .bool b9) (Sf.set (t := 41) (c := w.heap.size) (o := 3) (y := .slice ao8 n8 c8) (Sf.set (t := 41) (c := w.heap.size) (o := 2) (y := .bool b8) (Sf.set (t := 41) (c := w.heap.size) (o := 1) (y := .slice ao7 n7 c7) (Sf.set (t := 41) (c := w.heap.size) (o := 0) (y := .bool b7) (Sf.refl 2 w3) (by first | (simp only [elemOf_setCell]; exact R3.elem) | exact R3.elem) (by decide)) (by first | (simp only [elemOf_setCell]; exact R3.elem) | exact R3.elem) (by decide)) (by first | (simp only [elemOf_setCell]; exact R3.elem) | exact R3.elem) (by decide)) (by first | (simp only [elemOf_setCell]; exact R3.elem) | exact R3.elem) (by decide)) (by first | (simp only [elemOf_setCell]; exact R3.elem) | exact R3.elem) (by decide)) (by first | (simp only [elemOf_setCell]; exact R3.elem) | exact R3.elem) (by decide)) (by first | (simp only [elemOf_setCell]; exact R3.elem) | exact R3.elem) (by decide)), (Blk.other (c := w.heap.size) (o := 6) (y := .int .i64 Q.d) (Blk.other (c := w.heap.size) (o := 5) (y := .slice ao9 n9 c9) (Blk.other (c := w.heap.size) (o := 4) (y := .bool b9) (Blk.other (c := w.heap.size) (o := 3) (y := .slice ao8 n8 c8) (Blk.other (c := w.heap.size) (o := 2) (y := .bool b8) (Blk.other (c := w.heap.size) (o := 1) (y := .slice ao7 n7 c7) (Blk.other (c := w.heap.size) (o := 0) (y := .bool b7) hB3 (by omega)) (by omega)) (by omega)) (by omega)) (by omega)) (by omega)) (by omega)), fun _ => by omega, by omega, (KeepsBut.setNew (d := w.heap.size) (o := 6) (y := .int .i64 Q.d) (KeepsBut.setNew (d := w.heap.size) (o := 5) (y := .slice ao9 n9 c9) (KeepsBut.setNew (d := w.heap.size) (o := 4) (y := .bool b9) (KeepsBut.setNew (d := w.heap.size) (o := 3) (y := .slice ao8 n8 c8) (KeepsBut.setNew (d := w.heap.size) (o := 2) (y := .bool b8) (KeepsBut.setNew (d := w.heap.size) (o := 1) (y := .slice ao7 n7 c7) (KeepsBut.setNew (d := w.heap.size) (o := 0) (y := .bool b7) (((KeepsBut.of_kp hkw).trans hk2').trans (KeepsBut.of_kp hk3)) (Nat.le_refl _)) (Nat.le_refl _)) (Nat.le_refl _)) (Nat.le_refl _)) (Nat.le_refl _)) (Nat.le_refl _)) (Nat.le_refl _))⟩

set_option maxHeartbeats 1600000 in
theorem bare_par (n : Nat) (hS : Rds 22 (Sm n) closes) (s : ByteArray) (p : Nat) (t post : List Int) (r : Rs) (b : Nat) (w : World) (hs : s.size ≤ 100) (hat : At s p (40 :: (t ++ (41 :: post)))) (ht : Sm n t (p + 1) r) (hB : Blk w b #[.string s, .int .i64 p, .int .i64 0, .int .i64 0] 62) :
    Calls Try.prog 91 #[.pointer (some ⟨b, 0, none⟩)] w (RetS b s (p + (t.length + 1 + 1)) r w) := by
  have hsz := hat.size
  have hat1 : At s (p + 1) (t ++ (41 :: post)) := At.step (t := [40]) hat
  have hsz1 := hat1.size
  rw [List.length_append] at hsz1
  have hp : p ≤ 1000 := by omega
  have hc0 : byteAt s p = 40 := by
    have := hat.byte 0
    rwa [Nat.add_zero, at0_cons_zero] at this
  have hcl : Hd closes (41 :: post) := by
    intro c l e
    cases e
    unfold closes isD mulOp addOp isDig
    decide
  have hbl := hB.lt
  have hB1 : Blk (w.alloc (.cells #[.bool false, .slice none 0 0, .bool false, .slice none 0 0, .bool false, .slice none 0 0, .int .i64 0] 41)) b #[.string s, .int .i64 p, .int .i64 0, .int .i64 0] 62 := Blk.alloc hB (.cells #[.bool false, .slice none 0 0, .bool false, .slice none 0 0, .bool false, .slice none 0 0, .int .i64 0] 41)
  have R1 : Blk (w.alloc (.cells #[.bool false, .slice none 0 0, .bool false, .slice none 0 0, .bool false, .slice none 0 0, .int .i64 0] 41)) w.heap.size #[.bool false, .slice none 0 0, .bool false, .slice none 0 0, .bool false, .slice none 0 0, .int .i64 0] 41 := Blk.new w _ _
  go_enter Try.func91, Try.ntmps91
  go_wp2_with fail
  refine (peek_any s p 0 0 b _ hB1 (by omega) hp).mono ?_
  rintro e w1 ⟨rfl, hk1⟩
  replace hB1 := hB1.keep hk1
  replace R1 := R1.keep hk1
  have hkw : Kp w w1 := (kp_alloc w (.cells #[.bool false, .slice none 0 0, .bool false, .slice none 0 0, .bool false, .slice none 0 0, .int .i64 0] 41)).trans' hk1
  rw [hc0]
  have b1c := hB1.cell
  have b1f := hB1.frozen
  have b1l := hB1.lt
  go_wp2_with fail
  have hB1' : Blk (w1.setCell ⟨b, 1, none⟩ (.int .i64 ((p : Int) + 1))) b #[.string s, .int .i64 ((p + 1 : Nat) : Int), .int .i64 0, .int .i64 0] 62 := by
    rw [show ((p + 1 : Nat) : Int) = (p : Int) + 1 by omega]
    exact Blk.set (o := 1) (y := .int .i64 ((p : Int) + 1)) hB1
  refine (hS s (p + 1) t (41 :: post) r b _ hs hat1 ht hcl hB1').mono ?_
  rintro e w2 ⟨v2, i, rfl, hv2, hB2, hi1, hi2, hk2⟩
  have hk2' : KeepsBut b w1 w2 := (KeepsBut.setCell (KeepsBut.refl b w1) 1 (.int .i64 ((p : Int) + 1))).trans hk2
  have R2 := R1.but hk2' (by omega)
  obtain ⟨b7, ao7, n7, c7, b8, ao8, n8, c8, b9, ao9, n9, c9, rfl, g1, g2, g3⟩ := id hv2
  clear g1 g2 g3
  have R3c := R2.cell
  have R3f := R2.frozen
  have R3l := R2.lt
  have b2c := hB2.cell
  have b2f := hB2.frozen
  have b2l := hB2.lt
  have HI := Hid.mk hi1
  clear hi1
  go_wp2_with fail
  refine bodyPost_ret (v := .agg #[.bool b7, .slice ao7 n7 c7, .bool b8, .slice ao8 n8 c8, .bool b9, .slice ao9 n9 c9, .int .i64 r.v.d]) (by simp [results, Try.results91, go_sem, R3c, R3l]) rfl ?_
  have hE : Blk _ b #[.string s, .int .i64 ((i : Int) + 1), .int .i64 r.e, .int .i64 r.k] 62 := Blk.alloc (Blk.other (c := w.heap.size) (o := 6) (y := .int .i64 r.v.d) (Blk.other (c := w.heap.size) (o := 5) (y := .slice ao9 n9 c9) (Blk.other (c := w.heap.size) (o := 4) (y := .bool b9) (Blk.other (c := w.heap.size) (o := 3) (y := .slice ao8 n8 c8) (Blk.other (c := w.heap.size) (o := 2) (y := .bool b8) (Blk.other (c := w.heap.size) (o := 1) (y := .slice ao7 n7 c7) (Blk.other (c := w.heap.size) (o := 0) (y := .bool b7) (Blk.set (o := 1) (y := .int .i64 ((i : Int) + 1)) hB2) (by omega)) (by omega)) (by omega)) (by omega)) (by omega)) (by omega)) (by omega)) (.cells #[.bool b7, .slice ao7 n7 c7, .bool b8, .slice ao8 n8 c8, .bool b9, .slice ao9 n9 c9, .int .i64 r.v.d] 41)
  rw [show (i : Int) + 1 = ((i + 1 : Nat) : Int) by omega] at hE
  exact ⟨_, i + 1, rfl, hv2.soft (Sf.alloc (Sf.set (t := 41) (c := w.heap.size) (o := 6) (y := .int .i64 r.v.d) (Sf.set (t := 41) (c := w.heap.size) (o := 5) (y := .slice ao9 n9 c9) (Sf.set (t := 41) (c := w.heap.size) (o := 4) (y := .bool b9) (Sf.set (t := 41) (c := w.heap.size) (o := 3) (y := .slice ao8 n8 c8) (Sf.set (t := 41) (c := w.heap.size) (o := 2) (y := .bool b8) (Sf.set (t := 41) (c := w.heap.size) (o := 1) (y := .slice ao7 n7 c7) (Sf.set (t := 41) (c := w.heap.size) (o := 0) (y := .bool b7) (Sf.set (t := 62) (c := b) (o := 1) (y := .int .i64 ((i : Int) + 1)) (Sf.refl 2 w2) hB2.elem (by decide)) (by first | (simp only [elemOf_setCell]; exact R2.elem) | exact R2.elem) (by decide)) (by first | (simp only [elemOf_setCell]; exact R2.elem) | exact R2.elem) (by decide)) (by first | (simp only [elemOf_setCell]; exact R2.elem) | exact R2.elem) (by decide)) (by first | (simp only [elemOf_setCell]; exact R2.elem) | exact R2.elem) (by decide)) (by first | (simp only [elemOf_setCell]; exact R2.elem) | exact R2.elem) (by decide)) (by first | (simp only [elemOf_setCell]; exact R2.elem) | exact R2.elem) (by decide)) (by first | (simp only [elemOf_setCell]; exact R2.elem) | exact R2.elem) (by decide)) (.cells #[.bool b7, .slice ao7 n7 c7, .bool b8, .slice ao8 n8 c8, .bool b9, .slice ao9 n9 c9, .int .i64 r.v.d] 41)), hE, fun h => by have := HI.out h; omega, by omega, KeepsBut.alloc (KeepsBut.setNew (d := w.heap.size) (o := 6) (y := .int .i64 r.v.d) (KeepsBut.setNew (d := w.heap.size) (o := 5) (y := .slice ao9 n9 c9) (KeepsBut.setNew (d := w.heap.size) (o := 4) (y := .bool b9) (KeepsBut.setNew (d := w.heap.size) (o := 3) (y := .slice ao8 n8 c8) (KeepsBut.setNew (d := w.heap.size) (o := 2) (y := .bool b8) (KeepsBut.setNew (d := w.heap.size) (o := 1) (y := .slice ao7 n7 c7) (KeepsBut.setNew (d := w.heap.size) (o := 0) (y := .bool b7) (KeepsBut.setCell ((KeepsBut.of_kp hkw).trans hk2') 1 (.int .i64 ((i : Int) + 1))) (Nat.le_refl _)) (Nat.le_refl _)) (Nat.le_refl _)) (Nat.le_refl _)) (Nat.le_refl _)) (Nat.le_refl _)) (Nat.le_refl _)) (.cells #[.bool b7, .slice ao7 n7 c7, .bool b8, .slice ao8 n8 c8, .bool b9, .slice ao9 n9 c9, .int .i64 r.v.d] 41)⟩

theorem bare_any (n : Nat) (hS : ∀ n', n = n' + 1 → Rds 22 (Sm n') closes) : Rds 91 (Bare n) isD := by
  intro s p t post r b w hs hat ht hh hB
  rcases ht with (⟨h1, h2, h3, rfl⟩ | ⟨t', rfl, h1, h2, h3, rfl⟩) | ⟨n', t', h1, rfl, h2⟩
  · exact bare_num s p t post b w hs hat h1 h2 h3 hh hB
  · exact bare_root s p t' post b w hs hat h1 h2 h3 hh hB
  · have hat' : At s p (40 :: (t' ++ (41 :: post))) := by
      have e : 40 :: (t' ++ [41]) ++ post = 40 :: (t' ++ (41 :: post)) := by simp
      rwa [e] at hat
    have h := bare_par n' (hS n' h1) s p t' post r b w hs hat' h2 hB
    have e : (40 :: (t' ++ [(41 : Int)])).length = t'.length + 1 + 1 := by simp
    rw [e]; exact h

end Go.Proofs.Ytjahbjjekednfaa
