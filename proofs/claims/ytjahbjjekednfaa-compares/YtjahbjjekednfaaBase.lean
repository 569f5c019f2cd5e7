import Derived.WalkSpells
import Derived.WalkLawsBesides
import Derived.Laws.AppendOwnNone
import Derived.Test.YtjahbjjekednfaaMath
/-! What the walks share: rows of integers in memory, and what a call leaves as it was. -/
namespace Go.Proofs.Ytjahbjjekednfaa
open Go.RowKit

/-- The element type of a block of cells. -/
def elemOf (w : World) (b : Nat) : Option TypeId := (w.shape? b).map (·.1)


/-- The integers as cells. -/
def vals (l : List Int) : List Value := l.map (Value.int .i64)

/-- The slice value v reads as the integers l (elements of type E, kind i64). -/
def Row (w : World) (E : TypeId) (v : Value) (l : List Int) : Prop :=
 ∃ (ao : Option Addr) (cap b off : Nat), v = .slice ao l.length cap ∧ l.length ≤ cap ∧ cap ≤ 9223372036854775807 ∧ (ao = none → cap = 0) ∧
  (0 < l.length → ao = some ⟨b, off, none⟩ ∧ elemOf w b = some E) ∧
  (∀ i, i < l.length → w.cell? ⟨b, off + i, none⟩ = some (.int .i64 (at0 l i)))

/-- All blocks but block c are as they were. -/
structure KeepsBut (c : Nat) (w w' : World) : Prop where
 os : w'.os = w.os
 tape : w'.tape = w.tape
 output : w'.output = w.output
 size : w.heap.size ≤ w'.heap.size
 block : ∀ k, k < w.heap.size → k ≠ c → w'.heap[k]? = w.heap[k]?

/-- All old blocks are as they were. -/
abbrev Kp (w w' : World) : Prop := Below w.heap.size w w'

theorem Kp.trans' {a b c : World} (h : Kp a b) (k : Kp b c) : Kp a c := h.trans (k.mono h.size)
theorem kp_alloc (w : World) (o : Obj) : Kp w (w.alloc o) := (Below.refl _ _).alloc (Nat.le_refl _) o
theorem Kp.alloc' {a w : World} (h : Kp a w) (o : Obj) : Kp a (w.alloc o) := h.alloc h.size o
theorem Kp.drew' {a w : World} (h : Kp a w) : Kp a w.drew := h.drew
theorem Kp.grown' {a w w' : World} {row : Option Nat} (h : Kp a w) (hg : w.grownBy w' row) (hr : ∀ k, row = some k → a.heap.size ≤ k) : Kp a w' := h.grown hg h.size hr
theorem Hid.mk {p : Prop} (h : p) : Hid p := h
theorem Kp.but {c : Nat} {w w' : World} (h : Kp w w') : KeepsBut c w w' := ⟨h.os, h.tape, h.output, h.size, fun k hk _ => h.block k hk⟩
theorem KeepsBut.refl (c : Nat) (w : World) : KeepsBut c w w := ⟨rfl, rfl, rfl, Nat.le_refl _, fun _ _ _ => rfl⟩
theorem KeepsBut.trans {c : Nat} {x y z : World} (h : KeepsBut c x y) (k : KeepsBut c y z) : KeepsBut c x z :=
 ⟨k.os.trans h.os, k.tape.trans h.tape, k.output.trans h.output, Nat.le_trans h.size k.size, fun i hi hc => (k.block i (Nat.lt_of_lt_of_le hi h.size) hc).trans (h.block i hi hc)⟩
theorem KeepsBut.setCell {c : Nat} {x w : World} (h : KeepsBut c x w) (o : Nat) (u : Value) : KeepsBut c x (w.setCell ⟨c, o, none⟩ u) :=
 h.trans ⟨rfl, rfl, rfl, by simp [World.setCell], fun k _ hc => Below.heap_setCell _ _ _ _ hc⟩
theorem KeepsBut.below {c : Nat} {x w : World} (h : KeepsBut c x w) (hc : x.heap.size ≤ c) : Kp x w :=
 ⟨h.os, h.tape, h.output, h.size, fun k hk => h.block k hk (by omega)⟩
theorem KeepsBut.alloc {c : Nat} {x w : World} (h : KeepsBut c x w) (o : Obj) : KeepsBut c x (w.alloc o) :=
 h.trans ⟨rfl, rfl, rfl, by simp, fun k hk _ => Below.heap_alloc _ _ _ hk⟩
theorem KeepsBut.drew {c : Nat} {x w : World} (h : KeepsBut c x w) : KeepsBut c x w.drew :=
 h.trans ⟨rfl, rfl, rfl, Nat.le_refl _, fun _ _ _ => rfl⟩

theorem elemOf_lt {w : World} {b : Nat} {E : TypeId} (h : elemOf w b = some E) : b < w.heap.size := by
 unfold elemOf World.shape? at h
 rcases Nat.lt_or_ge b w.heap.size with h1 | h1
 ·exact h1
 ·rw [Array.getElem?_eq_none h1] at h
  simp at h

theorem elemOf_block {w w' : World} {b : Nat} (h : w'.heap[b]? = w.heap[b]?) : elemOf w' b = elemOf w b := by
 unfold elemOf World.shape?
 rw [h]

theorem Row.but {c : Nat} {w w' : World} {E : TypeId} {v : Value} {l : List Int} (hk : KeepsBut c w w') (hc : elemOf w c ≠ some E) (h : Row w E v l) : Row w' E v l := by
 obtain ⟨ao, cap, b, off, h1, h2, h3, h4, h5, h6⟩ := h
 refine ⟨ao, cap, b, off, h1, h2, h3, h4, fun hp => ⟨(h5 hp).1, ?_⟩, fun i hi => ?_⟩
 ·have hb : b ≠ c := fun e => hc (by rw [← e]; exact (h5 hp).2)
  rw [elemOf_block (hk.block b (elemOf_lt (h5 hp).2) hb)]
  exact (h5 hp).2
 ·have hp : 0 < l.length := by omega
  have hb : b ≠ c := fun e => hc (by rw [← e]; exact (h5 hp).2)
  rw [World.cell?_of_block (w := w) (hk.block b (elemOf_lt (h5 hp).2) hb)]
  exact h6 i hi

theorem Row.keep {w w' : World} {E : TypeId} {v : Value} {l : List Int} (hk : Kp w w') (h : Row w E v l) : Row w' E v l := by
 obtain ⟨ao, cap, b, off, h1, h2, h3, h4, h5, h6⟩ := h
 refine ⟨ao, cap, b, off, h1, h2, h3, h4, fun hp => ⟨(h5 hp).1, ?_⟩, fun i hi => ?_⟩
 ·rw [elemOf_block (hk.block b (elemOf_lt (h5 hp).2))]
  exact (h5 hp).2
 ·have hp : 0 < l.length := by omega
  rw [World.cell?_of_block (w := w) (hk.block b (elemOf_lt (h5 hp).2))]
  exact h6 i hi

theorem Row.nil (w : World) (E : TypeId) : Row w E (.slice none 0 0) [] :=
 ⟨none, 0, 0, 0, rfl, Nat.le_refl _, by decide, fun _ => rfl, fun h => absurd h (by simp), fun i h => absurd h (by simp)⟩

theorem at0_vals {l : List Int} {i : Nat} (h : i < l.length) : (vals l)[i]? = some (.int .i64 (at0 l i)) := by
 unfold vals at0
 simp [h]

theorem vals_length (l : List Int) : (vals l).length = l.length := by simp [vals]
theorem vals_append (l m : List Int) : vals (l ++ m) = vals l ++ vals m := by simp [vals]

theorem Row.of_owns {w : World} {base : Nat} {E : TypeId} {v : Value} {n : Nat} {l : List Int} (h : w.ownsRow base E 1 v n (vals l)) : Row w E v l := by
 obtain ⟨h1, h2⟩ := h
 have hn : n = l.length := by rw [vals_length] at h1; omega
 rcases h2 with ⟨rfl, hz⟩ | ⟨g, cap, cur, rfl, hb, hg, hc, hm, hs, ht⟩
 ·have : l = [] := List.eq_nil_of_length_eq_zero (by omega)
  subst this
  exact Row.nil _ _
 ·subst hn
  unfold maxLen at hm
  refine ⟨some ⟨g, 0, none⟩, cap, g, 0, rfl, hc, hm, fun h => absurd h (by simp), fun _ => ⟨rfl, ?_⟩, fun i hi => ?_⟩
  ·unfold elemOf World.shape?
   rw [hg]; rfl
  ·unfold World.cell?
   rw [hg]
   have e := at0_vals hi
   rw [← ht] at e
   rw [List.getElem?_take] at e
   have h1 : i < l.length * 1 := by omega
   rw [if_pos h1] at e
   simpa using e

theorem Row.cells {w : World} {E : TypeId} {ad : Addr} {n cap : Nat} {l : List Int} (h : Row w E (.slice (some ad) n cap) l) : ∀ j u, (vals l)[j]? = some u → w.cell? (ad.add j) = some u := by
 obtain ⟨ao, cap', b, off, h1, h2, h3, h4, h5, h6⟩ := h
 intro j u hu
 have hj : j < l.length := by
  have := (List.getElem?_eq_some_iff.1 hu).1
  simpa [vals] using this
 have e := (h5 (by omega)).1
 simp only [Value.slice.injEq] at h1
 rw [← h1.1] at e
 simp only [Option.some.injEq] at e
 subst e
 rw [Addr.add_lit, h6 j hj]
 rw [at0_vals hj] at hu
 exact hu

theorem vals_oneCell (l : List Int) : ∀ u ∈ vals l, u.oneCell' = true := ints_oneCell .i64 l

/-- 'append(own, row...)', whatever the row's address. -/
theorem wpList_append_row {P : Program} (w : World) {ops : Array Oper} {rest : List Oper} {o : Oper} {a : Act} {Q : Exit → Act → World → Prop} (hgd : o.guard = none) (s x : Operand) (t : TypeId)
  (ho : o.op = .call { callee := .builtin .append, args := #[s, x], argTypes := #[t, t] })
  (base : Nat) (e : TypeId) (i : TypeInfo) (z : Value) (bytes : Nat) (ht : P.underlying t = some (.slice e)) (hi : P.info? e = some i) (hz : i.zero = some z)
  (hsize : i.size = 1) (hby : i.bytes = bytes) (hzs : z.cells.size = 1)
  (v : Value) (n : Nat) (xs l : List Int) (sv : Value) (hs : a.eval s = v) (hown : w.ownsRow base e 1 v n (vals xs))
  (hx : a.eval x = sv) (hrow : Row w e sv l)
  (h63 : n + l.length ≤ maxLen) (hbytes : (n + l.length) * bytes ≤ 140737488355328) (hbase : base ≤ w.heap.size)
  (h : ∀ v' w', w'.ownsRow base e 1 v' (n + l.length) (vals (xs ++ l)) → w.grownBy w' v.ownBlock → wpList P ops Q rest (a.put o.dst v') w') : wpList P ops Q (o :: rest) a w := by
 obtain ⟨ao, cap, b, off, h1, h2, h3, h4, h5, h6⟩ := id hrow
 cases ao with
 | some ad =>
  subst h1
  exact wpList_append_own w hgd s x t ho base e i z 1 bytes ht hi hz hsize hby hzs (by decide) v n (vals xs) hs hown ad l.length cap (vals l) hx (by rw [vals_length]; omega) hrow.cells (vals_oneCell l) h63 hbytes hbase
   (fun v' w' q1 q2 _ => h v' w' (by rw [vals_append]; exact q1) q2)
 | none =>
  have hc := h4 rfl
  have hl : l = [] := List.eq_nil_of_length_eq_zero (by omega)
  subst hl
  subst hc
  subst h1
  refine wpList_append_own_none hgd s x t ho base e i 1 ht hi v n (vals xs) hs hown hx ?_
  exact h v w (by simpa using hown) (World.grownBy.refl _ _)

/-- The slice's block lies from n on. -/
def Fresh (n : Nat) (v : Value) : Prop := ∀ b, v.ownBlock = some b → n ≤ b
theorem fresh_of {w : World} {base : Nat} {e : TypeId} {size : Nat} {v : Value} {n : Nat} {xs : List Value} (h : w.ownsRow base e size v n xs) : Fresh base v := fun b hb => (h.lt b hb).1
theorem Fresh.mono {m n : Nat} {v : Value} (h : Fresh n v) (hm : m ≤ n) : Fresh m v := fun b hb => Nat.le_trans hm (h b hb)
theorem Fresh.cut {n : Nat} {ao : Option Addr} {k c k' c' : Nat} (h : Fresh n (.slice ao k c)) : Fresh n (.slice ao k' c') := by
 intro b hb
 refine h b ?_
 cases ao with
 | none => simp [Value.ownBlock] at hb
 | some a => simpa [Value.ownBlock] using hb
theorem Row.set {w : World} {E : TypeId} {v : Value} {l : List Int} (h : Row w E v l) {g o : Nat} {y : Value} (hf : Fresh (g + 1) v) : Row (w.setCell ⟨g, o, none⟩ y) E v l := by
 obtain ⟨ao, cap, b, off, h1, h2, h3, h4, h5, h6⟩ := h
 have hne : 0 < l.length → b ≠ g := by
  intro hp e
  have h7 := (h5 hp).1
  subst h1
  subst h7
  have := hf b rfl
  omega
 refine ⟨ao, cap, b, off, h1, h2, h3, h4, fun hp => ⟨(h5 hp).1, ?_⟩, fun i hi => ?_⟩
 ·rw [elemOf_block (Below.heap_setCell w ⟨g, o, none⟩ y b (hne hp))]
  exact (h5 hp).2
 ·rw [World.cell?_of_block (w := w) (Below.heap_setCell w ⟨g, o, none⟩ y b (hne (by omega)))]
  exact h6 i hi

/-- v reads as the number x, from 0 on, to the base B, the least digit first. -/
def Rp (E : TypeId) (B : Int) (w : World) (v : Value) (x : Int) : Prop := ∃ l, Row w E v l ∧ Canon B l ∧ val B l = x
/-- A call that returns such a number and leaves all that was there. -/
def RetRp (E : TypeId) (B : Int) (w : World) (x : Int) (e : Ending) (w' : World) : Prop := ∃ v, e = .returned v ∧ Rp E B w' v x ∧ Kp w w' ∧ Fresh w.heap.size v
/-- A call that returns this value and leaves all that was there. -/
def RetV (w : World) (v : Value) (e : Ending) (w' : World) : Prop := e = .returned v ∧ Kp w w'

theorem Rp.keep {E : TypeId} {B : Int} {w w' : World} {v : Value} {x : Int} (hk : Kp w w') (h : Rp E B w v x) : Rp E B w' v x := by
 obtain ⟨l, h1, h2⟩ := h
 exact ⟨l, h1.keep hk, h2⟩
theorem Rp.but {c : Nat} {E : TypeId} {B : Int} {w w' : World} {v : Value} {x : Int} (hk : KeepsBut c w w') (hc : elemOf w c ≠ some E) (h : Rp E B w v x) : Rp E B w' v x := by
 obtain ⟨l, h1, h2⟩ := h
 exact ⟨l, h1.but hk hc, h2⟩
theorem Rp.set {E : TypeId} {B : Int} {w : World} {v : Value} {x : Int} (h : Rp E B w v x) {g o : Nat} {y : Value} (hf : Fresh (g + 1) v) : Rp E B (w.setCell ⟨g, o, none⟩ y) v x := by
 obtain ⟨l, h1, h2⟩ := h
 exact ⟨l, h1.set hf, h2⟩
theorem Rp.len {E : TypeId} {B : Int} (hB : 10 ≤ B) {w : World} {v : Value} {x : Int} (h : Rp E B w v x) (hf : Fit x) : ∃ l, Row w E v l ∧ Canon B l ∧ val B l = x ∧ l.length ≤ 400000000 := by
 obtain ⟨l, h1, h2, h3⟩ := h
 refine ⟨l, h1, h2, h3, ?_⟩
 exact h2.len_fit hB (by rw [h3]; exact hf)

theorem owns_keep {w w' : World} {base : Nat} {e : TypeId} {size : Nat} {v : Value} {n : Nat} {xs : List Value} (hk : Kp w w') (h : w.ownsRow base e size v n xs) : w'.ownsRow base e size v n xs := by
 obtain ⟨h1, h2⟩ := h
 refine ⟨h1, ?_⟩
 rcases h2 with h2 | ⟨g, cap, cur, hv, hg, hh, r⟩
 ·exact Or.inl h2
 ·refine Or.inr ⟨g, cap, cur, hv, hg, ?_, r⟩
  rw [hk.block g ?_]; exact hh
  rcases Nat.lt_or_ge g w.heap.size with h | h
  ·exact h
  ·rw [Array.getElem?_eq_none h] at hh
   cases hh

theorem vals_set (l : List Int) (i : Nat) (y : Int) : (vals l).set i (.int .i64 y) = vals (l.set i y) := by simp [vals, List.map_set]

theorem owns_cell {w : World} {base : Nat} {e : TypeId} {g n cap : Nat} {l : List Int} (h : w.ownsRow base e 1 (.slice (some ⟨g, 0, none⟩) n cap) n (vals l)) {i : Nat} (hi : i < n) :
  w.cell? ⟨g, i, none⟩ = some (.int .i64 (at0 l i)) := by
 rw [h.cellAt i (by omega)]
 exact at0_vals (by have := h.1; rw [vals_length] at this; omega)

theorem owns_store {w a0 : World} {e : TypeId} {g n cap : Nat} {l : List Int} (h : w.ownsRow a0.heap.size e 1 (.slice (some ⟨g, 0, none⟩) n cap) n (vals l)) (hk : Kp a0 w) (i : Nat) (y : Int) :
  (w.setCell ⟨g, i, none⟩ (.int .i64 y)).ownsRow a0.heap.size e 1 (.slice (some ⟨g, 0, none⟩) n cap) n (vals (l.set i y)) ∧ Kp a0 (w.setCell ⟨g, i, none⟩ (.int .i64 y)) := by
 have h1 := h.stored i (.int .i64 y)
 refine ⟨by rw [← vals_set]; exact h1.1, hk.grown' h1.2 ?_⟩
 intro k hkk
 exact (h.lt k (by simpa [Value.ownBlock] using hkk)).1

theorem Row.take {w : World} {E : TypeId} {ao : Option Addr} {len cap : Nat} {l : List Int} (h : Row w E (.slice ao len cap) l) {n : Nat} (hn : n ≤ l.length) : Row w E (.slice ao n cap) (l.take n) := by
 obtain ⟨ao', cap', b, off, h1, h2, h3, h4, h5, h6⟩ := h
 simp only [Value.slice.injEq] at h1
 obtain ⟨rfl, rfl, rfl⟩ := h1
 have hl : (l.take n).length = n := by rw [List.length_take]; omega
 refine ⟨ao, cap, b, off, by rw [hl], by omega, h3, h4, fun hp => h5 (by omega), fun i hi => ?_⟩
 rw [at0_take (by omega)]
 exact h6 i (by omega)

theorem Row.drop {w : World} {E : TypeId} {ao : Option Addr} {len cap : Nat} {l : List Int} (h : Row w E (.slice ao len cap) l) {n : Nat} (hn : n ≤ l.length) :
  Row w E (.slice (if cap = n then ao else ao.map (·.add n)) (l.length - n) (cap - n)) (l.drop n) := by
 obtain ⟨ao', cap', b, off, h1, h2, h3, h4, h5, h6⟩ := h
 simp only [Value.slice.injEq] at h1
 obtain ⟨rfl, rfl, rfl⟩ := h1
 have hl : (l.drop n).length = l.length - n := by rw [List.length_drop]
 refine ⟨_, cap - n, b, off + n, by rw [hl], by omega, by omega, ?_, fun hp => ?_, fun i hi => ?_⟩
 ·intro hh
  split at hh
  ·have := h4 hh; omega
  ·cases ao with
   | none => have := h4 rfl; omega
   | some a => cases hh
 ·have h7 := h5 (by omega)
  refine ⟨?_, h7.2⟩
  rw [if_neg (by omega), h7.1]
  simp [Addr.add_lit]
 ·rw [at0_drop, Nat.add_assoc]
  exact h6 (n + i) (by omega)

theorem Row.slice {w : World} {E : TypeId} {v : Value} {l : List Int} (h : Row w E v l) : ∃ ao cap, v = .slice ao l.length cap ∧ l.length ≤ cap ∧ cap ≤ 9223372036854775807 := by
 obtain ⟨ao, cap, b, off, h1, h2, h3, _⟩ := h
 exact ⟨ao, cap, h1, h2, h3⟩

/-- 'make([]T, n)'. -/
theorem wpList_make_row {P : Program} (w : World) {ops : Array Oper} {rest : List Oper} {o : Oper} {a : Act} {Q : Exit → Act → World → Prop}
  (hg : o.guard = none) (l c : Operand) (t : TypeId) (hop : o.op = Op.makeSlice t l c)
  (a0 : World) (e : TypeId) (i : TypeInfo) (bytes : Nat) (h1 : P.underlying t = some (.slice e)) (h2 : P.info? e = some i) (h3 : i.zero = some (.int .i64 0)) (h4 : i.size = 1) (h5 : i.bytes = bytes)
  (kl kc : IntKind) (L C : Int) (n : Nat) (hl : a.eval l = .int kl L) (hc : a.eval c = .int kc C) (hL : L = (n : Int)) (hC : C = (n : Int)) (b2 : bytes * n ≤ 281474976710656) (b3 : n ≤ maxLen) (hk : Kp a0 w)
  (hK : ∀ w', w'.ownsRow a0.heap.size e 1 (.slice (some ⟨w.heap.size, 0, none⟩) n n) n (vals (List.replicate n 0)) → Kp a0 w' → wpList P ops Q rest (a.put o.dst (.slice (some ⟨w.heap.size, 0, none⟩) n n)) w') :
  wpList P ops Q (o :: rest) a w := by
 refine wpList_make_full w hg l c t hop a0.heap.size e i (.int .i64 0) 1 h1 h2 h3 h4 kl kc L C n hl hc hL hC (by rw [h5]; exact b2) b3 hk.size ?_
 intro w' q1 q2
 refine hK w' ?_ (hk.grown' q2 (fun k h => by cases h))
 have e1 : (madeCells (Value.int .i64 0).cells (n * 1)).toList = vals (List.replicate n 0) := by
  rw [Nat.mul_one]
  exact (toList_madeCells_one _ _).trans (by simp [vals])
 rw [← e1]; exact q1

/-- 'append(own, y)'. -/
theorem wpList_append_one {P : Program} (w : World) {ops : Array Oper} {rest : List Oper} {o : Oper} {a : Act} {Q : Exit → Act → World → Prop} (hgd : o.guard = none) (s x : Operand) (t : TypeId)
  (ho : o.op = .call { callee := .builtin .append, args := #[s, x], argTypes := #[t, t] })
  (a0 : World) (e : TypeId) (i : TypeInfo) (z : Value) (bytes : Nat) (ht : P.underlying t = some (.slice e)) (hi : P.info? e = some i) (hz : i.zero = some z)
  (hsize : i.size = 1) (hby : i.bytes = bytes) (hzs : z.cells.size = 1)
  (v : Value) (n : Nat) (xs : List Int) (y : Int) (hs : a.eval s = v) (hown : w.ownsRow a0.heap.size e 1 v n (vals xs)) (hk : Kp a0 w)
  (hx : a.eval x = .slice (some ⟨w.heap.size, 0, none⟩) 1 1)
  (h63 : n + 1 ≤ maxLen) (hbytes : (n + 1) * bytes ≤ 140737488355328)
  (h : ∀ v' w', w'.ownsRow a0.heap.size e 1 v' (n + 1) (vals (xs ++ [y])) → Kp a0 w' → wpList P ops Q rest (a.put o.dst v') w') :
  wpList P ops Q (o :: rest) a (w.alloc (.cells #[.int .i64 y] e)) := by
 refine wpList_append_own _ hgd s x t ho a0.heap.size e i z 1 bytes ht hi hz hsize hby hzs (by decide) v n (vals xs) hs (hown.alloc _) ⟨w.heap.size, 0, none⟩ 1 1 (vals [y]) hx rfl (cell_one_new _ _ _) (vals_oneCell _) h63 hbytes (by have := hk.size; simp; omega) ?_
 intro v' w' q1 q2 _
 refine h v' w' (by rw [vals_append]; exact q1) ((hk.alloc' _).grown' q2 ?_)
 intro k hkk
 exact (hown.lt k hkk).1

end Go.Proofs.Ytjahbjjekednfaa
