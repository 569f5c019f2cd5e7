import Derived.Test.YtjahbjjekednfaaDoorF8
import Derived.Test.YtjahbjjekednfaaDoorV1
import Derived.Test.YtjahbjjekednfaaDoorRwe
namespace Go.Proofs.YtjahbjjekednfaaDoor
open Go.RowKit

theorem Tryd.infoStr : (Tryd.prog.info? 9).map (fun i => (i.zero, i.size, i.bytes)) = some (some (.string ByteArray.empty), 1, 16) := by kernel_rfl
/-- The numbers' texts. -/
def strsV (ts : List Int) : List Value := ts.map (fun t => .string (strOf (Go.Lib.itoa t)))
theorem strsV_len (ts : List Int) : (strsV ts).length = ts.length := by simp [strsV]
theorem strsV_snoc (ts : List Int) (t : Int) : strsV (ts ++ [t]) = strsV ts ++ [.string (strOf (Go.Lib.itoa t))] := by simp [strsV]
theorem owns_mono {w : World} {base base' : Nat} {e : TypeId} {size : Nat} {v : Value} {n : Nat} {xs : List Value} (h : w.ownsRow base e size v n xs) (hb : base' ≤ base) : w.ownsRow base' e size v n xs := by
 refine ⟨h.1, ?_⟩
 rcases h.2 with h2 | ⟨g, cap, cur, e1, h3, h4⟩
 ·exact Or.inl h2
 ·exact Or.inr ⟨g, cap, cur, e1, Nat.le_trans hb h3, h4⟩
/-- What Terms tells. -/
def OutT (r : Rs) (N : Int) (ts : List Int) (all : Bool) (er : Int) : Prop :=
 (r.e ≠ 0 ∧ ts = [] ∧ all = false ∧ er = r.e) ∨ (r.e = 0 ∧ (N < 0 ∨ 100 < N) ∧ ts = [] ∧ all = false ∧ er = 5) ∨
 (r.e = 0 ∧ 0 ≤ N ∧ N ≤ 100 ∧ ∃ K, Exq (p0 r.v) (q0 r.v) (n0 r.v) N.toNat K ∧ ts = tms (p0 r.v) (q0 r.v) (n0 r.v) K ∧ all = decide ((rs r.v K).2 = 0) ∧ er = 0)
theorem outT_ex (r : Rs) (N : Int) : ∃ ts all er, OutT r N ts all er := by
 by_cases h1 : r.e = 0
 ·by_cases h2 : 0 ≤ N ∧ N ≤ 100
  ·obtain ⟨K, hK⟩ := exq_ex (p0 r.v) (q0 r.v) (n0 r.v) N.toNat
   exact ⟨_, _, _, Or.inr (Or.inr ⟨h1, h2.1, h2.2, K, hK, rfl, rfl, rfl⟩)⟩
  ·exact ⟨_, _, _, Or.inr (Or.inl ⟨h1, by omega, rfl, rfl, rfl⟩)⟩
 ·exact ⟨_, _, _, Or.inl ⟨h1, rfl, rfl, rfl⟩⟩
/-- A call that returns texts that are the caller's. -/
def RetTm (w : World) (ts : List Int) (all : Bool) (er : Int) (e : Ending) (w' : World) : Prop := ∃ v, e = .returned (.tuple #[v, .bool all, .int .i64 er]) ∧ w'.ownsRow w.heap.size 9 1 v ts.length (strsV ts) ∧ Kp w w'
/-- The slice v holds the texts ss. -/
def RowS (w : World) (v : Value) (ss : List ByteArray) : Prop := ∃ (ao : Option Addr) (cap b : Nat), v = .slice ao ss.length cap ∧ ss.length ≤ cap ∧ cap ≤ 9223372036854775807 ∧ (0 < ss.length → ao = some ⟨b, 0, none⟩ ∧ b < w.heap.size) ∧
 (∀ i, i < ss.length → w.cell? ⟨b, i, none⟩ = some (.string (ss.getD i ByteArray.empty)))
theorem RowS.keep {w W : World} {v : Value} {ss : List ByteArray} (hk : Kp w W) (h : RowS w v ss) : RowS W v ss := by
 obtain ⟨ao, cap, b, h1, h2, h3, h4, h5⟩ := h
 refine ⟨ao, cap, b, h1, h2, h3, fun hp => ⟨(h4 hp).1, Nat.lt_of_lt_of_le (h4 hp).2 hk.size⟩, fun i hi => ?_⟩
 exact (World.cell?_of_block (w := w) (a := ⟨b, i, none⟩) (hk.block b (h4 (by omega)).2)).trans (h5 i hi)
theorem RowS.of_owns {w : World} {base : Nat} {e : TypeId} {v : Value} {n : Nat} {ss : List ByteArray} (h : w.ownsRow base e 1 v n (ss.map Value.string)) : RowS w v ss := by
 obtain ⟨hl, h2⟩ := h
 rw [List.length_map, Nat.mul_one] at hl
 rcases h2 with ⟨rfl, hz⟩ | ⟨g, cap, cur, rfl, hb, hg, hc, hm, hs, ht⟩
 ·exact ⟨none, 0, 0, by rw [hl, hz], by omega, by omega, fun hp => absurd hp (by omega), fun i hi => absurd hi (by omega)⟩
 ·refine ⟨some ⟨g, 0, none⟩, cap, g, by rw [hl], by omega, by unfold maxLen at hm; omega, fun _ => ⟨rfl, ?_⟩, fun i hi => ?_⟩
  ·by_cases hlt : g < w.heap.size
   ·exact hlt
   ·rw [Array.getElem?_eq_none (by omega)] at hg
    exact absurd hg (by simp)
  ·have e : (ss.map Value.string)[i]? = some (.string (ss.getD i ByteArray.empty)) := by
    rw [List.getElem?_map, List.getD_eq_getElem?_getD, List.getElem?_eq_getElem hi]
    rfl
   rw [← ht, List.getElem?_take] at e
   split at e
   ·simp only [World.cell?, hg]
    rw [Array.getElem?_toList] at e
    simpa using e
   ·exact absurd e (by simp)

end Go.Proofs.YtjahbjjekednfaaDoor

namespace Go.Proofs.YtjahbjjekednfaaDoor
open Go.RowKit

theorem ba_ne {S S' : ByteArray} (h : S ≠ S') : (S.toList == S'.toList) = false := by
 refine beq_eq_false_iff_ne.2 fun e => h (ByteArray.ext (Array.toList_inj.1 ?_))
 rw [← ByteArray.toList_eq, ← ByteArray.toList_eq, e]

end Go.Proofs.YtjahbjjekednfaaDoor
