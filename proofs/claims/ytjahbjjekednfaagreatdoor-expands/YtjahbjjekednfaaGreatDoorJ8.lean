import Derived.Test.YtjahbjjekednfaaGreatDoorJ4
import Derived.Test.YtjahbjjekednfaaGreatDoorJ7
import Derived.Below
import Derived.Test.YtjahbjjekednfaaGreatDoorRows
import Derived.Test.YtjahbjjekednfaaGreatDoorTie
import Derived.Test.YtjahbjjekednfaaGreatDoorCards
import Derived.WalkKit
import Derived.ProofKit
import Derived.LaidMore
import Derived.OpenShut
import Derived.ShutString
import Derived.ChangeOld
import Derived.Lib.LaidTab
import Derived.Stop.Joined
import Derived.SevenTiedAt
/-! Appending what a row holds already: every cell that held it goes on holding it. -/
namespace Go.Proofs.YtjahbjjekednfaaGreatDoor
open Go.RowKit

theorem cell_grow {w : World} {k o : Nat} {x : Value} (ob : Obj) (h : w.cell? ⟨k, o, none⟩ = some x) : (w.drew.alloc ob).cell? ⟨k, o, none⟩ = some x := by
 have hk : Kp w (w.drew.alloc ob) := Kp.alloc' (Kp.drew' (Below.refl _ _)) ob
 exact (World.cell?_of_block (w := w) (hk.block k (World.block_lt_of_cell? w _ h))).trans h
theorem cell_room {w : World} {g n m : Nat} {cur : Array Value} {e : TypeId} {x : Value} (hg : w.heap[g]? = some (.cells cur e (0, 0))) (hfit : n + m ≤ cur.size) {k o : Nat} (h : w.cell? ⟨k, o, none⟩ = some x) :
  (w.setRow g (cur.toList.take n ++ List.replicate m x ++ cur.toList.drop (n + m)).toArray).cell? ⟨k, o, none⟩ = some x := by
 by_cases hk : k = g
 ·subst hk
  have h2 := setRow_heap w k cur (cur.toList.take n ++ List.replicate m x ++ cur.toList.drop (n + m)).toArray e _ hg
  have h3 : cur[o]? = some x := by
   simp only [World.cell?, hg] at h
   simpa using h
  simp only [World.cell?, h2]
  rw [← Array.getElem?_toList] at h3
  have hlt : (cur.toList.take n).length = n := by rw [List.length_take, Array.length_toList]; omega
  have e : (cur.toList.take n ++ List.replicate m x ++ cur.toList.drop (n + m))[o]? = some x := by
   by_cases h4 : o < n
   ·rw [List.append_assoc, List.getElem?_append_left (by omega), List.getElem?_take_of_lt h4]; exact h3
   ·by_cases h5 : o < n + m
    ·rw [List.append_assoc, List.getElem?_append_right (by omega), List.getElem?_append_left (by rw [List.length_replicate]; omega), List.getElem?_replicate, hlt, if_pos (by omega)]
    ·rw [List.getElem?_append_right (by rw [List.length_append, List.length_replicate, hlt]; omega), List.length_append, List.length_replicate, hlt, List.getElem?_drop, show n + m + (o - (n + m)) = o by omega]
     exact h3
  rw [List.getElem?_toArray]
  exact e
 ·rw [World.cell?_of_block (w := w) (setRow_other w g k _ hk)]
  exact h

theorem run_append_same {P : Program} (w : World) (base : Nat) (t ty e : TypeId) (i : TypeInfo) (z : Value) (bytes : Nat) (ht : P.underlying t = some (.slice e)) (hi : P.info? e = some i) (hz : i.zero = some z)
  (hsize : i.size = 1) (hby : i.bytes = bytes) (hzs : z.cells.size = 1) (x : Value) (hx1 : x.oneCell' = true)
  (v : Value) (n : Nat) (hown : w.ownsRow base e 1 v n (List.replicate n x))
  (a : Addr) (m c : Nat) (hm : 0 < m) (hnews : ∀ j u, (List.replicate m x)[j]? = some u → w.cell? (a.add j) = some u)
  (h63 : n + m ≤ maxLen) (hbytes : (n + m) * bytes ≤ 140737488355328) (hbase : base ≤ w.heap.size) :
  ∃ v' w', (Builtin.append_ #[t, t] ty #[v, .slice (some a) m c]).run P w = .ok v' w' ∧ w'.ownsRow base e 1 v' (n + m) (List.replicate (n + m) x) ∧ w'.ownsRow base e 1 v n (List.replicate n x) ∧ w.grownBy w' v.ownBlock ∧
   (∀ k o, w.cell? ⟨k, o, none⟩ = some x → w'.cell? ⟨k, o, none⟩ = some x) := by
 have hl : (List.replicate m x).length = m * 1 := by simp
 have h1 : ∀ u ∈ List.replicate m x, u.oneCell' = true := fun u hu => by rw [List.eq_of_mem_replicate hu]; exact hx1
 obtain ⟨v', w', hr, ho, hg, _⟩ := run_append_own (P := P) w base t ty e i z 1 bytes ht hi hz hsize hby hzs (by decide) v n _ hown a m c _ hl hnews h1 h63 hbytes hbase
 rw [List.replicate_append_replicate] at ho
 have hsmall : n + m ≤ 9223372036854775807 := by unfold maxLen at h63; omega
 refine ⟨v', w', hr, ho, ?_⟩
 suffices hs : w'.ownsRow base e 1 v n (List.replicate n x) ∧ (∀ k o, w.cell? ⟨k, o, none⟩ = some x → w'.cell? ⟨k, o, none⟩ = some x) from ⟨hs.1, hg, hs.2⟩
 rcases hown.2 with ⟨rfl, rfl⟩ | ⟨g, cap, cur, rfl, hbg, hgc, hnc, hcm, hcs, htake⟩
 ·have hr2 := run_append_nil (P := P) w t ty e i z ht hi hz a m c _ (by rw [hsize]; exact hl) hnews hm (by omega) (by rw [hby]; rw [Nat.zero_add] at hbytes; omega)
  rw [hr] at hr2
  simp only [Result.ok.injEq] at hr2
  obtain ⟨_, rfl⟩ := hr2
  exact ⟨World.ownsRow_nil _ _ _ _, fun k o h => cell_grow _ h⟩
 ·by_cases hroom : n + m ≤ cap
  ·have hfit : n * i.size + (List.replicate m x).length ≤ cur.size := by rw [hsize, hl, hcs]; omega
   have hr2 := run_append_room (P := P) w t ty e i ht hi g n cap cur hgc a m c _ (by rw [hsize]; exact hl) hnews h1 hroom hfit
   rw [hr, hsize, List.length_replicate, Nat.mul_one] at hr2
   simp only [Result.ok.injEq] at hr2
   obtain ⟨_, rfl⟩ := hr2
   refine ⟨⟨hown.1, Or.inr ⟨g, cap, _, rfl, hbg, setRow_heap w g cur _ e _ hgc, hnc, hcm, ?_, ?_⟩⟩, fun k o h => cell_room hgc (by omega) h⟩
   ·simp only [List.size_toArray, List.length_append, List.length_take, List.length_drop, List.length_replicate, Array.length_toList]
    omega
   ·rw [List.append_assoc, List.take_append_of_le_length (by rw [List.length_take, Array.length_toList]; omega), ← htake, List.take_take]
    simp
  ·have hr2 := run_append_grow (P := P) w t ty e i z ht hi hz ⟨g, 0, none⟩ n cap _ (by rw [hsize]; exact hown.1) (hown.cells (g := g) rfl) a m c _ (by rw [hsize]; exact hl) hnews (by omega) (by omega) (growslice_fits (by omega) (by rw [hby]; exact hbytes))
   rw [hr] at hr2
   simp only [Result.ok.injEq] at hr2
   obtain ⟨_, rfl⟩ := hr2
   exact ⟨owns_keep (Kp.alloc' (Kp.drew' (Below.refl _ _)) _) hown, fun k o h => cell_grow _ h⟩

/-- At the list of a region's operations. -/
theorem wpList_append_same {P : Program} (w : World) {ops : Array Oper} {rest : List Oper} {o : Oper} {a : Act} {Q : Exit → Act → World → Prop} (hgd : o.guard = none) (s x : Operand) (t : TypeId)
  (ho : o.op = .call { callee := .builtin .append, args := #[s, x], argTypes := #[t, t] })
  (base : Nat) (e : TypeId) (i : TypeInfo) (z : Value) (bytes : Nat) (ht : P.underlying t = some (.slice e)) (hi : P.info? e = some i) (hz : i.zero = some z)
  (hsize : i.size = 1) (hby : i.bytes = bytes) (hzs : z.cells.size = 1) (y : Value) (hy1 : y.oneCell' = true)
  (v : Value) (n : Nat) (hs : a.eval s = v) (hown : w.ownsRow base e 1 v n (List.replicate n y))
  (m : Nat) (hm : 0 < m) (hx : a.eval x = .slice (some ⟨w.heap.size, 0, none⟩) m m)
  (h63 : n + m ≤ maxLen) (hbytes : (n + m) * bytes ≤ 140737488355328) (hbase : base ≤ w.heap.size)
  (h : ∀ v' w', w'.ownsRow base e 1 v' (n + m) (List.replicate (n + m) y) → w'.ownsRow base e 1 v n (List.replicate n y) → (∀ E, e ≠ E → Sf E w w') → (∀ B : World, B.heap.size ≤ base → Kp B w → Kp B w') → w.heap.size ≤ w'.heap.size →
   (∀ k o, w.cell? ⟨k, o, none⟩ = some y → w'.cell? ⟨k, o, none⟩ = some y) → (∀ b v2 n2 xs2, w.ownsRow b e 1 v2 n2 xs2 → (v2.ownBlock = none ∨ v2.ownBlock ≠ v.ownBlock) → w'.ownsRow b e 1 v2 n2 xs2) → wpList P ops Q rest (a.put o.dst v') w') :
  wpList P ops Q (o :: rest) a (w.alloc (.cells (List.replicate m y).toArray e)) := by
 refine wpList_plain hgd fun K hK => ?_
 have hka := kp_alloc w (.cells (List.replicate m y).toArray e)
 obtain ⟨v', w', hr, h2, h3, h4, h5⟩ := run_append_same (P := P) (w.alloc (.cells (List.replicate m y).toArray e)) base t o.type e i z bytes ht hi hz hsize hby hzs y hy1 v n (hown.alloc _) ⟨w.heap.size, 0, none⟩ m m hm
  (by have := cells_new w (List.replicate m y).toArray e; simpa using this) h63 hbytes (Nat.le_trans hbase hka.size)
 unfold Oper.wp execOp
 simp only [ho, resolve, invoke, builtin, Sem.run_bind, Sem.run_pure, Result.andThen_ok, List.map_toArray, List.map_cons, List.map_nil, hs, hx, hr]
 refine hK _ _ (h v' w' h2 h3 ?_ ?_ (Nat.le_trans hka.size h4.size) ?_ (fun b v2 n2 xs2 k1 k2 => (k1.alloc _).kept h4 k2))
 ·intro E hE
  exact (Sf.keep hka).trans (sf_grown h4 hE (owns_elem (hown.alloc _)))
 ·intro B hB hkB
  refine (hkB.trans' hka).grown' h4 fun k hk => ?_
  have := (hown.lt k hk).1
  omega
 ·intro k o hc
  refine h5 k o ?_
  exact (World.cell?_of_block (w := w) (hka.block k (World.block_lt_of_cell? w _ hc))).trans hc

end Go.Proofs.YtjahbjjekednfaaGreatDoor

namespace Go.Proofs.YtjahbjjekednfaaGreatDoor
open Go.RowKit

/-- The slice v holds the texts ss. -/
def RowS (w : World) (v : Value) (ss : List ByteArray) : Prop := ∃ (ao : Option Addr) (cap b : Nat), v = .slice ao ss.length cap ∧ ss.length ≤ cap ∧ cap ≤ 9223372036854775807 ∧ (0 < ss.length → ao = some ⟨b, 0, none⟩ ∧ b < w.heap.size) ∧
 (∀ i, i < ss.length → w.cell? ⟨b, i, none⟩ = some (.string (ss.getD i ByteArray.empty)))
theorem RowS.keep {w W : World} {v : Value} {ss : List ByteArray} (hk : Kp w W) (h : RowS w v ss) : RowS W v ss := by
 obtain ⟨ao, cap, b, h1, h2, h3, h4, h5⟩ := h
 refine ⟨ao, cap, b, h1, h2, h3, fun hp => ⟨(h4 hp).1, Nat.lt_of_lt_of_le (h4 hp).2 hk.size⟩, fun i hi => ?_⟩
 exact (World.cell?_of_block (w := w) (a := ⟨b, i, none⟩) (hk.block b (h4 (by omega)).2)).trans (h5 i hi)
theorem RowS.of_owns {w : World} {base : Nat} {e : TypeId} {v : Value} {n : Nat} {ss : List ByteArray} (h : w.ownsRow base e 1 v n (ss.map Value.string)) : RowS w v ss := by
 obtain ⟨hl, h2⟩ := h
 rw [List.length_map, Nat.mul_one] at hl
 rcases h2 with ⟨rfl, hz⟩ | ⟨g, cap, cur, rfl, hb, hg, hc, hm, hs, ht⟩
 ·exact ⟨none, 0, 0, by rw [hl, hz], by omega, by omega, fun hp => absurd hp (by omega), fun i hi => absurd hi (by omega)⟩
 ·refine ⟨some ⟨g, 0, none⟩, cap, g, by rw [hl], by omega, by unfold maxLen at hm; omega, fun _ => ⟨rfl, ?_⟩, fun i hi => ?_⟩
  ·by_cases hlt : g < w.heap.size
   ·exact hlt
   ·rw [Array.getElem?_eq_none (by omega)] at hg
    exact absurd hg (by simp)
  ·have e : (ss.map Value.string)[i]? = some (.string (ss.getD i ByteArray.empty)) := by
    rw [List.getElem?_map, List.getD_eq_getElem?_getD, List.getElem?_eq_getElem hi]
    rfl
   rw [← ht, List.getElem?_take] at e
   split at e
   ·simp only [World.cell?, hg]
    rw [Array.getElem?_toList] at e
    simpa using e
   ·exact absurd e (by simp)

set_option maxHeartbeats 1600000 in
/-- surdlaw.same on rows that hold the same. -/
theorem same_true (u v : Value) (ss : List ByteArray) (w : World) (hu : RowS w u ss) (hv : RowS w v ss) : Calls Tryz.prog 8 #[u, v] w (RetV w (.bool true)) := by
 obtain ⟨ao, cap, b, rfl, h2, h3, h4, h5⟩ := hu
 obtain ⟨ao', cap', b', rfl, k2, k3, k4, k5⟩ := hv
 have heq : (((ss.length : Int) != (ss.length : Int))) = false := by simp
 have hl : ss.length ≤ 9223372036854775807 := by omega
 go_enter Tryz.func8, Tryz.ntmps8
 go_wp2_with fail
 go_loopw [5] (fun i wr => ∃ j : Nat, j ≤ ss.length ∧ i = .int .i64 j ∧ Kp w wr)
  (fun i _ => ss.length - (intOf i).toNat)
 case atStart => exact ⟨0, by omega, rfl, Below.refl _ _⟩
 case round =>
  obtain ⟨j, hj, rfl, hkr⟩ := hrel
  by_cases h : j < ss.length
  ·have ha := (h4 (by omega)).1
   have hb := (h4 (by omega)).2
   have ha' := (k4 (by omega)).1
   have hb' := (k4 (by omega)).2
   subst ha
   subst ha'
   have hc := (World.cell?_of_block (w := w) (a := ⟨b, j, none⟩) (hkr.block b hb)).trans (h5 j h)
   have hc' := (World.cell?_of_block (w := w) (a := ⟨b', j, none⟩) (hkr.block b' hb')).trans (k5 j h)
   generalize ss.getD j ByteArray.empty = S at *
   have hji : (j : Int) < (ss.length : Int) := by omega
   have hj0 : (0 : Int) ≤ (j : Int) := by omega
   clear h4 h5 k4 k5
   go_wp2_with fail
   go_quiet (fail)
   go_wp2_with fail
   go_roundw
   case rel => exact ⟨j + 1, by omega, by go_num, hkr.drewN _⟩
   case measure => simp [intOf]; omega
  ·have hji : ¬ (j : Int) < (ss.length : Int) := by omega
   clear h4 h5 k4 k5
   go_wp2_with fail
   go_ret
   exact ⟨rfl, hkr⟩

end Go.Proofs.YtjahbjjekednfaaGreatDoor

namespace Go.Proofs.YtjahbjjekednfaaGreatDoor
open Go.RowKit

theorem owns_put {w : World} {base g n cap : Nat} {e : TypeId} {xs : List Value} (h : w.ownsRow base e 1 (.slice (some ⟨g, 0, none⟩) n cap) n xs) (i : Nat) (y : Value) :
  (w.setCell ⟨g, i, none⟩ y).ownsRow base e 1 (.slice (some ⟨g, 0, none⟩) n cap) n (xs.set i y) := by
 obtain ⟨hl, h2⟩ := h
 refine ⟨by rw [List.length_set]; exact hl, ?_⟩
 rcases h2 with ⟨e1, _⟩ | ⟨g', cap', cur, e1, hb, hg, hc, hm, hs, ht⟩
 ·simp at e1
 ·simp only [Value.slice.injEq, Option.some.injEq, Addr.mk.injEq, and_true, true_and] at e1
  obtain ⟨rfl, rfl⟩ := e1
  have hB : Blk w g cur e := hg
  refine Or.inr ⟨g, cap, _, rfl, hb, Blk.set (o := i) (y := y) hB, hc, hm, by simpa using hs, ?_⟩
  rw [Array.toList_setIfInBounds, List.take_set, ht]
theorem owns_slice {w : World} {base : Nat} {e : TypeId} {v : Value} {n : Nat} {xs : List Value} (h : w.ownsRow base e 1 v n xs) : ∃ ao c g, v = .slice ao n c ∧ n ≤ c ∧ c ≤ 9223372036854775807 ∧ (0 < n → ao = some ⟨g, 0, none⟩) := by
 rcases h.2 with ⟨e1, e2⟩ | ⟨g, cap, cur, e1, hb, hg, hc, hm, hs, ht⟩
 ·exact ⟨none, 0, 0, by rw [e1, e2], by omega, by omega, fun hp => absurd hp (by omega)⟩
 ·exact ⟨some ⟨g, 0, none⟩, cap, g, e1, hc, by unfold maxLen at hm; omega, fun _ => rfl⟩
theorem owns_blk {w : World} {base g n cap : Nat} {e : TypeId} {xs : List Value} (h : w.ownsRow base e 1 (.slice (some ⟨g, 0, none⟩) n cap) n xs) : ∃ cur, Blk w g cur e ∧ base ≤ g := by
 rcases h.2 with ⟨e1, _⟩ | ⟨g', cap', cur, e1, hb, hg, _⟩
 ·simp at e1
 ·simp only [Value.slice.injEq, Option.some.injEq, Addr.mk.injEq, and_true, true_and] at e1
  obtain ⟨rfl, rfl⟩ := e1
  exact ⟨cur, hg, hb⟩
theorem strsV_map (ts : List Int) : strsV ts = (ts.map (fun t => strOf (Go.Lib.itoa t))).map Value.string := by simp [strsV]
/-- What the owner of a list writes into it. -/
def mineB : ByteArray := ⟨#[109, 105, 110, 101]⟩
/-- The slice v holds nothing else. -/
def MS (w : World) (v : Value) : Prop := ∃ ao len cap g, v = .slice ao len cap ∧ len ≤ cap ∧ cap ≤ 9223372036854775807 ∧ (0 < len → ao = some ⟨g, 0, none⟩) ∧ (∀ i, i < len → w.cell? ⟨g, i, none⟩ = some (.string mineB))
theorem MS.cells {w W : World} {v : Value} (hc : ∀ k o, w.cell? ⟨k, o, none⟩ = some (.string mineB) → W.cell? ⟨k, o, none⟩ = some (.string mineB)) (h : MS w v) : MS W v := by
 obtain ⟨ao, len, cap, g, h1, h2, h3, h4, h5⟩ := h
 exact ⟨ao, len, cap, g, h1, h2, h3, h4, fun i hi => hc _ _ (h5 i hi)⟩
theorem MS.keep {w W : World} {v : Value} (hk : Kp w W) (h : MS w v) : MS W v :=
 h.cells fun k _ hc => (World.cell?_of_block (w := w) (hk.block k (World.block_lt_of_cell? w _ hc))).trans hc
theorem MS.of_owns {w : World} {base : Nat} {e : TypeId} {v : Value} {n : Nat} (h : w.ownsRow base e 1 v n (List.replicate n (.string mineB))) : MS w v := by
 obtain ⟨ao, c, g, rfl, h1, h2, h3⟩ := owns_slice h
 refine ⟨ao, n, c, g, rfl, h1, h2, h3, fun i hi => ?_⟩
 have ha := h3 (by omega)
 subst ha
 have := h.cells (g := g) rfl i (.string mineB) (by rw [List.getElem?_replicate, if_pos hi])
 rw [Addr.add_lit] at this
 simpa using this

set_option maxHeartbeats 800000 in
theorem numz_any (n : Int) (w : World) : Calls Tryz.prog 9 #[.int .i64 n] w (RetV w (.int .i64 n)) := by
 go_enter Tryz.func9, Tryz.ntmps9
 go_wp2_with fail
 go_ret
 exact ⟨rfl, Below.refl _ _⟩

set_option maxHeartbeats 6400000 in
set_option maxRecDepth 100000 in
/-- Expands. -/
theorem expands_any (s : ByteArray) (N : Int) (w : World) (hN0 : -9223372036854775808 ≤ N) (hN1 : N ≤ 9223372036854775807) (ht : Tens w) : Calls Tryz.prog 3 #[.string s, .int .i64 N] w (RetV w (.bool true)) := by
 obtain ⟨i0, hi, hz0, hz1, hz2⟩ := info_parts Tryz.infoStr
 obtain ⟨r, hr⟩ := rk_all s
 obtain ⟨ts, all, er, ho⟩ := outT_ex r N
 have hlen : ts.length ≤ 100 := by
  rcases ho with ⟨_, rfl, _⟩ | ⟨_, _, rfl, _⟩ | ⟨_, _, _, K, hK, rfl, _⟩
  ·simp
  ·simp
  ·rw [tms_len]
   have := hK.le
   omega
 have HS := Hid.mk (fun (W : World) (hW : Tens W) => sterms_any s N r ts all er W hr hN0 hN1 ho hW)
 have HRR := Hid.mk (fun (W : World) => rterms_any s N r ts all er W hr hN0 hN1 ho)
 have HMAP := Hid.mk (strsV_map ts)
 generalize hsx : ts.map (fun t => strOf (Go.Lib.itoa t)) = ss at HMAP
 have HL : Hid (ss.length = ts.length) := by unfold Hid; rw [← hsx]; simp
 clear hsx ho hr
 generalize hn : ts.length = n at hlen HL
 replace hn := Hid.mk hn
 have hb1 : (all != all) = false := by simp
 have hb2 : (er != er) = false := by simp
 have HS1 := HS.out w ht
 go_enter Tryz.func3, Tryz.ntmps3
 go_wp2_with fail
 refine HS1.mono ?_
 rintro e w1 ⟨v1, rfl, hown1, hk1⟩
 rw [hn.out] at hown1
 clear HS1
 go_wp2_with fail
 refine (HRR.out w1).mono ?_
 rintro e w2 ⟨v2, rfl, hown2, hk2⟩
 rw [hn.out] at hown2
 have HNB : Hid (v2.ownBlock = none ∨ v2.ownBlock ≠ v1.ownBlock) := by
  unfold Hid
  cases h : v2.ownBlock with
  | none => exact Or.inl rfl
  | some g2 =>
   refine Or.inr fun e => ?_
   have h1 := (hown2.lt g2 h).1
   have h2 := (hown1.lt g2 e.symm).2
   omega
 have HG1 := Hid.mk (fun g (h : v1.ownBlock = some g) => (hown1.lt g h).2)
 replace hown1 := owns_keep hk2 hown1
 have hS1 : RowS w2 v1 ss := RowS.of_owns (n := n) (by rw [← HMAP.out]; exact hown1)
 have hS2 : RowS w2 v2 ss := RowS.of_owns (n := n) (by rw [← HMAP.out]; exact hown2)
 have hSm := same_true v1 v2 ss w2 hS1 hS2
 obtain ⟨ao1, c1, g1, rfl, hc1, hc2, hao1⟩ := owns_slice hown1
 clear hS1 hS2
 go_wp2_with fail
 refine hSm.mono ?_
 rintro e w3 ⟨rfl, hk3⟩
 replace hown1 := owns_keep hk3 hown1
 replace hown2 := owns_keep hk3 hown2
 have hkw := (hk1.trans' hk2).trans' hk3
 clear hSm hk3
 go_wp2_with fail
 refine (numz_any er w3).mono ?_
 rintro e w4 ⟨rfl, hk4⟩
 replace hown1 := owns_keep hk4 hown1
 replace hown2 := owns_keep hk4 hown2
 replace hkw := hkw.trans' hk4
 have hk1s := hk1.size
 clear hk4 hk2
 have HX : Hid (∃ xs : List Value, xs = strsV ts ∧ ∀ i, i < 0 → xs[i]? = some (.string mineB)) := ⟨_, rfl, fun i hi => absurd hi (by omega)⟩
 go_wp2_with fail
 go_loopw [12] (fun i wr => ∃ (j : Nat) (xs : List Value), j ≤ n ∧ i = .int .i64 j ∧ wr.ownsRow w.heap.size 9 1 (.slice ao1 n c1) n xs ∧ wr.ownsRow w1.heap.size 9 1 v2 n (strsV ts) ∧ Kp w wr ∧ w4.heap.size ≤ wr.heap.size ∧ Hid (∀ i, i < j → xs[i]? = some (.string mineB)))
  (fun i _ => n - (intOf i).toNat)
 case atStart => exact ⟨0, _, by omega, rfl, hown1, hown2, hkw, Nat.le_refl _, fun i hi => absurd hi (by omega)⟩
 case round =>
  clear hown1 hown2 hkw HX
  obtain ⟨j, xs, hj, rfl, hown1, hown2, hkr, hsz4, hmine⟩ := hrel
  by_cases h : j < n
  ·have ha := hao1 (by omega)
   subst ha
   obtain ⟨cur, hB, hgb⟩ := owns_blk hown1
   have hxl : xs.length = n := by have := hown1.1; omega
   have hcj : ∃ y, wr.cell? ⟨g1, j, none⟩ = some y := by
    have := hown1.cells (g := g1) rfl j _ (List.getElem?_eq_getElem (by omega))
    rw [Addr.add_lit] at this
    exact ⟨_, by simpa using this⟩
   obtain ⟨y, hcy⟩ := hcj
   have hbf := hB.frozen
   have hbl := hB.lt
   have hg1w : g1 < w1.heap.size := HG1.out g1 rfl
   have hji : (j : Int) < (n : Int) := by omega
   have hj0 : (0 : Int) ≤ (j : Int) := by omega
   have HN : Hid (∀ i, i < j + 1 → (xs.set j (.string mineB))[i]? = some (.string mineB)) := fun i hi => by
    by_cases hij : i = j
    ·subst hij
     rw [List.getElem?_set_self (by omega)]
    ·rw [List.getElem?_set_ne (fun e => hij e.symm)]
     exact hmine.out i (by omega)
   have hxl' := Hid.mk hxl
   clear hxl hmine
   go_wp2_with fail
   go_roundw
   case rel => exact ⟨j + 1, xs.set j (.string mineB), by omega, by go_num, owns_put hown1 j _, ownsRow_setCell_below hown2 (a := ⟨g1, j, none⟩) hg1w _, Below.setCell hkr (p := ⟨g1, j, none⟩) hgb _, by simpa using hsz4, HN⟩
   case measure => simp [intOf]; omega
  ·have hje : j = n := by omega
   have HJ := Hid.mk hje
   have hrep : xs = List.replicate n (.string mineB) := by
    have hxl : xs.length = n := by have := hown1.1; omega
    refine List.ext_getElem? fun i => ?_
    rw [List.getElem?_replicate]
    split
    ·exact hmine.out i (by omega)
    ·exact List.getElem?_eq_none (by omega)
   subst hrep
   have hji : ¬ (j : Int) < (n : Int) := by omega
   clear hje hmine HG1 hao1
   have hb5 : w.heap.size ≤ wr.heap.size := hkr.size
   go_wp2_with (at_builtin; (refine wpList_append_same wr rfl _ _ 22 rfl w.heap.size 9 i0 (.string ByteArray.empty) 16 Tryz.underlying22 hi hz0 hz1 hz2 rfl (.string mineB) rfl (.slice ao1 n c1) n rfl hown1 1 (by decide) rfl (by unfold maxLen; omega) (by omega) hb5 ?_))
   intro va wa hownA hown1a hsfA hkA hszA hcellA hrowA
   obtain ⟨aoA, cA, gA, rfl, -, -, -⟩ := owns_slice hownA
   have hA := MS.of_owns hownA
   replace hown2 := hrowA _ _ _ _ hown2 HNB.out
   replace hkr := hkA w (Nat.le_refl _) hkr
   replace hb5 := hkr.size
   clear hownA hsfA hkA hcellA hrowA hown1
   go_wp2_with (at_builtin; (refine wpList_append_same wa rfl _ _ 22 rfl w.heap.size 9 i0 (.string ByteArray.empty) 16 Tryz.underlying22 hi hz0 hz1 hz2 rfl (.string mineB) rfl (.slice ao1 n c1) n rfl hown1a 2 (by decide) rfl (by unfold maxLen; omega) (by omega) hb5 ?_))
   intro vb wb hownB hown1b hsfB hkB hszB hcellB hrowB
   obtain ⟨aoB, cB, gB, rfl, -, -, -⟩ := owns_slice hownB
   have hB := MS.of_owns hownB
   replace hA := hA.cells hcellB
   replace hown2 := hrowB _ _ _ _ hown2 HNB.out
   replace hkr := hkB w (Nat.le_refl _) hkr
   replace hb5 := hkr.size
   clear hownB hsfB hkB hcellB hrowB hown1a
   go_wp2_with (at_builtin; (refine wpList_append_same wb rfl _ _ 22 rfl w.heap.size 9 i0 (.string ByteArray.empty) 16 Tryz.underlying22 hi hz0 hz1 hz2 rfl (.string mineB) rfl (.slice ao1 n c1) n rfl hown1b 6 (by decide) rfl (by unfold maxLen; omega) (by omega) hb5 ?_))
   intro vc wc hownC hown1c hsfC hkC hszC hcellC hrowC
   obtain ⟨aoC, cC, gC, rfl, -, -, -⟩ := owns_slice hownC
   have hC := MS.of_owns hownC
   have hD := MS.of_owns hown1c
   replace hA := hA.cells hcellC
   replace hB := hB.cells hcellC
   replace hown2 := hrowC _ _ _ _ hown2 HNB.out
   replace hkr := hkC w (Nat.le_refl _) hkr
   clear hownC hsfC hkC hcellC hrowC hown1b hown1c hb5 hszA hszB hszC
   have ka := kp_alloc wc (.cells #[.slice ao1 n c1, .slice aoA (n + 1) cA, .slice aoB (n + 2) cB, .slice aoC (n + 6) cC] 22)
   replace hA := hA.keep ka
   replace hB := hB.keep ka
   replace hC := hC.keep ka
   replace hD := hD.keep ka
   replace hown2 := owns_keep ka hown2
   replace hkr := hkr.alloc' (.cells #[.slice ao1 n c1, .slice aoA (n + 1) cA, .slice aoB (n + 2) cB, .slice aoC (n + 6) cC] 22)
   have BO := Blk.new wc #[.slice ao1 n c1, .slice aoA (n + 1) cA, .slice aoB (n + 2) cB, .slice aoC (n + 6) cC] 22
   have HS2 := HS.out (wc.alloc (.cells #[.slice ao1 n c1, .slice aoA (n + 1) cA, .slice aoB (n + 2) cB, .slice aoC (n + 6) cC] 22)) (ht.keep hkr)
   clear ka
   go_wp2_with fail
   generalize wc.alloc (.cells #[.slice ao1 n c1, .slice aoA (n + 1) cA, .slice aoB (n + 2) cB, .slice aoC (n + 6) cC] 22) = w5 at *
   generalize wc.heap.size = AO at *
   refine HS2.mono ?_
   rintro e w6 ⟨v3, rfl, hown3, hk6⟩
   rw [hn.out] at hown3
   have hS3 : RowS w6 v3 ss := RowS.of_owns (n := n) (by rw [← HMAP.out]; exact hown3)
   have hS2 : RowS w6 v2 ss := (RowS.of_owns (n := n) (by rw [← HMAP.out]; exact hown2)).keep hk6
   have hSm := same_true v3 v2 ss w6 hS3 hS2
   obtain ⟨ao3, c3, g3, rfl, hc31, hc32, hao3⟩ := owns_slice hown3
   clear hS3 hS2 HS2
   go_wp2_with fail
   refine hSm.mono ?_
   rintro e w7 ⟨rfl, hk7⟩
   replace hown3 := owns_keep hk7 hown3
   replace hk6 := hk6.trans' hk7
   clear hSm hk7
   go_wp2_with fail
   go_loopw [18] (fun i wr => ∃ (j : Nat) (xs : List Value), j ≤ n ∧ i = .int .i64 j ∧ wr.ownsRow w5.heap.size 9 1 (.slice ao3 n c3) n xs ∧ Kp w5 wr)
    (fun i _ => n - (intOf i).toNat)
   case atStart => exact ⟨0, _, by omega, rfl, hown3, hk6⟩
   case round =>
    clear hown3 hk6
    obtain ⟨j, xs, hj, rfl, hown3, hk6⟩ := hrel
    by_cases h : j < n
    ·have ha := hao3 (by omega)
     subst ha
     obtain ⟨cur, hBk, hgb⟩ := owns_blk hown3
     have hxl : xs.length = n := by have := hown3.1; omega
     have hcj : ∃ y, wr.cell? ⟨g3, j, none⟩ = some y := by
      have := hown3.cells (g := g3) rfl j _ (List.getElem?_eq_getElem (by omega))
      rw [Addr.add_lit] at this
      exact ⟨_, by simpa using this⟩
     obtain ⟨y, hcy⟩ := hcj
     have hbf := hBk.frozen
     have hbl := hBk.lt
     have hji : (j : Int) < (n : Int) := by omega
     have hj0 : (0 : Int) ≤ (j : Int) := by omega
     clear hxl
     go_wp2_with fail
     go_roundw
     case rel => exact ⟨j + 1, _, by omega, by go_num, owns_put hown3 j _, Below.setCell hk6 (p := ⟨g3, j, none⟩) hgb _⟩
     case measure => simp [intOf]; omega
    ·have hji : ¬ (j : Int) < (n : Int) := by omega
     replace hkr := hkr.trans' hk6
     replace BO := BO.keep hk6
     have HM : Hid (∀ t, t < 4 → ∃ ao len cap g, (#[.slice ao1 n c1, .slice aoA (n + 1) cA, .slice aoB (n + 2) cB, .slice aoC (n + 6) cC] : Array Value)[t]? = some (.slice ao len cap) ∧ len ≤ cap ∧ cap ≤ 9223372036854775807 ∧ (0 < len → ao = some ⟨g, 0, none⟩) ∧ (∀ i, i < len → wr.cell? ⟨g, i, none⟩ = some (.string mineB))) := by
      have hm : ∀ v, MS w5 v → ∃ ao len cap g, some v = some (.slice ao len cap) ∧ len ≤ cap ∧ cap ≤ 9223372036854775807 ∧ (0 < len → ao = some ⟨g, 0, none⟩) ∧ (∀ i, i < len → wr.cell? ⟨g, i, none⟩ = some (.string mineB)) := fun v hv => by
       obtain ⟨ao, len, cap, g, h1, h2⟩ := hv.keep hk6
       exact ⟨ao, len, cap, g, by rw [h1], h2⟩
      intro t ht
      match t, ht with
      | 0, _ => exact hm _ hD
      | 1, _ => exact hm _ hA
      | 2, _ => exact hm _ hB
      | 3, _ => exact hm _ hC
     have boc := BO.cell
     have bol := BO.lt
     clear hA hB hC hD hown2 hown3 hk6
     go_wp2_with fail
     go_loopw [19] (fun i wq => ∃ t : Nat, t ≤ 4 ∧ i = .int .i64 t ∧ wq = wr)
      (fun i _ => 4 - (intOf i).toNat)
     case atStart => exact ⟨0, by omega, rfl, rfl⟩
     case round =>
      obtain ⟨t, ht4, rfl, rfl⟩ := hrel
      by_cases h4 : t < 4
      ·obtain ⟨ao, len, cap, g, hv, hlc, hcc, hao, hcells⟩ := HM.out t h4
       have hct := (boc t).trans hv
       have hti : (t : Int) < 4 := by omega
       have ht0 : (0 : Int) ≤ (t : Int) := by omega
       clear boc hv
       go_wp2_with fail
       go_loopw [20] (fun i wq => ∃ m : Nat, m ≤ len ∧ i = .int .i64 m ∧ wq = wr)
        (fun i _ => len - (intOf i).toNat)
       case atStart => exact ⟨0, by omega, rfl, rfl⟩
       case round =>
        obtain ⟨m, hml, rfl, rfl⟩ := hrel
        by_cases hm : m < len
        ·have ha := hao (by omega)
         subst ha
         have hcm := hcells m hm
         unfold mineB at hcm
         have hmi : (m : Int) < (len : Int) := by omega
         have hm0 : (0 : Int) ≤ (m : Int) := by omega
         clear hcells hao
         go_wp2_with fail
         go_roundw
         case rel => exact ⟨m + 1, by omega, by go_num, trivial⟩
         case measure => simp [intOf]; omega
        ·have hmi : ¬ (m : Int) < (len : Int) := by omega
         clear hcells hao
         go_wp2_with fail
         go_roundw
         case rel => exact ⟨t + 1, by omega, by go_num, trivial⟩
         case measure => simp [intOf]; omega
      ·have hti : ¬ (t : Int) < 4 := by omega
       clear boc
       go_wp2_with fail
       go_ret
       exact ⟨rfl, hkr⟩

end Go.Proofs.YtjahbjjekednfaaGreatDoor

namespace Go.Proofs.YtjahbjjekednfaaGreatDoor.expands
open Go.ChangeShapes Go.WideShapes Go.ChangeAt Go.RowKit
open Go.ChangeMaps (open_string shut_string)

theorem own : ownKnob Tryz.prog.godebug = none := by kernel_rfl
theorem gTens : Tryz.prog.globalNamed "internal/strconv.uint64pow10" = some 0 := by kernel_rfl
theorem tTens : (Tryz.prog.globals[0]?).map (·.type) = some 150 := by kernel_rfl

/-- The door's own heap meets the condition. -/
theorem door_met (os : Os) (args : Array Value) : laidMetH Tryz.prog Rows.expandsRow.laid ((World.doorLaid Tryz.prog 24 os).forCall (fun _ _ => 0) ⟨#[], args, []⟩).memory :=
 laidMetH_of_parts3 (fuel := 8) (laidMet_of_run' 8 (by kernel_rfl) (by kernel_rfl)) (by kernel_rfl) (by kernel_rfl)

theorem tens_of {W : World} (h : laidMetH Tryz.prog Rows.expandsRow.laid W) : Tens W := by
 rw [MakeChecks.laidMetH_plain _ _ _ (by kernel_rfl)] at h
 obtain ⟨ps, ⟨g0, t0, cs0, f0, p0, q0, _, _, _, _, ⟨g1, t1, cs1, f1, p1, q1, _, _, _, _, ⟨g2, t2, cs2, f2, p2, q2, hg2, ht2, hv2, hd2, _, _⟩, _⟩, _⟩, _, _⟩ := h
 obtain rfl := Option.some.inj (gTens.symm.trans hg2)
 obtain rfl := Option.some.inj (tTens.symm.trans ht2)
 unfold Tens Lib.TabIs
 rw [hv2, ← Lib.cells_of_tab (k := .u64) (zs := Lib.pow10Tab) (n := 20) Tryz.underlying150 Tryz.underlying134 (by kernel_rfl) (by kernel_rfl) hd2]

theorem wf_bd {n : Int} (h : (Lit.int .i64 n).wf = true) : -9223372036854775808 ≤ n ∧ n ≤ 9223372036854775807 := by
 simp only [Lit.wf, IntKind.min, IntKind.max, IntKind.signed, IntKind.bits, Bool.and_eq_true, decide_eq_true_eq, if_true] at h
 omega
theorem walk (a0 : ByteArray) (a1 : Int) (w : World) (h1 : -9223372036854775808 ≤ a1) (k1 : a1 ≤ 9223372036854775807) (ht : Tens w) :
  Calls Tryz.prog 3 #[.string a0, .int .i64 a1] w fun e w' => e = .returned (.bool true) ∧ Below w.heap.size w w' := expands_any a0 a1 w h1 k1 ht

set_option maxRecDepth 100000 in
theorem lifted (os : Os) (started : os.Started) (H : Type) (enc : TypeId × Value → H) :
  ReturnsInHanded {} Tryz.checked os 3 .any (fun w args => (Rows.expandsSpec.pre enc Tryz.prog Tryz.f3 [] false w args ∧ laidMetH Tryz.prog Rows.expandsRow.laid w) ∧ sizedMet enc Tryz.prog Tryz.f3 (OpenSpec.ofChange Rows.expandsSpec) false w args)
   (Rows.expandsSpec.post enc Tryz.prog Tryz.f3 false true false false) := by
 refine returnsInHanded_of_change_and (C := Tryz.checked) (X := fun w _ => laidMetH Tryz.prog Rows.expandsRow.laid w) (fun _ _ _ hh h => h.of_heap hh) own started (by kernel_rfl) Tryz.func3
  (ChangeSpec.witness_shaped (enc := enc) (C := Tryz.checked) (os := os) (X := fun w _ => laidMetH Tryz.prog Rows.expandsRow.laid w) false (World.doorLaid Tryz.prog 24 os) #[.string ByteArray.empty, .int .i64 0] 8 rfl (World.shaped_of_RefB (by kernel_rfl) (by kernel_rfl)) (by kernel_rfl) (by kernel_rfl) (by kernel_rfl) (door_met os _)) ?_
 intro W base args ds gs before hval0 hW _ _ hL _
 have hval : ∀ (j : Nat) t v, Tryz.f3.params[j]? = some t → args[j]? = some v → Value.okWide Tryz.prog W .any base t v := hval0
 have hW' := hW
 obtain ⟨p, q, hA0, hV, rfl, hfz, hnd⟩ := hW
 have hA : DataW.TrodAll enc Tryz.prog W 0 (fun _ => true) true Tryz.f3.params.toList args.toList ds p := hA0
 rw [Tryz.params3] at hA hval
 obtain ⟨v0, vs0, d0, ds0, p0, q0, hargs, rfl, rfl, h0, r0⟩ := trodAll_cons hA
 obtain ⟨v1, vs1, d1, ds1, p1, q1, rfl, rfl, rfl, h1, r1⟩ := trodAll_cons r0
 obtain ⟨rfl, rfl, rfl⟩ := trodAll_nil r1
 obtain rfl : args = #[v0, v1] := by cases args; simp_all
 obtain ⟨rfl, rfl⟩ := trodVars_none hV
 obtain ⟨a0, rfl, rfl, rfl, w0⟩ := open_string Tryz.underlying9 (hval 0 9 v0 rfl rfl) h0
 obtain ⟨a1, rfl, rfl, rfl, w1⟩ := open_int Tryz.underlying3 (hval 1 3 v1 rfl rfl) h1
 clear hA0 hval0
 refine (walk a0 a1 W (wf_bd w1).1 (wf_bd w1).2 (tens_of hL)).mono fun e W' ⟨he, bel⟩ => ?_
 subst he
 exact ⟨_, rfl, _, _, _, [], _, [], hW', trodAll_mk1 (shut_bool Tryz.underlying4 _), trodAll_cons_mk (shut_string Tryz.underlying9 w0) (trodAll_cons_mk (shut_int Tryz.underlying3 w1) trodAll_mk0), rfl, bel.frame _, fun h => by cases h⟩

theorem over : Rows.expandsRow.holds Tryz.pinned (OpenSpec.ofChange Rows.expandsSpec) :=
 OpenClaim.holds_of_wide 3 Tryz.f3 rfl rfl rfl rfl rfl rfl rfl ⟨rfl, rfl, rfl, rfl, rfl⟩ rfl rfl rfl rfl rfl (by kernel_rfl) Tryz.func3 (by kernel_rfl)
  (of_decide_eq_true (by kernel_rfl)) (by unfold Func.isWrapper; first | (rw [if_pos (by decide +kernel)]; kernel_rfl) | (rw [if_neg (by decide +kernel)]; exact ⟨rfl, rfl⟩))
  (fun os started H enc _ => lifted os started H enc)

theorem card : Rows.ExpandsCardSaid :=
 Claim7.holds_tied_plain_at .later [] [.data, .data, .data] true Rows.expandsCard.stood.harness false
  over (fun _ h => by cases h) (by kernel_rfl) (fun _ h => by cases h) expands_row_tie rfl ⟨rfl, rfl⟩ (by kernel_rfl) rfl
  (fun f fn hf hfn => by
   obtain rfl : f = 3 := Option.some.inj ((show Tryz.prog.funcNamed "surd/surdlaw.Expands" = some 3 by kernel_rfl).symm.trans hf) |>.symm
   obtain rfl : fn = Tryz.f3 := (Option.some.inj (Tryz.func3.symm.trans hfn)).symm
   exact ⟨by kernel_rfl, fun j t ht => by
    rw [Tryz.params3] at ht
    have hm : t ∈ [9, 3] := by simpa using Array.mem_of_getElem? ht
    have hall : ([9, 3].all fun u => !Tryz.prog.wantsStandIn u) = true := by kernel_rfl
    exact (show Tryz.prog.wantsStandIn t = false by simpa using List.all_eq_true.1 hall t hm)⟩)
  (by kernel_rfl)

end Go.Proofs.YtjahbjjekednfaaGreatDoor.expands

namespace Go.Proofs.YtjahbjjekednfaaGreatDoor
theorem expands_holds : Rows.ExpandsCardSaid := expands.card
#print axioms expands_holds
end Go.Proofs.YtjahbjjekednfaaGreatDoor
