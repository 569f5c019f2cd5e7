import Derived.Test.YtjahbjjekednfaaDoorSoft
namespace Go.Proofs.YtjahbjjekednfaaDoor
open Go.RowKit

theorem cells_new (w : World) (cs : Array Value) (t : TypeId) : ∀ j u, cs.toList[j]? = some u → (w.alloc (.cells cs t)).cell? ((⟨w.heap.size, 0, none⟩ : Addr).add j) = some u := by
 intro j u hj
 have h1 : (w.alloc (.cells cs t)).heap[w.heap.size]? = some (.cells cs t (0, 0)) := heap_alloc_new w _
 rw [Addr.add_lit]
 simp only [World.cell?, h1]
 rw [Array.getElem?_toList] at hj
 simpa using hj

theorem sf_grown {E e : TypeId} {w w' : World} {v : Value} (hg : w.grownBy w' v.ownBlock) (hne : e ≠ E) (he : ∀ k, v.ownBlock = some k → elemOf w k = some e) : Sf E w w' :=
 ⟨fun k hk => hg.block k (elemOf_lt hk) (fun h => by have := he k h.symm; rw [hk] at this; exact hne (Option.some.inj this).symm)⟩
theorem owns_elem {w : World} {base : Nat} {e : TypeId} {size : Nat} {v : Value} {n : Nat} {xs : List Value} (h : w.ownsRow base e size v n xs) : ∀ k, v.ownBlock = some k → elemOf w k = some e := by
 intro k hk
 rcases h.2 with ⟨rfl, _⟩ | ⟨g, cap, cur, rfl, hb, hg, _⟩
 ·simp [Value.ownBlock] at hk
 ·simp only [Value.ownBlock, Option.some.injEq] at hk
  subst hk
  simp [elemOf, World.shape?, hg]

/-- 'append(own, y)': an element of any size. -/
theorem wpList_append_el {P : Program} (w : World) {ops : Array Oper} {rest : List Oper} {o : Oper} {a : Act} {Q : Exit → Act → World → Prop} (hgd : o.guard = none) (s x : Operand) (t : TypeId)
  (ho : o.op = .call { callee := .builtin .append, args := #[s, x], argTypes := #[t, t] })
  (a0 : World) (e : TypeId) (i : TypeInfo) (z : Value) (size bytes : Nat) (ht : P.underlying t = some (.slice e)) (hi : P.info? e = some i) (hz : i.zero = some z)
  (hsize : i.size = size) (hby : i.bytes = bytes) (hzs : z.cells.size = size) (hsz : 0 < size)
  (v : Value) (n : Nat) (xs : List Value) (cs : Array Value) (hcs : cs.toList.length = 1 * size) (h1 : ∀ u ∈ cs.toList, u.oneCell' = true) (hs : a.eval s = v) (hown : w.ownsRow a0.heap.size e size v n xs) (hk : Kp a0 w)
  (hx : a.eval x = .slice (some ⟨w.heap.size, 0, none⟩) 1 1)
  (h63 : n + 1 ≤ maxLen) (hbytes : (n + 1) * bytes ≤ 140737488355328)
  (h : ∀ v' w', w'.ownsRow a0.heap.size e size v' (n + 1) (xs ++ cs.toList) → Kp a0 w' → (∀ E, e ≠ E → Sf E w w') → wpList P ops Q rest (a.put o.dst v') w') :
  wpList P ops Q (o :: rest) a (w.alloc (.cells cs e)) := by
 refine wpList_append_own _ hgd s x t ho a0.heap.size e i z size bytes ht hi hz hsize hby hzs hsz v n xs hs (hown.alloc _) ⟨w.heap.size, 0, none⟩ 1 1 cs.toList hx hcs (cells_new _ _ _) h1 h63 hbytes (by have := hk.size; simp; omega) ?_
 intro v' w' q1 q2 _
 refine h v' w' q1 ((hk.alloc' _).grown' q2 ?_) ?_
 ·intro k hkk
  exact (hown.lt k hkk).1
 ·intro E hE
  exact (Sf.keep (kp_alloc w _)).trans (sf_grown q2 hE (owns_elem (hown.alloc _)))
theorem owns_sf {w W : World} {base : Nat} {e : TypeId} {size : Nat} {v : Value} {n : Nat} {xs : List Value} (hs : Sf e w W) (h : w.ownsRow base e size v n xs) : W.ownsRow base e size v n xs := by
 refine ⟨h.1, ?_⟩
 have he := owns_elem h
 rcases h.2 with h2 | ⟨g, cap, cur, rfl, hb, hg, hr⟩
 ·exact Or.inl h2
 ·exact Or.inr ⟨g, cap, cur, rfl, hb, (hs.blk g (he g rfl)).trans hg, hr⟩
theorem Blk.sf {w W : World} {b : Nat} {cs : Array Value} {t : TypeId} (hs : Sf t w W) (h : Blk w b cs t) : Blk W b cs t := (hs.blk b h.elem).trans h

end Go.Proofs.YtjahbjjekednfaaDoor
