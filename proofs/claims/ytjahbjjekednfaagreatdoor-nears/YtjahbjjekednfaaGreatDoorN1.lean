import Derived.Test.YtjahbjjekednfaaGreatDoorF8
import Derived.Test.YtjahbjjekednfaaGreatDoorF10
namespace Go.Proofs.YtjahbjjekednfaaGreatDoor

/-- The values of the first terms, last and ahead. -/
structure Cv where
 lp : Int
 lq : Int
 ap : Int
 aq : Int
def cv (p q n : Int) : Nat → Cv
 | 0 => ⟨1, 0, 0, 1⟩
 | k + 1 => ⟨tm p q n k * (cv p q n k).lp + (cv p q n k).ap, tm p q n k * (cv p q n k).lq + (cv p q n k).aq, (cv p q n k).lp, (cv p q n k).lq⟩
/-- The same from the last term on. -/
def bk : List Int → Int × Int
 | [] => (1, 0)
 | t :: l => (t * (bk l).1 + (bk l).2, (bk l).1)
/-- Folded up from the front. -/
def fw (l : List Int) (s : Int × Int) : Int × Int := l.foldl (fun s t => (t * s.1 + s.2, s.1)) s
theorem fw_bk : ∀ (l : List Int) (x y : Int), (fw l (x, y)).1 = x * (bk l).1 + y * (bk l).2
 | [], x, y => by simp [fw, bk]
 | t :: l, x, y => by
  have e : fw (t :: l) (x, y) = fw l (t * x + y, x) := rfl
  rw [e, fw_bk l]
  simp only [bk]
  grind
theorem fw_snoc (l : List Int) (t : Int) (s : Int × Int) : fw (l ++ [t]) s = (t * (fw l s).1 + (fw l s).2, (fw l s).1) := by simp [fw]
theorem cv_fw (p q n : Int) : ∀ k, fw (tms p q n k) (1, 0) = ((cv p q n k).lp, (cv p q n k).ap) ∧ fw (tms p q n k) (0, 1) = ((cv p q n k).lq, (cv p q n k).aq)
 | 0 => ⟨rfl, rfl⟩
 | k + 1 => by
  obtain ⟨h1, h2⟩ := cv_fw p q n k
  rw [tms_succ, fw_snoc, fw_snoc, h1, h2]
  exact ⟨rfl, rfl⟩
theorem cv_bk (p q n : Int) (k : Nat) : bk (tms p q n k) = ((cv p q n k).lp, (cv p q n k).lq) := by
 obtain ⟨h1, h2⟩ := cv_fw p q n k
 have a := fw_bk (tms p q n k) 1 0
 have b := fw_bk (tms p q n k) 0 1
 rw [h1] at a
 rw [h2] at b
 simp at a b
 rw [a, b]
theorem cv_ft {p q n : Int} {m : Nat} : ∀ k, (∀ i, i < k → Ft m (tm p q n i)) → Ft ((m + 1) * k + 1) (cv p q n k).lp ∧ Ft ((m + 1) * k + 1) (cv p q n k).lq ∧ Ft ((m + 1) * k + 1) (cv p q n k).ap ∧ Ft ((m + 1) * k + 1) (cv p q n k).aq
 | 0, _ => ⟨by simp [cv, Ft], by simp [cv, Ft], by simp [cv, Ft], by simp [cv, Ft]⟩
 | k + 1, h => by
  obtain ⟨h1, h2, h3, h4⟩ := cv_ft k (fun i hi => h i (by omega))
  have ht := h k (by omega)
  have e : (m + 1) * (k + 1) + 1 = m + ((m + 1) * k + 1) + 1 := by rw [Nat.mul_add]; omega
  simp only [cv]
  rw [e]
  exact ⟨Ft.add (ht.mul h1) (h3.mono (by omega)), Ft.add (ht.mul h2) (h4.mono (by omega)), h1.mono (by omega), h2.mono (by omega)⟩
theorem bk_ft {m : Nat} : ∀ l : List Int, (∀ t, t ∈ l → Ft m t) → Ft ((m + 1) * l.length + 1) (bk l).1 ∧ Ft ((m + 1) * l.length + 1) (bk l).2
 | [], _ => ⟨by simp [bk, Ft], by simp [bk, Ft]⟩
 | t :: l, h => by
  obtain ⟨h1, h2⟩ := bk_ft l (fun x hx => h x (List.mem_cons_of_mem _ hx))
  have ht := h t List.mem_cons_self
  have e : (m + 1) * (t :: l).length + 1 = m + ((m + 1) * l.length + 1) + 1 := by rw [List.length_cons, Nat.mul_add]; omega
  simp only [bk]
  rw [e]
  exact ⟨Ft.add (ht.mul h1) (h2.mono (by omega)), h1.mono (by omega)⟩
theorem bk_drop {l : List Int} {i : Nat} (h : i < l.length) : bk (l.drop i) = (at0 l i * (bk (l.drop (i + 1))).1 + (bk (l.drop (i + 1))).2, (bk (l.drop (i + 1))).1) := by
 rw [List.drop_eq_getElem_cons h, at0_eq h]
 rfl
open Go.RowKit

theorem begin_any (a : Qn) (m : Nat) (v : Value) (w : World) (hv : XN w v a) (hm : m ≤ 40000000) (f : QF m a) (hd : QD a) : Calls Tryz.prog 47 #[v] w (RetWK w (p0 a) (q0 a) (n0 a) 1 0 0 1) := by
 unfold p0 q0 n0
 by_cases h : a.q < 0
 ·rw [if_pos h, if_pos h]
  exact begin_core a _ _ _ v w hv (fun W hW => of_neg a m v W hW hm f hd (Int.sign_eq_neg_one_of_neg h))
 ·rw [if_neg h, if_neg h]
  refine begin_core a _ _ _ v w hv (fun W hW => of_pos a m v W hW hm f hd ?_)
  rcases sign3 a.q with ⟨s1, h1⟩ | ⟨s1, h1⟩ | ⟨s1, h1⟩ <;> omega
theorem WK.keep {w W : World} {v : Value} {p q n lp lq ap aq : Int} (hk : Kp w W) (h : WK w v p q n lp lq ap aq) : WK W v p q n lp lq ap aq := h.soft (Sf.keep hk)
theorem WK.rr {w : World} {b4 : Bool} {ao4 : Option Addr} {n4 c4 : Nat} {b5 : Bool} {ao5 : Option Addr} {n5 c5 : Nat} {b6 : Bool} {ao6 : Option Addr} {n6 c6 : Nat} {b7 : Bool} {ao7 : Option Addr} {n7 c7 : Nat} {b8 : Bool} {ao8 : Option Addr} {n8 c8 : Nat} {b9 : Bool} {ao9 : Option Addr} {n9 c9 : Nat} {b10 : Bool} {ao10 : Option Addr} {n10 c10 : Nat} {b11 : Bool} {ao11 : Option Addr} {n11 c11 : Nat} {p q n lp lq ap aq : Int} (h : WK w (.agg #[.bool b4, .slice ao4 n4 c4, .bool b5, .slice ao5 n5 c5, .bool b6, .slice ao6 n6 c6, .bool b7, .slice ao7 n7 c7, .bool b8, .slice ao8 n8 c8, .bool b9, .slice ao9 n9 c9, .bool b10, .slice ao10 n10 c10, .bool b11, .slice ao11 n11 c11]) p q n lp lq ap aq) : RR w (.agg #[.bool b4, .slice ao4 n4 c4, .bool b5, .slice ao5 n5 c5, .bool b6, .slice ao6 n6 c6, .bool b7, .slice ao7 n7 c7]) p q n ∧ WN w (.agg #[.bool b8, .slice ao8 n8 c8]) lp ∧ WN w (.agg #[.bool b9, .slice ao9 n9 c9]) lq := by
 obtain ⟨_, _, _, _, _, _, _, _, _, _, _, _, _, _, _, _, _, _, _, _, _, _, _, _, _, _, _, _, _, _, _, _, eW, g1, g2, g3, g4, g5, g6, _, _⟩ := h
 simp only [Value.agg.injEq, Array.mk.injEq, List.cons.injEq, Value.bool.injEq, Value.slice.injEq] at eW
 obtain ⟨rfl, ⟨rfl, rfl, rfl⟩, rfl, ⟨rfl, rfl, rfl⟩, rfl, ⟨rfl, rfl, rfl⟩, rfl, ⟨rfl, rfl, rfl⟩, rfl, ⟨rfl, rfl, rfl⟩, rfl, ⟨rfl, rfl, rfl⟩, _⟩ := eW
 exact ⟨⟨_, _, _, _, _, _, _, _, _, _, _, _, _, _, _, _, rfl, g1, g2, g3, g4⟩, g5, g6⟩

set_option maxHeartbeats 6400000 in
set_option maxRecDepth 100000 in
/-- expansion.Near. -/
theorem near_any (a : Qn) (n K : Nat) (v : Value) (w : World) (hv : XN w v a) (hc : Cn a) (f : QF 1100000 a) (hd : QD a) (hn : n ≤ 100) (hK : Exq (p0 a) (q0 a) (n0 a) n K) :
  Calls Tryz.prog 22 #[v, .int .i64 n] w (RetFR w (cv (p0 a) (q0 a) (n0 a) K).lp (cv (p0 a) (q0 a) (n0 a) K).lq) := by
 have hKn : K ≤ n := hK.le
 have HK := Hid.mk hK
 have HSZ : Hid (∀ i, i ≤ K → Sz a i) := fun i hi => sz_all hc f (by omega) (fun j hj => hK.on j (by omega))
 have HCV : Hid (∀ i, i ≤ K → Ft ((2400000 + 1) * i + 1) (cv (p0 a) (q0 a) (n0 a) i).lp ∧ Ft ((2400000 + 1) * i + 1) (cv (p0 a) (q0 a) (n0 a) i).lq ∧ Ft ((2400000 + 1) * i + 1) (cv (p0 a) (q0 a) (n0 a) i).ap ∧ Ft ((2400000 + 1) * i + 1) (cv (p0 a) (q0 a) (n0 a) i).aq) := fun i hi => cv_ft i (fun j hj => (sz_num hc f (by omega) (fun t ht => hK.on t (by omega))).2)
 have HNN := Hid.mk (n0_nn hc)
 have HBG := Hid.mk (fun (W : World) (hW : XN W v a) => begin_any a 1100000 v W hW (by decide) f hd)
 obtain ⟨b1, ao1, n1, c1, b2, ao2, n2, c2, b3, ao3, n3, c3, rfl, _, _, _⟩ := id hv
 clear hc f hd hK
 have kp0 : Kp w ((w.alloc (.cells #[.bool b1, .slice ao1 n1 c1, .bool b2, .slice ao2 n2 c2, .bool b3, .slice ao3 n3 c3, .int .i64 a.d] 40)).alloc (.cells #[.bool false, .slice none 0 0, .bool false, .slice none 0 0] 62)) := Kp.alloc' (kp_alloc w _) _
 have BX0 : Blk ((w.alloc (.cells #[.bool b1, .slice ao1 n1 c1, .bool b2, .slice ao2 n2 c2, .bool b3, .slice ao3 n3 c3, .int .i64 a.d] 40)).alloc (.cells #[.bool false, .slice none 0 0, .bool false, .slice none 0 0] 62)) w.heap.size #[.bool b1, .slice ao1 n1 c1, .bool b2, .slice ao2 n2 c2, .bool b3, .slice ao3 n3 c3, .int .i64 a.d] 40 := Blk.alloc (Blk.new w _ _) _
 have BE0 : Blk ((w.alloc (.cells #[.bool b1, .slice ao1 n1 c1, .bool b2, .slice ao2 n2 c2, .bool b3, .slice ao3 n3 c3, .int .i64 a.d] 40)).alloc (.cells #[.bool false, .slice none 0 0, .bool false, .slice none 0 0] 62)) (w.heap.size + 1) #[.bool false, .slice none 0 0, .bool false, .slice none 0 0] 62 := Blk.at (Blk.new (w.alloc (.cells #[.bool b1, .slice ao1 n1 c1, .bool b2, .slice ao2 n2 c2, .bool b3, .slice ao3 n3 c3, .int .i64 a.d] 40)) _ _) (by simp)
 have hB := HBG.out _ (hv.keep kp0)
 have bxc := BX0.cell
 have bxl := BX0.lt
 go_enter Tryz.func22, Tryz.ntmps22
 go_wp2_with fail
 refine hB.mono ?_
 rintro e w1 ⟨v1, rfl, hW, hk1⟩
 obtain ⟨b4, ao4, n4, c4, b5, ao5, n5, c5, b6, ao6, n6, c6, b7, ao7, n7, c7, b8, ao8, n8, c8, b9, ao9, n9, c9, b10, ao10, n10, c10, b11, ao11, n11, c11, rfl, _, _, _, _, _, _, _, _⟩ := id hW
 have hkw := (kp0.trans' hk1).alloc' (.cells #[.bool b4, .slice ao4 n4 c4, .bool b5, .slice ao5 n5 c5, .bool b6, .slice ao6 n6 c6, .bool b7, .slice ao7 n7 c7, .bool b8, .slice ao8 n8 c8, .bool b9, .slice ao9 n9 c9, .bool b10, .slice ao10 n10 c10, .bool b11, .slice ao11 n11 c11] 91)
 replace BE0 := (BE0.keep hk1).alloc (.cells #[.bool b4, .slice ao4 n4 c4, .bool b5, .slice ao5 n5 c5, .bool b6, .slice ao6 n6 c6, .bool b7, .slice ao7 n7 c7, .bool b8, .slice ao8 n8 c8, .bool b9, .slice ao9 n9 c9, .bool b10, .slice ao10 n10 c10, .bool b11, .slice ao11 n11 c11] 91)
 have BA0 := Blk.new w1 #[.bool b4, .slice ao4 n4 c4, .bool b5, .slice ao5 n5 c5, .bool b6, .slice ao6 n6 c6, .bool b7, .slice ao7 n7 c7, .bool b8, .slice ao8 n8 c8, .bool b9, .slice ao9 n9 c9, .bool b10, .slice ao10 n10 c10, .bool b11, .slice ao11 n11 c11] 91
 replace hW := hW.keep (kp_alloc w1 (.cells #[.bool b4, .slice ao4 n4 c4, .bool b5, .slice ao5 n5 c5, .bool b6, .slice ao6 n6 c6, .bool b7, .slice ao7 n7 c7, .bool b8, .slice ao8 n8 c8, .bool b9, .slice ao9 n9 c9, .bool b10, .slice ao10 n10 c10, .bool b11, .slice ao11 n11 c11] 91))
 have hsz : w.heap.size + 2 ≤ w1.heap.size := by have := hk1.size; simp only [World.size_alloc] at this; omega
 clear kp0 hk1 BX0 bxc bxl hB
 go_wp2_with fail
 generalize w1.alloc (.cells #[.bool b4, .slice ao4 n4 c4, .bool b5, .slice ao5 n5 c5, .bool b6, .slice ao6 n6 c6, .bool b7, .slice ao7 n7 c7, .bool b8, .slice ao8 n8 c8, .bool b9, .slice ao9 n9 c9, .bool b10, .slice ao10 n10 c10, .bool b11, .slice ao11 n11 c11] 91) = wa at *
 generalize w1.heap.size = AT at *
 go_loopw [6] (fun i wr => ∃ (j : Nat) (b4 : Bool) (ao4 : Option Addr) (n4 c4 : Nat) (b5 : Bool) (ao5 : Option Addr) (n5 c5 : Nat) (b6 : Bool) (ao6 : Option Addr) (n6 c6 : Nat) (b7 : Bool) (ao7 : Option Addr) (n7 c7 : Nat) (b8 : Bool) (ao8 : Option Addr) (n8 c8 : Nat) (b9 : Bool) (ao9 : Option Addr) (n9 c9 : Nat) (b10 : Bool) (ao10 : Option Addr) (n10 c10 : Nat) (b11 : Bool) (ao11 : Option Addr) (n11 c11 : Nat), i = .int .i64 j ∧ j ≤ K ∧ Blk wr AT #[.bool b4, .slice ao4 n4 c4, .bool b5, .slice ao5 n5 c5, .bool b6, .slice ao6 n6 c6, .bool b7, .slice ao7 n7 c7, .bool b8, .slice ao8 n8 c8, .bool b9, .slice ao9 n9 c9, .bool b10, .slice ao10 n10 c10, .bool b11, .slice ao11 n11 c11] 91 ∧ WK wr (.agg #[.bool b4, .slice ao4 n4 c4, .bool b5, .slice ao5 n5 c5, .bool b6, .slice ao6 n6 c6, .bool b7, .slice ao7 n7 c7, .bool b8, .slice ao8 n8 c8, .bool b9, .slice ao9 n9 c9, .bool b10, .slice ao10 n10 c10, .bool b11, .slice ao11 n11 c11]) (rs a j).1 (rs a j).2 (n0 a) (cv (p0 a) (q0 a) (n0 a) j).lp (cv (p0 a) (q0 a) (n0 a) j).lq (cv (p0 a) (q0 a) (n0 a) j).ap (cv (p0 a) (q0 a) (n0 a) j).aq ∧ Blk wr (w.heap.size + 1) #[.bool false, .slice none 0 0, .bool false, .slice none 0 0] 62 ∧ Kp w wr)
  (fun i _ => n - (intOf i).toNat)
 case atStart => exact ⟨0, _, _, _, _, _, _, _, _, _, _, _, _, _, _, _, _, _, _, _, _, _, _, _, _, _, _, _, _, _, _, _, _, rfl, by omega, BA0, hW, BE0, hkw⟩
 case round =>
  clear hW BA0 BE0 hkw hv
  obtain ⟨j, b4, ao4, n4, c4, b5, ao5, n5, c5, b6, ao6, n6, c6, b7, ao7, n7, c7, b8, ao8, n8, c8, b9, ao9, n9, c9, b10, ao10, n10, c10, b11, ao11, n11, c11, rfl, hjK, BA, hW, BE, hkr⟩ := hrel
  have hR := hW.rr.1
  have hEn := ended_any _ _ _ _ wr hR
  by_cases hjn : j < n
  ·have hji : (j : Int) < (n : Int) := by omega
   have bac := BA.cell
   have bal := BA.lt
   by_cases hq : (rs a j).2 = 0
   ·have HKk : Hid (j = K) := by
     unfold Hid
     rcases Nat.lt_or_ge j K with e | e
     ·exact absurd hq (HK.out.on j e)
     ·omega
    rw [decide_eq_true hq] at hEn
    clear hq
    go_wp2_with fail
    refine hEn.mono ?_
    rintro e w2 ⟨rfl, hk2⟩
    replace BA := BA.keep hk2
    replace BE := BE.keep hk2
    replace hW := hW.keep hk2
    replace hkr := hkr.trans' hk2
    clear hEn bac bal hk2 hR
    obtain ⟨-, g5, g6⟩ := hW.rr
    rw [HKk.out] at g5 g6
    have bac := BA.cell
    have bal := BA.lt
    have bec := BE.cell
    have bef := BE.frozen
    have bel := BE.lt
    go_wp2_with fail
    refine bodyPost_ret (v := .agg #[.bool b8, .slice ao8 n8 c8, .bool b9, .slice ao9 n9 c9]) (by simp [results, Tryz.results22, go_sem, bec]) rfl ?_
    have hwe : ∀ o, w.heap.size ≤ (⟨w.heap.size + 1, o, none⟩ : Addr).block := fun _ => by show w.heap.size ≤ w.heap.size + 1; omega
    have sfE := (Sf.set (E := 2) (t := 62) (c := w.heap.size + 1) (o := 3) (y := .slice ao9 n9 c9) (Sf.set (t := 62) (c := w.heap.size + 1) (o := 2) (y := .bool b9) (Sf.set (t := 62) (c := w.heap.size + 1) (o := 1) (y := .slice ao8 n8 c8) (Sf.set (t := 62) (c := w.heap.size + 1) (o := 0) (y := .bool b8) (Sf.refl 2 w2) BE.elem (by decide)) (by simp only [elemOf_setCell]; exact BE.elem) (by decide)) (by simp only [elemOf_setCell]; exact BE.elem) (by decide)) (by simp only [elemOf_setCell]; exact BE.elem) (by decide))
    exact ⟨_, rfl, ⟨_, _, _, _, _, _, _, _, rfl, g5.soft sfE, g6.soft sfE⟩, Below.setCell (Below.setCell (Below.setCell (Below.setCell hkr (hwe _) _) (hwe _) _) (hwe _) _) (hwe _) _⟩
   ·have hjK2 : j < K := by
     rcases HK.out.stop with e | e
     ·omega
     ·rcases Nat.lt_or_ge j K with e2 | e2
      ·exact e2
      ·rw [show K = j by omega] at e; exact absurd e hq
    rw [decide_eq_false hq] at hEn
    have hs := HSZ.out j hjK
    obtain ⟨g1, g2, g3, g4⟩ := HCV.out j hjK
    have HNX := Hid.mk (fun (W : World) (hW : WK W (.agg #[.bool b4, .slice ao4 n4 c4, .bool b5, .slice ao5 n5 c5, .bool b6, .slice ao6 n6 c6, .bool b7, .slice ao7 n7 c7, .bool b8, .slice ao8 n8 c8, .bool b9, .slice ao9 n9 c9, .bool b10, .slice ao10 n10 c10, .bool b11, .slice ao11 n11 c11]) (rs a j).1 (rs a j).2 (n0 a) (cv (p0 a) (q0 a) (n0 a) j).lp (cv (p0 a) (q0 a) (n0 a) j).lq (cv (p0 a) (q0 a) (n0 a) j).ap (cv (p0 a) (q0 a) (n0 a) j).aq) => wnext_any _ _ _ _ _ _ _ 4500000 ((2400000 + 1) * j + 1) _ W hW (by decide) (by omega) (hs.p.mono (by decide)) (hs.q.mono (by decide)) hs.n (hs.r.mono (by decide)) hq HNN.out g1 g2 g3 g4)
    clear hs hq g1 g2 g3 g4
    go_wp2_with fail
    refine hEn.mono ?_
    rintro e w2 ⟨rfl, hk2⟩
    replace BA := BA.keep hk2
    replace BE := BE.keep hk2
    replace hW := hW.keep hk2
    replace hkr := hkr.trans' hk2
    have hNx := HNX.out w2 hW
    clear hEn bac bal hk2 hR
    have bac := BA.cell
    have bal := BA.lt
    go_wp2_with fail
    refine hNx.mono ?_
    rintro e w3 ⟨v3, rfl, hY, hk3⟩
    obtain ⟨b12, ao12, n12, c12, b13, ao13, n13, c13, b14, ao14, n14, c14, b15, ao15, n15, c15, b16, ao16, n16, c16, b17, ao17, n17, c17, b18, ao18, n18, c18, b19, ao19, n19, c19, rfl, _, _, _, _, _, _, _, _⟩ := id hY
    replace BA := BA.keep hk3
    replace BE := BE.keep hk3
    replace hkr := hkr.trans' hk3
    clear bac bal hNx HNX hW hk3
    have bac := BA.cell
    have baf := BA.frozen
    have bal := BA.lt
    go_wp2_with fail
    go_roundw
    case rel => exact ⟨j + 1, _, _, _, _, _, _, _, _, _, _, _, _, _, _, _, _, _, _, _, _, _, _, _, _, _, _, _, _, _, _, _, _, by go_num, by omega, (bl16 (.bool b12) (.slice ao12 n12 c12) (.bool b13) (.slice ao13 n13 c13) (.bool b14) (.slice ao14 n14 c14) (.bool b15) (.slice ao15 n15 c15) (.bool b16) (.slice ao16 n16 c16) (.bool b17) (.slice ao17 n17 c17) (.bool b18) (.slice ao18 n18 c18) (.bool b19) (.slice ao19 n19 c19) BA), hY.soft (sf16 (.bool b12) (.slice ao12 n12 c12) (.bool b13) (.slice ao13 n13 c13) (.bool b14) (.slice ao14 n14 c14) (.bool b15) (.slice ao15 n15 c15) (.bool b16) (.slice ao16 n16 c16) (.bool b17) (.slice ao17 n17 c17) (.bool b18) (.slice ao18 n18 c18) (.bool b19) (.slice ao19 n19 c19) BA (by decide)), (ot16 (A := AT) (.bool b12) (.slice ao12 n12 c12) (.bool b13) (.slice ao13 n13 c13) (.bool b14) (.slice ao14 n14 c14) (.bool b15) (.slice ao15 n15 c15) (.bool b16) (.slice ao16 n16 c16) (.bool b17) (.slice ao17 n17 c17) (.bool b18) (.slice ao18 n18 c18) (.bool b19) (.slice ao19 n19 c19) BE (by omega)), (kp16 (A := AT) (.bool b12) (.slice ao12 n12 c12) (.bool b13) (.slice ao13 n13 c13) (.bool b14) (.slice ao14 n14 c14) (.bool b15) (.slice ao15 n15 c15) (.bool b16) (.slice ao16 n16 c16) (.bool b17) (.slice ao17 n17 c17) (.bool b18) (.slice ao18 n18 c18) (.bool b19) (.slice ao19 n19 c19) hkr (by omega))⟩
    case measure => simp [intOf]; omega
  ·have HKk : Hid (j = K) := by unfold Hid; omega
   have hji : ¬ (j : Int) < (n : Int) := by omega
   clear hEn hR
   obtain ⟨-, g5, g6⟩ := hW.rr
   rw [HKk.out] at g5 g6
   have bac := BA.cell
   have bal := BA.lt
   have bec := BE.cell
   have bef := BE.frozen
   have bel := BE.lt
   go_wp2_with fail
   refine bodyPost_ret (v := .agg #[.bool b8, .slice ao8 n8 c8, .bool b9, .slice ao9 n9 c9]) (by simp [results, Tryz.results22, go_sem, bec]) rfl ?_
   have hwe : ∀ o, w.heap.size ≤ (⟨w.heap.size + 1, o, none⟩ : Addr).block := fun _ => by show w.heap.size ≤ w.heap.size + 1; omega
   have sfE := (Sf.set (E := 2) (t := 62) (c := w.heap.size + 1) (o := 3) (y := .slice ao9 n9 c9) (Sf.set (t := 62) (c := w.heap.size + 1) (o := 2) (y := .bool b9) (Sf.set (t := 62) (c := w.heap.size + 1) (o := 1) (y := .slice ao8 n8 c8) (Sf.set (t := 62) (c := w.heap.size + 1) (o := 0) (y := .bool b8) (Sf.refl 2 wr) BE.elem (by decide)) (by simp only [elemOf_setCell]; exact BE.elem) (by decide)) (by simp only [elemOf_setCell]; exact BE.elem) (by decide)) (by simp only [elemOf_setCell]; exact BE.elem) (by decide))
   exact ⟨_, rfl, ⟨_, _, _, _, _, _, _, _, rfl, g5.soft sfE, g6.soft sfE⟩, Below.setCell (Below.setCell (Below.setCell (Below.setCell hkr (hwe _) _) (hwe _) _) (hwe _) _) (hwe _) _⟩

end Go.Proofs.YtjahbjjekednfaaGreatDoor
