import Derived.Test.YtjahbjjekednfabDoorR9g
import Derived.Test.YtjahbjjekednfabDoorSt
namespace Go.Proofs.YtjahbjjekednfabDoor
open Go.RowKit

/-- What pair tells: a x + b y is the greatest common divisor, and they are small. -/
structure PairOk (a b x y : Int) : Prop where
 eq : a * x + b * y = Int.gcd a b
 z : b = 0 → x = 1 ∧ y = 0
 s : b ≠ 0 → x.natAbs ≤ b.natAbs ∧ (y.natAbs ≤ 1 ∨ y.natAbs ≤ a.natAbs)
theorem pair_zero {a : Int} (h : 0 ≤ a) : PairOk a 0 1 0 := ⟨by rw [Int.gcd_zero_right]; omega, fun _ => ⟨rfl, rfl⟩, fun h => absurd rfl h⟩
theorem pair_next {a b x y : Int} (ha : 0 ≤ a) (hb : 0 < b) (h : PairOk b (a % b) x y) : PairOk a b y (x - a / b * y) := by
 have e := Int.mul_ediv_add_emod a b
 have r0 := Int.emod_nonneg a (show b ≠ 0 by omega)
 have r1 := Int.emod_lt_of_pos a hb
 have q0 := Int.ediv_nonneg ha (Int.le_of_lt hb)
 refine ⟨?_, fun k => by omega, fun _ => ?_⟩
 ·have h1 := h.eq
  have h2 : Int.gcd a b = Int.gcd b (a % b) := by
   have := gcd_turn a b
   rwa [show (a.natAbs : Int) = a by omega, show (b.natAbs : Int) = b by omega] at this
  rw [h2, ← h1]
  grind
 ·by_cases hr : a % b = 0
  ·obtain ⟨rfl, rfl⟩ := h.z hr
   refine ⟨by simp, Or.inl (by simp)⟩
  ·obtain ⟨b1, b2⟩ := h.s hr
   have by1 : y.natAbs ≤ b.natAbs := by omega
   refine ⟨by1, Or.inr ?_⟩
   have h3 : (x - a / b * y).natAbs ≤ x.natAbs + (a / b * y).natAbs := by omega
   have h4 : (a / b * y).natAbs ≤ (a / b).natAbs * b.natAbs := by
    rw [Int.natAbs_mul]; exact Nat.mul_le_mul_left _ by1
   have h5 : ((a / b).natAbs * b.natAbs : Nat) = (b * (a / b)).natAbs := by rw [Int.natAbs_mul, Nat.mul_comm]
   have h6 : 0 ≤ b * (a / b) := Int.mul_nonneg (by omega) q0
   omega
def RetPr (w : World) (a b : Int) (e : Ending) (w' : World) : Prop := ∃ u v x y, e = .returned (.tuple #[u, v]) ∧ IN w' u x ∧ IN w' v y ∧ Hid (PairOk a b x y) ∧ Kp w w'

set_option maxHeartbeats 3200000 in
set_option maxRecDepth 100000 in
theorem pair_z (a b : Int) (m : Nat) (u v : Value) (w : World) (ha : IN w u a) (hb : IN w v b) (a0 : 0 ≤ a) (_m1 : 1 ≤ m) (_hm : m ≤ 100000) (_fa : Ft m a) (_fb : Ft m b) (hz : b = 0) : Calls Tryd.prog 54 #[u, v] w (RetPr w a b) := by
 obtain ⟨b1, ao1, n1, c1, rfl⟩ := ha.shape'
 obtain ⟨b2, ao2, n2, c2, rfl⟩ := hb.shape'
 have hn0 : n2 = 0 := hb.len.1.mpr hz
 subst hn0
 have HP : Hid (PairOk a b 1 0) := by rw [hz]; exact pair_zero a0
 clear hz a0 _m1 _hm _fa _fb ha hb
 go_enter Tryd.func54, Tryd.ntmps54
 go_wp2_with fail
 have kp0 : Kp w _ := (Kp.alloc' (Kp.alloc' (Kp.alloc' (Kp.alloc' (Below.refl w.heap.size w) (.cells #[.bool b1, .slice ao1 n1 c1] 81)) (.cells #[.bool b2, .slice ao2 0 c2] 81)) (.cells #[.bool false, .slice none 0 0] 81)) (.cells #[.bool false, .slice none 0 0] 81))
 have sf0 : Sf 3 w _ := (Sf.alloc (Sf.alloc (Sf.alloc (Sf.alloc (Sf.refl 3 w) (.cells #[.bool b1, .slice ao1 n1 c1] 81)) (.cells #[.bool b2, .slice ao2 0 c2] 81)) (.cells #[.bool false, .slice none 0 0] 81)) (.cells #[.bool false, .slice none 0 0] 81))
 refine (of_any 1 _ (by decide) (by decide)).mono ?_
 rintro e w1 ⟨v1, rfl, hv1, hk1⟩
 obtain ⟨b3, ao3, n3, c3, rfl⟩ := hv1.shape'
 have kq0 := kp0.trans' hk1
 have sq0 := sf0.trans (Sf.keep hk1)
 have B1res : Blk w1 (w.heap.size + 1 + 1) #[.bool false, .slice none 0 0] 81 := Blk.keep hk1 (Blk.at (Blk.alloc (Blk.new _ _ _) _) (by simp))
 have B1ret : Blk w1 (w.heap.size + 1 + 1 + 1) #[.bool false, .slice none 0 0] 81 := Blk.keep hk1 (Blk.at (Blk.new _ _ _) (by simp))
 have B1resc := B1res.cell
 have B1resf := B1res.frozen
 have B1resl := B1res.lt
 have ge1res : w.heap.size ≤ w.heap.size + 1 + 1 := by (first | omega | (have := kp0.size; simp only [World.size_alloc, size_setCell', size_drew'] at this; omega))
 have B1retc := B1ret.cell
 have B1retf := B1ret.frozen
 have B1retl := B1ret.lt
 have ge1ret : w.heap.size ≤ w.heap.size + 1 + 1 + 1 := by (first | omega | (have := kp0.size; simp only [World.size_alloc, size_setCell', size_drew'] at this; omega))
 go_wp2_with fail
 refine bodyPost_ret (v := .tuple #[.agg #[.bool b3, .slice ao3 n3 c3], .agg #[.bool false, .slice none 0 0]]) (by simp [results, Tryd.results54, go_sem, B1resc, B1retc]) rfl ?_
 have kpE : Kp w _ := (Below.setCell (Below.setCell (Below.setCell (Below.setCell kq0 (p := ⟨w.heap.size + 1 + 1, 0, none⟩) (by have := ge1res; omega) (.bool b3)) (p := ⟨w.heap.size + 1 + 1, 1, none⟩) (by have := ge1res; omega) (.slice ao3 n3 c3)) (p := ⟨w.heap.size + 1 + 1 + 1, 0, none⟩) (by have := ge1ret; omega) (.bool false)) (p := ⟨w.heap.size + 1 + 1 + 1, 1, none⟩) (by have := ge1ret; omega) (.slice none 0 0))
 have sfE : Sf 3 w1 _ := (Sf.set (t := 81) (c := w.heap.size + 1 + 1 + 1) (o := 1) (y := .slice none 0 0) (Sf.set (t := 81) (c := w.heap.size + 1 + 1 + 1) (o := 0) (y := .bool false) (Sf.set (t := 81) (c := w.heap.size + 1 + 1) (o := 1) (y := .slice ao3 n3 c3) (Sf.set (t := 81) (c := w.heap.size + 1 + 1) (o := 0) (y := .bool b3) (Sf.refl 3 w1) (by first | (simp only [elemOf_setCell]; exact B1res.elem) | exact B1res.elem) (by decide)) (by first | (simp only [elemOf_setCell]; exact B1res.elem) | exact B1res.elem) (by decide)) (by first | (simp only [elemOf_setCell]; exact B1ret.elem) | exact B1ret.elem) (by decide)) (by first | (simp only [elemOf_setCell]; exact B1ret.elem) | exact B1ret.elem) (by decide))
 exact ⟨_, _, _, _, rfl, hv1.soft sfE, in_zero _, HP, kpE⟩

set_option maxHeartbeats 3200000 in
set_option maxRecDepth 100000 in
theorem pair_s (a b : Int) (m : Nat) (u v : Value) (w : World) (ha : IN w u a) (hb : IN w v b) (a0 : 0 ≤ a) (m1 : 1 ≤ m) (hm : m ≤ 100000) (fa : Ft m a) (fb : Ft m b) (hz : 0 < b) (IH : ∀ (u v : Value) (w : World), IN w u b → IN w v (a % b) → Calls Tryd.prog 54 #[u, v] w (RetPr w b (a % b))) : Calls Tryd.prog 54 #[u, v] w (RetPr w a b) := by
 obtain ⟨b1, ao1, n1, c1, rfl⟩ := ha.shape'
 obtain ⟨b2, ao2, n2, c2, rfl⟩ := hb.shape'
 have hnl := hb.len
 have hn0 : n2 ≠ 0 := fun h => by have := hnl.1.mp h; omega
 have hn1 : ((n2 : Int) == 0) = false := by simp; omega
 have hn2 := hnl.2
 clear hnl
 have fq : Ft m (a / b) := fa.le (by have h1 := Int.ediv_nonneg a0 (Int.le_of_lt hz); have h2 := Int.ediv_le_self b a0; omega)
 have HN := Hid.mk (fun (x y : Int) (h : PairOk b (a % b) x y) => pair_next a0 hz h)
 have HB := Hid.mk (fun (x y : Int) (h : PairOk b (a % b) x y) => (show Ft m x ∧ Ft m y from by
  have r0 := Int.emod_nonneg a (show b ≠ 0 by omega)
  have r1 := Int.emod_lt_of_pos a hz
  have p1 : 1 < 10 ^ m := Nat.lt_of_lt_of_le (by decide) (Nat.pow_le_pow_right (by decide) m1)
  unfold Ft at *
  by_cases hr : a % b = 0
  ·obtain ⟨rfl, rfl⟩ := h.z hr
   exact ⟨p1, by simp; omega⟩
  ·obtain ⟨b1, b2⟩ := h.s hr
   omega))
 go_enter Tryd.func54, Tryd.ntmps54
 go_wp2_with fail
 have kp0 : Kp w _ := (Kp.alloc' (Kp.alloc' (Kp.alloc' (Kp.alloc' (Below.refl w.heap.size w) (.cells #[.bool b1, .slice ao1 n1 c1] 81)) (.cells #[.bool b2, .slice ao2 n2 c2] 81)) (.cells #[.bool false, .slice none 0 0] 81)) (.cells #[.bool false, .slice none 0 0] 81))
 have sf0 : Sf 3 w _ := (Sf.alloc (Sf.alloc (Sf.alloc (Sf.alloc (Sf.refl 3 w) (.cells #[.bool b1, .slice ao1 n1 c1] 81)) (.cells #[.bool b2, .slice ao2 n2 c2] 81)) (.cells #[.bool false, .slice none 0 0] 81)) (.cells #[.bool false, .slice none 0 0] 81))
 refine (rdiv_any a b m _ _ _ (ha.soft sf0) (hb.soft sf0) a0 hz (by omega) fa fb).mono ?_
 rintro e w1 ⟨v3, v4, rfl, hv3, hv4, hk1⟩
 obtain ⟨b3, ao3, n3, c3, rfl⟩ := hv3.shape'
 obtain ⟨b4, ao4, n4, c4, rfl⟩ := hv4.shape'
 have kq0 := kp0.trans' hk1
 have sq0 := sf0.trans (Sf.keep hk1)
 have B1b : Blk w1 (w.heap.size + 1) #[.bool b2, .slice ao2 n2 c2] 81 := Blk.keep hk1 (Blk.at (Blk.alloc (Blk.alloc (Blk.new _ _ _) _) _) (by simp))
 have B1res : Blk w1 (w.heap.size + 1 + 1) #[.bool false, .slice none 0 0] 81 := Blk.keep hk1 (Blk.at (Blk.alloc (Blk.new _ _ _) _) (by simp))
 have B1ret : Blk w1 (w.heap.size + 1 + 1 + 1) #[.bool false, .slice none 0 0] 81 := Blk.keep hk1 (Blk.at (Blk.new _ _ _) (by simp))
 have B1bc := B1b.cell
 have B1bf := B1b.frozen
 have B1bl := B1b.lt
 have ge1b : w.heap.size ≤ w.heap.size + 1 := by (first | omega | (have := kp0.size; simp only [World.size_alloc, size_setCell', size_drew'] at this; omega))
 have B1resc := B1res.cell
 have B1resf := B1res.frozen
 have B1resl := B1res.lt
 have ge1res : w.heap.size ≤ w.heap.size + 1 + 1 := by (first | omega | (have := kp0.size; simp only [World.size_alloc, size_setCell', size_drew'] at this; omega))
 have B1retc := B1ret.cell
 have B1retf := B1ret.frozen
 have B1retl := B1ret.lt
 have ge1ret : w.heap.size ≤ w.heap.size + 1 + 1 + 1 := by (first | omega | (have := kp0.size; simp only [World.size_alloc, size_setCell', size_drew'] at this; omega))
 replace hb := hb.soft sq0
 have Bz := Blk.alloc (Blk.alloc B1b (.cells #[.bool b3, .slice ao3 n3 c3] 81)) (.cells #[.bool b4, .slice ao4 n4 c4] 81)
 have bzc := Bz.cell
 have bzl := Bz.lt
 go_wp2_with fail
 have kp1 : Kp w _ := (Kp.alloc' (Kp.alloc' kq0 (.cells #[.bool b3, .slice ao3 n3 c3] 81)) (.cells #[.bool b4, .slice ao4 n4 c4] 81))
 have sf1 : Sf 3 w1 _ := (Sf.alloc (Sf.alloc (Sf.refl 3 w1) (.cells #[.bool b3, .slice ao3 n3 c3] 81)) (.cells #[.bool b4, .slice ao4 n4 c4] 81))
 refine (IH _ _ _ (hb.soft sf1) (hv4.soft sf1)).mono ?_
 rintro e w2 ⟨v5, v6, x, y, rfl, hv5, hv6, HP, hk2⟩
 obtain ⟨b5, ao5, n5, c5, rfl⟩ := hv5.shape'
 obtain ⟨b6, ao6, n6, c6, rfl⟩ := hv6.shape'
 have kq1 := kp1.trans' hk2
 have sq1 := sf1.trans (Sf.keep hk2)
 have B2res : Blk w2 (w.heap.size + 1 + 1) #[.bool false, .slice none 0 0] 81 := Blk.keep hk2 (Blk.alloc (Blk.alloc B1res _) _)
 have B2ret : Blk w2 (w.heap.size + 1 + 1 + 1) #[.bool false, .slice none 0 0] 81 := Blk.keep hk2 (Blk.alloc (Blk.alloc B1ret _) _)
 have B2q : Blk w2 (w1.heap.size) #[.bool b3, .slice ao3 n3 c3] 81 := Blk.keep hk2 (Blk.at (Blk.alloc (Blk.new _ _ _) _) (by simp))
 have B2resc := B2res.cell
 have B2resf := B2res.frozen
 have B2resl := B2res.lt
 have ge2res : w.heap.size ≤ w.heap.size + 1 + 1 := by (first | omega | (have := kp1.size; simp only [World.size_alloc, size_setCell', size_drew'] at this; omega))
 have B2retc := B2ret.cell
 have B2retf := B2ret.frozen
 have B2retl := B2ret.lt
 have ge2ret : w.heap.size ≤ w.heap.size + 1 + 1 + 1 := by (first | omega | (have := kp1.size; simp only [World.size_alloc, size_setCell', size_drew'] at this; omega))
 have B2qc := B2q.cell
 have B2qf := B2q.frozen
 have B2ql := B2q.lt
 have ge2q : w.heap.size ≤ w1.heap.size := by (first | omega | (have := kp1.size; simp only [World.size_alloc, size_setCell', size_drew'] at this; omega))
 replace hv3 := hv3.soft sq1
 clear B1b B1bc B1bf B1res B1resc B1resf B1ret B1retc B1retf
 clear Bz bzc bzl
 have hP := HN.out x y HP.out
 have HP2 := Hid.mk hP
 have hB := HB.out x y HP.out
 have f1 : Fit x := hB.1.fit (by omega)
 have f2 : Fit y := hB.2.fit (by omega)
 have f3 : Fit (a / b) := fq.fit (by omega)
 have f4 : Fit (a / b * y) := (fq.mul hB.2).fit (by omega)
 clear hP HN HB HP IH hB fq fa fb
 generalize a / b = Q at *
 have ka : Kp w2 ((w2.alloc (.cells #[.bool b5, .slice ao5 n5 c5] 81)).alloc (.cells #[.bool b6, .slice ao6 n6 c6] 81)) := Kp.alloc' (kp_alloc w2 _) _
 have hkw := kq1.trans' ka
 have BX : Blk ((w2.alloc (.cells #[.bool b5, .slice ao5 n5 c5] 81)).alloc (.cells #[.bool b6, .slice ao6 n6 c6] 81)) w2.heap.size #[.bool b5, .slice ao5 n5 c5] 81 := Blk.alloc (Blk.new w2 _ _) _
 have BY : Blk ((w2.alloc (.cells #[.bool b5, .slice ao5 n5 c5] 81)).alloc (.cells #[.bool b6, .slice ao6 n6 c6] 81)) (w2.heap.size + 1) #[.bool b6, .slice ao6 n6 c6] 81 := Blk.at (Blk.new (w2.alloc (.cells #[.bool b5, .slice ao5 n5 c5] 81)) _ _) (by simp)
 have BQ := B2q.keep ka
 have BE := B2res.keep ka
 have BR := B2ret.keep ka
 have hQ := hv3.keep ka
 replace hv5 := hv5.keep ka
 replace hv6 := hv6.keep ka
 have lq : w1.heap.size < w2.heap.size := B2q.lt
 have lr : w.heap.size + 1 + 1 + 1 < w2.heap.size := B2ret.lt
 clear ka B2q B2res B2ret hv3
 go_wp2_with fail
 clear B2qc B2qf B2ql B2resc B2resf B2resl B2retc B2retf B2retl
 generalize ((w2.alloc (.cells #[.bool b5, .slice ao5 n5 c5] 81)).alloc (.cells #[.bool b6, .slice ao6 n6 c6] 81)) = wb at *
 generalize hAY : w2.heap.size + 1 = AY at *
 generalize w2.heap.size = AX at *
 have hlt : AX < AY := by omega
 clear hAY
 replace hQ := hQ.soft (Sf.drew (Sf.refl _ _))
 replace hv5 := hv5.soft (Sf.drew (Sf.refl _ _))
 replace hv6 := hv6.soft (Sf.drew (Sf.refl _ _))
 replace BE := BE.drew
 replace BR := BR.drew
 refine wp_region_l (S := fun w' => Blk w' AX #[.bool b5, .slice ao5 n5 c5] 81 ∧ Blk w' AY #[.bool b6, .slice ao6 n6 c6] 81 ∧ Blk w' w1.heap.size #[.bool b3, .slice ao3 n3 c3] 81 ∧ Kp w w') (by kernel_rfl) ⟨BX.drew, BY.drew, BQ.drew, Kp.drew' hkw⟩ (fun hS0 => ?_)
 clear BX BY BQ hkw
 generalize wb.drew = wd at *
 refine wpAnyL_tk (i := 0) (k := 6) (v := .agg #[.bool b6, .slice ao6 n6 c6]) rfl ?_ hS0 ?_
 ·intro w' hw'; have hc := hw'.2.1.cell; go_simp
 simp only [sq]
 refine wpAnyL_tk (i := 1) (k := 5) (v := .agg #[.bool b5, .slice ao5 n5 c5]) rfl ?_ hS0 ?_
 ·intro w' hw'; have hc := hw'.1.cell; go_simp
 simp only [sq]
 refine wpAnyL_tk (i := 2) (k := 4) (v := .agg #[.bool b3, .slice ao3 n3 c3]) rfl ?_ hS0 ?_
 ·intro w' hw'; have hc := hw'.2.2.1.cell; go_simp
 simp only [sq]
 refine wpAnyL_tk (i := 3) (k := 4) (v := .agg #[.bool b6, .slice ao6 n6 c6]) rfl ?_ hS0 ?_
 ·intro w' hw'; have hc := hw'.2.1.cell; go_simp
 simp only [sq]
 refine wpAnyL_on (i := 4) rfl (fun K hK => ?_)
 go_simp
 refine (rtimes_any Q y _ _ _ hQ hv6 f3 f2).mono ?_
 rintro e w5 ⟨v7, rfl, hv7, hk5⟩
 obtain ⟨b7, ao7, n7, c7, rfl⟩ := hv7.shape'
 replace BE := BE.keep hk5
 replace BR := BR.keep hk5
 replace hv5 := hv5.keep hk5
 replace hv6 := hv6.keep hk5
 go_wp2_with fail
 refine hK.out _ _ ⟨hS0.1.keep hk5, hS0.2.1.keep hk5, hS0.2.2.1.keep hk5, hS0.2.2.2.trans' hk5⟩ (fun hS1 => ?_)
 clear hK K hS0 hk5 hQ
 refine wpAnyL_on (i := 5) rfl (fun K hK => ?_)
 go_simp
 refine (rminus_any x (Q * y) _ _ _ hv5 hv7 f1 f4).mono ?_
 rintro e w6 ⟨v8, rfl, hv8, hk6⟩
 obtain ⟨b8, ao8, n8, c8, rfl⟩ := hv8.shape'
 replace BE := BE.keep hk6
 replace BR := BR.keep hk6
 replace hv6 := hv6.keep hk6
 go_wp2_with fail
 refine hK.out _ _ ⟨hS1.1.keep hk6, hS1.2.1.keep hk6, hS1.2.2.1.keep hk6, hS1.2.2.2.trans' hk6⟩ (fun hS2 => ?_)
 clear hK K hS1 hk6 hv7 hv5
 refine wpAnyL_on (i := 6) rfl (fun K hK => ?_)
 have bec := BE.cell
 have bef := BE.frozen
 have bel := BE.lt
 go_simp
 refine hK.out _ _ ⟨(ot2 (A := w.heap.size + 1 + 1) (.bool b6) (.slice ao6 n6 c6) hS2.1 (by omega)), (ot2 (A := w.heap.size + 1 + 1) (.bool b6) (.slice ao6 n6 c6) hS2.2.1 (by omega)), (ot2 (A := w.heap.size + 1 + 1) (.bool b6) (.slice ao6 n6 c6) hS2.2.2.1 (by omega)), (kp2 (A := w.heap.size + 1 + 1) (.bool b6) (.slice ao6 n6 c6) hS2.2.2.2 (by omega))⟩ (fun hS3 => ?_)
 clear hK K hS2
 have sf1 := (sf2 (E := 3) (.bool b6) (.slice ao6 n6 c6) BE (by decide))
 replace BR := (ot2 (A := w.heap.size + 1 + 1) (.bool b6) (.slice ao6 n6 c6) BR (by omega))
 replace BE := (bl2 (.bool b6) (.slice ao6 n6 c6) BE)
 replace hv6 := hv6.soft sf1
 replace hv8 := hv8.soft sf1
 clear bec bef bel sf1
 generalize ((w6.setCell ⟨w.heap.size + 1 + 1, 0, none⟩ (.bool b6)).setCell ⟨w.heap.size + 1 + 1, 1, none⟩ (.slice ao6 n6 c6)) = w7 at *
 refine wpAnyL_last (i := 7) rfl (by kernel_rfl) (by kernel_rfl) (by kernel_rfl) (fun K hK => ?_)
 have brc := BR.cell
 have brf := BR.frozen
 have brl := BR.lt
 go_simp
 refine hK.out _ _ ?_
 clear hK K
 have sf1 := (sf2 (E := 3) (.bool b8) (.slice ao8 n8 c8) BR (by decide))
 replace BE := (ot2 (A := w.heap.size + 1 + 1 + 1) (.bool b8) (.slice ao8 n8 c8) BE (by omega))
 replace BR := (bl2 (.bool b8) (.slice ao8 n8 c8) BR)
 replace hv6 := hv6.soft sf1
 replace hv8 := hv8.soft sf1
 have hkE := (kp2 (A := w.heap.size + 1 + 1 + 1) (.bool b8) (.slice ao8 n8 c8) hS3.2.2.2 (by omega))
 clear brc brf brl sf1 hS3
 generalize ((w7.setCell ⟨w.heap.size + 1 + 1 + 1, 0, none⟩ (.bool b8)).setCell ⟨w.heap.size + 1 + 1 + 1, 1, none⟩ (.slice ao8 n8 c8)) = w8 at *
 have be2c := BE.cell
 have br2c := BR.cell
 go_wp2_with fail
 refine bodyPost_ret (v := .tuple #[.agg #[.bool b6, .slice ao6 n6 c6], .agg #[.bool b8, .slice ao8 n8 c8]]) (by simp [results, Tryd.results54, go_sem, be2c, br2c]) rfl ?_
 exact ⟨_, _, _, _, rfl, hv6, hv8, HP2, hkE⟩

theorem pair_any : ∀ (k : Nat) (a b : Int) (m : Nat) (u v : Value) (w : World), b.natAbs ≤ k → IN w u a → IN w v b → 0 ≤ a → 0 ≤ b → 1 ≤ m → m ≤ 100000 → Ft m a → Ft m b → Calls Tryd.prog 54 #[u, v] w (RetPr w a b)
 | 0, a, b, m, u, v, w, hk, ha, hb, a0, b0, m1, hm, fa, fb => pair_z a b m u v w ha hb a0 m1 hm fa fb (by omega)
 | k + 1, a, b, m, u, v, w, hk, ha, hb, a0, b0, m1, hm, fa, fb => by
  by_cases hz : b = 0
  ·exact pair_z a b m u v w ha hb a0 m1 hm fa fb hz
  ·have h1 : 0 ≤ a % b := Int.emod_nonneg _ hz
   have h2 : a % b < b := Int.emod_lt_of_pos _ (by omega)
   refine pair_s a b m u v w ha hb a0 m1 hm fa fb (by omega) (fun u' v' w' hu' hv' => pair_any k _ _ m u' v' w' (by omega) hu' hv' b0 h1 m1 hm fb (fb.le (by omega)))

end Go.Proofs.YtjahbjjekednfabDoor
