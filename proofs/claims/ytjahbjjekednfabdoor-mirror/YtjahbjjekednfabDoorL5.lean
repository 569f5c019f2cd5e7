import Derived.Test.YtjahbjjekednfabDoorL4
import Derived.Test.YtjahbjjekednfabDoorF1
import Derived.Deep.CutRange
import Derived.Deep.LoopGhost
namespace Go.Proofs.YtjahbjjekednfabDoor
open Go.RowKit

/-- What holds all along: f is a*x, s is a*y, but for multiples of b. -/
structure Sh (a b f s x y : Int) : Prop where
 e1 : ∃ k, f = a * x + b * k
 e2 : ∃ k, s = a * y + b * k
 g : Int.gcd f s = Int.gcd a b
 m : x.natAbs * s.natAbs + y.natAbs * f.natAbs ≤ b.natAbs
 x : x.natAbs ≤ b.natAbs + 1
 y : y.natAbs ≤ b.natAbs
 f : f.natAbs ≤ a.natAbs + b.natAbs
 s : s.natAbs ≤ a.natAbs + b.natAbs
theorem sh_start (a b : Int) : Sh a b a b 1 0 := ⟨⟨0, by omega⟩, ⟨1, by omega⟩, rfl, by simp, by omega, by omega, by omega, by omega⟩
theorem gcd_tmod' (f s : Int) : Int.gcd s (f.tmod s) = Int.gcd f s := by
 unfold Int.gcd
 rw [Int.natAbs_tmod, Nat.gcd_comm f.natAbs, Nat.gcd_comm s.natAbs (f.natAbs % s.natAbs)]
 exact (Nat.gcd_rec s.natAbs f.natAbs).symm
theorem sh_step {a b f s x y : Int} (h : Sh a b f s x y) (hs : s ≠ 0) : Sh a b s (f.tmod s) y (x - f.tdiv s * y) := by
 obtain ⟨k1, e1⟩ := h.e1
 obtain ⟨k2, e2⟩ := h.e2
 have hd := Int.tmod_add_mul_tdiv f s
 have hab : f.natAbs = (f.tmod s).natAbs + s.natAbs * (f.tdiv s).natAbs := by
  rw [Int.natAbs_tmod, Int.natAbs_tdiv]
  exact (Nat.mod_add_div _ _).symm
 have hz : (x - f.tdiv s * y).natAbs ≤ x.natAbs + (f.tdiv s).natAbs * y.natAbs := by
  rw [← Int.natAbs_mul]
  omega
 have hm : (y.natAbs) * (f.tmod s).natAbs + (x - f.tdiv s * y).natAbs * s.natAbs ≤ b.natAbs := by
  have h1 := Nat.mul_le_mul_right s.natAbs hz
  have h2 := h.m
  rw [hab] at h2
  generalize (f.tmod s).natAbs = R at *
  generalize (f.tdiv s).natAbs = Q at *
  have e3 : (x.natAbs + Q * y.natAbs) * s.natAbs = x.natAbs * s.natAbs + y.natAbs * (s.natAbs * Q) := by grind
  have e4 : y.natAbs * (R + s.natAbs * Q) = y.natAbs * R + y.natAbs * (s.natAbs * Q) := by grind
  omega
 have hlt : (f.tmod s).natAbs < s.natAbs := by
  rw [Int.natAbs_tmod]
  exact Nat.mod_lt _ (by omega)
 refine ⟨⟨k2, e2⟩, ⟨k1 - f.tdiv s * k2, ?_⟩, ?_, hm, by have := h.y; omega, ?_, h.s, by have := h.s; omega⟩
 ·have : f.tmod s = f - s * f.tdiv s := by omega
  rw [this, e1]
  conv => lhs; rw [e2]
  have e5 : f.tdiv s = (a * x + b * k1).tdiv s := by rw [← e1]
  rw [← e5]
  grind
 ·rw [← h.g]
  exact gcd_tmod' f s
 ·have h3 : (x - f.tdiv s * y).natAbs * 1 ≤ (x - f.tdiv s * y).natAbs * s.natAbs := Nat.mul_le_mul_left _ (by omega)
  omega
/-- A call that returns the greatest common divisor (or its opposite), and the factor. -/
def RetSh (w : World) (a b : Int) (e : Ending) (w' : World) : Prop := ∃ u v g x, e = .returned (.tuple #[u, v]) ∧ WN w' u g ∧ WN w' v x ∧ Hid (g.natAbs = Int.gcd a b ∧ (∃ k, g = a * x + b * k) ∧ x.natAbs ≤ b.natAbs + 1) ∧ Kp w w'
theorem sh_end {a b f s x y : Int} (h : Sh a b f s x y) (hs : s = 0) : f.natAbs = Int.gcd a b ∧ (∃ k, f = a * x + b * k) ∧ x.natAbs ≤ b.natAbs + 1 := by
 refine ⟨?_, h.e1, h.x⟩
 rw [← h.g, hs]
 unfold Int.gcd
 simp

set_option maxHeartbeats 6400000 in
set_option maxRecDepth 100000 in
theorem share_any (a b : Int) (m : Nat) (u v : Value) (w : World) (hu : WN w u a) (hv : WN w v b) (hm : m ≤ 1000000) (fa : Ft m a) (fb : Ft m b) : Calls Tryd.prog 81 #[u, v] w (RetSh w a b) := by
 obtain ⟨b1, ao1, n1, c1, rfl⟩ := hu.shape'
 obtain ⟨b2, ao2, n2, c2, rfl⟩ := hv.shape'
 have HFT : Hid (∀ t : Int, t.natAbs ≤ a.natAbs + b.natAbs + 1 → Ft (m + 1) t) := by
  intro t ht
  unfold Ft at *
  rw [Nat.pow_succ]
  omega
 clear fa fb
 have kp0 : Kp w ((((w.alloc (.cells #[.bool b1, .slice ao1 n1 c1] 60)).alloc (.cells #[.bool b2, .slice ao2 n2 c2] 60)).alloc (.cells #[.bool false, .slice none 0 0] 60)).alloc (.cells #[.bool false, .slice none 0 0] 60)) := Kp.alloc' (Kp.alloc' (Kp.alloc' (kp_alloc w _) _) _) _
 have BA4 : Blk ((((w.alloc (.cells #[.bool b1, .slice ao1 n1 c1] 60)).alloc (.cells #[.bool b2, .slice ao2 n2 c2] 60)).alloc (.cells #[.bool false, .slice none 0 0] 60)).alloc (.cells #[.bool false, .slice none 0 0] 60)) (w.heap.size) #[.bool b1, .slice ao1 n1 c1] 60 := (Blk.alloc (Blk.alloc (Blk.alloc (Blk.new w _ _) (.cells #[.bool b2, .slice ao2 n2 c2] 60)) (.cells #[.bool false, .slice none 0 0] 60)) (.cells #[.bool false, .slice none 0 0] 60))
 have BB4 : Blk ((((w.alloc (.cells #[.bool b1, .slice ao1 n1 c1] 60)).alloc (.cells #[.bool b2, .slice ao2 n2 c2] 60)).alloc (.cells #[.bool false, .slice none 0 0] 60)).alloc (.cells #[.bool false, .slice none 0 0] 60)) (w.heap.size + 1) #[.bool b2, .slice ao2 n2 c2] 60 := (Blk.alloc (Blk.alloc (Blk.at (Blk.new (w.alloc (.cells #[.bool b1, .slice ao1 n1 c1] 60)) _ _) (by simp)) (.cells #[.bool false, .slice none 0 0] 60)) (.cells #[.bool false, .slice none 0 0] 60))
 have BR1 : Blk ((((w.alloc (.cells #[.bool b1, .slice ao1 n1 c1] 60)).alloc (.cells #[.bool b2, .slice ao2 n2 c2] 60)).alloc (.cells #[.bool false, .slice none 0 0] 60)).alloc (.cells #[.bool false, .slice none 0 0] 60)) (w.heap.size + 1 + 1) #[.bool false, .slice none 0 0] 60 := (Blk.alloc (Blk.at (Blk.new ((w.alloc (.cells #[.bool b1, .slice ao1 n1 c1] 60)).alloc (.cells #[.bool b2, .slice ao2 n2 c2] 60)) _ _) (by simp)) (.cells #[.bool false, .slice none 0 0] 60))
 have BR2 : Blk ((((w.alloc (.cells #[.bool b1, .slice ao1 n1 c1] 60)).alloc (.cells #[.bool b2, .slice ao2 n2 c2] 60)).alloc (.cells #[.bool false, .slice none 0 0] 60)).alloc (.cells #[.bool false, .slice none 0 0] 60)) (w.heap.size + 1 + 1 + 1) #[.bool false, .slice none 0 0] 60 := (Blk.at (Blk.new (((w.alloc (.cells #[.bool b1, .slice ao1 n1 c1] 60)).alloc (.cells #[.bool b2, .slice ao2 n2 c2] 60)).alloc (.cells #[.bool false, .slice none 0 0] 60)) _ _) (by simp))
 replace hu := hu.soft (Sf.keep kp0)
 replace hv := hv.soft (Sf.keep kp0)
 have ba4 := BA4.cell
 have bb4 := BB4.cell
 have ba4l := BA4.lt
 have bb4l := BB4.lt
 go_enter Tryd.func81, Tryd.ntmps81
 go_wp2_with fail
 generalize ((((w.alloc (.cells #[.bool b1, .slice ao1 n1 c1] 60)).alloc (.cells #[.bool b2, .slice ao2 n2 c2] 60)).alloc (.cells #[.bool false, .slice none 0 0] 60)).alloc (.cells #[.bool false, .slice none 0 0] 60)) = w4 at *
 go_cut [6, 7] from 14 to 38 (fun p6 p7 wx => ∃ A6 A7 : Nat, p6 = .pointer (some ⟨A6, 0, none⟩) ∧ p7 = .pointer (some ⟨A7, 0, none⟩) ∧ A6 ≠ A7 ∧ w4.heap.size ≤ A6 ∧ w4.heap.size ≤ A7 ∧ Blk wx A6 #[.bool b1, .slice ao1 n1 c1] 60 ∧ Blk wx A7 #[.bool b2, .slice ao2 n2 c2] 60 ∧ Kp w4 wx)
 case first =>
  go_region
  all_goals (go_wp2_with fail; go_meet)
  all_goals first
   | exact ⟨w4.heap.size, w4.heap.size + 1, rfl, rfl, by omega, by omega, by omega, Blk.drew (Blk.alloc (Blk.new w4 _ _) _), Blk.drew (Blk.at (Blk.new (w4.alloc (.cells #[.bool b1, .slice ao1 n1 c1] 60)) _ _) (by simp)), Kp.drew' (Kp.alloc' (kp_alloc w4 _) _)⟩
   | exact ⟨w4.heap.size + 1, w4.heap.size, rfl, rfl, by omega, by omega, by omega, Blk.drew (Blk.at (Blk.new (w4.alloc (.cells #[.bool b2, .slice ao2 n2 c2] 60)) _ _) (by simp)), Blk.drew (Blk.alloc (Blk.new w4 _ _) _), Kp.drew' (Kp.alloc' (kp_alloc w4 _) _)⟩
 case rest =>
  obtain ⟨A6, A7, rfl, rfl, ne67, ge6, ge7, BF, BS, hkc⟩ := hcut
  have r2l := BR2.lt
  replace BR1 := BR1.keep hkc
  replace BR2 := BR2.keep hkc
  replace hu := hu.soft (Sf.keep hkc)
  replace hv := hv.soft (Sf.keep hkc)
  have hkw := kp0.trans' hkc
  clear BA4 BB4 ba4 bb4 ba4l bb4l kp0 hkc
  go_wp2_with fail
  refine (fromInt_any 1 _ (by decide) (by decide)).mono ?_
  rintro e w5 ⟨v5, rfl, hX, hk5⟩
  obtain ⟨b5, ao5, n5, c5, rfl⟩ := hX.shape'
  have k5 := hk5.alloc' (.cells #[.bool b5, .slice ao5 n5 c5] 60)
  have l6 := (BF.keep hk5).lt
  have l7 := (BS.keep hk5).lt
  replace BR1 := BR1.keep k5
  replace BR2 := BR2.keep k5
  replace BF := BF.keep k5
  replace BS := BS.keep k5
  replace hu := hu.soft (Sf.keep k5)
  replace hv := hv.soft (Sf.keep k5)
  replace hX := hX.soft (Sf.keep (kp_alloc w5 (.cells #[.bool b5, .slice ao5 n5 c5] 60)))
  replace hkw := hkw.trans' k5
  have BX := Blk.new w5 #[.bool b5, .slice ao5 n5 c5] 60
  clear hk5 k5
  go_wp2_with fail
  generalize w5.alloc (.cells #[.bool b5, .slice ao5 n5 c5] 60) = w5a at *
  generalize w5.heap.size = A8 at *
  refine (fromInt_any 0 _ (by decide) (by decide)).mono ?_
  rintro e w6 ⟨v6, rfl, hY, hk6⟩
  obtain ⟨b6, ao6, n6, c6, rfl⟩ := hY.shape'
  have k6 := hk6.alloc' (.cells #[.bool b6, .slice ao6 n6 c6] 60)
  have l8 := (BX.keep hk6).lt
  replace BR1 := BR1.keep k6
  replace BR2 := BR2.keep k6
  replace BF := BF.keep k6
  replace BS := BS.keep k6
  replace BX := BX.keep k6
  replace hu := hu.soft (Sf.keep k6)
  replace hv := hv.soft (Sf.keep k6)
  replace hX := hX.soft (Sf.keep k6)
  replace hY := hY.soft (Sf.keep (kp_alloc w6 (.cells #[.bool b6, .slice ao6 n6 c6] 60)))
  replace hkw := hkw.trans' k6
  have BY := Blk.new w6 #[.bool b6, .slice ao6 n6 c6] 60
  clear hk6 k6
  go_wp2_with fail
  generalize w6.alloc (.cells #[.bool b6, .slice ao6 n6 c6] 60) = w6a at *
  generalize w6.heap.size = A9 at *
  go_loopg [] (b.natAbs) (fun gk wr => ∃ (f s x y : Int) (b1 : Bool) (ao1 : Option Addr) (n1 c1 : Nat) (b2 : Bool) (ao2 : Option Addr) (n2 c2 : Nat) (b5 : Bool) (ao5 : Option Addr) (n5 c5 : Nat) (b6 : Bool) (ao6 : Option Addr) (n6 c6 : Nat), Blk wr A6 #[.bool b1, .slice ao1 n1 c1] 60 ∧ Blk wr A7 #[.bool b2, .slice ao2 n2 c2] 60 ∧ Blk wr A8 #[.bool b5, .slice ao5 n5 c5] 60 ∧ Blk wr A9 #[.bool b6, .slice ao6 n6 c6] 60 ∧ WN wr (.agg #[.bool b1, .slice ao1 n1 c1]) f ∧ WN wr (.agg #[.bool b2, .slice ao2 n2 c2]) s ∧ WN wr (.agg #[.bool b5, .slice ao5 n5 c5]) x ∧ WN wr (.agg #[.bool b6, .slice ao6 n6 c6]) y ∧ Blk wr (w.heap.size + 1 + 1) #[.bool false, .slice none 0 0] 60 ∧ Blk wr (w.heap.size + 1 + 1 + 1) #[.bool false, .slice none 0 0] 60 ∧ Hid (Sh a b f s x y) ∧ s.natAbs ≤ gk ∧ Kp w wr)
  case atStart => exact ⟨a, b, 1, 0, _, _, _, _, _, _, _, _, _, _, _, _, _, _, _, _, BF, BS, BX, BY, hu, hv, hX, hY, BR1, BR2, sh_start a b, Nat.le_refl _, hkw⟩
  case round =>
   clear BF BS BX BY hu hv hX hY BR1 BR2 hkw
   obtain ⟨f, s, x, y, b1, ao1, n1, c1, b2, ao2, n2, c2, b5, ao5, n5, c5, b6, ao6, n6, c6, BF, BS, BX, BY, hF, hS, hX, hY, BR1, BR2, HSH, hgk, hkr⟩ := hrel
   have bsc := BS.cell
   have bsl := BS.lt
   go_wp2_with fail
   refine (sign_any s _ _ hS).mono ?_
   rintro e w7 ⟨rfl, hk7⟩
   replace BF := BF.keep hk7
   replace BS := BS.keep hk7
   replace BX := BX.keep hk7
   replace BY := BY.keep hk7
   replace BR1 := BR1.keep hk7
   replace BR2 := BR2.keep hk7
   replace hF := hF.soft (Sf.keep hk7)
   replace hS := hS.soft (Sf.keep hk7)
   replace hX := hX.soft (Sf.keep hk7)
   replace hY := hY.soft (Sf.keep hk7)
   replace hkr := hkr.trans' hk7
   clear bsc bsl hk7
   by_cases hs : s = 0
   ·have hb : (s.sign != 0) = false := by rw [hs]; rfl
    have HEND := Hid.mk (sh_end HSH.out hs)
    clear hs HSH hgk
    generalize s.sign = sg at *
    have bfc := BF.cell
    have bfl := BF.lt
    have bxc := BX.cell
    have bxl := BX.lt
    have r1c := BR1.cell
    have r1f := BR1.frozen
    have r1l := BR1.lt
    have r2c := BR2.cell
    have r2f := BR2.frozen
    have r2l2 := BR2.lt
    go_wp2_with fail
    go_region
    have BR1n := (ot2 (A := w.heap.size + 1 + 1 + 1) (.bool b5) (.slice ao5 n5 c5) (bl2 (.bool b1) (.slice ao1 n1 c1) BR1) (by omega))
    have BR2n := (bl2 (.bool b5) (.slice ao5 n5 c5) (ot2 (A := w.heap.size + 1 + 1) (.bool b1) (.slice ao1 n1 c1) BR2 (by omega)))
    have sfA := (sf2 (.bool b1) (.slice ao1 n1 c1) BR1 (E := 2) (by decide))
    have sfB := (sf2 (E := 2) (.bool b5) (.slice ao5 n5 c5) (ot2 (A := w.heap.size + 1 + 1) (.bool b1) (.slice ao1 n1 c1) BR2 (by omega)) (by decide))
    have hFn := (hF.soft sfA).soft sfB
    have hXn := (hX.soft sfA).soft sfB
    have hkn := (kp2 (A := w.heap.size + 1 + 1 + 1) (.bool b5) (.slice ao5 n5 c5) (kp2 (A := w.heap.size + 1 + 1) (.bool b1) (.slice ao1 n1 c1) hkr (by omega)) (by omega))
    clear sfA sfB BR1 BR2 r1c r1f r1l r2c r2f r2l2 bfc bfl bxc bxl hF hX hkr
    generalize ((((w7.setCell ⟨w.heap.size + 1 + 1, 0, none⟩ (.bool b1)).setCell ⟨w.heap.size + 1 + 1, 1, none⟩ (.slice ao1 n1 c1)).setCell ⟨w.heap.size + 1 + 1 + 1, 0, none⟩ (.bool b5)).setCell ⟨w.heap.size + 1 + 1 + 1, 1, none⟩ (.slice ao5 n5 c5)) = wz at *
    have r1c := BR1n.cell
    have r2c := BR2n.cell
    go_wp2_with fail
    refine bodyPost_ret (v := .tuple #[.agg #[.bool b1, .slice ao1 n1 c1], .agg #[.bool b5, .slice ao5 n5 c5]]) (by simp [results, Tryd.results81, go_sem, r1c, r2c]) rfl ?_
    exact ⟨_, _, f, x, rfl, hFn.soft (Sf.keep (Kp.drew' (Below.refl _ _))), hXn.soft (Sf.keep (Kp.drew' (Below.refl _ _))), HEND.out, Kp.drew' hkn⟩
   ·have hb : (s.sign != 0) = true := by
     rw [bne_iff_ne]
     exact fun e => hs (Int.sign_eq_zero_iff_zero.1 e)
    have HNX := Hid.mk (sh_step HSH.out hs)
    have ff := HFT.out f (by have := HSH.out.f; omega)
    have fs := HFT.out s (by have := HSH.out.s; omega)
    have fx := HFT.out x (by have := HSH.out.x; omega)
    have fy := HFT.out y (by have := HSH.out.y; omega)
    have hsl : (f.tmod s).natAbs < s.natAbs := by
     rw [Int.natAbs_tmod]
     exact Nat.mod_lt _ (by omega)
    clear hs HSH
    generalize s.sign = sg at *
    have bfc := BF.cell
    have bfl := BF.lt
    have bsc := BS.cell
    have bsl := BS.lt
    go_wp2_with fail
    refine (divide_any f s (m + 1) _ _ _ hF hS (by omega) ff fs).mono ?_
    rintro e w8 ⟨v10, v11, rfl, hQ, hR, hk8⟩
    obtain ⟨b10, ao10, n10, c10, rfl⟩ := hQ.shape'
    obtain ⟨b11, ao11, n11, c11, rfl⟩ := hR.shape'
    have ka : Kp w8 ((w8.alloc (.cells #[.bool b10, .slice ao10 n10 c10] 60)).alloc (.cells #[.bool b11, .slice ao11 n11 c11] 60)) := Kp.alloc' (kp_alloc w8 _) _
    have k8 := hk8.trans' ka
    have l6 := (BF.keep hk8).lt
    have l7 := (BS.keep hk8).lt
    have l8 := (BX.keep hk8).lt
    have l9 := (BY.keep hk8).lt
    replace BF := BF.keep k8
    replace BS := BS.keep k8
    replace BX := BX.keep k8
    replace BY := BY.keep k8
    replace BR1 := BR1.keep k8
    replace BR2 := BR2.keep k8
    replace hF := hF.soft (Sf.keep k8)
    replace hS := hS.soft (Sf.keep k8)
    replace hX := hX.soft (Sf.keep k8)
    replace hY := hY.soft (Sf.keep k8)
    replace hQ := hQ.soft (Sf.keep ka)
    replace hR := hR.soft (Sf.keep ka)
    replace hkr := hkr.trans' k8
    have BQ : Blk ((w8.alloc (.cells #[.bool b10, .slice ao10 n10 c10] 60)).alloc (.cells #[.bool b11, .slice ao11 n11 c11] 60)) w8.heap.size #[.bool b10, .slice ao10 n10 c10] 60 := Blk.alloc (Blk.new w8 _ _) _
    have BT : Blk ((w8.alloc (.cells #[.bool b10, .slice ao10 n10 c10] 60)).alloc (.cells #[.bool b11, .slice ao11 n11 c11] 60)) (w8.heap.size + 1) #[.bool b11, .slice ao11 n11 c11] 60 := Blk.at (Blk.new (w8.alloc (.cells #[.bool b10, .slice ao10 n10 c10] 60)) _ _) (by simp)
    have bqc := BQ.cell
    have bql := BQ.lt
    have byc := BY.cell
    have byl := BY.lt
    have fq : Ft (m + 1) (f.tdiv s) := ff.tdiv
    clear bfc bfl bsc bsl hk8 ka k8
    go_wp2_with fail
    refine (multiply_any (f.tdiv s) y _ _ _ hQ hY (fq.fit (by omega)) (fy.fit (by omega))).mono ?_
    rintro e w10 ⟨v12, rfl, hTk, hk10⟩
    obtain ⟨b12, ao12, n12, c12, rfl⟩ := hTk.shape'
    have k10 := hk10.alloc' (.cells #[.bool b12, .slice ao12 n12 c12] 60)
    have lt12 := (BT.keep hk10).lt
    replace BF := BF.keep k10
    replace BS := BS.keep k10
    replace BX := BX.keep k10
    replace BY := BY.keep k10
    replace BR1 := BR1.keep k10
    replace BR2 := BR2.keep k10
    replace BT := BT.keep k10
    replace hS := hS.soft (Sf.keep k10)
    replace hX := hX.soft (Sf.keep k10)
    replace hY := hY.soft (Sf.keep k10)
    replace hR := hR.soft (Sf.keep k10)
    replace hTk := hTk.soft (Sf.keep (kp_alloc w10 (.cells #[.bool b12, .slice ao12 n12 c12] 60)))
    replace hkr := hkr.trans' k10
    have BK := Blk.new w10 #[.bool b12, .slice ao12 n12 c12] 60
    generalize hA11 : w8.heap.size + 1 = A11 at *
    have l11 : w8.heap.size < A11 := by omega
    generalize w8.heap.size = A10 at *
    clear bqc bql byc byl BQ hQ hk10 k10 hA11 hF
    have bxc := BX.cell
    have bxl := BX.lt
    have bkc := BK.cell
    have bkl := BK.lt
    go_wp2_with fail
    refine (wsub_any x (f.tdiv s * y) _ _ _ hX hTk (fx.fit (by omega)) ((fq.mul fy).fit (by omega))).mono ?_
    rintro e w11 ⟨v13, rfl, hBh, hk11⟩
    obtain ⟨b13, ao13, n13, c13, rfl⟩ := hBh.shape'
    have k11 := hk11.alloc' (.cells #[.bool b13, .slice ao13 n13 c13] 60)
    have lt13 := (BT.keep hk11).lt
    replace BF := BF.keep k11
    replace BS := BS.keep k11
    replace BX := BX.keep k11
    replace BY := BY.keep k11
    replace BR1 := BR1.keep k11
    replace BR2 := BR2.keep k11
    replace BT := BT.keep k11
    replace hS := hS.soft (Sf.keep k11)
    replace hY := hY.soft (Sf.keep k11)
    replace hR := hR.soft (Sf.keep k11)
    replace hBh := hBh.soft (Sf.keep (kp_alloc w11 (.cells #[.bool b13, .slice ao13 n13 c13] 60)))
    replace hkr := hkr.trans' k11
    have BH := Blk.new w11 #[.bool b13, .slice ao13 n13 c13] 60
    clear bxc bxl bkc bkl BK hTk hX hk11 k11 fq ff fs fx fy
    go_wp2_with fail
    generalize w11.alloc (.cells #[.bool b13, .slice ao13 n13 c13] 60) = w12 at *
    generalize w11.heap.size = A13 at *
    have bsc := BS.cell
    have bsl := BS.lt
    have bsf := BS.frozen
    have bfc := BF.cell
    have bff := BF.frozen
    have bfl := BF.lt
    have btc := BT.cell
    have btl := BT.lt
    go_region
    have BF1 := (ot2 (A := A7) (.bool b11) (.slice ao11 n11 c11) (bl2 (.bool b2) (.slice ao2 n2 c2) BF) (by omega))
    have BS0 := (ot2 (A := A6) (.bool b2) (.slice ao2 n2 c2) BS (by omega))
    have BS1 := (bl2 (.bool b11) (.slice ao11 n11 c11) BS0)
    have sfA := (sf2 (E := 2) (.bool b2) (.slice ao2 n2 c2) BF (by decide))
    have sfB := (sf2 (E := 2) (.bool b11) (.slice ao11 n11 c11) BS0 (by decide))
    have BX1 := (ot2 (A := A7) (.bool b11) (.slice ao11 n11 c11) (ot2 (A := A6) (.bool b2) (.slice ao2 n2 c2) BX (by omega)) (by omega))
    have BY1 := (ot2 (A := A7) (.bool b11) (.slice ao11 n11 c11) (ot2 (A := A6) (.bool b2) (.slice ao2 n2 c2) BY (by omega)) (by omega))
    have BH1 := (ot2 (A := A7) (.bool b11) (.slice ao11 n11 c11) (ot2 (A := A6) (.bool b2) (.slice ao2 n2 c2) BH (by omega)) (by omega))
    have BR11 := (ot2 (A := A7) (.bool b11) (.slice ao11 n11 c11) (ot2 (A := A6) (.bool b2) (.slice ao2 n2 c2) BR1 (by omega)) (by omega))
    have BR21 := (ot2 (A := A7) (.bool b11) (.slice ao11 n11 c11) (ot2 (A := A6) (.bool b2) (.slice ao2 n2 c2) BR2 (by omega)) (by omega))
    have hS1 := (hS.soft sfA).soft sfB
    have hR1 := (hR.soft sfA).soft sfB
    have hY1 := (hY.soft sfA).soft sfB
    have hB1 := (hBh.soft sfA).soft sfB
    have hkr1 := (kp2 (A := A7) (.bool b11) (.slice ao11 n11 c11) (kp2 (A := A6) (.bool b2) (.slice ao2 n2 c2) hkr (by omega)) (by omega))
    clear bsc bsl bsf bfc bff bfl btc btl BF BS BS0 BX BY BH BR1 BR2 BT hS hR hY hBh hkr sfA sfB
    generalize ((((w12.setCell ⟨A6, 0, none⟩ (.bool b2)).setCell ⟨A6, 1, none⟩ (.slice ao2 n2 c2)).setCell ⟨A7, 0, none⟩ (.bool b11)).setCell ⟨A7, 1, none⟩ (.slice ao11 n11 c11)) = w13 at *
    have bxc := BX1.cell
    have bxf := BX1.frozen
    have bxl := BX1.lt
    have byc := BY1.cell
    have byf := BY1.frozen
    have byl := BY1.lt
    have bhc := BH1.cell
    have bhl := BH1.lt
    go_wp2_with fail
    go_region
    have BX2 := (ot2 (A := A9) (.bool b13) (.slice ao13 n13 c13) (bl2 (.bool b6) (.slice ao6 n6 c6) BX1) (by omega))
    have BY0 := (ot2 (A := A8) (.bool b6) (.slice ao6 n6 c6) BY1 (by omega))
    have BY2 := (bl2 (.bool b13) (.slice ao13 n13 c13) BY0)
    have sfA := (sf2 (E := 2) (.bool b6) (.slice ao6 n6 c6) BX1 (by decide))
    have sfB := (sf2 (E := 2) (.bool b13) (.slice ao13 n13 c13) BY0 (by decide))
    have BF2 := (ot2 (A := A9) (.bool b13) (.slice ao13 n13 c13) (ot2 (A := A8) (.bool b6) (.slice ao6 n6 c6) BF1 (by omega)) (by omega))
    have BS2 := (ot2 (A := A9) (.bool b13) (.slice ao13 n13 c13) (ot2 (A := A8) (.bool b6) (.slice ao6 n6 c6) BS1 (by omega)) (by omega))
    have BR12 := (ot2 (A := A9) (.bool b13) (.slice ao13 n13 c13) (ot2 (A := A8) (.bool b6) (.slice ao6 n6 c6) BR11 (by omega)) (by omega))
    have BR22 := (ot2 (A := A9) (.bool b13) (.slice ao13 n13 c13) (ot2 (A := A8) (.bool b6) (.slice ao6 n6 c6) BR21 (by omega)) (by omega))
    have hS2 := (hS1.soft sfA).soft sfB
    have hR2 := (hR1.soft sfA).soft sfB
    have hY2 := (hY1.soft sfA).soft sfB
    have hB2 := (hB1.soft sfA).soft sfB
    have hkr2 := (kp2 (A := A9) (.bool b13) (.slice ao13 n13 c13) (kp2 (A := A8) (.bool b6) (.slice ao6 n6 c6) hkr1 (by omega)) (by omega))
    clear bxc bxf bxl byc byf byl bhc bhl BF1 BS1 BX1 BY1 BY0 BH1 BR11 BR21 hS1 hR1 hY1 hB1 hkr1 sfA sfB
    generalize ((((w13.setCell ⟨A8, 0, none⟩ (.bool b6)).setCell ⟨A8, 1, none⟩ (.slice ao6 n6 c6)).setCell ⟨A9, 0, none⟩ (.bool b13)).setCell ⟨A9, 1, none⟩ (.slice ao13 n13 c13)) = w14 at *
    have kd : Kp w14 w14.drew.drew := Kp.drew' (Kp.drew' (Below.refl _ _))
    go_wp2_with fail
    go_roundg ((f.tmod s).natAbs)
    case rel => exact ⟨s, f.tmod s, y, x - f.tdiv s * y, _, _, _, _, _, _, _, _, _, _, _, _, _, _, _, _, BF2.keep kd, BS2.keep kd, BX2.keep kd, BY2.keep kd, hS2.soft (Sf.keep kd), hR2.soft (Sf.keep kd), hY2.soft (Sf.keep kd), hB2.soft (Sf.keep kd), BR12.keep kd, BR22.keep kd, HNX.out, Nat.le_refl _, hkr2.trans' kd⟩
    case measure => omega

end Go.Proofs.YtjahbjjekednfabDoor
