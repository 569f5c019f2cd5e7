import Derived.Test.YtjahbjjekednfabDoorL3
import Derived.Test.YtjahbjjekednfabDoorSoft
import Derived.Test.YtjahbjjekednfabDoorSt
namespace Go.Proofs.YtjahbjjekednfabDoor
open Go.RowKit Go.Lib

/-- A call that returns a number and true. -/
def RetWB (w : World) (z : Int) (e : Ending) (w' : World) : Prop := ∃ v, e = .returned (.tuple #[v, .bool true]) ∧ WN w' v z ∧ Kp w w'

theorem str_sub (c : UInt8) (t : List UInt8) : (strOf (c :: t)).extract 1 (t.length + 1) = strOf t := by
 apply ByteArray.ext
 apply Array.toList_inj.1
 rw [Go.Lib.extract_data]
 simp [strOf]
theorem str_ne {a b : List UInt8} (h : a ≠ b) : ((strOf a).toList == b) = false := by
 rw [ByteArray.toList_eq, beq_eq_false_iff_ne]
 exact h
theorem str_eq (a : List UInt8) : ((strOf a).toList == a) = true := by
 rw [ByteArray.toList_eq, beq_iff_eq]
 rfl
theorem alld {t : List UInt8} (h : ¬ Digs (bi t)) : (bl (strOf t)).all isDig = false := by
 rw [bl_strOf]
 refine Bool.eq_false_iff.2 fun e => h ?_
 rw [List.all_eq_true] at e
 exact e
theorem alld' {t : List UInt8} (h : Digs (bi t)) : (bl (strOf t)).all isDig = true := by
 rw [bl_strOf, List.all_eq_true]
 exact h
theorem dig45 {t : List UInt8} (h : Digs (bi (45 :: t))) : False := absurd (h 45 (by simp [bi])) (by decide)
theorem c_ne {c : UInt8} {k : Nat} (h : c ≠ UInt8.ofNat k) (hk : k < 256) : ((c.toNat : Int) == (k : Int)) = false := by
 rw [beq_eq_false_iff_ne]
 intro e
 apply h
 apply UInt8.toNat_inj.1
 simp
 omega
theorem retWB_end {w w1 : World} {z : Int} {c : Nat} {ao : Option Addr} {n k : Nat} {b : Bool} {u0 u1 : Value} (hb : b = decide (z < 0)) (hr : Rp 2 1000000000 w1 (.slice ao n k) (z.natAbs : Int)) (hk : Kp w w1)
  (hc : w.heap.size ≤ c) (he : elemOf w1 c = some 60) : RetWB w z (.returned (.tuple #[.agg #[.bool b, .slice ao n k], .bool true])) ((w1.setCell ⟨c, 0, none⟩ u0).setCell ⟨c, 1, none⟩ u1) := by
 obtain ⟨v, e, h1, h2⟩ := retW_end (u0 := u0) (u1 := u1) hb hr hk hc he
 cases e
 exact ⟨_, rfl, h1, h2⟩

set_option maxHeartbeats 1600000 in
set_option maxRecDepth 100000 in
theorem ft_nil (s : ByteArray) (hsz : s.size = 0) (w : World) : Calls Tryd.prog 47 #[.string s] w (RetV w (.tuple #[.agg #[.bool false, .slice none 0 0], .bool false])) := by
 have B0 : Blk (w.alloc (.cells #[.bool false, .slice none 0 0] 60)) w.heap.size #[.bool false, .slice none 0 0] 60 := Blk.new w _ _
 have bc := B0.cell
 have bf := B0.frozen
 have bl0 := B0.lt
 go_enter Tryd.func47, Tryd.ntmps47
 go_wp2_with fail
 refine bodyPost_ret (v := .tuple #[.agg #[.bool false, .slice none 0 0], .bool false]) (by simp [results, Tryd.results47, go_sem, bc]) rfl ?_
 exact ⟨rfl, kp_alloc w _⟩

set_option maxHeartbeats 1600000 in
set_option maxRecDepth 100000 in
theorem ft_minus (s s2 : ByteArray) (hsz : s.size = 1) (hc : ∀ h, s[0]'h = 45) (_hsub : s.extract 1 1 = s2) (_hs2 : s2.size = 0) (w : World) : Calls Tryd.prog 47 #[.string s] w (RetV w (.tuple #[.agg #[.bool false, .slice none 0 0], .bool false])) := by
 have B0 : Blk (w.alloc (.cells #[.bool false, .slice none 0 0] 60)) w.heap.size #[.bool false, .slice none 0 0] 60 := Blk.new w _ _
 have bc := B0.cell
 have bf := B0.frozen
 have bl0 := B0.lt
 go_enter Tryd.func47, Tryd.ntmps47
 go_wp2_with fail
 refine bodyPost_ret (v := .tuple #[.agg #[.bool false, .slice none 0 0], .bool false]) (by simp [results, Tryd.results47, go_sem, bc]) rfl ?_
 exact ⟨rfl, kp_alloc w _⟩

set_option maxHeartbeats 1600000 in
set_option maxRecDepth 100000 in
theorem ft_mbad (s s2 : ByteArray) (n m : Nat) (hn : n ≤ 1000) (hsz : s.size = n + 1) (hc : ∀ h, s[0]'h = 45) (hsub : s.extract 1 (n + 1) = s2) (hs2 : s2.size = m + 1) (hm : m ≤ 900) (hd : (bl s2).all isDig = false) (w : World) : Calls Tryd.prog 47 #[.string s] w (RetV w (.tuple #[.agg #[.bool false, .slice none 0 0], .bool false])) := by
 have B0 : Blk (w.alloc (.cells #[.bool false, .slice none 0 0] 60)) w.heap.size #[.bool false, .slice none 0 0] 60 := Blk.new w _ _
 have bc := B0.cell
 have bf := B0.frozen
 have bl0 := B0.lt
 have hl1 : ((m : Int) + 1 == 0) = false := by simp; omega
 have hAll := allDigits_any s2 (w.alloc (.cells #[.bool false, .slice none 0 0] 60)) (by omega)
 rw [hd] at hAll
 clear hd
 go_enter Tryd.func47, Tryd.ntmps47
 go_wp2_with fail
 refine hAll.mono ?_
 rintro e w1 ⟨rfl, hk1⟩
 have B1 := B0.keep hk1
 have bc1 := B1.cell
 have bf1 := B1.frozen
 have bl1 := B1.lt
 clear bc bf bl0
 go_wp2_with fail
 refine bodyPost_ret (v := .tuple #[.agg #[.bool false, .slice none 0 0], .bool false]) (by simp [results, Tryd.results47, go_sem, bc1]) rfl ?_
 exact ⟨rfl, kp2 (A := w.heap.size) _ _ ((kp_alloc w _).trans' hk1) (Nat.le_refl _)⟩

set_option maxHeartbeats 1600000 in
set_option maxRecDepth 100000 in
theorem ft_mzero (s s2 : ByteArray) (n m : Nat) (hn : n ≤ 1000) (hsz : s.size = n + 1) (hc : ∀ h, s[0]'h = 45) (hsub : s.extract 1 (n + 1) = s2) (hs2 : s2.size = m + 1) (hm : m ≤ 900) (hd : (bl s2).all isDig = true) (hc2 : ∀ h, s2[0]'h = 48) (hne : (s.toList == [48]) = false) (w : World) : Calls Tryd.prog 47 #[.string s] w (RetV w (.tuple #[.agg #[.bool false, .slice none 0 0], .bool false])) := by
 have B0 : Blk (w.alloc (.cells #[.bool false, .slice none 0 0] 60)) w.heap.size #[.bool false, .slice none 0 0] 60 := Blk.new w _ _
 have bc := B0.cell
 have bf := B0.frozen
 have bl0 := B0.lt
 have hl1 : ((m : Int) + 1 == 0) = false := by simp; omega
 have hAll := allDigits_any s2 (w.alloc (.cells #[.bool false, .slice none 0 0] 60)) (by omega)
 rw [hd] at hAll
 clear hd
 go_enter Tryd.func47, Tryd.ntmps47
 go_wp2_with fail
 refine hAll.mono ?_
 rintro e w1 ⟨rfl, hk1⟩
 have B1 := B0.keep hk1
 have bc1 := B1.cell
 have bf1 := B1.frozen
 have bl1 := B1.lt
 clear bc bf bl0
 go_wp2_with fail
 refine bodyPost_ret (v := .tuple #[.agg #[.bool false, .slice none 0 0], .bool false]) (by simp [results, Tryd.results47, go_sem, bc1]) rfl ?_
 exact ⟨rfl, kp2 (A := w.heap.size) _ _ ((kp_alloc w _).trans' hk1) (Nat.le_refl _)⟩

set_option maxHeartbeats 1600000 in
set_option maxRecDepth 100000 in
theorem ft_pbad (s : ByteArray) (n : Nat) (hn : n ≤ 900) (hsz : s.size = n + 1) (c : UInt8) (hc : ∀ h, s[0]'h = c) (h45 : ((c.toNat : Int) == 45) = false) (hd : (bl s).all isDig = false) (w : World) : Calls Tryd.prog 47 #[.string s] w (RetV w (.tuple #[.agg #[.bool false, .slice none 0 0], .bool false])) := by
 have B0 : Blk (w.alloc (.cells #[.bool false, .slice none 0 0] 60)) w.heap.size #[.bool false, .slice none 0 0] 60 := Blk.new w _ _
 have bc := B0.cell
 have bf := B0.frozen
 have bl0 := B0.lt
 have hl0 : ((n : Int) + 1 == 0) = false := by simp; omega
 have hAll := allDigits_any s (w.alloc (.cells #[.bool false, .slice none 0 0] 60)) (by omega)
 rw [hd] at hAll
 clear hd
 go_enter Tryd.func47, Tryd.ntmps47
 go_wp2_with fail
 refine hAll.mono ?_
 rintro e w1 ⟨rfl, hk1⟩
 have B1 := B0.keep hk1
 have bc1 := B1.cell
 have bf1 := B1.frozen
 have bl1 := B1.lt
 clear bc bf bl0
 go_wp2_with fail
 refine bodyPost_ret (v := .tuple #[.agg #[.bool false, .slice none 0 0], .bool false]) (by simp [results, Tryd.results47, go_sem, bc1]) rfl ?_
 exact ⟨rfl, kp2 (A := w.heap.size) _ _ ((kp_alloc w _).trans' hk1) (Nat.le_refl _)⟩

set_option maxHeartbeats 1600000 in
set_option maxRecDepth 100000 in
theorem ft_pzero (s : ByteArray) (n : Nat) (hn : n ≤ 900) (hsz : s.size = n + 1) (hc : ∀ h, s[0]'h = 48) (hd : (bl s).all isDig = true) (hne : (s.toList == [48]) = false) (w : World) : Calls Tryd.prog 47 #[.string s] w (RetV w (.tuple #[.agg #[.bool false, .slice none 0 0], .bool false])) := by
 have B0 : Blk (w.alloc (.cells #[.bool false, .slice none 0 0] 60)) w.heap.size #[.bool false, .slice none 0 0] 60 := Blk.new w _ _
 have bc := B0.cell
 have bf := B0.frozen
 have bl0 := B0.lt
 have hl0 : ((n : Int) + 1 == 0) = false := by simp; omega
 have hAll := allDigits_any s (w.alloc (.cells #[.bool false, .slice none 0 0] 60)) (by omega)
 rw [hd] at hAll
 clear hd
 go_enter Tryd.func47, Tryd.ntmps47
 go_wp2_with fail
 refine hAll.mono ?_
 rintro e w1 ⟨rfl, hk1⟩
 have B1 := B0.keep hk1
 have bc1 := B1.cell
 have bf1 := B1.frozen
 have bl1 := B1.lt
 clear bc bf bl0
 go_wp2_with fail
 refine bodyPost_ret (v := .tuple #[.agg #[.bool false, .slice none 0 0], .bool false]) (by simp [results, Tryd.results47, go_sem, bc1]) rfl ?_
 exact ⟨rfl, kp2 (A := w.heap.size) _ _ ((kp_alloc w _).trans' hk1) (Nat.le_refl _)⟩

set_option maxHeartbeats 1600000 in
set_option maxRecDepth 100000 in
theorem ft_mok (s s2 : ByteArray) (n m : Nat) (hn : n ≤ 1000) (hsz : s.size = n + 1) (hc : ∀ h, s[0]'h = 45) (hsub : s.extract 1 (n + 1) = s2) (hs2 : s2.size = m + 1) (hm : m ≤ 900) (hd : (bl s2).all isDig = true) (c : UInt8) (hc2 : ∀ h, s2[0]'h = c) (h48 : ((c.toNat : Int) == 48) = false) (z : Int) (hdg : Digs (bl s2)) (HZ : Hid (true = decide (z < 0) ∧ (z.natAbs : Int) = decN (bl s2))) (w : World) : Calls Tryd.prog 47 #[.string s] w (RetWB w z) := by
 have B0 : Blk (w.alloc (.cells #[.bool false, .slice none 0 0] 60)) w.heap.size #[.bool false, .slice none 0 0] 60 := Blk.new w _ _
 have bc := B0.cell
 have bf := B0.frozen
 have bl0 := B0.lt
 have hl1 : ((m : Int) + 1 == 0) = false := by simp; omega
 have hAll := allDigits_any s2 (w.alloc (.cells #[.bool false, .slice none 0 0] 60)) (by omega)
 rw [hd] at hAll
 clear hd
 go_enter Tryd.func47, Tryd.ntmps47
 go_wp2_with fail
 refine hAll.mono ?_
 rintro e w1 ⟨rfl, hk1⟩
 have B1 := B0.keep hk1
 have bc1 := B1.cell
 have bf1 := B1.frozen
 have bl1 := B1.lt
 clear bc bf bl0
 go_wp2_with fail
 refine (limbsOf_any s2 _ hdg (by omega)).mono ?_
 rintro e w2 ⟨v2, rfl, hr2, hk2, _⟩
 obtain ⟨ao2, n2, c2, rfl⟩ := hr2.shape
 replace B1 := B1.keep hk2
 have bc2 := B1.cell
 have bf2 := B1.frozen
 have bl2' := B1.lt
 clear bc1 bf1 bl1
 go_wp2_with fail
 refine bodyPost_ret (v := .tuple #[.agg #[.bool true, .slice ao2 n2 c2], .bool true]) (by simp [results, Tryd.results47, go_sem, bc2]) rfl ?_
 exact retWB_end (z := z) HZ.out.1 (by rw [HZ.out.2]; exact hr2) (((kp_alloc w _).trans' hk1).trans' hk2) (Nat.le_refl _) B1.elem

set_option maxHeartbeats 1600000 in
set_option maxRecDepth 100000 in
theorem ft_pok (s : ByteArray) (n : Nat) (hn : n ≤ 900) (hsz : s.size = n + 1) (c : UInt8) (hc : ∀ h, s[0]'h = c) (h45 : ((c.toNat : Int) == 45) = false) (h48 : ((c.toNat : Int) == 48) = false) (hd : (bl s).all isDig = true) (z : Int) (hdg : Digs (bl s)) (HZ : Hid (false = decide (z < 0) ∧ (z.natAbs : Int) = decN (bl s))) (w : World) : Calls Tryd.prog 47 #[.string s] w (RetWB w z) := by
 have B0 : Blk (w.alloc (.cells #[.bool false, .slice none 0 0] 60)) w.heap.size #[.bool false, .slice none 0 0] 60 := Blk.new w _ _
 have bc := B0.cell
 have bf := B0.frozen
 have bl0 := B0.lt
 have hl0 : ((n : Int) + 1 == 0) = false := by simp; omega
 have hAll := allDigits_any s (w.alloc (.cells #[.bool false, .slice none 0 0] 60)) (by omega)
 rw [hd] at hAll
 clear hd
 go_enter Tryd.func47, Tryd.ntmps47
 go_wp2_with fail
 refine hAll.mono ?_
 rintro e w1 ⟨rfl, hk1⟩
 have B1 := B0.keep hk1
 have bc1 := B1.cell
 have bf1 := B1.frozen
 have bl1 := B1.lt
 clear bc bf bl0
 go_wp2_with fail
 refine (limbsOf_any s _ hdg (by omega)).mono ?_
 rintro e w2 ⟨v2, rfl, hr2, hk2, _⟩
 obtain ⟨ao2, n2, c2, rfl⟩ := hr2.shape
 replace B1 := B1.keep hk2
 have bc2 := B1.cell
 have bf2 := B1.frozen
 have bl2' := B1.lt
 clear bc1 bf1 bl1
 go_wp2_with fail
 refine bodyPost_ret (v := .tuple #[.agg #[.bool false, .slice ao2 n2 c2], .bool true]) (by simp [results, Tryd.results47, go_sem, bc2]) rfl ?_
 exact retWB_end (z := z) HZ.out.1 (by rw [HZ.out.2]; exact hr2) (((kp_alloc w _).trans' hk1).trans' hk2) (Nat.le_refl _) B1.elem

set_option maxHeartbeats 1600000 in
set_option maxRecDepth 100000 in
theorem ft_zok (s : ByteArray) (hsz : s.size = 1) (hc : ∀ h, s[0]'h = 48) (hd : (bl s).all isDig = true) (hne : (s.toList == [48]) = true) (z : Int) (hdg : Digs (bl s)) (HZ : Hid (false = decide (z < 0) ∧ (z.natAbs : Int) = decN (bl s))) (w : World) : Calls Tryd.prog 47 #[.string s] w (RetWB w z) := by
 have B0 : Blk (w.alloc (.cells #[.bool false, .slice none 0 0] 60)) w.heap.size #[.bool false, .slice none 0 0] 60 := Blk.new w _ _
 have bc := B0.cell
 have bf := B0.frozen
 have bl0 := B0.lt
 have hAll := allDigits_any s (w.alloc (.cells #[.bool false, .slice none 0 0] 60)) (by omega)
 rw [hd] at hAll
 clear hd
 go_enter Tryd.func47, Tryd.ntmps47
 go_wp2_with fail
 refine hAll.mono ?_
 rintro e w1 ⟨rfl, hk1⟩
 have B1 := B0.keep hk1
 have bc1 := B1.cell
 have bf1 := B1.frozen
 have bl1 := B1.lt
 clear bc bf bl0
 go_wp2_with fail
 refine (limbsOf_any s _ hdg (by omega)).mono ?_
 rintro e w2 ⟨v2, rfl, hr2, hk2, _⟩
 obtain ⟨ao2, n2, c2, rfl⟩ := hr2.shape
 replace B1 := B1.keep hk2
 have bc2 := B1.cell
 have bf2 := B1.frozen
 have bl2' := B1.lt
 clear bc1 bf1 bl1
 go_wp2_with fail
 refine bodyPost_ret (v := .tuple #[.agg #[.bool false, .slice ao2 n2 c2], .bool true]) (by simp [results, Tryd.results47, go_sem, bc2]) rfl ?_
 exact retWB_end (z := z) HZ.out.1 (by rw [HZ.out.2]; exact hr2) (((kp_alloc w _).trans' hk1).trans' hk2) (Nat.le_refl _) B1.elem

theorem str_sz (c : UInt8) (t : List UInt8) : (strOf (c :: t)).size = t.length + 1 := by rw [strOf_size]; rfl
/-- No number's text. -/
theorem fromText_no (t : List UInt8) (w : World) (hs : t.length ≤ 900) (hn : ∀ z, ¬ NumT (strOf t) z) : Calls Tryd.prog 47 #[.string (strOf t)] w (RetV w (.tuple #[.agg #[.bool false, .slice none 0 0], .bool false])) := by
 cases t with
 | nil => exact ft_nil _ rfl w
 | cons c t =>
  rw [List.length_cons] at hs
  by_cases hc : c = 45
  ·subst hc
   cases t with
   | nil => exact ft_minus _ _ rfl (fun _ => rfl) (str_sub 45 []) rfl w
   | cons d t =>
    rw [List.length_cons] at hs
    by_cases hd : Digs (bi (d :: t))
    ·have hd48 : d = 48 := Classical.byContradiction fun h => hn _ (numT_neg (t := d :: t) (by simp) hd (by simpa using h))
     subst hd48
     exact ft_mzero _ _ (t.length + 1) t.length (by omega) (str_sz _ _) (fun _ => rfl) (str_sub 45 (48 :: t)) (str_sz _ _) (by omega) (alld' hd) (fun _ => rfl) (str_ne (by simp)) w
    ·exact ft_mbad _ _ (t.length + 1) t.length (by omega) (str_sz _ _) (fun _ => rfl) (str_sub 45 (d :: t)) (str_sz _ _) (by omega) (alld hd) w
  ·have h45 : ((c.toNat : Int) == 45) = false := c_ne (k := 45) hc (by decide)
   by_cases hd : Digs (bi (c :: t))
   ·have h48 : c = 48 := Classical.byContradiction fun h => hn _ (numT_pos (t := c :: t) (Or.inr ⟨by simp, hd, by simpa using h⟩))
    subst h48
    have ht : t ≠ [] := fun h => hn _ (numT_pos (t := 48 :: t) (Or.inl (by rw [h])))
    exact ft_pzero _ t.length (by omega) (str_sz _ _) (fun _ => rfl) (alld' hd) (str_ne (by simpa using ht)) w
   ·exact ft_pbad _ t.length (by omega) (str_sz _ _) c (fun _ => rfl) h45 (alld hd) w
/-- A number's text. -/
theorem fromText_ok (t : List UInt8) (z : Int) (w : World) (hs : t.length ≤ 900) (hn : NumT (strOf t) z) : Calls Tryd.prog 47 #[.string (strOf t)] w (RetWB w z) := by
 rcases numT_of hn with ⟨h0, hsh, hz⟩ | ⟨h0, t', rfl, ht, hd, hh, hz⟩
 ·have hd : Digs (bi t) := by
   rcases hsh with rfl | ⟨_, h, _⟩
   ·exact fun c hc => by simp [bi] at hc; rw [hc]; rfl
   ·exact h
  have HZ : Hid (false = decide (z < 0) ∧ (z.natAbs : Int) = decN (bl (strOf t))) := ⟨by simp; omega, by rw [bl_strOf, ← hz]; omega⟩
  cases t with
  | nil => exact absurd hsh (by unfold Shp; simp)
  | cons c t =>
   rw [List.length_cons] at hs
   by_cases h48 : c = 48
   ·have ht : t = [] := by
     rcases hsh with h | ⟨_, _, h⟩
     ·simpa [h48] using h
     ·exact absurd (by rw [h48]; rfl) h
    subst h48
    subst ht
    exact ft_zok _ rfl (fun _ => rfl) (alld' hd) (str_eq _) z hd HZ w
   ·have h45 : ((c.toNat : Int) == 45) = false := c_ne (k := 45) (fun e => dig45 (t := t) (by rw [← show c = 45 from e]; exact hd)) (by decide)
    exact ft_pok _ t.length (by omega) (str_sz _ _) c (fun _ => rfl) h45 (c_ne (k := 48) h48 (by decide)) (alld' hd) z hd HZ w
 ·have HZ : Hid (true = decide (z < 0) ∧ (z.natAbs : Int) = decN (bl (strOf t'))) := ⟨by simp; omega, by rw [bl_strOf]; omega⟩
  rw [List.length_cons] at hs
  cases t' with
  | nil => exact absurd rfl ht
  | cons c t =>
   rw [List.length_cons] at hs
   exact ft_mok _ _ (t.length + 1) t.length (by omega) (str_sz _ _) (fun _ => rfl) (str_sub 45 (c :: t)) (str_sz _ _) (by omega) (alld' hd) c (fun _ => rfl) (c_ne (k := 48) (by simpa using hh) (by decide)) z hd HZ w

end Go.Proofs.YtjahbjjekednfabDoor
