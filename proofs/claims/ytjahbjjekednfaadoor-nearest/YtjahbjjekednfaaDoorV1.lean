import Derived.Lib.ItoaNum
import Derived.Test.YtjahbjjekednfaaDoorR1
import Derived.Test.YtjahbjjekednfaaDoorMath6
import Derived.Laws.IdiomStrings
import Derived.Laws.Concat
import Derived.Lib.Strings
import Derived.Test.YtjahbjjekednfaaDoorShelf
/-! Decimal numerals, piece by piece. -/
namespace Go.Proofs.YtjahbjjekednfaaDoor
open Go.Lib

/-- Just k decimal digits of u, noughts ahead. -/
def pad : Nat → Nat → List UInt8
 | 0, _ => []
 | k + 1, u => pad k (u / 10) ++ [UInt8.ofNat (48 + u % 10)]
/-- Without noughts ahead. -/
def strip0 : List UInt8 → List UInt8
 | [] => []
 | c :: l => if c = 48 then strip0 l else c :: l

theorem pad_length : ∀ k u, (pad k u).length = k
 | 0, _ => rfl
 | k + 1, u => by simp [pad, pad_length k]
theorem dec_big {u : Nat} (h : ¬ u < 10) : decDigits u = decDigits (u / 10) ++ [UInt8.ofNat (48 + u % 10)] := by rw [decDigits, dif_neg h]

theorem dec_pad : ∀ (k a b : Nat), 0 < a → b < 10 ^ k → decDigits (a * 10 ^ k + b) = decDigits a ++ pad k b
 | 0, a, b, _, hb => by
  have : b = 0 := by simpa using hb
  simp [this, pad]
 | k + 1, a, b, ha, hb => by
  have hp : 0 < 10 ^ k := Nat.pow_pos (by decide)
  have hk : 10 ≤ a * 10 ^ (k + 1) := by
   rw [Nat.pow_succ, ← Nat.mul_assoc]
   have := Nat.mul_pos ha hp
   omega
  have e1 : (a * 10 ^ (k + 1) + b) / 10 = a * 10 ^ k + b / 10 := by rw [Nat.pow_succ, ← Nat.mul_assoc]; omega
  have e2 : (a * 10 ^ (k + 1) + b) % 10 = b % 10 := by rw [Nat.pow_succ, ← Nat.mul_assoc]; omega
  rw [dec_big (by omega), e1, e2, dec_pad k a (b / 10) ha (by rw [Nat.pow_succ] at hb; omega), pad, List.append_assoc]
theorem pad_pad : ∀ (k j a b : Nat), b < 10 ^ k → pad (j + k) (a * 10 ^ k + b) = pad j a ++ pad k b
 | 0, j, a, b, hb => by
  have : b = 0 := by simpa using hb
  simp [this, pad]
 | k + 1, j, a, b, hb => by
  have e1 : (a * 10 ^ (k + 1) + b) / 10 = a * 10 ^ k + b / 10 := by rw [Nat.pow_succ, ← Nat.mul_assoc]; omega
  have e2 : (a * 10 ^ (k + 1) + b) % 10 = b % 10 := by rw [Nat.pow_succ, ← Nat.mul_assoc]; omega
  rw [show j + (k + 1) = (j + k) + 1 by omega, pad, e1, e2, pad_pad k j a (b / 10) (by rw [Nat.pow_succ] at hb; omega), pad, List.append_assoc]
theorem pad_zero : ∀ k, pad k 0 = List.replicate k 48
 | 0 => rfl
 | k + 1 => by
  rw [pad, Nat.zero_div, pad_zero k, List.replicate_succ']
  rfl
theorem strip_zeros (l : List UInt8) : ∀ k, strip0 (List.replicate k 48 ++ l) = strip0 l
 | 0 => rfl
 | k + 1 => by
  rw [List.replicate_succ, List.cons_append, strip0, if_pos rfl]
  exact strip_zeros l k
/-- A digit that is not 0 is not the byte of 0. -/
theorem digit_ne {d : Nat} (h0 : 0 < d) (h1 : d < 10) : UInt8.ofNat (48 + d) ≠ 48 := by
 intro h
 have := congrArg UInt8.toNat h
 simp at this
 omega
theorem dec_head : ∀ (n u : Nat), u ≤ n → 0 < u → ∃ c l, decDigits u = c :: l ∧ c ≠ 48
 | 0, u, h, h0 => by omega
 | n + 1, u, h, h0 => by
  by_cases hu : u < 10
  ·exact ⟨UInt8.ofNat (48 + u), [], by rw [decDigits, dif_pos hu], digit_ne h0 hu⟩
  ·obtain ⟨c, l, h1, h2⟩ := dec_head n (u / 10) (by omega) (by omega)
   exact ⟨c, l ++ [UInt8.ofNat (48 + u % 10)], by rw [dec_big hu, h1]; rfl, h2⟩
theorem strip_dec {u : Nat} (h : 0 < u) : strip0 (decDigits u) = decDigits u := by
 obtain ⟨c, l, h1, h2⟩ := dec_head u u (Nat.le_refl _) h
 rw [h1, strip0, if_neg h2]
/-- A numeral of k digits without its noughts ahead. -/
theorem strip_pad : ∀ (k u : Nat), u < 10 ^ k → 0 < u → strip0 (pad k u) = decDigits u
 | 0, u, h, h0 => by simp at h; omega
 | k + 1, u, h, h0 => by
  by_cases hu : u < 10
  ·have e1 : u / 10 = 0 := by omega
   have e2 : u % 10 = u := by omega
   rw [pad, e1, e2, pad_zero, strip_zeros]
   have := strip_dec h0
   rwa [decDigits, dif_pos hu] at this ⊢
  ·have hk := strip_pad k (u / 10) (by rw [Nat.pow_succ] at h; omega) (by omega)
   have key : ∀ (l m : List UInt8), strip0 l ≠ [] → strip0 (l ++ m) = strip0 l ++ m := by
    intro l m
    induction l with
    | nil => intro h; exact absurd rfl h
    | cons c l ih =>
     intro h
     rw [List.cons_append, strip0, strip0]
     by_cases hc : c = 48
     ·rw [if_pos hc, if_pos hc]
      refine ih ?_
      rwa [strip0, if_pos hc] at h
     ·rw [if_neg hc, if_neg hc]; rfl
   rw [pad, key _ _ (by
    rw [hk]
    obtain ⟨c, l, h1, _⟩ := dec_head (u / 10) (u / 10) (Nat.le_refl _) (by omega)
    rw [h1]; simp), hk, ← dec_big hu]
theorem pad_four (n : Nat) (h : n < 10000) : pad 4 n = [UInt8.ofNat (48 + n / 1000), UInt8.ofNat (48 + n / 100 % 10), UInt8.ofNat (48 + n / 10 % 10), UInt8.ofNat (48 + n % 10)] := by
 simp only [pad, List.nil_append, List.cons_append]
 have e1 : n / 10 / 10 / 10 % 10 = n / 1000 := by omega
 have e2 : n / 10 / 10 % 10 = n / 100 % 10 := by omega
 rw [e1, e2]
/-- What is shorter than k digits gets its noughts. -/
theorem pad_dec : ∀ (k u : Nat), u < 10 ^ (k + 1) → ∃ j, j + (decDigits u).length = k + 1 ∧ pad (k + 1) u = List.replicate j 48 ++ decDigits u
 | 0, u, h => ⟨0, by rw [decDigits, dif_pos (by simpa using h)]; rfl, by
   have hu : u < 10 := by simpa using h
   rw [decDigits, dif_pos hu, pad, Nat.mod_eq_of_lt hu]; rfl⟩
 | k + 1, u, h => by
  by_cases hu : u < 10
  ·refine ⟨k + 1, by rw [decDigits, dif_pos hu]; rfl, ?_⟩
   rw [pad, show u / 10 = 0 by omega, pad_zero, decDigits, dif_pos hu, Nat.mod_eq_of_lt hu]
  ·obtain ⟨j, h1, h2⟩ := pad_dec k (u / 10) (by rw [Nat.pow_succ] at h; omega)
   refine ⟨j, by rw [dec_big hu, List.length_append, List.length_singleton]; omega, ?_⟩
   rw [pad, h2, dec_big hu, List.append_assoc]

/-- A whole number's text. -/
def numText (z : Int) : List UInt8 := itoa z

end Go.Proofs.YtjahbjjekednfaaDoor

namespace Go.Proofs.YtjahbjjekednfaaDoor
open Go.RowKit

/-- A text out of its bytes. -/
def strOf (l : List UInt8) : ByteArray := ⟨l.toArray⟩

theorem strOf_size (l : List UInt8) : (strOf l).size = l.length := by simp [strOf, ByteArray.size]
theorem strOf_toList (l : List UInt8) : (strOf l).data.toList = l := rfl

theorem preV_lt {l : List Int} (h : Dig 10000 l) : ∀ j, preV l j < ((10 ^ 4) ^ j : Nat)
 | 0 => by simp [preV]
 | j + 1 => by
  have h1 := preV_lt h j
  obtain ⟨h2, h3⟩ := h j
  show preV l j * 10000 + at0 l j < _
  rw [Nat.pow_succ]
  generalize (10 ^ 4) ^ j = M at *
  omega

/-- Four digits as a text. -/
theorem conv4 (w : World) (n : Nat) (h : n < 10000) : (convert 87 9 (.slice (some ⟨w.heap.size, 0, none⟩) 4 4)).run Tryd.prog (w.alloc (.cells #[.int .u8 (48 + (n : Int) / 1000), .int .u8 (48 + (n : Int) / 100 % 10), .int .u8 (48 + (n : Int) / 10 % 10), .int .u8 (48 + (n : Int) % 10)] 5)) = .ok (.string (strOf (pad 4 n))) (w.alloc (.cells #[.int .u8 (48 + (n : Int) / 1000), .int .u8 (48 + (n : Int) / 100 % 10), .int .u8 (48 + (n : Int) / 10 % 10), .int .u8 (48 + (n : Int) % 10)] 5)) := by
 generalize hW : w.alloc (.cells #[.int .u8 (48 + (n : Int) / 1000), .int .u8 (48 + (n : Int) / 100 % 10), .int .u8 (48 + (n : Int) / 10 % 10), .int .u8 (48 + (n : Int) % 10)] 5) = W
 have h1 := run_convert_bytes_back (P := Tryd.prog) W 87 9 5 ⟨w.heap.size, 0, none⟩ 4 (pad 4 n) Tryd.underlying87 Tryd.underlying5 Tryd.underlying9 (fun j hj => by
  have hj4 : j < 4 := by rw [pad_length] at hj; exact hj
  subst hW
  simp only [pad_four n h]
  have : j = 0 ∨ j = 1 ∨ j = 2 ∨ j = 3 := by omega
  rcases this with rfl | rfl | rfl | rfl
  ·refine (World.cell?_alloc_mark w _ _ (0, 0) 0).trans ?_
   simp
   omega
  ·refine (World.cell?_alloc_mark w _ _ (0, 0) 1).trans ?_
   simp
   omega
  ·refine (World.cell?_alloc_mark w _ _ (0, 0) 2).trans ?_
   simp
   omega
  ·refine (World.cell?_alloc_mark w _ _ (0, 0) 3).trans ?_
   simp
   omega)
 rw [pad_length] at h1
 exact h1

set_option maxHeartbeats 1600000 in
set_option maxRecDepth 100000 in
theorem text_ref (z : Int) (v : Value) (w : World) (hz : IN w v z) (fz : Fit z) : Calls Tryd.prog 31 #[v] w (RetV w (.string (strOf (Go.Lib.itoa z)))) := by
 obtain ⟨ao, n, c, rfl, hr⟩ := hz
 obtain ⟨m, hm, cm, hmv⟩ := hr
 have hlen : m.length ≤ 400000000 := cm.len_fit (by decide) (by rw [hmv]; exact fit_abs fz)
 have hPx : preV m.reverse m.reverse.length = (z.natAbs : Int) := by rw [List.length_reverse, preV_all, hmv]
 have hDl := dig_rev cm.1
 have hll : m.reverse.length ≤ 400000000 := by rw [List.length_reverse]; exact hlen
 unfold RowR at hm
 generalize m.reverse = l at *
 obtain ⟨ao0, cap0, hsl, hcap, hcap2⟩ := hm.slice
 simp only [Value.slice.injEq] at hsl
 obtain ⟨rfl, rfl, rfl⟩ := hsl
 have HD := Hid.mk hDl
 have HP := Hid.mk hPx
 clear cm hmv hlen hDl hPx
 generalize hbn : decide (z < 0) = bn
 have HB := Hid.mk hbn
 clear hbn
 have kp0 := kp_alloc w (.cells #[.bool bn, .slice ao l.length c] 64)
 have BX0 := Blk.new w #[.bool bn, .slice ao l.length c] 64
 go_enter Tryd.func31, Tryd.ntmps31
 go_wp2_with fail
 go_loopw [3, 4, 5, 6] (fun s i _ _ wr => ∃ (j : Nat) (b : ByteArray), j ≤ l.length ∧ i = .int .i64 j ∧ s = .string b ∧ Blk wr w.heap.size #[.bool bn, .slice ao l.length c] 64 ∧ Kp w wr ∧ Hid (b.data.toList = pad (4 * j) (preV l j).toNat) ∧ b.size = 4 * j)
  (fun _ i _ _ _ => l.length - (intOf i).toNat)
 case atStart => exact ⟨0, ByteArray.empty, by omega, rfl, rfl, BX0, kp0, rfl, rfl⟩
 case round =>
  clear BX0 kp0
  obtain ⟨j, b, hj, rfl, rfl, BX, hkr, HS, hbs⟩ := hrel
  have bxc := BX.cell
  have bxl := BX.lt
  by_cases h1 : j < l.length
  ·obtain ⟨hd0, hd1⟩ := HD.out j
   obtain ⟨ao1, cap1, bb, off, hsl, _, _, _, hh5, hh6⟩ := id hm
   simp only [Value.slice.injEq] at hsl
   obtain ⟨rfl, _, rfl⟩ := hsl
   have ha := (hh5 (by omega)).1
   have hel := (hh5 (by omega)).2
   subst ha
   have hcell : wr.cell? ⟨bb, off + j, none⟩ = some (.int .i64 (at0 l j)) := by
    rw [World.cell?_of_block (w := w) (hkr.block bb (elemOf_lt hel))]
    exact hh6 j h1
   clear hh5 hh6
   generalize hdg : at0 l j = D at *
   have hji : (j : Int) < (l.length : Int) := by omega
   obtain ⟨n, rfl⟩ := Int.eq_ofNat_of_zero_le hd0
   have hn : n < 10000 := by omega
   have kc := conv4 wr n hn
   have hps : (strOf (pad 4 n)).size = 4 := by rw [strOf_size, pad_length]
   have hadd := fun (W : World) => run_string_add_sum (P := Tryd.prog) (w := W) b (strOf (pad 4 n)) (by omega)
   go_wp2_with fail
   go_roundw
   case rel => 
    refine ⟨j + 1, b ++ strOf (pad 4 n), by omega, by go_num, rfl, BX.alloc _, hkr.alloc' _, ?_, ?_⟩
    ·show (b ++ strOf (pad 4 n)).data.toList = _
     have h2 := preV_nn HD.out j
     have e1 : (preV l (j + 1)).toNat = (preV l j).toNat * 10 ^ 4 + n := by
      show (preV l j * 10000 + at0 l j).toNat = _
      rw [hdg]; omega
     rw [show 4 * (j + 1) = 4 * j + 4 by omega, e1, pad_pad 4 (4 * j) _ n (by omega), ← HS.out]
     simp [strOf]
    ·rw [ByteArray.size_append, hps]; omega
   case measure => simp [intOf]; omega
  ·have ej : j = l.length := by omega
   have eb : b = strOf (pad (4 * l.length) z.natAbs) := by
    apply ByteArray.ext
    apply Array.toList_inj.1
    rw [HS.out, ej, HP.out]
    rfl
   subst ej
   have hbs2 : 4 * l.length ≤ 1600000000 := by omega
   clear HS hbs hcap hcap2
   have HE := Hid.mk eb
   clear eb
   have HG : Hid (z.natAbs < 10 ^ (4 * l.length)) := Hid.mk (by
    have h2 := preV_lt HD.out l.length
    rw [HP.out] at h2
    rw [Nat.pow_mul]
    omega)
   go_wp2_with fail
   go_loopw [3] (fun s wq => ∃ bs : List UInt8, s = .string (strOf bs) ∧ wq = wr ∧ bs.length ≤ 4 * l.length ∧ Hid (strip0 bs = strip0 (pad (4 * l.length) z.natAbs)))
    (fun s _ => match s with | .string b => b.size | _ => 0)
   case atStart => exact ⟨_, by rw [HE.out], rfl, by rw [pad_length]; omega, rfl⟩
   case round =>
    obtain ⟨bs, rfl, rfl, hbl, HQ⟩ := hrel
    cases bs with
    | nil =>
     have hz0 : Hid (z = 0) := Hid.mk (by
      by_cases h0 : 0 < z.natAbs
      ·exfalso
       have h2 := HQ.out
       rw [strip_pad _ _ HG.out h0] at h2
       obtain ⟨c1, l1, h3, _⟩ := dec_head _ _ (Nat.le_refl _) h0
       rw [h3] at h2
       exact absurd h2 (by simp [strip0])
      ·omega)
     have hsz : (strOf []).size = 0 := rfl
     have hse : strOf [] = ({ data := #[] } : ByteArray) := rfl
     go_wp2_with fail
     go_ret
     rw [show strOf (Go.Lib.itoa z) = ⟨#[48]⟩ by rw [hz0.out, Go.Lib.itoa, if_neg (by decide), Go.Lib.decDigits, dif_pos (by decide)]; rfl]
     exact ⟨rfl, hkr⟩
    | cons c t =>
     have hsz : (strOf (c :: t)).size = t.length + 1 := by rw [strOf_size]; rfl
     have hc0 : ∀ h, (strOf (c :: t))[0]'h = c := fun _ => rfl
     rw [List.length_cons] at hbl
     by_cases hc : c = 48
     ·subst hc
      have hex : (strOf (48 :: t)).extract 1 (t.length + 1) = strOf t := by
       apply ByteArray.ext
       apply Array.toList_inj.1
       rw [Go.Lib.extract_data]
       simp [strOf]
      go_wp2_with fail
      go_roundw
      case rel => exact ⟨t, rfl, trivial, by omega, by rw [← HQ.out]; simp [Hid, strip0]⟩
      case measure => simp [strOf_size]
     ·have hcn : ((c.toNat : Int) == 48) = false := by
       have : c.toNat ≠ 48 := fun h => hc (UInt8.toNat_inj.1 h)
       rw [beq_eq_false_iff_ne]
       omega
      have hse : (strOf (c :: t)).toList.isEmpty = false := by rw [ByteArray.toList_eq]; rfl
      have hm1 : (ByteArray.size ⟨#[45]⟩) = 1 := rfl
      have HW : Hid (0 < z.natAbs ∧ c :: t = Go.Lib.decDigits z.natAbs) := Hid.mk (by
       have h2 := HQ.out
       rw [strip0, if_neg hc] at h2
       by_cases h0 : 0 < z.natAbs
       ·rw [strip_pad _ _ HG.out h0] at h2
        exact ⟨h0, h2⟩
       ·have e0 : z.natAbs = 0 := by omega
        rw [e0, pad_zero] at h2
        have h3 := strip_zeros [] (4 * l.length)
        rw [List.append_nil] at h3
        rw [h3] at h2
        exact absurd h2 (by simp [strip0]))
      cases bn
      ·go_wp2_with fail
       go_ret
       have h5 := of_decide_eq_false HB.out
       rw [show Go.Lib.itoa z = c :: t by rw [Go.Lib.itoa, if_neg h5, HW.out.2]; congr 1; omega]
       exact ⟨rfl, hkr⟩
      ·go_wp2_with fail
       go_ret
       have h5 := of_decide_eq_true HB.out
       rw [show strOf (Go.Lib.itoa z) = ⟨#[45]⟩ ++ strOf (c :: t) by rw [Go.Lib.itoa, if_pos h5, HW.out.2]; apply ByteArray.ext; simp [strOf]]
       exact ⟨rfl, hkr⟩

end Go.Proofs.YtjahbjjekednfaaDoor

namespace Go.Proofs.YtjahbjjekednfaaDoor
open Go.RowKit

/-- A table of the library's stays over what keeps the old blocks. -/
theorem tab_keep {P : Program} {w W : World} {name : String} {k : IntKind} {zs : List Int} (h : Lib.TabIs P w name k zs) (hk : Kp w W) : Lib.TabIs P W name k zs := by
 unfold Lib.TabIs World.var? at *
 cases hg : P.globalNamed name with
 | none => rw [hg] at h; exact h
 | some g =>
  rw [hg] at h
  simp only [Option.bind_some] at h ⊢
  have hl : g < w.heap.size := by
   refine Nat.lt_of_not_le fun hn => ?_
   rw [Array.getElem?_eq_none hn] at h
   exact absurd h (by simp)
  rw [hk.block g hl]
  exact h

/-- The table of tens. -/
def Tens (w : World) : Prop := Lib.TabIs Tryd.prog w "internal/strconv.uint64pow10" .u64 Lib.pow10Tab
theorem Tens.keep {w W : World} (h : Tens w) (hk : Kp w W) : Tens W := tab_keep h hk

theorem format_ten (n : Int) (h0 : -9223372036854775808 ≤ n) (h1 : n ≤ 9223372036854775807) (w : World) (ht : Tens w) : Calls Tryd.prog 56 #[.int .i64 n, .int .i64 10] w (RetV w (.string (strOf (Go.Lib.itoa n)))) := by
 refine (Tryd.strconv_FormatInt_10 n h0 h1 w ht).mono ?_
 rintro e w' ⟨rfl, k, os, rfl⟩
 refine ⟨rfl, rfl, rfl, rfl, ?_, fun i hi => ?_⟩
 ·show w.heap.size ≤ (w.heap ++ os).size
  simp
 ·show (w.heap ++ os)[i]? = w.heap[i]?
  rw [Array.getElem?_append_left hi]

set_option maxRecDepth 100000 in
theorem full_limb (d : Int) (h0 : 0 ≤ d) (h1 : d < 1000000000) (w : World) (ht : Tens w) : Calls Tryd.prog 57 #[.int .i64 d] w (RetV w (.string (strOf (pad 9 d.toNat)))) := by
 have hF := format_ten d (by omega) (by omega) w ht
 rw [Go.Lib.itoa, if_neg (by omega)] at hF
 obtain ⟨j0, hj0, hp⟩ := pad_dec 8 d.toNat (by omega)
 rw [hp]
 clear hp
 generalize Go.Lib.decDigits d.toNat = u at *
 go_enter Tryd.func57, Tryd.ntmps57
 go_wp2_with (go_at_call 56; refine hF.mono ?_; rintro e w1 ⟨rfl, hk1⟩)
 go_loopw [3] (fun s wq => ∃ k : Nat, k ≤ j0 ∧ s = .string (strOf (List.replicate k 48 ++ u)) ∧ Kp w wq)
  (fun s _ => match s with | .string b => 9 - b.size | _ => 0)
 case atStart => exact ⟨0, by omega, rfl, hk1⟩
 case round =>
  obtain ⟨k, hk, rfl, hkr⟩ := hrel
  have hsz : (strOf (List.replicate k 48 ++ u)).size = k + u.length := by rw [strOf_size]; simp
  have hm1 : (ByteArray.size ⟨#[48]⟩) = 1 := rfl
  have HA : Hid ((⟨#[48]⟩ : ByteArray) ++ strOf (List.replicate k 48 ++ u) = strOf (List.replicate (k + 1) 48 ++ u)) := Hid.mk (by
   apply ByteArray.ext
   simp [strOf, List.replicate_succ])
  by_cases h2 : k < j0
  ·have h3 : k + u.length < 9 := by omega
   have h3i : (k : Int) + (u.length : Int) < 9 := by omega
   go_wp2_with fail
   go_roundw
   case rel => exact ⟨k + 1, by omega, by rw [← HA.out], hkr⟩
   case measure =>
    rw [HA.out]
    show 9 - (strOf _).size < 9 - (strOf _).size
    rw [strOf_size, strOf_size]
    simp
    omega
  ·obtain rfl : k = j0 := by omega
   have h3 : ¬ k + u.length < 9 := by omega
   have h3i : ¬ (k : Int) + (u.length : Int) < 9 := by omega
   go_wp2_with fail
   go_ret
   exact ⟨rfl, hkr⟩

end Go.Proofs.YtjahbjjekednfaaDoor

namespace Go.Proofs.YtjahbjjekednfaaDoor
open Go.RowKit

theorem strOf_app (a b : List UInt8) : strOf a ++ strOf b = strOf (a ++ b) := by
 apply ByteArray.ext
 simp [strOf]

theorem dec_drop_pos {l : List Int} (h : Canon 1000000000 l) {t : Nat} (ht : t < l.length) : 0 < val 1000000000 (l.drop t) := by
 refine Canon.pos (by decide) ⟨fun i => ?_, fun hp => ?_⟩ (by rw [List.length_drop]; omega)
 ·have := h.1 (t + i)
  simpa [at0] using this
 ·have := h.2 (by omega)
  rw [List.length_drop] at *
  have e : t + (l.length - t - 1) = l.length - 1 := by omega
  simpa [at0, e] using this

set_option maxHeartbeats 1600000 in
set_option maxRecDepth 100000 in
/-- whole.Number.Text writes the decimal numeral. -/
theorem text_any (z : Int) (v : Value) (w : World) (hz : WN w v z) (fz : Fit z) (ht : Tens w) : Calls Tryd.prog 36 #[v] w (RetV w (.string (strOf (Go.Lib.itoa z)))) := by
 obtain ⟨ao, n, c, rfl, l, hm, cm, hmv⟩ := hz
 have hll : l.length ≤ 400000000 := cm.len_fit (by decide) (by rw [hmv]; exact fit_abs fz)
 obtain ⟨ao0, cap0, hsl, hcap, hcap2⟩ := hm.slice
 simp only [Value.slice.injEq] at hsl
 obtain ⟨rfl, rfl, rfl⟩ := hsl
 generalize hbn : decide (z < 0) = bn
 have HB := Hid.mk hbn
 clear hbn
 have kp0 := kp_alloc w (.cells #[.bool bn, .slice ao l.length c] 56)
 have BX0 := Blk.new w #[.bool bn, .slice ao l.length c] 56
 by_cases hl : l.length = 0
 ·have hz0 : z = 0 := by
   have := (cm.zero_iff (by decide)).1 hl
   omega
  rw [show strOf (Go.Lib.itoa z) = ⟨#[48]⟩ by rw [hz0, Go.Lib.itoa, if_neg (by decide), Go.Lib.decDigits, dif_pos (by decide)]; rfl]
  rw [hl]
  clear hz0 hmv BX0 HB
  go_enter Tryd.func36, Tryd.ntmps36
  go_wp2_with fail
  go_ret
  exact ⟨rfl, kp_alloc _ _⟩
 ·obtain ⟨ao1, cap1, bb, off, hsl, _, _, _, hh5, hh6⟩ := id hm
  simp only [Value.slice.injEq] at hsl
  obtain ⟨rfl, _, rfl⟩ := hsl
  have ha := (hh5 (by omega)).1
  have hel := (hh5 (by omega)).2
  subst ha
  have hblt := elemOf_lt hel
  have hcells : ∀ W, Kp w W → ∀ j, j < l.length → W.cell? ⟨bb, off + j, none⟩ = some (.int .i64 (at0 l j)) := fun W hk j hj => by
   rw [World.cell?_of_block (w := w) (hk.block bb hblt)]
   exact hh6 j hj
  clear hh5 hh6
  have hcl := hcells _ kp0 (l.length - 1) (by omega)
  obtain ⟨ht0, ht1⟩ := cm.1 (l.length - 1)
  have htp : at0 l (l.length - 1) ≠ 0 := cm.2 (by omega)
  have HT : Hid (val 1000000000 (l.drop (l.length - 1)) = at0 l (l.length - 1)) := Hid.mk (by
   rw [val_drop_succ, show l.length - 1 + 1 = l.length by omega, List.drop_length]
   simp [val])
  generalize hdt : at0 l (l.length - 1) = D at *
  have hF := format_ten D (by omega) (by omega) _ (ht.keep kp0)
  rw [Go.Lib.itoa, if_neg (by omega)] at hF
  have hi1 : (0 : Int) ≤ (l.length : Int) - 1 := by omega
  have hi2 : (l.length : Int) - 1 < (l.length : Int) := by omega
  have hi3 : ((l.length : Int) - 1).toNat = l.length - 1 := by omega
  go_enter Tryd.func36, Tryd.ntmps36
  go_wp2_with (go_at_call 56; refine hF.mono ?_; rintro e w1 ⟨rfl, hk1⟩)
  have BX1 := BX0.keep hk1
  have hk2 : Kp w w1 := kp0.trans' hk1
  obtain ⟨j9, hj9, _⟩ := pad_dec 8 D.toNat (by omega)
  go_loopw [4, 5] (fun s i wq => ∃ t : Nat, t < l.length ∧ i = .int .i64 ((t : Int) - 1) ∧ (∃ bs : List UInt8, s = .string (strOf bs) ∧ bs.length + 9 * t ≤ 9 * l.length ∧ Hid (bs = Go.Lib.decDigits (val 1000000000 (l.drop t)).toNat)) ∧ Blk wq w.heap.size #[.bool bn, .slice (some ⟨bb, off, none⟩) l.length c] 56 ∧ Kp w wq)
   (fun _ i _ => (intOf i + 1).toNat)
  case atStart => exact ⟨l.length - 1, by omega, by go_num, ⟨_, rfl, by omega, by rw [HT.out]; rfl⟩, BX1, hk2⟩
  case round =>
   clear hF hcl HT hi1 hi2 hi3 ht0 ht1 htp hj9 BX0 BX1 kp0 hk1 hk2 hdt
   obtain ⟨t, htl, rfl, ⟨bs, rfl, hbs, HS⟩, BX, hkr⟩ := hrel
   have bxc := BX.cell
   have bxl := BX.lt
   have hsz := strOf_size bs
   by_cases h0 : 0 < t
   ·have hcl := hcells _ hkr (t - 1) (by omega)
    obtain ⟨hd0, hd1⟩ := cm.1 (t - 1)
    have hF := full_limb (at0 l (t - 1)) hd0 hd1 _ (ht.keep hkr)
    have HV := Hid.mk (val_drop_succ 1000000000 l (t - 1))
    have HP := Hid.mk (dec_drop_pos cm htl)
    generalize at0 l (t - 1) = E at *
    have i0 : (0 : Int) ≤ (t : Int) - 1 := by omega
    have i1 : (t : Int) - 1 < (l.length : Int) := by omega
    have i2 : ((t : Int) - 1).toNat = t - 1 := by omega
    have hps : (strOf (pad 9 E.toNat)).size = 9 := by rw [strOf_size, pad_length]
    have hadd := fun (W : World) => run_string_add_sum (P := Tryd.prog) (w := W) (strOf bs) (strOf (pad 9 E.toNat)) (by omega)
    go_wp2_with (go_at_call 57; refine hF.mono ?_; rintro e w2 ⟨rfl, hk2⟩)
    go_roundw
    case rel =>
     refine ⟨t - 1, by omega, by go_num, ⟨bs ++ pad 9 E.toNat, by rw [strOf_app], ?_, ?_⟩, BX.keep hk2, hkr.trans' hk2⟩
     ·rw [List.length_append, pad_length]; omega
     ·have h3 := HV.out
      have h4 := HP.out
      rw [show t - 1 + 1 = t by omega] at h3
      show _ = _
      rw [h3, HS.out, ← dec_pad 9 _ _ (by omega) (by omega)]
      congr 1
      omega
    case measure => simp [intOf]; omega
   ·obtain rfl : t = 0 := by omega
    have HW : Hid (bs = Go.Lib.decDigits z.natAbs) := Hid.mk (by
     have h2 := HS.out
     rw [List.drop_zero, hmv] at h2
     rw [h2]
     congr 1)
    clear HS hmv
    have hm1 : (ByteArray.size ⟨#[45]⟩) = 1 := rfl
    cases bn
    ·go_wp2_with fail
     go_ret
     have h5 := of_decide_eq_false HB.out
     rw [show Go.Lib.itoa z = bs by rw [Go.Lib.itoa, if_neg h5, HW.out]; congr 1; omega]
     exact ⟨rfl, hkr⟩
    ·have hadd := fun (W : World) => run_string_add_sum (P := Tryd.prog) (w := W) ⟨#[45]⟩ (strOf bs) (by omega)
     go_wp2_with fail
     go_ret
     have h5 := of_decide_eq_true HB.out
     rw [show strOf (Go.Lib.itoa z) = ⟨#[45]⟩ ++ strOf bs by rw [Go.Lib.itoa, if_pos h5, HW.out]; apply ByteArray.ext; simp [strOf]]
     exact ⟨rfl, hkr⟩

end Go.Proofs.YtjahbjjekednfaaDoor
