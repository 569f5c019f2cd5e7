import Derived.Test.YtjahbjjekednfaaQ3
namespace Go.Proofs.Ytjahbjjekednfaa
open Go.RowKit

theorem bare_head {n : Nat} {core : List Int} {p : Nat} {r : Rs} (h : Bare n core p r) : 0 < core.length ∧ at0 core 0 ≠ 45 := by
  rcases h with (⟨h1, h2, h3, _⟩ | ⟨t, rfl, _⟩) | ⟨n', t, _, rfl, _⟩
  · have hl : 0 < core.length := List.length_pos_iff.mpr h1
    have := isDig_bd (digs_at h3 hl)
    exact ⟨hl, by omega⟩
  · exact ⟨by simp, by rw [at0_cons_zero]; decide⟩
  · exact ⟨by simp, by rw [at0_cons_zero]; decide⟩
theorem bare_ok {n : Nat} {core : List Int} {p : Nat} {r : Rs} (h : Bare n core p r) (hn : n ≤ 8) (hl : core.length ≤ 100) : RsOk 1000000 r := by
  have hf : Fc n core p r := by
    cases n with
    | zero =>
      rcases h with h | ⟨n', t, h1, _⟩
      · exact ⟨0, core, r, rfl, h, rfl⟩
      · omega
    | succ n =>
      refine ⟨0, core, r, rfl, ?_, rfl⟩
      rcases h with h | ⟨n', t, h1, h2, h3⟩
      · exact Or.inl h
      · have : n = n' := by omega
        subst this
        exact Or.inr ⟨t, h2, h3⟩
  refine (fc_ok n core p r hf).mono ?_
  have h1 : 2 ^ n ≤ 2 ^ 8 := Nat.pow_le_pow_right (by decide) hn
  have h2 := Nat.mul_le_mul (Nat.mul_le_mul_left 20 h1) hl
  omega

set_option maxHeartbeats 3200000 in
set_option maxRecDepth 100000 in
theorem factor_at (n m : Nat) (hn : n ≤ 8) (hF : Rds 91 (Bare n) isD) (s : ByteArray) (p : Nat) (core post : List Int) (r : Rs) (b : Nat) (w : World) (hs : s.size ≤ 100) (hat : At s p (List.replicate m 45 ++ (core ++ post))) (ht : Bare n core (p + m) r) (hh : Hd isD post) (hB : Blk w b #[.string s, .int .i64 p, .int .i64 0, .int .i64 0] 62) :
    Calls Try.prog 75 #[.pointer (some ⟨b, 0, none⟩)] w (RetS b s (p + (m + core.length)) (negs m r) w) := by
  have hsz := hat.size
  rw [List.length_append, List.length_append, List.length_replicate] at hsz
  have hat1 : At s (p + m) (core ++ post) := by
    have := At.step hat
    rwa [List.length_replicate] at this
  obtain ⟨hc1, hc2⟩ := bare_head ht
  have HR := Hid.mk (bare_ok ht hn (by omega))
  have HA := Hid.mk hat
  have HA1 := Hid.mk hat1
  have HT := Hid.mk ht
  have hbl := hB.lt
  clear hat hat1 ht
  go_enter Try.func75, Try.ntmps75
  go_wp2_with fail
  go_loopw [3] (fun ng wr => ∃ j i : Nat, Hid (i = p + j) ∧ j ≤ m ∧ ng = .bool (decide (j % 2 = 1)) ∧ Blk wr b #[.string s, .int .i64 i, .int .i64 0, .int .i64 0] 62 ∧ Blk wr w.heap.size #[.bool false, .slice none 0 0, .bool false, .slice none 0 0, .bool false, .slice none 0 0, .int .i64 0] 41 ∧ KeepsBut b w wr)
    (fun _ wr => s.size + 1 - atOf b wr)
  case atStart => exact ⟨0, p, rfl, by omega, rfl, Blk.alloc hB _, Blk.new w _ _, KeepsBut.alloc (KeepsBut.refl _ _) _⟩
  case round =>
    obtain ⟨j, i, HI, hj, rfl, hBr, hRr, hkr⟩ := hrel
    have hij := HI.out
    have HM := Hid.mk (atOf_blk hBr)
    by_cases h1 : j < m
    · have hc0 : byteAt s i = 45 := by
        rw [hij, HA.out.byte j, at0_append_lt (by rw [List.length_replicate]; exact h1), at0_eq (by rw [List.length_replicate]; exact h1), List.getElem_replicate]
      have hi : i ≤ 1000 := by omega
      clear hij
      go_wp2_with fail
      refine (peek_any s i 0 0 b _ hBr (by omega) hi).mono ?_
      rintro e w1 ⟨rfl, hk1⟩
      replace hBr := hBr.keep hk1
      replace hRr := hRr.keep hk1
      have bc := hBr.cell
      have bf := hBr.frozen
      have blt := hBr.lt
      rw [hc0]
      go_wp2_with fail
      go_roundw
      case rel =>
        refine ⟨j + 1, i + 1, by have := HI.out; unfold Hid; omega, by omega, ?_, ?_, Blk.other hRr (by omega), KeepsBut.setCell (hkr.trans (KeepsBut.of_kp hk1)) _ _⟩
        · by_cases h5 : j % 2 = 1
          · rw [decide_eq_true h5, decide_eq_false (show ¬ (j + 1) % 2 = 1 by omega)]; rfl
          · rw [decide_eq_false h5, decide_eq_true (show (j + 1) % 2 = 1 by omega)]; rfl
        · rw [show ((i + 1 : Nat) : Int) = (i : Int) + 1 by omega]
          exact Blk.set (o := 1) (y := .int .i64 ((i : Int) + 1)) hBr
      case measure =>
        rw [HM.out, atOf_blk (i := i + 1) (s := s) (er := 0) (ea := 0) (by rw [show ((i + 1 : Nat) : Int) = (i : Int) + 1 by omega]; exact Blk.set (o := 1) (y := .int .i64 ((i : Int) + 1)) hBr)]
        have := HI.out
        omega
    · have hje : j = m := by omega
      subst hje
      have hc0 : (byteAt s i == 45) = false := by
        have := HA1.out.byte 0
        rw [Nat.add_zero, at0_append_lt hc1, ← hij] at this
        rw [this]
        simpa using hc2
      have hi : i ≤ 1000 := by omega
      have HAi : Hid (At s i (core ++ post)) := by unfold Hid; rw [hij]; exact HA1.out
      have HTi : Hid (Bare n core i r) := by unfold Hid; rw [hij]; exact HT.out
      clear hij HA HA1 HT
      go_wp2_with fail
      refine (peek_any s i 0 0 b _ hBr (by omega) hi).mono ?_
      rintro e w1 ⟨rfl, hk1⟩
      replace hBr := hBr.keep hk1
      replace hRr := hRr.keep hk1
      generalize byteAt s i = c0 at *
      go_wp2_with fail
      refine (hF s i core post r b _ hs HAi.out HTi.out hh hBr).mono ?_
      rintro e w2 ⟨v2, i2, rfl, hv2, hB2, hi1, hi2, hk2⟩
      have hij := HI.out
      have HI2 : Hid (r.e = 0 → i2 = p + (j + core.length)) := by unfold Hid; intro h; have := hi1 h; omega
      have hi3 : i2 ≤ p + (j + core.length) := by omega
      clear hi1 hi2 hij HI HAi HTi
      have R2 := hRr.but hk2 (by omega)
      obtain ⟨b7, ao7, n7, c7, b8, ao8, n8, c8, b9, ao9, n9, c9, rfl, g1, g2, g3⟩ := id hv2
      clear g1 g2 g3
      have R2c := R2.cell
      have R2f := R2.frozen
      have R2l := R2.lt
      have b2l := hB2.lt
      by_cases h5 : j % 2 = 1
      · rw [decide_eq_true h5]
        go_wp2_with fail
        refine (xnegate_any r.v 1000000 _ _ (hv2.soft (Sf.alloc (Sf.refl 2 w2) (.cells #[.bool b7, .slice ao7 n7 c7, .bool b8, .slice ao8 n8 c8, .bool b9, .slice ao9 n9 c9, .int .i64 r.v.d] 41))) (by omega) (HR.out).f).mono ?_
        rintro e w3 ⟨v3, rfl, hv3, hk3⟩
        obtain ⟨b17, ao17, n17, c17, b18, ao18, n18, c18, b19, ao19, n19, c19, rfl, g1, g2, g3⟩ := id hv3
        clear g1 g2 g3
        have hk3' : Kp w2 w3 := (kp_alloc w2 (.cells #[.bool b7, .slice ao7 n7 c7, .bool b8, .slice ao8 n8 c8, .bool b9, .slice ao9 n9 c9, .int .i64 r.v.d] 41)).trans' hk3
        have hB3 := hB2.keep hk3'
        have R3 := R2.keep hk3'
        have V3 : Blk w3 w2.heap.size #[.bool b7, .slice ao7 n7 c7, .bool b8, .slice ao8 n8 c8, .bool b9, .slice ao9 n9 c9, .int .i64 r.v.d] 41 := Blk.keep hk3 (Blk.new w2 _ _)
        have R3c := R3.cell
        have R3f := R3.frozen
        have R3l := R3.lt
        have V3c := V3.cell
        have V3f := V3.frozen
        have V3l := V3.lt
        have hne : w.heap.size ≠ w2.heap.size := by omega
        clear R2c R2f R2l
        go_wp2_with fail
        refine bodyPost_ret (v := .agg #[.bool b17, .slice ao17 n17 c17, .bool b18, .slice ao18 n18 c18, .bool b19, .slice ao19 n19 c19, .int .i64 (qneg r.v).d]) (by simp [results, Try.results75, go_sem, R3c]) rfl ?_
        have e9 : negs j r = ⟨qneg r.v, r.e, r.k⟩ := by unfold negs; rw [if_pos (by omega)]
        rw [e9]
        exact ⟨_, i2, rfl, hv3.soft (Sf.set (t := 41) (c := w.heap.size) (o := 6) (y := .int .i64 (qneg r.v).d) (Sf.set (t := 41) (c := w.heap.size) (o := 5) (y := .slice ao19 n19 c19) (Sf.set (t := 41) (c := w.heap.size) (o := 4) (y := .bool b19) (Sf.set (t := 41) (c := w.heap.size) (o := 3) (y := .slice ao18 n18 c18) (Sf.set (t := 41) (c := w.heap.size) (o := 2) (y := .bool b18) (Sf.set (t := 41) (c := w.heap.size) (o := 1) (y := .slice ao17 n17 c17) (Sf.set (t := 41) (c := w.heap.size) (o := 0) (y := .bool b17) (Sf.set (t := 41) (c := w2.heap.size) (o := 6) (y := .int .i64 (qneg r.v).d) (Sf.set (t := 41) (c := w2.heap.size) (o := 5) (y := .slice ao19 n19 c19) (Sf.set (t := 41) (c := w2.heap.size) (o := 4) (y := .bool b19) (Sf.set (t := 41) (c := w2.heap.size) (o := 3) (y := .slice ao18 n18 c18) (Sf.set (t := 41) (c := w2.heap.size) (o := 2) (y := .bool b18) (Sf.set (t := 41) (c := w2.heap.size) (o := 1) (y := .slice ao17 n17 c17) (Sf.set (t := 41) (c := w2.heap.size) (o := 0) (y := .bool b17) (Sf.refl 2 w3) (by first | (simp only [elemOf_setCell]; exact V3.elem) | exact V3.elem) (by decide)) (by first | (simp only [elemOf_setCell]; exact V3.elem) | exact V3.elem) (by decide)) (by first | (simp only [elemOf_setCell]; exact V3.elem) | exact V3.elem) (by decide)) (by first | (simp only [elemOf_setCell]; exact V3.elem) | exact V3.elem) (by decide)) (by first | (simp only [elemOf_setCell]; exact V3.elem) | exact V3.elem) (by decide)) (by first | (simp only [elemOf_setCell]; exact V3.elem) | exact V3.elem) (by decide)) (by first | (simp only [elemOf_setCell]; exact V3.elem) | exact V3.elem) (by decide)) (by first | (simp only [elemOf_setCell]; exact R3.elem) | exact R3.elem) (by decide)) (by first | (simp only [elemOf_setCell]; exact R3.elem) | exact R3.elem) (by decide)) (by first | (simp only [elemOf_setCell]; exact R3.elem) | exact R3.elem) (by decide)) (by first | (simp only [elemOf_setCell]; exact R3.elem) | exact R3.elem) (by decide)) (by first | (simp only [elemOf_setCell]; exact R3.elem) | exact R3.elem) (by decide)) (by first | (simp only [elemOf_setCell]; exact R3.elem) | exact R3.elem) (by decide)) (by first | (simp only [elemOf_setCell]; exact R3.elem) | exact R3.elem) (by decide)), (Blk.other (c := w.heap.size) (o := 6) (y := .int .i64 (qneg r.v).d) (Blk.other (c := w.heap.size) (o := 5) (y := .slice ao19 n19 c19) (Blk.other (c := w.heap.size) (o := 4) (y := .bool b19) (Blk.other (c := w.heap.size) (o := 3) (y := .slice ao18 n18 c18) (Blk.other (c := w.heap.size) (o := 2) (y := .bool b18) (Blk.other (c := w.heap.size) (o := 1) (y := .slice ao17 n17 c17) (Blk.other (c := w.heap.size) (o := 0) (y := .bool b17) (Blk.other (c := w2.heap.size) (o := 6) (y := .int .i64 (qneg r.v).d) (Blk.other (c := w2.heap.size) (o := 5) (y := .slice ao19 n19 c19) (Blk.other (c := w2.heap.size) (o := 4) (y := .bool b19) (Blk.other (c := w2.heap.size) (o := 3) (y := .slice ao18 n18 c18) (Blk.other (c := w2.heap.size) (o := 2) (y := .bool b18) (Blk.other (c := w2.heap.size) (o := 1) (y := .slice ao17 n17 c17) (Blk.other (c := w2.heap.size) (o := 0) (y := .bool b17) hB3 (by omega)) (by omega)) (by omega)) (by omega)) (by omega)) (by omega)) (by omega)) (by omega)) (by omega)) (by omega)) (by omega)) (by omega)) (by omega)) (by omega)), fun h => by have := HI2.out h; omega, by omega, (KeepsBut.setNew (d := w.heap.size) (o := 6) (y := .int .i64 (qneg r.v).d) (KeepsBut.setNew (d := w.heap.size) (o := 5) (y := .slice ao19 n19 c19) (KeepsBut.setNew (d := w.heap.size) (o := 4) (y := .bool b19) (KeepsBut.setNew (d := w.heap.size) (o := 3) (y := .slice ao18 n18 c18) (KeepsBut.setNew (d := w.heap.size) (o := 2) (y := .bool b18) (KeepsBut.setNew (d := w.heap.size) (o := 1) (y := .slice ao17 n17 c17) (KeepsBut.setNew (d := w.heap.size) (o := 0) (y := .bool b17) (KeepsBut.setNew (d := w2.heap.size) (o := 6) (y := .int .i64 (qneg r.v).d) (KeepsBut.setNew (d := w2.heap.size) (o := 5) (y := .slice ao19 n19 c19) (KeepsBut.setNew (d := w2.heap.size) (o := 4) (y := .bool b19) (KeepsBut.setNew (d := w2.heap.size) (o := 3) (y := .slice ao18 n18 c18) (KeepsBut.setNew (d := w2.heap.size) (o := 2) (y := .bool b18) (KeepsBut.setNew (d := w2.heap.size) (o := 1) (y := .slice ao17 n17 c17) (KeepsBut.setNew (d := w2.heap.size) (o := 0) (y := .bool b17) (((hkr.trans (KeepsBut.of_kp hk1)).trans hk2).trans (KeepsBut.of_kp hk3')) (by have := hkr.size; have := hk1.size; have := hk2.size; omega)) (by have := hkr.size; have := hk1.size; have := hk2.size; omega)) (by have := hkr.size; have := hk1.size; have := hk2.size; omega)) (by have := hkr.size; have := hk1.size; have := hk2.size; omega)) (by have := hkr.size; have := hk1.size; have := hk2.size; omega)) (by have := hkr.size; have := hk1.size; have := hk2.size; omega)) (by have := hkr.size; have := hk1.size; have := hk2.size; omega)) (Nat.le_refl _)) (Nat.le_refl _)) (Nat.le_refl _)) (Nat.le_refl _)) (Nat.le_refl _)) (Nat.le_refl _)) (Nat.le_refl _))⟩
      · rw [decide_eq_false h5]
        go_wp2_with fail
        refine bodyPost_ret (v := .agg #[.bool b7, .slice ao7 n7 c7, .bool b8, .slice ao8 n8 c8, .bool b9, .slice ao9 n9 c9, .int .i64 r.v.d]) (by simp [results, Try.results75, go_sem, R2c, R2l]) rfl ?_
        have e9 : negs j r = r := by unfold negs; rw [if_neg (by omega)]
        rw [e9]
        exact ⟨_, i2, rfl, hv2.soft (Sf.alloc (Sf.set (t := 41) (c := w.heap.size) (o := 6) (y := .int .i64 r.v.d) (Sf.set (t := 41) (c := w.heap.size) (o := 5) (y := .slice ao9 n9 c9) (Sf.set (t := 41) (c := w.heap.size) (o := 4) (y := .bool b9) (Sf.set (t := 41) (c := w.heap.size) (o := 3) (y := .slice ao8 n8 c8) (Sf.set (t := 41) (c := w.heap.size) (o := 2) (y := .bool b8) (Sf.set (t := 41) (c := w.heap.size) (o := 1) (y := .slice ao7 n7 c7) (Sf.set (t := 41) (c := w.heap.size) (o := 0) (y := .bool b7) (Sf.refl 2 w2) (by first | (simp only [elemOf_setCell]; exact R2.elem) | exact R2.elem) (by decide)) (by first | (simp only [elemOf_setCell]; exact R2.elem) | exact R2.elem) (by decide)) (by first | (simp only [elemOf_setCell]; exact R2.elem) | exact R2.elem) (by decide)) (by first | (simp only [elemOf_setCell]; exact R2.elem) | exact R2.elem) (by decide)) (by first | (simp only [elemOf_setCell]; exact R2.elem) | exact R2.elem) (by decide)) (by first | (simp only [elemOf_setCell]; exact R2.elem) | exact R2.elem) (by decide)) (by first | (simp only [elemOf_setCell]; exact R2.elem) | exact R2.elem) (by decide)) (.cells #[.bool b7, .slice ao7 n7 c7, .bool b8, .slice ao8 n8 c8, .bool b9, .slice ao9 n9 c9, .int .i64 r.v.d] 41)), Blk.alloc (Blk.other (c := w.heap.size) (o := 6) (y := .int .i64 r.v.d) (Blk.other (c := w.heap.size) (o := 5) (y := .slice ao9 n9 c9) (Blk.other (c := w.heap.size) (o := 4) (y := .bool b9) (Blk.other (c := w.heap.size) (o := 3) (y := .slice ao8 n8 c8) (Blk.other (c := w.heap.size) (o := 2) (y := .bool b8) (Blk.other (c := w.heap.size) (o := 1) (y := .slice ao7 n7 c7) (Blk.other (c := w.heap.size) (o := 0) (y := .bool b7) hB2 (by omega)) (by omega)) (by omega)) (by omega)) (by omega)) (by omega)) (by omega)) (.cells #[.bool b7, .slice ao7 n7 c7, .bool b8, .slice ao8 n8 c8, .bool b9, .slice ao9 n9 c9, .int .i64 r.v.d] 41), fun h => by have := HI2.out h; omega, by omega, KeepsBut.alloc (KeepsBut.setNew (d := w.heap.size) (o := 6) (y := .int .i64 r.v.d) (KeepsBut.setNew (d := w.heap.size) (o := 5) (y := .slice ao9 n9 c9) (KeepsBut.setNew (d := w.heap.size) (o := 4) (y := .bool b9) (KeepsBut.setNew (d := w.heap.size) (o := 3) (y := .slice ao8 n8 c8) (KeepsBut.setNew (d := w.heap.size) (o := 2) (y := .bool b8) (KeepsBut.setNew (d := w.heap.size) (o := 1) (y := .slice ao7 n7 c7) (KeepsBut.setNew (d := w.heap.size) (o := 0) (y := .bool b7) ((hkr.trans (KeepsBut.of_kp hk1)).trans hk2) (Nat.le_refl _)) (Nat.le_refl _)) (Nat.le_refl _)) (Nat.le_refl _)) (Nat.le_refl _)) (Nat.le_refl _)) (Nat.le_refl _)) (.cells #[.bool b7, .slice ao7 n7 c7, .bool b8, .slice ao8 n8 c8, .bool b9, .slice ao9 n9 c9, .int .i64 r.v.d] 41)⟩

theorem factor_any (n : Nat) (hn : n ≤ 8) (hF : Rds 91 (Bare n) isD) : Rds 75 (Fc n) isD := by
  intro s p t post r b w hs hat ht hh hB
  obtain ⟨m, core, r0, rfl, h2, rfl⟩ := fc_bare ht
  rw [List.append_assoc] at hat
  rw [List.length_append, List.length_replicate]
  exact factor_at n m hn hF s p core post r0 b w hs hat h2 hh hB

end Go.Proofs.Ytjahbjjekednfaa
