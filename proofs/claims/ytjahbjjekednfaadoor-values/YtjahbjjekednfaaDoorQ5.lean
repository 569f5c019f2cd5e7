import Derived.Test.YtjahbjjekednfaaDoorQ4
namespace Go.Proofs.YtjahbjjekednfaaDoor
open Go.RowKit

/-- The reader's error. -/
def errOf (b : Nat) (w : World) : Int := ((w.cell? ⟨b, 2, none⟩).map intOf).getD 0
theorem errOf_blk {w : World} {b : Nat} {s : ByteArray} {i : Int} {er ea : Int} (h : Blk w b #[.string s, .int .i64 i, .int .i64 er, .int .i64 ea] 84) : errOf b w = er := by
  unfold errOf
  rw [h.cell 2]
  simp [intOf]
/-- How far a chain's loop is from its end. -/
def farOf (s : ByteArray) (b : Nat) (w : World) : Nat := if errOf b w = 0 then s.size + 1 - atOf b w else 0

theorem chT_err {F : List Int → Nat → Rs → Prop} {ops : Int → Prop} : ∀ (k : Nat) (acc : Rs) (q : Nat) (rest : List Int) (r : Rs), acc.e ≠ 0 → ChT F ops k acc q rest r → r = acc
  | 0, acc, q, rest, r, _, h => h.2
  | k + 1, acc, q, rest, r, he, h => by
    obtain ⟨c, t, s', rt, _, _, _, h4⟩ := h
    have e : opR c q acc rt = acc := by unfold opR; rw [if_pos he]
    rw [e] at h4
    exact chT_err k acc _ s' r he h4

/-- Where a chain's loop stands. -/
def LoopAt (F : List Int → Nat → Rs → Prop) (ops : Int → Prop) (j C : Nat) (s : ByteArray) (post : List Int) (r : Rs) (fin : Nat) (acc : Rs) (i : Nat) : Prop :=
  ∃ k q rest M, ChT F ops k acc q rest r ∧ (acc.e = 0 → i = q) ∧ i ≤ q ∧ q + rest.length = fin ∧ At s q (rest ++ post) ∧ RsOk M acc ∧ M + j * C * rest.length ≤ 15000000

theorem loop_err {F : List Int → Nat → Rs → Prop} {ops : Int → Prop} {j C : Nat} {s : ByteArray} {post : List Int} {r : Rs} {fin : Nat} {acc : Rs} {i : Nat} (h : LoopAt F ops j C s post r fin acc i) (he : acc.e ≠ 0) : r = acc ∧ i ≤ fin := by
  obtain ⟨k, q, rest, M, h1, h2, h3, h4, h5, h6, h7⟩ := h
  exact ⟨chT_err k acc q rest r he h1, by omega⟩
theorem loop_ok {F : List Int → Nat → Rs → Prop} {ops : Int → Prop} {j C : Nat} {s : ByteArray} {post : List Int} {r : Rs} {fin : Nat} {acc : Rs} {i : Nat} (h : LoopAt F ops j C s post r fin acc i) : RsOk 15000000 acc ∧ fin + post.length = s.size ∧ i ≤ s.size := by
  obtain ⟨k, q, rest, M, h1, h2, h3, h4, h5, h6, h7⟩ := h
  have := h5.size
  rw [List.length_append] at this
  exact ⟨h6.mono (by omega), by omega, by omega⟩

/-- At the loop's head, without an error: the end, or one more operation. -/
theorem loop_step {F : List Int → Nat → Rs → Prop} {ops Pc : Int → Prop} {j C : Nat} (hC : 20 ≤ C) (hj : 1 ≤ j) (hF : ∀ t p r, F t p r → RsOk (C * t.length) r)
    (hop : ∀ c a b m n, ops c → QF m a → QF n b → QD a → QD b → QF (m + j * n + 20) (comb c a b).1) (hcl : ∀ c, ops c → ¬ Pc c) (h0 : ¬ ops 0)
    {s : ByteArray} {post : List Int} {r : Rs} {fin : Nat} {acc : Rs} {i : Nat} (hpost : Hd (fun c => Pc c ∨ ops c) post) (h : LoopAt F ops j C s post r fin acc i) (he : acc.e = 0) :
    (r = acc ∧ i = fin ∧ ¬ ops (byteAt s i)) ∨ ∃ t rt post', ops (byteAt s i) ∧ i < s.size ∧ F t (i + 1) rt ∧ At s (i + 1) (t ++ post') ∧ Hd Pc post' ∧ RsOk 15000000 rt ∧
      ∀ i', (rt.e = 0 → i' = i + 1 + t.length) → i' ≤ i + 1 + t.length → LoopAt F ops j C s post r fin (opR (byteAt s i) i acc rt) i' := by
  obtain ⟨k, q, rest, M, h1, h2, h3, h4, h5, h6, h7⟩ := h
  have hiq := h2 he
  subst hiq
  cases k with
  | zero =>
    obtain ⟨rfl, rfl⟩ := h1
    refine Or.inl ⟨rfl, by simpa using h4, ?_⟩
    have hb := h5.byte 0
    rw [Nat.add_zero, List.nil_append] at hb
    rw [hb]
    cases post with
    | nil => rw [at0_nil]; exact h0
    | cons c l => rw [at0_cons_zero]; exact fun hc => hpost c l rfl (Or.inr hc)
  | succ k =>
    obtain ⟨c, t, s', rt, g1, rfl, g3, g4⟩ := h1
    have hb := h5.byte 0
    rw [Nat.add_zero, List.cons_append, at0_cons_zero] at hb
    have hsz := h5.size
    simp only [List.length_append, List.length_cons] at hsz h4 h7
    have ht := hF t _ rt g3
    have e1 : j * C * (t.length + s'.length + 1) = j * (C * t.length) + j * C * s'.length + j * C := by
      rw [Nat.mul_add, Nat.mul_add, Nat.mul_one, Nat.mul_assoc]
    have e2 : C ≤ j * C := Nat.le_mul_of_pos_left C hj
    have e3 : C * t.length ≤ j * (C * t.length) := Nat.le_mul_of_pos_left _ hj
    rw [hb]
    refine Or.inr ⟨t, rt, s' ++ post, g1, by omega, g3, ?_, ?_, ht.mono (by omega), ?_⟩
    · have := At.step (t := [c]) (l := t ++ (s' ++ post)) (by simpa using h5)
      exact this
    · intro c' l e
      cases s' with
      | nil => exact fun hc => hpost c' l e (Or.inl hc)
      | cons c'' s'' =>
        rw [List.cons_append] at e
        cases e
        cases k with
        | zero => cases g4.1
        | succ k =>
          obtain ⟨c3, _, _, _, g5, g6, _⟩ := g4
          cases g6
          exact hcl c' g5
    · intro i' h8 h9
      refine ⟨k, i + 1 + t.length, s', M + j * (C * t.length) + 20, g4, ?_, h9, by omega, ?_, ?_, by omega⟩
      · intro h10
        refine h8 ?_
        by_cases h11 : rt.e = 0
        · exact h11
        · exfalso
          unfold opR at h10
          rw [if_neg (by omega), if_pos h11] at h10
          exact h11 h10
      · have := At.step (t := c :: t) (l := s' ++ post) (by simpa using h5)
        rw [List.length_cons] at this
        rwa [show i + 1 + t.length = i + (t.length + 1) by omega]
      · exact opR_ok (k := j) (p := i) h6 ht (hop c _ _ _ _ g1 h6.f ht.f h6.d ht.d)

def isM (c : Int) : Prop := isD c ∨ mulOp c

set_option maxHeartbeats 3200000 in
set_option maxRecDepth 100000 in
theorem product_at (n m : Nat) (hn : n ≤ 8) (hF : Rds 91 (Fc n) isD) (s : ByteArray) (p : Nat) (f s' post : List Int) (rf r : Rs) (b : Nat) (w : World) (hs : s.size ≤ 100) (hat : At s p (f ++ (s' ++ post))) (hf : Fc n f p rf) (hc : ChT (Fc n) mulOp m rf (p + f.length) s' r) (hh : Hd (fun c => isD c ∨ mulOp c) post) (hB : Blk w b #[.string s, .int .i64 p, .int .i64 0, .int .i64 0] 84) :
    Calls Tryd.prog 65 #[.pointer (some ⟨b, 0, none⟩)] w (RetS b s (p + (f.length + s'.length)) r w) := by
  have hsz := hat.size
  rw [List.length_append, List.length_append] at hsz
  have hok : ∀ t p r, Fc n t p r → RsOk (20 * 2 ^ n * t.length) r := fc_ok n
  have hC8 : 20 * 2 ^ n ≤ 5120 := by
    have h1 : 2 ^ n ≤ 2 ^ 8 := Nat.pow_le_pow_right (by decide) hn
    omega
  have hC0 : 20 ≤ 20 * 2 ^ n := by
    have h1 : 0 < 2 ^ n := Nat.pow_pos (by decide)
    omega
  have hcl : ∀ c, mulOp c → ¬ isD c := by
    intro c h1 h2
    unfold mulOp at h1
    unfold isD at h2
    rcases h1 with rfl | rfl <;> revert h2 <;> decide
  have h00 : ¬ mulOp 0 := by unfold mulOp; decide
  have hh1 : Hd isD (s' ++ post) := by
    intro c' l e
    cases s' with
    | nil => exact fun hc => hh c' l e (Or.inl hc)
    | cons c'' s'' =>
      rw [List.cons_append] at e
      cases e
      cases m with
      | zero => cases hc.1
      | succ k =>
        obtain ⟨c3, _, _, _, g5, g6, _⟩ := hc
        cases g6
        exact hcl c' g5
  have HL : Hid (∀ i, (rf.e = 0 → i = p + f.length) → i ≤ p + f.length → LoopAt (Fc n) mulOp 2 (20 * 2 ^ n) s post r (p + (f.length + s'.length)) rf i) := by
    intro i h1 h2
    refine ⟨m, p + f.length, s', 20 * 2 ^ n * f.length, hc, h1, h2, by omega, At.step hat, hok f p rf hf, ?_⟩
    have h3 : 20 * 2 ^ n * f.length ≤ 10240 * 100 := Nat.mul_le_mul (by omega) (by omega)
    have h4 : 2 * (20 * 2 ^ n) * s'.length ≤ 20480 * 100 := Nat.mul_le_mul (by omega) (by omega)
    omega
  have HST := Hid.mk (fun (acc : Rs) (i : Nat) h he => loop_step (F := Fc n) (ops := mulOp) (Pc := isD) (j := 2) (C := 20 * 2 ^ n) hC0 (by decide) hok mul_cost hcl h00 (s := s) (post := post) (r := r) (fin := p + (f.length + s'.length)) (acc := acc) (i := i) hh h he)
  have HAT := Hid.mk hat
  have HF := Hid.mk hf
  clear hat hf hc hh hcl h00 hok hC8 hC0
  have hbl := hB.lt
  have hB1 : Blk (w.alloc (.cells #[.bool false, .slice none 0 0, .bool false, .slice none 0 0, .bool false, .slice none 0 0, .int .i64 0] 58)) b #[.string s, .int .i64 p, .int .i64 0, .int .i64 0] 84 := Blk.alloc hB (.cells #[.bool false, .slice none 0 0, .bool false, .slice none 0 0, .bool false, .slice none 0 0, .int .i64 0] 58)
  have hR1 : Blk (w.alloc (.cells #[.bool false, .slice none 0 0, .bool false, .slice none 0 0, .bool false, .slice none 0 0, .int .i64 0] 58)) w.heap.size #[.bool false, .slice none 0 0, .bool false, .slice none 0 0, .bool false, .slice none 0 0, .int .i64 0] 58 := Blk.new w _ _
  go_enter Tryd.func65, Tryd.ntmps65
  go_wp2_with fail
  refine (hF s p f (s' ++ post) rf b _ hs HAT.out HF.out hh1 hB1).mono ?_
  rintro e wA ⟨vA, iA, rfl, hvA, hBA, hi1, hi2, hkA⟩
  have hRA := hR1.but hkA (by omega)
  have hkwA : KeepsBut b w wA := (KeepsBut.alloc (KeepsBut.refl b w) (.cells #[.bool false, .slice none 0 0, .bool false, .slice none 0 0, .bool false, .slice none 0 0, .int .i64 0] 58)).trans hkA
  have hszA := hkA.size
  have hLA : Hid (LoopAt (Fc n) mulOp 2 (20 * 2 ^ n) s post r (p + (f.length + s'.length)) rf iA) := HL.out iA hi1 hi2
  obtain ⟨b1, ao1, n1, c1, b2, ao2, n2, c2, b3, ao3, n3, c3, rfl, g1, g2, g3⟩ := id hvA
  clear g1 g2 g3 HL HAT HF hi1 hi2
  have hRl := hRA.lt
  have hBl := hBA.lt
  go_wp2_with fail
  go_loopw [4, 5, 6] (fun _ _ _ wr => ∃ (acc : Rs) (i : Nat) (b1 : Bool) (ao1 : Option Addr) (n1 c1 : Nat) (b2 : Bool) (ao2 : Option Addr) (n2 c2 : Nat) (b3 : Bool) (ao3 : Option Addr) (n3 c3 : Nat),
      XN wr (.agg #[.bool b1, .slice ao1 n1 c1, .bool b2, .slice ao2 n2 c2, .bool b3, .slice ao3 n3 c3, .int .i64 acc.v.d]) acc.v ∧ Blk wr wA.heap.size #[.bool b1, .slice ao1 n1 c1, .bool b2, .slice ao2 n2 c2, .bool b3, .slice ao3 n3 c3, .int .i64 acc.v.d] 58 ∧ Blk wr b #[.string s, .int .i64 i, .int .i64 acc.e, .int .i64 acc.k] 84 ∧ Blk wr w.heap.size #[.bool false, .slice none 0 0, .bool false, .slice none 0 0, .bool false, .slice none 0 0, .int .i64 0] 58 ∧ KeepsBut b w wr ∧ Hid (LoopAt (Fc n) mulOp 2 (20 * 2 ^ n) s post r (p + (f.length + s'.length)) acc i))
    (fun _ _ _ wr => farOf s b wr)
  case atStart => exact ⟨rf, iA, b1, ao1, n1, c1, b2, ao2, n2, c2, b3, ao3, n3, c3, hvA.soft (Sf.alloc (Sf.refl _ _) _), Blk.new wA _ _, Blk.alloc hBA _, Blk.alloc hRA _, KeepsBut.alloc hkwA _, hLA⟩
  case round =>
    clear hvA hBA hRA hLA hkwA
    obtain ⟨acc, i, b1, ao1, n1, c1, b2, ao2, n2, c2, b3, ao3, n3, c3, hvr, hVr, hBr, hRr, hkr, hLr⟩ := hrel
    have HM : Hid (farOf s b wr = if acc.e = 0 then s.size + 1 - i else 0) := by unfold Hid farOf; rw [errOf_blk hBr, atOf_blk hBr]
    obtain ⟨hra, hrb, hrc⟩ := loop_ok hLr.out
    have HRA := Hid.mk hra
    clear hra
    have bc := hBr.cell
    have bl := hBr.lt
    have vc := hVr.cell
    have vl := hVr.lt
    have rc := hRr.cell
    have rf' := hRr.frozen
    have rl := hRr.lt
    have hneV : w.heap.size ≠ wA.heap.size := by omega
    by_cases he : acc.e = 0
    · rcases HST.out acc i hLr.out he with ⟨hra, hrf, hno⟩ | ⟨t, rt, post', hop, hlt, hft, hatt, hht, hrt, hnext⟩
      · -- the end
        have x1 : (byteAt s i != 42) = true := by
          have : byteAt s i ≠ 42 := fun h => hno (Or.inl h)
          simp [this]
        have x2 : (byteAt s i != 47) = true := by
          have : byteAt s i ≠ 47 := fun h => hno (Or.inr h)
          simp [this]
        have hB0 : Blk wr b #[.string s, .int .i64 i, .int .i64 0, .int .i64 0] 84 := by have h9 := hBr; rw [he, (HRA.out).k he] at h9; exact h9
        have HE : Hid (r = acc ∧ i = p + (f.length + s'.length)) := ⟨hra, hrf⟩
        clear hno HST hLr hra hrf
        rw [he] at bc
        go_wp2_with fail
        refine (peek_any s i 0 0 b _ hB0 (by omega) (by omega)).mono ?_
        rintro e w1 ⟨rfl, hk1⟩
        have hB1 := hBr.keep hk1
        have hR1 := hRr.keep hk1
        have hV1 := hVr.keep hk1
        replace hvr := hvr.keep hk1
        generalize byteAt s i = cc at *
        clear bc bl vc vl rc rf' rl hBr hRr hVr hB0
        have vc := hV1.cell
        have vl := hV1.lt
        have rc := hR1.cell
        have rf' := hR1.frozen
        have rl := hR1.lt
        have bl := hB1.lt
        go_wp2_with fail
        refine bodyPost_ret (v := .agg #[.bool b1, .slice ao1 n1 c1, .bool b2, .slice ao2 n2 c2, .bool b3, .slice ao3 n3 c3, .int .i64 acc.v.d]) (by simp [results, Tryd.results65, go_sem, rc]) rfl ?_
        obtain ⟨e1, e2⟩ := HE.out
        rw [e1]
        exact ⟨_, i, rfl, hvr.soft (Sf.set (t := 58) (c := w.heap.size) (o := 6) (y := .int .i64 acc.v.d) (Sf.set (t := 58) (c := w.heap.size) (o := 5) (y := .slice ao3 n3 c3) (Sf.set (t := 58) (c := w.heap.size) (o := 4) (y := .bool b3) (Sf.set (t := 58) (c := w.heap.size) (o := 3) (y := .slice ao2 n2 c2) (Sf.set (t := 58) (c := w.heap.size) (o := 2) (y := .bool b2) (Sf.set (t := 58) (c := w.heap.size) (o := 1) (y := .slice ao1 n1 c1) (Sf.set (t := 58) (c := w.heap.size) (o := 0) (y := .bool b1) (Sf.refl 2 w1) (by first | (simp only [elemOf_setCell]; exact hR1.elem) | exact hR1.elem) (by decide)) (by first | (simp only [elemOf_setCell]; exact hR1.elem) | exact hR1.elem) (by decide)) (by first | (simp only [elemOf_setCell]; exact hR1.elem) | exact hR1.elem) (by decide)) (by first | (simp only [elemOf_setCell]; exact hR1.elem) | exact hR1.elem) (by decide)) (by first | (simp only [elemOf_setCell]; exact hR1.elem) | exact hR1.elem) (by decide)) (by first | (simp only [elemOf_setCell]; exact hR1.elem) | exact hR1.elem) (by decide)) (by first | (simp only [elemOf_setCell]; exact hR1.elem) | exact hR1.elem) (by decide)), (Blk.other (c := w.heap.size) (o := 6) (y := .int .i64 acc.v.d) (Blk.other (c := w.heap.size) (o := 5) (y := .slice ao3 n3 c3) (Blk.other (c := w.heap.size) (o := 4) (y := .bool b3) (Blk.other (c := w.heap.size) (o := 3) (y := .slice ao2 n2 c2) (Blk.other (c := w.heap.size) (o := 2) (y := .bool b2) (Blk.other (c := w.heap.size) (o := 1) (y := .slice ao1 n1 c1) (Blk.other (c := w.heap.size) (o := 0) (y := .bool b1) hB1 (by omega)) (by omega)) (by omega)) (by omega)) (by omega)) (by omega)) (by omega)), fun _ => e2, by omega, (KeepsBut.setNew (d := w.heap.size) (o := 6) (y := .int .i64 acc.v.d) (KeepsBut.setNew (d := w.heap.size) (o := 5) (y := .slice ao3 n3 c3) (KeepsBut.setNew (d := w.heap.size) (o := 4) (y := .bool b3) (KeepsBut.setNew (d := w.heap.size) (o := 3) (y := .slice ao2 n2 c2) (KeepsBut.setNew (d := w.heap.size) (o := 2) (y := .bool b2) (KeepsBut.setNew (d := w.heap.size) (o := 1) (y := .slice ao1 n1 c1) (KeepsBut.setNew (d := w.heap.size) (o := 0) (y := .bool b1) (hkr.trans (KeepsBut.of_kp hk1)) (Nat.le_refl _)) (Nat.le_refl _)) (Nat.le_refl _)) (Nat.le_refl _)) (Nat.le_refl _)) (Nat.le_refl _)) (Nat.le_refl _))⟩
      · -- one more
        have hBq : Blk wr b #[.string s, .int .i64 i, .int .i64 0, .int .i64 0] 84 := by have h9 := hBr; rw [he, (HRA.out).k he] at h9; exact h9
        have HN := Hid.mk hnext
        have HFT := Hid.mk hft
        have HAT := Hid.mk hatt
        have HRT := Hid.mk hrt
        have HHT := Hid.mk hht
        clear hnext hft hatt hrt hht HST hLr bc rc rf'
        have bc := hBq.cell
        have bf := hBq.frozen
        have step : ∀ cc : Int, byteAt s i = cc → ((cc != 42) = false ∨ ((cc != 42) = true ∧ (cc != 47) = false)) → True := fun _ _ _ => trivial
        clear step
        go_wp2_with fail
        refine (peek_any s i 0 0 b _ hBq (by omega) (by omega)).mono ?_
        rintro e w1 ⟨rfl, hk1⟩
        replace hBq := hBq.keep hk1
        replace hRr := hRr.keep hk1
        replace hVr := hVr.keep hk1
        replace hvr := hvr.keep hk1
        clear bc bf bl vc vl rl hBr
        have bc := hBq.cell
        have bf := hBq.frozen
        have bl := hBq.lt
        have vc := hVr.cell
        have vl := hVr.lt
        have rl := hRr.lt
        have hk2a := hkr.trans (KeepsBut.of_kp hk1)
        have hB2 : Blk (w1.setCell ⟨b, 1, none⟩ (.int .i64 ((i : Int) + 1))) b #[.string s, .int .i64 ((i + 1 : Nat) : Int), .int .i64 0, .int .i64 0] 84 := by
          rw [show ((i + 1 : Nat) : Int) = (i : Int) + 1 by omega]
          exact Blk.set (o := 1) (y := .int .i64 ((i : Int) + 1)) hBq
        have hT := Hid.mk (fun w' hB' => hF s (i + 1) t post' rt b w' hs HAT.out HFT.out HHT.out hB')
        have HM2 : Hid (farOf s b wr = s.size + 1 - i) := by unfold Hid; rw [HM.out, if_pos he]
        clear HAT HFT HHT HM
        have hcc := hop
        generalize byteAt s i = cc at *
        rcases hcc with rfl | rfl
        · have x1 : ((42 : Int) == 42) = true := by decide
          go_wp2_with fail
          refine (hT.out _ hB2).mono ?_
          rintro e w3 ⟨v3, i3, rfl, hv3, hB3, hi1, hi2, hk3⟩
          have hk3' : KeepsBut b w1 w3 := (KeepsBut.setCell (KeepsBut.refl b w1) 1 (.int .i64 ((i : Int) + 1))).trans hk3
          have hR3 := hRr.but hk3' (by omega)
          have hV3 := hVr.but hk3' (by omega)
          have hvr3 := hvr.soft (Sf.butB hBq hk3')
          have HI3 := Hid.mk hi1
          clear hi1 hk3 bc bf bl vc vl rl
          obtain ⟨b4, ao4, n4, c4, b5, ao5, n5, c5, b6, ao6, n6, c6, rfl, g1, g2, g3⟩ := id hv3
          clear g1 g2 g3
          have vc := hV3.cell
          have vl := hV3.lt
          go_wp2_with fail
          refine (operate_any s i3 (42) i acc rt 15000000 b _ _ _ (Blk.alloc hB3 (.cells #[.bool b4, .slice ao4 n4 c4, .bool b5, .slice ao5 n5 c5, .bool b6, .slice ao6 n6 c6, .int .i64 rt.v.d] 58)) (hvr3.soft (Sf.alloc (Sf.refl _ _) (.cells #[.bool b4, .slice ao4 n4 c4, .bool b5, .slice ao5 n5 c5, .bool b6, .slice ao6 n6 c6, .int .i64 rt.v.d] 58))) (hv3.soft (Sf.alloc (Sf.refl _ _) (.cells #[.bool b4, .slice ao4 n4 c4, .bool b5, .slice ao5 n5 c5, .bool b6, .slice ao6 n6 c6, .int .i64 rt.v.d] 58))) he (by omega) HRA.out HRT.out).mono ?_
          rintro e w4 ⟨v4, rfl, hv4, hB4, hk4⟩
          have hk4' : KeepsBut b w3 w4 := (KeepsBut.alloc (KeepsBut.refl b w3) (.cells #[.bool b4, .slice ao4 n4 c4, .bool b5, .slice ao5 n5 c5, .bool b6, .slice ao6 n6 c6, .int .i64 rt.v.d] 58)).trans hk4
          have hR4 := hR3.but hk4' (by omega)
          have hV4 := hV3.but hk4' (by omega)
          have HLN : Hid (LoopAt (Fc n) mulOp 2 (20 * 2 ^ n) s post r (p + (f.length + s'.length)) (opR (42) i acc rt) i3) := HN.out i3 HI3.out hi2
          have HE3 : Hid ((opR (42) i acc rt).e = 0 → i3 = i + 1 + t.length) := by
            intro h10
            refine HI3.out ?_
            by_cases h11 : rt.e = 0
            · exact h11
            · exfalso
              unfold opR at h10
              rw [if_neg (by omega), if_pos h11] at h10
              exact h11 h10
          obtain ⟨b17, ao17, n17, c17, b18, ao18, n18, c18, b19, ao19, n19, c19, rfl, g1, g2, g3⟩ := id hv4
          clear g1 g2 g3 vc vl HN hT HI3
          generalize opR (42) i acc rt = A at *
          have vc := hV4.cell
          have vf := hV4.frozen
          have vl := hV4.lt
          go_wp2_with fail
          go_roundw
          case rel =>
            refine ⟨A, i3, b17, ao17, n17, c17, b18, ao18, n18, c18, b19, ao19, n19, c19, hv4.soft (Sf.set (t := 58) (c := wA.heap.size) (o := 6) (y := .int .i64 A.v.d) (Sf.set (t := 58) (c := wA.heap.size) (o := 5) (y := .slice ao19 n19 c19) (Sf.set (t := 58) (c := wA.heap.size) (o := 4) (y := .bool b19) (Sf.set (t := 58) (c := wA.heap.size) (o := 3) (y := .slice ao18 n18 c18) (Sf.set (t := 58) (c := wA.heap.size) (o := 2) (y := .bool b18) (Sf.set (t := 58) (c := wA.heap.size) (o := 1) (y := .slice ao17 n17 c17) (Sf.set (t := 58) (c := wA.heap.size) (o := 0) (y := .bool b17) (Sf.refl 2 w4) (by first | (simp only [elemOf_setCell]; exact hV4.elem) | exact hV4.elem) (by decide)) (by first | (simp only [elemOf_setCell]; exact hV4.elem) | exact hV4.elem) (by decide)) (by first | (simp only [elemOf_setCell]; exact hV4.elem) | exact hV4.elem) (by decide)) (by first | (simp only [elemOf_setCell]; exact hV4.elem) | exact hV4.elem) (by decide)) (by first | (simp only [elemOf_setCell]; exact hV4.elem) | exact hV4.elem) (by decide)) (by first | (simp only [elemOf_setCell]; exact hV4.elem) | exact hV4.elem) (by decide)) (by first | (simp only [elemOf_setCell]; exact hV4.elem) | exact hV4.elem) (by decide)), (Blk.set (o := 6) (y := .int .i64 A.v.d) (Blk.set (o := 5) (y := .slice ao19 n19 c19) (Blk.set (o := 4) (y := .bool b19) (Blk.set (o := 3) (y := .slice ao18 n18 c18) (Blk.set (o := 2) (y := .bool b18) (Blk.set (o := 1) (y := .slice ao17 n17 c17) (Blk.set (o := 0) (y := .bool b17) hV4))))))), (Blk.other (c := wA.heap.size) (o := 6) (y := .int .i64 A.v.d) (Blk.other (c := wA.heap.size) (o := 5) (y := .slice ao19 n19 c19) (Blk.other (c := wA.heap.size) (o := 4) (y := .bool b19) (Blk.other (c := wA.heap.size) (o := 3) (y := .slice ao18 n18 c18) (Blk.other (c := wA.heap.size) (o := 2) (y := .bool b18) (Blk.other (c := wA.heap.size) (o := 1) (y := .slice ao17 n17 c17) (Blk.other (c := wA.heap.size) (o := 0) (y := .bool b17) hB4 (by omega)) (by omega)) (by omega)) (by omega)) (by omega)) (by omega)) (by omega)), (Blk.other (c := wA.heap.size) (o := 6) (y := .int .i64 A.v.d) (Blk.other (c := wA.heap.size) (o := 5) (y := .slice ao19 n19 c19) (Blk.other (c := wA.heap.size) (o := 4) (y := .bool b19) (Blk.other (c := wA.heap.size) (o := 3) (y := .slice ao18 n18 c18) (Blk.other (c := wA.heap.size) (o := 2) (y := .bool b18) (Blk.other (c := wA.heap.size) (o := 1) (y := .slice ao17 n17 c17) (Blk.other (c := wA.heap.size) (o := 0) (y := .bool b17) hR4 (by omega)) (by omega)) (by omega)) (by omega)) (by omega)) (by omega)) (by omega)), (KeepsBut.setNew (d := wA.heap.size) (o := 6) (y := .int .i64 A.v.d) (KeepsBut.setNew (d := wA.heap.size) (o := 5) (y := .slice ao19 n19 c19) (KeepsBut.setNew (d := wA.heap.size) (o := 4) (y := .bool b19) (KeepsBut.setNew (d := wA.heap.size) (o := 3) (y := .slice ao18 n18 c18) (KeepsBut.setNew (d := wA.heap.size) (o := 2) (y := .bool b18) (KeepsBut.setNew (d := wA.heap.size) (o := 1) (y := .slice ao17 n17 c17) (KeepsBut.setNew (d := wA.heap.size) (o := 0) (y := .bool b17) ((hk2a.trans hk3').trans hk4') (by omega)) (by omega)) (by omega)) (by omega)) (by omega)) (by omega)) (by omega)), HLN⟩
          case measure =>
            rw [HM2.out]
            unfold farOf
            rw [errOf_blk (Blk.other (c := wA.heap.size) (o := 6) (y := .int .i64 A.v.d) (Blk.other (c := wA.heap.size) (o := 5) (y := .slice ao19 n19 c19) (Blk.other (c := wA.heap.size) (o := 4) (y := .bool b19) (Blk.other (c := wA.heap.size) (o := 3) (y := .slice ao18 n18 c18) (Blk.other (c := wA.heap.size) (o := 2) (y := .bool b18) (Blk.other (c := wA.heap.size) (o := 1) (y := .slice ao17 n17 c17) (Blk.other (c := wA.heap.size) (o := 0) (y := .bool b17) hB4 (by omega)) (by omega)) (by omega)) (by omega)) (by omega)) (by omega)) (by omega)), atOf_blk (Blk.other (c := wA.heap.size) (o := 6) (y := .int .i64 A.v.d) (Blk.other (c := wA.heap.size) (o := 5) (y := .slice ao19 n19 c19) (Blk.other (c := wA.heap.size) (o := 4) (y := .bool b19) (Blk.other (c := wA.heap.size) (o := 3) (y := .slice ao18 n18 c18) (Blk.other (c := wA.heap.size) (o := 2) (y := .bool b18) (Blk.other (c := wA.heap.size) (o := 1) (y := .slice ao17 n17 c17) (Blk.other (c := wA.heap.size) (o := 0) (y := .bool b17) hB4 (by omega)) (by omega)) (by omega)) (by omega)) (by omega)) (by omega)) (by omega))]
            split
            · rename_i h12
              have := HE3.out h12
              omega
            · omega
        · have x1 : ((47 : Int) == 42) = false := by decide
          go_wp2_with fail
          refine (hT.out _ hB2).mono ?_
          rintro e w3 ⟨v3, i3, rfl, hv3, hB3, hi1, hi2, hk3⟩
          have hk3' : KeepsBut b w1 w3 := (KeepsBut.setCell (KeepsBut.refl b w1) 1 (.int .i64 ((i : Int) + 1))).trans hk3
          have hR3 := hRr.but hk3' (by omega)
          have hV3 := hVr.but hk3' (by omega)
          have hvr3 := hvr.soft (Sf.butB hBq hk3')
          have HI3 := Hid.mk hi1
          clear hi1 hk3 bc bf bl vc vl rl
          obtain ⟨b4, ao4, n4, c4, b5, ao5, n5, c5, b6, ao6, n6, c6, rfl, g1, g2, g3⟩ := id hv3
          clear g1 g2 g3
          have vc := hV3.cell
          have vl := hV3.lt
          go_wp2_with fail
          refine (operate_any s i3 (47) i acc rt 15000000 b _ _ _ (Blk.alloc hB3 (.cells #[.bool b4, .slice ao4 n4 c4, .bool b5, .slice ao5 n5 c5, .bool b6, .slice ao6 n6 c6, .int .i64 rt.v.d] 58)) (hvr3.soft (Sf.alloc (Sf.refl _ _) (.cells #[.bool b4, .slice ao4 n4 c4, .bool b5, .slice ao5 n5 c5, .bool b6, .slice ao6 n6 c6, .int .i64 rt.v.d] 58))) (hv3.soft (Sf.alloc (Sf.refl _ _) (.cells #[.bool b4, .slice ao4 n4 c4, .bool b5, .slice ao5 n5 c5, .bool b6, .slice ao6 n6 c6, .int .i64 rt.v.d] 58))) he (by omega) HRA.out HRT.out).mono ?_
          rintro e w4 ⟨v4, rfl, hv4, hB4, hk4⟩
          have hk4' : KeepsBut b w3 w4 := (KeepsBut.alloc (KeepsBut.refl b w3) (.cells #[.bool b4, .slice ao4 n4 c4, .bool b5, .slice ao5 n5 c5, .bool b6, .slice ao6 n6 c6, .int .i64 rt.v.d] 58)).trans hk4
          have hR4 := hR3.but hk4' (by omega)
          have hV4 := hV3.but hk4' (by omega)
          have HLN : Hid (LoopAt (Fc n) mulOp 2 (20 * 2 ^ n) s post r (p + (f.length + s'.length)) (opR (47) i acc rt) i3) := HN.out i3 HI3.out hi2
          have HE3 : Hid ((opR (47) i acc rt).e = 0 → i3 = i + 1 + t.length) := by
            intro h10
            refine HI3.out ?_
            by_cases h11 : rt.e = 0
            · exact h11
            · exfalso
              unfold opR at h10
              rw [if_neg (by omega), if_pos h11] at h10
              exact h11 h10
          obtain ⟨b17, ao17, n17, c17, b18, ao18, n18, c18, b19, ao19, n19, c19, rfl, g1, g2, g3⟩ := id hv4
          clear g1 g2 g3 vc vl HN hT HI3
          generalize opR (47) i acc rt = A at *
          have vc := hV4.cell
          have vf := hV4.frozen
          have vl := hV4.lt
          go_wp2_with fail
          go_roundw
          case rel =>
            refine ⟨A, i3, b17, ao17, n17, c17, b18, ao18, n18, c18, b19, ao19, n19, c19, hv4.soft (Sf.set (t := 58) (c := wA.heap.size) (o := 6) (y := .int .i64 A.v.d) (Sf.set (t := 58) (c := wA.heap.size) (o := 5) (y := .slice ao19 n19 c19) (Sf.set (t := 58) (c := wA.heap.size) (o := 4) (y := .bool b19) (Sf.set (t := 58) (c := wA.heap.size) (o := 3) (y := .slice ao18 n18 c18) (Sf.set (t := 58) (c := wA.heap.size) (o := 2) (y := .bool b18) (Sf.set (t := 58) (c := wA.heap.size) (o := 1) (y := .slice ao17 n17 c17) (Sf.set (t := 58) (c := wA.heap.size) (o := 0) (y := .bool b17) (Sf.refl 2 w4) (by first | (simp only [elemOf_setCell]; exact hV4.elem) | exact hV4.elem) (by decide)) (by first | (simp only [elemOf_setCell]; exact hV4.elem) | exact hV4.elem) (by decide)) (by first | (simp only [elemOf_setCell]; exact hV4.elem) | exact hV4.elem) (by decide)) (by first | (simp only [elemOf_setCell]; exact hV4.elem) | exact hV4.elem) (by decide)) (by first | (simp only [elemOf_setCell]; exact hV4.elem) | exact hV4.elem) (by decide)) (by first | (simp only [elemOf_setCell]; exact hV4.elem) | exact hV4.elem) (by decide)) (by first | (simp only [elemOf_setCell]; exact hV4.elem) | exact hV4.elem) (by decide)), (Blk.set (o := 6) (y := .int .i64 A.v.d) (Blk.set (o := 5) (y := .slice ao19 n19 c19) (Blk.set (o := 4) (y := .bool b19) (Blk.set (o := 3) (y := .slice ao18 n18 c18) (Blk.set (o := 2) (y := .bool b18) (Blk.set (o := 1) (y := .slice ao17 n17 c17) (Blk.set (o := 0) (y := .bool b17) hV4))))))), (Blk.other (c := wA.heap.size) (o := 6) (y := .int .i64 A.v.d) (Blk.other (c := wA.heap.size) (o := 5) (y := .slice ao19 n19 c19) (Blk.other (c := wA.heap.size) (o := 4) (y := .bool b19) (Blk.other (c := wA.heap.size) (o := 3) (y := .slice ao18 n18 c18) (Blk.other (c := wA.heap.size) (o := 2) (y := .bool b18) (Blk.other (c := wA.heap.size) (o := 1) (y := .slice ao17 n17 c17) (Blk.other (c := wA.heap.size) (o := 0) (y := .bool b17) hB4 (by omega)) (by omega)) (by omega)) (by omega)) (by omega)) (by omega)) (by omega)), (Blk.other (c := wA.heap.size) (o := 6) (y := .int .i64 A.v.d) (Blk.other (c := wA.heap.size) (o := 5) (y := .slice ao19 n19 c19) (Blk.other (c := wA.heap.size) (o := 4) (y := .bool b19) (Blk.other (c := wA.heap.size) (o := 3) (y := .slice ao18 n18 c18) (Blk.other (c := wA.heap.size) (o := 2) (y := .bool b18) (Blk.other (c := wA.heap.size) (o := 1) (y := .slice ao17 n17 c17) (Blk.other (c := wA.heap.size) (o := 0) (y := .bool b17) hR4 (by omega)) (by omega)) (by omega)) (by omega)) (by omega)) (by omega)) (by omega)), (KeepsBut.setNew (d := wA.heap.size) (o := 6) (y := .int .i64 A.v.d) (KeepsBut.setNew (d := wA.heap.size) (o := 5) (y := .slice ao19 n19 c19) (KeepsBut.setNew (d := wA.heap.size) (o := 4) (y := .bool b19) (KeepsBut.setNew (d := wA.heap.size) (o := 3) (y := .slice ao18 n18 c18) (KeepsBut.setNew (d := wA.heap.size) (o := 2) (y := .bool b18) (KeepsBut.setNew (d := wA.heap.size) (o := 1) (y := .slice ao17 n17 c17) (KeepsBut.setNew (d := wA.heap.size) (o := 0) (y := .bool b17) ((hk2a.trans hk3').trans hk4') (by omega)) (by omega)) (by omega)) (by omega)) (by omega)) (by omega)) (by omega)), HLN⟩
          case measure =>
            rw [HM2.out]
            unfold farOf
            rw [errOf_blk (Blk.other (c := wA.heap.size) (o := 6) (y := .int .i64 A.v.d) (Blk.other (c := wA.heap.size) (o := 5) (y := .slice ao19 n19 c19) (Blk.other (c := wA.heap.size) (o := 4) (y := .bool b19) (Blk.other (c := wA.heap.size) (o := 3) (y := .slice ao18 n18 c18) (Blk.other (c := wA.heap.size) (o := 2) (y := .bool b18) (Blk.other (c := wA.heap.size) (o := 1) (y := .slice ao17 n17 c17) (Blk.other (c := wA.heap.size) (o := 0) (y := .bool b17) hB4 (by omega)) (by omega)) (by omega)) (by omega)) (by omega)) (by omega)) (by omega)), atOf_blk (Blk.other (c := wA.heap.size) (o := 6) (y := .int .i64 A.v.d) (Blk.other (c := wA.heap.size) (o := 5) (y := .slice ao19 n19 c19) (Blk.other (c := wA.heap.size) (o := 4) (y := .bool b19) (Blk.other (c := wA.heap.size) (o := 3) (y := .slice ao18 n18 c18) (Blk.other (c := wA.heap.size) (o := 2) (y := .bool b18) (Blk.other (c := wA.heap.size) (o := 1) (y := .slice ao17 n17 c17) (Blk.other (c := wA.heap.size) (o := 0) (y := .bool b17) hB4 (by omega)) (by omega)) (by omega)) (by omega)) (by omega)) (by omega)) (by omega))]
            split
            · rename_i h12
              have := HE3.out h12
              omega
            · omega
    · have x1 : (acc.e == 0) = false := by simp [he]
      obtain ⟨e1, e2⟩ := loop_err hLr.out he
      have HE : Hid (r = acc ∧ i ≤ p + (f.length + s'.length)) := ⟨e1, e2⟩
      clear HST hLr e1 e2
      go_wp2_with fail
      refine bodyPost_ret (v := .agg #[.bool b1, .slice ao1 n1 c1, .bool b2, .slice ao2 n2 c2, .bool b3, .slice ao3 n3 c3, .int .i64 acc.v.d]) (by simp [results, Tryd.results65, go_sem, rc]) rfl ?_
      obtain ⟨e1, e2⟩ := HE.out
      rw [e1]
      exact ⟨_, i, rfl, hvr.soft (Sf.set (t := 58) (c := w.heap.size) (o := 6) (y := .int .i64 acc.v.d) (Sf.set (t := 58) (c := w.heap.size) (o := 5) (y := .slice ao3 n3 c3) (Sf.set (t := 58) (c := w.heap.size) (o := 4) (y := .bool b3) (Sf.set (t := 58) (c := w.heap.size) (o := 3) (y := .slice ao2 n2 c2) (Sf.set (t := 58) (c := w.heap.size) (o := 2) (y := .bool b2) (Sf.set (t := 58) (c := w.heap.size) (o := 1) (y := .slice ao1 n1 c1) (Sf.set (t := 58) (c := w.heap.size) (o := 0) (y := .bool b1) (Sf.refl 2 wr) (by first | (simp only [elemOf_setCell]; exact hRr.elem) | exact hRr.elem) (by decide)) (by first | (simp only [elemOf_setCell]; exact hRr.elem) | exact hRr.elem) (by decide)) (by first | (simp only [elemOf_setCell]; exact hRr.elem) | exact hRr.elem) (by decide)) (by first | (simp only [elemOf_setCell]; exact hRr.elem) | exact hRr.elem) (by decide)) (by first | (simp only [elemOf_setCell]; exact hRr.elem) | exact hRr.elem) (by decide)) (by first | (simp only [elemOf_setCell]; exact hRr.elem) | exact hRr.elem) (by decide)) (by first | (simp only [elemOf_setCell]; exact hRr.elem) | exact hRr.elem) (by decide)), (Blk.other (c := w.heap.size) (o := 6) (y := .int .i64 acc.v.d) (Blk.other (c := w.heap.size) (o := 5) (y := .slice ao3 n3 c3) (Blk.other (c := w.heap.size) (o := 4) (y := .bool b3) (Blk.other (c := w.heap.size) (o := 3) (y := .slice ao2 n2 c2) (Blk.other (c := w.heap.size) (o := 2) (y := .bool b2) (Blk.other (c := w.heap.size) (o := 1) (y := .slice ao1 n1 c1) (Blk.other (c := w.heap.size) (o := 0) (y := .bool b1) hBr (by omega)) (by omega)) (by omega)) (by omega)) (by omega)) (by omega)) (by omega)), fun h => absurd h he, e2, (KeepsBut.setNew (d := w.heap.size) (o := 6) (y := .int .i64 acc.v.d) (KeepsBut.setNew (d := w.heap.size) (o := 5) (y := .slice ao3 n3 c3) (KeepsBut.setNew (d := w.heap.size) (o := 4) (y := .bool b3) (KeepsBut.setNew (d := w.heap.size) (o := 3) (y := .slice ao2 n2 c2) (KeepsBut.setNew (d := w.heap.size) (o := 2) (y := .bool b2) (KeepsBut.setNew (d := w.heap.size) (o := 1) (y := .slice ao1 n1 c1) (KeepsBut.setNew (d := w.heap.size) (o := 0) (y := .bool b1) hkr (Nat.le_refl _)) (Nat.le_refl _)) (Nat.le_refl _)) (Nat.le_refl _)) (Nat.le_refl _)) (Nat.le_refl _)) (Nat.le_refl _))⟩

theorem product_any (n : Nat) (hn : n ≤ 8) (hF : Rds 91 (Fc n) isD) : Rds 65 (Pd n) isM := by
  intro s p t post r b w hs hat ht hh hB
  obtain ⟨m, f, s', rf, rfl, h2, h3⟩ := ht
  rw [List.append_assoc] at hat
  rw [List.length_append]
  exact product_at n m hn hF s p f s' post rf r b w hs hat h2 h3 hh hB


end Go.Proofs.YtjahbjjekednfaaDoor
