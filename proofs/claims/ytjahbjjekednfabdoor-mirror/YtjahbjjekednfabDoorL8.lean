import Derived.Test.YtjahbjjekednfabDoorL7
namespace Go.Proofs.YtjahbjjekednfabDoor
open Go.RowKit Go.Lib

/-- A call that returns a number, and whether the text told one. -/
def RetTx (w : World) (s : ByteArray) (e : Ending) (w' : World) : Prop := ∃ (z : Int) (ok : Bool) (b : Bool) (ao : Option Addr) (n c : Nat), e = .returned (.tuple #[.agg #[.bool b, .slice ao n c], .bool ok]) ∧ WN w' (.agg #[.bool b, .slice ao n c]) z ∧ Hid ((ok = true → NumT s z) ∧ (ok = false → ∀ z, ¬ NumT s z)) ∧ Kp w w'
theorem fromText_any (s : ByteArray) (w : World) (hs : s.size ≤ 900) : Calls Tryd.prog 47 #[.string s] w (RetTx w s) := by
 have e : s = strOf s.data.toList := by apply ByteArray.ext; simp [strOf]
 have hl : s.data.toList.length ≤ 900 := by
  rw [Array.length_toList]
  exact hs
 generalize s.data.toList = t at e hl
 subst e
 by_cases h : ∃ z, NumT (strOf t) z
 ·obtain ⟨z, hz⟩ := h
  refine (fromText_ok t z w hl hz).mono ?_
  rintro e w1 ⟨v, rfl, hv, hk⟩
  obtain ⟨b, ao, n, c, rfl⟩ := hv.shape'
  exact ⟨z, true, b, ao, n, c, rfl, hv, ⟨fun _ => hz, fun h => by cases h⟩, hk⟩
 ·refine (fromText_no t w hl (fun z hz => h ⟨z, hz⟩)).mono ?_
  rintro e w1 ⟨rfl, hk⟩
  exact ⟨0, false, _, _, _, _, rfl, wn_zero w1, ⟨fun h => (by cases h), fun _ z hz => h ⟨z, hz⟩⟩, hk⟩
/-- What Line tells. -/
def OutL (sa sb sc s1 s2 : ByteArray) (er : Int) : Prop :=
 ((40 < sa.size ∨ 40 < sb.size ∨ 40 < sc.size ∨ (∀ z, ¬ NumT sa z) ∨ (∀ z, ¬ NumT sb z) ∨ (∀ z, ¬ NumT sc z)) ∧ s1 = ⟨#[]⟩ ∧ s2 = ⟨#[]⟩ ∧ er = 5) ∨
 (sa.size ≤ 40 ∧ sb.size ≤ 40 ∧ sc.size ≤ 40 ∧ ∃ a b c, NumT sa a ∧ NumT sb b ∧ NumT sc c ∧
  ((a = 0 ∧ b = 0 ∧ s1 = ⟨#[]⟩ ∧ s2 = ⟨#[]⟩ ∧ er = 5) ∨ (¬ (a = 0 ∧ b = 0) ∧ (∀ x y, a * x + b * y ≠ c) ∧ s1 = ⟨#[]⟩ ∧ s2 = ⟨#[]⟩ ∧ er = 8) ∨
   (¬ (a = 0 ∧ b = 0) ∧ ∃ x y, Sol a b c x y ∧ s1 = strOf (itoa x) ∧ s2 = strOf (itoa y) ∧ er = 0)))
theorem outL_uni {sa sb sc s1 s2 t1 t2 : ByteArray} {er fr : Int} (h : OutL sa sb sc s1 s2 er) (k : OutL sa sb sc t1 t2 fr) : s1 = t1 ∧ s2 = t2 ∧ er = fr := by
 rcases h with ⟨h1, rfl, rfl, rfl⟩ | ⟨h1, h2, h3, a, b, c, ha, hb, hc, h4⟩ <;> rcases k with ⟨k1, rfl, rfl, rfl⟩ | ⟨k1, k2, k3, a', b', c', ka, kb, kc, k4⟩
 ·exact ⟨rfl, rfl, rfl⟩
 ·exfalso
  rcases h1 with e | e | e | e | e | e
  ·omega
  ·omega
  ·omega
  ·exact e _ ka
  ·exact e _ kb
  ·exact e _ kc
 ·exfalso
  rcases k1 with e | e | e | e | e | e
  ·omega
  ·omega
  ·omega
  ·exact e _ ha
  ·exact e _ hb
  ·exact e _ hc
 ·obtain rfl := numT_uni ha ka
  obtain rfl := numT_uni hb kb
  obtain rfl := numT_uni hc kc
  rcases h4 with ⟨e1, e2, rfl, rfl, rfl⟩ | ⟨e1, e2, rfl, rfl, rfl⟩ | ⟨e1, x, y, e2, rfl, rfl, rfl⟩ <;> rcases k4 with ⟨f1, f2, rfl, rfl, rfl⟩ | ⟨f1, f2, rfl, rfl, rfl⟩ | ⟨f1, x', y', f2, rfl, rfl, rfl⟩
  ·exact ⟨rfl, rfl, rfl⟩
  ·exact absurd ⟨e1, e2⟩ f1
  ·exact absurd ⟨e1, e2⟩ f1
  ·exact absurd ⟨f1, f2⟩ e1
  ·exact ⟨rfl, rfl, rfl⟩
  ·exact absurd f2.eq (e2 _ _)
  ·exact absurd ⟨f1, f2⟩ e1
  ·exact absurd e2.eq (f2 _ _)
  ·obtain ⟨rfl, rfl⟩ := e2.uni f2 e1
   exact ⟨rfl, rfl, rfl⟩
def RetLn (w : World) (sa sb sc : ByteArray) (e : Ending) (w' : World) : Prop := ∃ s1 s2 er, e = .returned (.tuple #[.string s1, .string s2, .int .i64 er]) ∧ Hid (OutL sa sb sc s1 s2 er) ∧ Kp w w'
theorem numT_ft {s : ByteArray} {z : Int} (h : NumT s z) (hs : s.size ≤ 40) : Ft 40 z := by
 have e : s = strOf s.data.toList := by apply ByteArray.ext; simp [strOf]
 have hl : s.data.toList.length ≤ 40 := by
  rw [Array.length_toList]
  exact hs
 generalize s.data.toList = t at e hl
 subst e
 have key : ∀ l : List UInt8, Digs (bi l) → l.length ≤ 40 → Ft 40 (decN (bi l)) := fun l hd hl2 => by
  obtain ⟨b1, b2⟩ := decN_bd hd
  have e3 : (bi l).length = l.length := by simp [bi]
  rw [e3] at b2
  have b3 : (10 : Int) ^ l.length ≤ 10 ^ 40 := pow_mono (by decide) hl2
  unfold Ft
  have b4 : decN (bi l) < 10 ^ 40 := Int.lt_of_lt_of_le b2 b3
  have b5 : ((10 : Int) ^ 40) = ((10 ^ 40 : Nat) : Int) := by decide
  rw [b5] at b4
  omega
 rcases numT_of h with ⟨_, h2, h3⟩ | ⟨_, t', rfl, _, h4, _, h5⟩
 ·rw [h3]
  refine key t ?_ hl
  rcases h2 with rfl | ⟨_, h6, _⟩
  ·exact fun c hc => by simp [bi] at hc; rw [hc]; rfl
  ·exact h6
 ·rw [h5]
  exact (key t' h4 (by simp only [List.length_cons] at hl; omega)).neg
theorem sol_fit {a b c x : Int} (fa : Ft 40 a) (fb : Ft 40 b) (fc : Ft 40 c) (h : x.natAbs ≤ a.natAbs + b.natAbs + c.natAbs + (b.natAbs + 1) * c.natAbs ∨ x.natAbs ≤ c.natAbs + a.natAbs * b.natAbs) : Fit x := by
 refine ⟨81, by decide, ?_⟩
 have h1 : (b.natAbs + 1) * c.natAbs ≤ 10 ^ 40 * 10 ^ 40 := Nat.mul_le_mul fb (Nat.le_of_lt fc)
 have h2 : a.natAbs * b.natAbs ≤ 10 ^ 40 * 10 ^ 40 := Nat.mul_le_mul (Nat.le_of_lt fa) (Nat.le_of_lt fb)
 have e1 : (10 : Nat) ^ 40 * 10 ^ 40 * 10 = 10 ^ 81 := by decide
 have e2 : (10 : Nat) ^ 40 * 4 ≤ 10 ^ 40 * 10 ^ 40 := by decide
 unfold Ft at fa fb fc
 rw [← e1]
 generalize (10 : Nat) ^ 40 * 10 ^ 40 = Q at *
 generalize (10 : Nat) ^ 40 = P at *
 omega

set_option maxHeartbeats 6400000 in
set_option maxRecDepth 100000 in
/-- surd.Line. -/
theorem sline_any (sa sb sc : ByteArray) (w : World) (ht : Tens w) : Calls Tryd.prog 20 #[.string sa, .string sb, .string sc] w (RetLn w sa sb sc) := by
 by_cases hbig : 40 < sa.size ∨ 40 < sb.size ∨ 40 < sc.size
 ·have HO : Hid (OutL sa sb sc ⟨#[]⟩ ⟨#[]⟩ 5) := Or.inl ⟨by omega, rfl, rfl, rfl⟩
  by_cases h1 : 40 < sa.size
  ·clear hbig
   go_enter Tryd.func20, Tryd.ntmps20
   go_wp2_with fail
   refine bodyPost_ret (v := .tuple #[.string ⟨#[]⟩, .string ⟨#[]⟩, .int .i64 5]) (by simp [results, Tryd.results20, go_sem]) rfl ?_
   exact ⟨_, _, _, rfl, HO, Below.refl _ _⟩
  ·by_cases h2 : 40 < sb.size
   ·clear hbig
    go_enter Tryd.func20, Tryd.ntmps20
    go_wp2_with fail
    refine bodyPost_ret (v := .tuple #[.string ⟨#[]⟩, .string ⟨#[]⟩, .int .i64 5]) (by simp [results, Tryd.results20, go_sem]) rfl ?_
    exact ⟨_, _, _, rfl, HO, Below.refl _ _⟩
   ·have h3 : 40 < sc.size := by omega
    clear hbig
    go_enter Tryd.func20, Tryd.ntmps20
    go_wp2_with fail
    refine bodyPost_ret (v := .tuple #[.string ⟨#[]⟩, .string ⟨#[]⟩, .int .i64 5]) (by simp [results, Tryd.results20, go_sem]) rfl ?_
    exact ⟨_, _, _, rfl, HO, Below.refl _ _⟩
 ·have h1 : sa.size ≤ 40 := by omega
  have h2 : sb.size ≤ 40 := by omega
  have h3 : sc.size ≤ 40 := by omega
  clear hbig
  have hkw : Kp w w := Below.refl _ _
  go_enter Tryd.func20, Tryd.ntmps20
  skip
  go_wp2_with fail
  refine (fromText_any sa _ (by omega)).mono ?_
  rintro e w11 ⟨za, ok1, b1, ao1, n1, c1, rfl, hza, Hza, hk1⟩
  have ka1 : Kp w11 (w11.alloc (.cells #[.bool b1, .slice ao1 n1 c1] 60)) := (kp_alloc w11 _)
  have kk1 := hk1.trans' ka1
  replace hkw := hkw.trans' kk1
  have Ba : Blk (w11.alloc (.cells #[.bool b1, .slice ao1 n1 c1] 60)) (w11.heap.size) #[.bool b1, .slice ao1 n1 c1] 60 := (Blk.new w11 _ _)
  clear hk1 ka1 kk1
  replace hza := hza.soft (Sf.keep (kp_alloc w11 (.cells #[.bool b1, .slice ao1 n1 c1] 60)))
  skip
  go_wp2_with fail
  generalize (w11.alloc (.cells #[.bool b1, .slice ao1 n1 c1] 60)) = x11 at *
  generalize w11.heap.size = Aa at *
  refine (fromText_any sb _ (by omega)).mono ?_
  rintro e w12 ⟨zb, ok2, b2, ao2, n2, c2, rfl, hzb, Hzb, hk2⟩
  have ka2 : Kp w12 (w12.alloc (.cells #[.bool b2, .slice ao2 n2 c2] 60)) := (kp_alloc w12 _)
  have kk2 := hk2.trans' ka2
  have lta2 := (Ba.keep hk2).lt
  replace Ba := Ba.keep kk2
  replace hza := hza.soft (Sf.keep kk2)
  replace hkw := hkw.trans' kk2
  have Bb : Blk (w12.alloc (.cells #[.bool b2, .slice ao2 n2 c2] 60)) (w12.heap.size) #[.bool b2, .slice ao2 n2 c2] 60 := (Blk.new w12 _ _)
  clear hk2 ka2 kk2
  replace hzb := hzb.soft (Sf.keep (kp_alloc w12 (.cells #[.bool b2, .slice ao2 n2 c2] 60)))
  skip
  go_wp2_with fail
  generalize (w12.alloc (.cells #[.bool b2, .slice ao2 n2 c2] 60)) = x12 at *
  generalize w12.heap.size = Ab at *
  refine (fromText_any sc _ (by omega)).mono ?_
  rintro e w13 ⟨zc, ok3, b3, ao3, n3, c3, rfl, hzc, Hzc, hk3⟩
  have ka3 : Kp w13 (w13.alloc (.cells #[.bool b3, .slice ao3 n3 c3] 60)) := (kp_alloc w13 _)
  have kk3 := hk3.trans' ka3
  have lta3 := (Ba.keep hk3).lt
  have ltb3 := (Bb.keep hk3).lt
  replace Ba := Ba.keep kk3
  replace Bb := Bb.keep kk3
  replace hza := hza.soft (Sf.keep kk3)
  replace hzb := hzb.soft (Sf.keep kk3)
  replace hkw := hkw.trans' kk3
  have Bc : Blk (w13.alloc (.cells #[.bool b3, .slice ao3 n3 c3] 60)) (w13.heap.size) #[.bool b3, .slice ao3 n3 c3] 60 := (Blk.new w13 _ _)
  clear hk3 ka3 kk3
  replace hzc := hzc.soft (Sf.keep (kp_alloc w13 (.cells #[.bool b3, .slice ao3 n3 c3] 60)))
  cases ok1 with
  | false =>
   go_wp2_with fail
   refine bodyPost_ret (v := .tuple #[.string ⟨#[]⟩, .string ⟨#[]⟩, .int .i64 5]) (by simp [results, Tryd.results20, go_sem]) rfl ?_
   exact ⟨_, _, _, rfl, Or.inl ⟨Or.inr (Or.inr (Or.inr (Or.inl (Hza.out.2 (by trivial))))), rfl, rfl, rfl⟩, hkw⟩
  | true =>
   cases ok2 with
   | false =>
    go_wp2_with fail
    refine bodyPost_ret (v := .tuple #[.string ⟨#[]⟩, .string ⟨#[]⟩, .int .i64 5]) (by simp [results, Tryd.results20, go_sem]) rfl ?_
    exact ⟨_, _, _, rfl, Or.inl ⟨Or.inr (Or.inr (Or.inr (Or.inr (Or.inl (Hzb.out.2 (by trivial)))))), rfl, rfl, rfl⟩, hkw⟩
   | true =>
    cases ok3 with
    | false =>
     go_wp2_with fail
     refine bodyPost_ret (v := .tuple #[.string ⟨#[]⟩, .string ⟨#[]⟩, .int .i64 5]) (by simp [results, Tryd.results20, go_sem]) rfl ?_
     exact ⟨_, _, _, rfl, Or.inl ⟨Or.inr (Or.inr (Or.inr (Or.inr (Or.inr (Hzc.out.2 (by trivial)))))), rfl, rfl, rfl⟩, hkw⟩
    | true =>
     replace Hza := Hid.mk (Hza.out.1 rfl)
     replace Hzb := Hid.mk (Hzb.out.1 rfl)
     replace Hzc := Hid.mk (Hzc.out.1 rfl)
     have fa := numT_ft Hza.out h1
     have fb := numT_ft Hzb.out h2
     have fc := numT_ft Hzc.out h3
     have ac := Ba.cell
     have al := Ba.lt
     go_wp2_with fail
     generalize (w13.alloc (.cells #[.bool b3, .slice ao3 n3 c3] 60)) = x13 at *
     generalize w13.heap.size = Ac at *
     refine (sign_any za _ _ hza).mono ?_
     rintro e w14 ⟨rfl, hk4⟩
     clear ac al
     replace Ba := Ba.keep hk4
     replace Bb := Bb.keep hk4
     replace Bc := Bc.keep hk4
     replace hza := hza.soft (Sf.keep hk4)
     replace hzb := hzb.soft (Sf.keep hk4)
     replace hzc := hzc.soft (Sf.keep hk4)
     replace hkw := hkw.trans' hk4
     clear hk4
     have bc := Bb.cell
     have bl := Bb.lt
     go_wp2_with fail
     refine (sign_any zb _ _ hzb).mono ?_
     rintro e w15 ⟨rfl, hk5⟩
     clear bc bl
     replace Ba := Ba.keep hk5
     replace Bb := Bb.keep hk5
     replace Bc := Bc.keep hk5
     replace hza := hza.soft (Sf.keep hk5)
     replace hzb := hzb.soft (Sf.keep hk5)
     replace hzc := hzc.soft (Sf.keep hk5)
     replace hkw := hkw.trans' hk5
     clear hk5
     by_cases hz : za = 0 ∧ zb = 0
     ·have e1 : (za.sign == 0) = true := by rw [hz.1]; rfl
      have e2 : (zb.sign == 0) = true := by rw [hz.2]; rfl
      have HO : Hid (OutL sa sb sc ⟨#[]⟩ ⟨#[]⟩ 5) := Or.inr ⟨h1, h2, h3, za, zb, zc, Hza.out, Hzb.out, Hzc.out, Or.inl ⟨hz.1, hz.2, rfl, rfl, rfl⟩⟩
      clear hz
      generalize za.sign = g1 at *
      generalize zb.sign = g2 at *
      go_wp2_with fail
      refine bodyPost_ret (v := .tuple #[.string ⟨#[]⟩, .string ⟨#[]⟩, .int .i64 5]) (by simp [results, Tryd.results20, go_sem]) rfl ?_
      exact ⟨_, _, _, rfl, HO, hkw⟩
     ·have HNZ := Hid.mk hz
      have e1 : (za.sign == 0) = decide (za = 0) := by
       by_cases e : za = 0
       ·rw [e]; rfl
       ·rw [decide_eq_false e, beq_eq_false_iff_ne]
        exact fun k => e (Int.sign_eq_zero_iff_zero.1 k)
      have e2 : za = 0 → (zb.sign == 0) = false := fun e => by
       rw [beq_eq_false_iff_ne]
       exact fun k => hz ⟨e, Int.sign_eq_zero_iff_zero.1 k⟩
      have hSv := solve_any za zb zc 40 _ _ _ _ hza hzb hzc (by decide) fa fb fc hz
      have ac := Ba.cell
      have al := Ba.lt
      have bc := Bb.cell
      have bl := Bb.lt
      have cc := Bc.cell
      have ccl := Bc.lt
      have E1 := Hid.mk e1
      clear e1 hz
      by_cases hA : za = 0
      ·have e1 : (za.sign == 0) = true := by rw [E1.out]; exact decide_eq_true hA
       replace e2 := e2 hA
       clear hA E1
       generalize za.sign = g1 at *
       generalize zb.sign = g2 at *
       go_wp2_with fail
       refine hSv.mono ?_
       rintro e w9 ⟨hO, hk9⟩
       rcases hO with ⟨u, v, x, y, rfl, hx, hy, HS⟩ | ⟨b5, ao5, n5, c5, b6, ao6, n6, c6, rfl, HN⟩
       ·obtain ⟨b5, ao5, n5, c5, rfl⟩ := hx.shape'
        obtain ⟨b6, ao6, n6, c6, rfl⟩ := hy.shape'
        have ka : Kp w9 ((w9.alloc (.cells #[.bool b5, .slice ao5 n5 c5] 60)).alloc (.cells #[.bool b6, .slice ao6 n6 c6] 60)) := Kp.alloc' (kp_alloc w9 _) _
        have BX : Blk ((w9.alloc (.cells #[.bool b5, .slice ao5 n5 c5] 60)).alloc (.cells #[.bool b6, .slice ao6 n6 c6] 60)) w9.heap.size #[.bool b5, .slice ao5 n5 c5] 60 := Blk.alloc (Blk.new w9 _ _) _
        have BY : Blk ((w9.alloc (.cells #[.bool b5, .slice ao5 n5 c5] 60)).alloc (.cells #[.bool b6, .slice ao6 n6 c6] 60)) (w9.heap.size + 1) #[.bool b6, .slice ao6 n6 c6] 60 := Blk.at (Blk.new (w9.alloc (.cells #[.bool b5, .slice ao5 n5 c5] 60)) _ _) (by simp)
        replace hx := hx.soft (Sf.keep ka)
        replace hy := hy.soft (Sf.keep ka)
        have hkZ := (hkw.trans' hk9).trans' ka
        have fx := sol_fit fa fb fc (Or.inl HS.out.2.1)
        have fy := sol_fit fa fb fc (Or.inr HS.out.2.2)
        have HO : Hid (OutL sa sb sc (strOf (itoa x)) (strOf (itoa y)) 0) := Or.inr ⟨h1, h2, h3, za, zb, zc, Hza.out, Hzb.out, Hzc.out, Or.inr (Or.inr ⟨HNZ.out, x, y, HS.out.1, rfl, rfl, rfl⟩)⟩
        have hT1 := text_any x _ _ hx fx (ht.keep hkZ)
        have HT2 := fun (W : World) (hW : WN W (.agg #[.bool b6, .slice ao6 n6 c6]) y) (htt : Tens W) => text_any y _ W hW fy htt
        generalize strOf (itoa x) = S1 at *
        generalize strOf (itoa y) = S2 at *
        have xc := BX.cell
        have xl := BX.lt
        clear ac al bc bl cc ccl
        go_wp2_with fail
        refine hT1.mono ?_
        rintro e w10 ⟨rfl, hk10⟩
        replace BY := BY.keep hk10
        have yc := BY.cell
        have yl := BY.lt
        clear xc xl
        go_wp2_with fail
        refine (HT2 _ (hy.soft (Sf.keep hk10)) (ht.keep (hkZ.trans' hk10))).mono ?_
        rintro e w11 ⟨rfl, hk11⟩
        clear yc yl
        go_wp2_with fail
        refine bodyPost_ret (v := .tuple #[.string S1, .string S2, .int .i64 0]) (by simp [results, Tryd.results20, go_sem]) rfl ?_
        exact ⟨_, _, _, rfl, HO, (hkZ.trans' hk10).trans' hk11⟩
       ·have HO : Hid (OutL sa sb sc ⟨#[]⟩ ⟨#[]⟩ 8) := Or.inr ⟨h1, h2, h3, za, zb, zc, Hza.out, Hzb.out, Hzc.out, Or.inr (Or.inl ⟨HNZ.out, HN.out, rfl, rfl, rfl⟩)⟩
        go_wp2_with fail
        refine bodyPost_ret (v := .tuple #[.string ⟨#[]⟩, .string ⟨#[]⟩, .int .i64 8]) (by simp [results, Tryd.results20, go_sem]) rfl ?_
        exact ⟨_, _, _, rfl, HO, ((hkw.trans' hk9).alloc' _).alloc' _⟩
      ·have e1 : (za.sign == 0) = false := by rw [E1.out]; exact decide_eq_false hA
       clear hA E1 e2
       generalize za.sign = g1 at *
       generalize zb.sign = g2 at *
       go_wp2_with fail
       refine hSv.mono ?_
       rintro e w9 ⟨hO, hk9⟩
       rcases hO with ⟨u, v, x, y, rfl, hx, hy, HS⟩ | ⟨b5, ao5, n5, c5, b6, ao6, n6, c6, rfl, HN⟩
       ·obtain ⟨b5, ao5, n5, c5, rfl⟩ := hx.shape'
        obtain ⟨b6, ao6, n6, c6, rfl⟩ := hy.shape'
        have ka : Kp w9 ((w9.alloc (.cells #[.bool b5, .slice ao5 n5 c5] 60)).alloc (.cells #[.bool b6, .slice ao6 n6 c6] 60)) := Kp.alloc' (kp_alloc w9 _) _
        have BX : Blk ((w9.alloc (.cells #[.bool b5, .slice ao5 n5 c5] 60)).alloc (.cells #[.bool b6, .slice ao6 n6 c6] 60)) w9.heap.size #[.bool b5, .slice ao5 n5 c5] 60 := Blk.alloc (Blk.new w9 _ _) _
        have BY : Blk ((w9.alloc (.cells #[.bool b5, .slice ao5 n5 c5] 60)).alloc (.cells #[.bool b6, .slice ao6 n6 c6] 60)) (w9.heap.size + 1) #[.bool b6, .slice ao6 n6 c6] 60 := Blk.at (Blk.new (w9.alloc (.cells #[.bool b5, .slice ao5 n5 c5] 60)) _ _) (by simp)
        replace hx := hx.soft (Sf.keep ka)
        replace hy := hy.soft (Sf.keep ka)
        have hkZ := (hkw.trans' hk9).trans' ka
        have fx := sol_fit fa fb fc (Or.inl HS.out.2.1)
        have fy := sol_fit fa fb fc (Or.inr HS.out.2.2)
        have HO : Hid (OutL sa sb sc (strOf (itoa x)) (strOf (itoa y)) 0) := Or.inr ⟨h1, h2, h3, za, zb, zc, Hza.out, Hzb.out, Hzc.out, Or.inr (Or.inr ⟨HNZ.out, x, y, HS.out.1, rfl, rfl, rfl⟩)⟩
        have hT1 := text_any x _ _ hx fx (ht.keep hkZ)
        have HT2 := fun (W : World) (hW : WN W (.agg #[.bool b6, .slice ao6 n6 c6]) y) (htt : Tens W) => text_any y _ W hW fy htt
        generalize strOf (itoa x) = S1 at *
        generalize strOf (itoa y) = S2 at *
        have xc := BX.cell
        have xl := BX.lt
        clear ac al bc bl cc ccl
        go_wp2_with fail
        refine hT1.mono ?_
        rintro e w10 ⟨rfl, hk10⟩
        replace BY := BY.keep hk10
        have yc := BY.cell
        have yl := BY.lt
        clear xc xl
        go_wp2_with fail
        refine (HT2 _ (hy.soft (Sf.keep hk10)) (ht.keep (hkZ.trans' hk10))).mono ?_
        rintro e w11 ⟨rfl, hk11⟩
        clear yc yl
        go_wp2_with fail
        refine bodyPost_ret (v := .tuple #[.string S1, .string S2, .int .i64 0]) (by simp [results, Tryd.results20, go_sem]) rfl ?_
        exact ⟨_, _, _, rfl, HO, (hkZ.trans' hk10).trans' hk11⟩
       ·have HO : Hid (OutL sa sb sc ⟨#[]⟩ ⟨#[]⟩ 8) := Or.inr ⟨h1, h2, h3, za, zb, zc, Hza.out, Hzb.out, Hzc.out, Or.inr (Or.inl ⟨HNZ.out, HN.out, rfl, rfl, rfl⟩)⟩
        go_wp2_with fail
        refine bodyPost_ret (v := .tuple #[.string ⟨#[]⟩, .string ⟨#[]⟩, .int .i64 8]) (by simp [results, Tryd.results20, go_sem]) rfl ?_
        exact ⟨_, _, _, rfl, HO, ((hkw.trans' hk9).alloc' _).alloc' _⟩

end Go.Proofs.YtjahbjjekednfabDoor
