import Derived.Test.YtjahbjjekednfaaDoorV5
import Derived.Test.YtjahbjjekednfaaDoorR19
import Derived.Test.YtjahbjjekednfaaDoorRows
import Derived.Test.YtjahbjjekednfaaDoorTie
import Derived.Test.YtjahbjjekednfaaDoorCards
import Derived.WalkKit
import Derived.ProofKit
import Derived.LaidMore
import Derived.OpenShut
import Derived.ShutString
import Derived.ChangeOld
import Derived.Below
import Derived.Lib.LaidTab
import Derived.Stop.Joined
import Derived.SevenTiedAt
namespace Go.Proofs.YtjahbjjekednfaaDoor
open Go.RowKit

set_option maxHeartbeats 3200000 in
set_option maxRecDepth 100000 in
theorem rval_any (s : ByteArray) (r : Rs) (w : World) (h : Rk s r) : Calls Tryd.prog 10 #[.string s] w (RetV w (.tuple #[valV r, .int .i64 r.e])) := by
  by_cases he : r.e = 0
  · have o := rk_sound h he
    have f1 := o.f.1.fit (by decide)
    have f2 := o.f.2.1.fit (by decide)
    have f3 := o.f.2.2.fit (by decide)
    clear o
    have HO : valV r = formV r.v := if_pos he
    have x1 : (r.e != 0) = false := by simp [he]
    rw [HO]
    unfold formV
    have T1 := fun (u : Value) (W : World) (hu : IN W u r.v.p) => text_ref r.v.p u W hu f1
    have T2 := fun (u : Value) (W : World) (hu : IN W u r.v.q) => text_ref r.v.q u W hu f2
    have T3 := fun (u : Value) (W : World) (hu : IN W u r.v.r) => text_ref r.v.r u W hu f3
    generalize strOf (Go.Lib.itoa r.v.p) = s1 at T1 ⊢
    generalize strOf (Go.Lib.itoa r.v.q) = s2 at T2 ⊢
    generalize strOf (Go.Lib.itoa r.v.r) = s3 at T3 ⊢
    have kp0 := kp_alloc w (.cells #[.string ⟨#[]⟩, .string ⟨#[]⟩, .string ⟨#[]⟩, .int .i64 0] 23)
    have BR0 : Blk (w.alloc (.cells #[.string ⟨#[]⟩, .string ⟨#[]⟩, .string ⟨#[]⟩, .int .i64 0] 23)) w.heap.size #[.string ⟨#[]⟩, .string ⟨#[]⟩, .string ⟨#[]⟩, .int .i64 0] 23 := Blk.new w _ _
    go_enter Tryd.func10, Tryd.ntmps10
    go_wp2_with fail
    refine (rread_any s r _ h).mono ?_
    rintro e w1 ⟨v1, a1, rfl, hv1, ha1, hk1⟩
    obtain ⟨b1, ao1, n1, c1, b2, ao2, n2, c2, b3, ao3, n3, c3, rfl, g1, g2, g3⟩ := hv1
    have e1 := ha1 he
    subst e1
    clear ha1
    go_wp2_with fail
    have kp1 := kp_alloc w1 (.cells #[.bool b1, .slice ao1 n1 c1, .bool b2, .slice ao2 n2 c2, .bool b3, .slice ao3 n3 c3, .int .i64 r.v.d] 66)
    have BX : Blk (w1.alloc (.cells #[.bool b1, .slice ao1 n1 c1, .bool b2, .slice ao2 n2 c2, .bool b3, .slice ao3 n3 c3, .int .i64 r.v.d] 66)) w1.heap.size #[.bool b1, .slice ao1 n1 c1, .bool b2, .slice ao2 n2 c2, .bool b3, .slice ao3 n3 c3, .int .i64 r.v.d] 66 := Blk.new w1 _ _
    have NBR := (BR0.keep hk1).keep kp1
    have kwb := (kp0.trans' hk1).trans' kp1
    replace g1 := g1.keep kp1
    replace g2 := g2.keep kp1
    replace g3 := g3.keep kp1
    have hAX : w1.heap.size ≠ w.heap.size := by have := (BR0.keep hk1).lt; omega
    clear kp0 BR0 hk1 kp1
    generalize w1.alloc (.cells #[.bool b1, .slice ao1 n1 c1, .bool b2, .slice ao2 n2 c2, .bool b3, .slice ao3 n3 c3, .int .i64 r.v.d] 66) = wb at *
    generalize w1.heap.size = X at *
    generalize hAe : w.heap.size = A at *
    have hre : elemOf wb A ≠ some 3 := by rw [NBR.elem]; decide
    refine wp_region_l (S := fun w' => KeepsBut (A) wb w') (by kernel_rfl) (KeepsBut.drew (KeepsBut.refl _ _)) (fun hS0 => ?_)
    replace NBR := NBR.drew
    generalize wb.drew = wd at *
    refine wpAnyL_tk (i := 0) (k := 1) (v := .pointer (some ⟨X, 0, none⟩)) rfl ?_ hS0 ?_
    · intro w' hw'; go_simp
    simp only [List.getElem_toArray, List.getElem_cons_zero, Act.put, List.setIfInBounds_toArray, List.set_cons_zero, List.set_cons_succ]
    refine wpAnyL_tk (i := 1) (k := 2) (v := .agg #[.bool b1, .slice ao1 n1 c1]) rfl ?_ hS0 ?_
    · intro w' hw'; have hc := (Blk.but hw' (by omega) BX).cell; go_simp
    simp only [List.getElem_toArray, List.getElem_cons_zero, List.getElem_cons_succ, Act.put, List.setIfInBounds_toArray, List.set_cons_zero, List.set_cons_succ]
    refine wpAnyL_tk (i := 3) (k := 4) (v := .pointer (some ⟨X, 2, none⟩)) rfl ?_ hS0 ?_
    · intro w' hw'; go_simp
    simp only [List.getElem_toArray, List.getElem_cons_zero, List.getElem_cons_succ, Act.put, List.setIfInBounds_toArray, List.set_cons_zero, List.set_cons_succ]
    refine wpAnyL_tk (i := 4) (k := 5) (v := .agg #[.bool b2, .slice ao2 n2 c2]) rfl ?_ hS0 ?_
    · intro w' hw'; have hc := (Blk.but hw' (by omega) BX).cell; go_simp
    simp only [List.getElem_toArray, List.getElem_cons_zero, List.getElem_cons_succ, Act.put, List.setIfInBounds_toArray, List.set_cons_zero, List.set_cons_succ]
    refine wpAnyL_tk (i := 6) (k := 7) (v := .pointer (some ⟨X, 4, none⟩)) rfl ?_ hS0 ?_
    · intro w' hw'; go_simp
    simp only [List.getElem_toArray, List.getElem_cons_zero, List.getElem_cons_succ, Act.put, List.setIfInBounds_toArray, List.set_cons_zero, List.set_cons_succ]
    refine wpAnyL_tk (i := 7) (k := 8) (v := .agg #[.bool b3, .slice ao3 n3 c3]) rfl ?_ hS0 ?_
    · intro w' hw'; have hc := (Blk.but hw' (by omega) BX).cell; go_simp
    simp only [List.getElem_toArray, List.getElem_cons_zero, List.getElem_cons_succ, Act.put, List.setIfInBounds_toArray, List.set_cons_zero, List.set_cons_succ]
    refine wpAnyL_tk (i := 9) (k := 10) (v := .pointer (some ⟨X, 6, none⟩)) rfl ?_ hS0 ?_
    · intro w' hw'; go_simp
    simp only [List.getElem_toArray, List.getElem_cons_zero, List.getElem_cons_succ, Act.put, List.setIfInBounds_toArray, List.set_cons_zero, List.set_cons_succ]
    refine wpAnyL_tk (i := 10) (k := 11) (v := .int .i64 r.v.d) rfl ?_ hS0 ?_
    · intro w' hw'; have hc := (Blk.but hw' (by omega) BX).cell; go_simp
    simp only [List.getElem_toArray, List.getElem_cons_zero, List.getElem_cons_succ, Act.put, List.setIfInBounds_toArray, List.set_cons_zero, List.set_cons_succ]
    refine wpAnyL_on (i := 2) rfl (fun K hK => ?_)
    go_simp
    refine (T1 _ _ (g1.soft (Sf.but hS0 hre))).mono ?_
    rintro e w102 ⟨rfl, hk102⟩
    replace NBR := NBR.keep hk102
    go_wp2_with fail
    refine hK.out _ _ (hS0.trans (KeepsBut.of_kp hk102)) (fun hS1 => ?_)
    clear hK K
    refine wpAnyL_on (i := 5) rfl (fun K hK => ?_)
    go_simp
    refine (T2 _ _ (g2.soft (Sf.but hS1 hre))).mono ?_
    rintro e w105 ⟨rfl, hk105⟩
    replace NBR := NBR.keep hk105
    go_wp2_with fail
    refine hK.out _ _ (hS1.trans (KeepsBut.of_kp hk105)) (fun hS2 => ?_)
    clear hK K
    refine wpAnyL_on (i := 8) rfl (fun K hK => ?_)
    go_simp
    refine (T3 _ _ (g3.soft (Sf.but hS2 hre))).mono ?_
    rintro e w108 ⟨rfl, hk108⟩
    replace NBR := NBR.keep hk108
    go_wp2_with fail
    refine hK.out _ _ (hS2.trans (KeepsBut.of_kp hk108)) (fun hS3 => ?_)
    clear hK K
    refine wpAnyL_tk (i := 11) (k := 12) (v := .agg #[.string s1, .string s2, .string s3, .int .i64 r.v.d]) rfl ?_ hS3 ?_
    · intro w' hw'; go_simp
    simp only [List.getElem_toArray, List.getElem_cons_zero, List.getElem_cons_succ, Act.put, List.setIfInBounds_toArray, List.set_cons_zero, List.set_cons_succ]
    refine wpAnyL_on (i := 12) rfl (fun K hK => ?_)
    have st_c := NBR.cell
    have st_f := NBR.frozen
    have st_l := NBR.lt
    go_simp
    refine hK.out _ _ (KeepsBut.setCell (KeepsBut.setCell (KeepsBut.setCell (KeepsBut.setCell hS3 0 (.string s1)) 1 (.string s2)) 2 (.string s3)) 3 (.int .i64 r.v.d)) (fun hS4 => ?_)
    clear hK K st_c st_f st_l
    replace NBR := (Blk.set (o := 3) (y := .int .i64 r.v.d) (Blk.set (o := 2) (y := .string s3) (Blk.set (o := 1) (y := .string s2) (Blk.set (o := 0) (y := .string s1) NBR))))
    try simp only [List.getElem_toArray, List.getElem_cons_zero, List.getElem_cons_succ, Act.put, List.setIfInBounds_toArray, List.set_cons_zero, List.set_cons_succ]
    generalize ((((w108.setCell ⟨A, 0, none⟩ (.string s1)).setCell ⟨A, 1, none⟩ (.string s2)).setCell ⟨A, 2, none⟩ (.string s3)).setCell ⟨A, 3, none⟩ (.int .i64 r.v.d)) = wt12 at *
    simp only [List.setIfInBounds_toArray, List.set_cons_zero, List.set_cons_succ] at NBR
    refine wpAnyL_last (i := 13) rfl (by kernel_rfl) (by kernel_rfl) (by kernel_rfl) (fun K hK => ?_)
    go_simp
    refine hK.out _ _ ?_
    clear hK K
    have bec := NBR.cell
    go_wp2_with fail
    refine bodyPost_ret (v := .tuple #[.agg #[.string s1, .string s2, .string s3, .int .i64 r.v.d], .int .i64 0]) (by simp [results, Tryd.results10, go_sem, bec]) rfl ?_
    exact ⟨by rw [he], ((KeepsBut.of_kp kwb).trans hS4).below (by rw [hAe]; exact Nat.le_refl _)⟩
  · have HO : valV r = noV := if_neg he
    have x1 : (r.e != 0) = true := by simp [he]
    rw [HO]
    unfold noV
    go_enter Tryd.func10, Tryd.ntmps10
    go_wp2_with fail
    refine (rread_any s r _ h).mono ?_
    rintro e w1 ⟨v1, a1, rfl, hv1, _, hk1⟩
    obtain ⟨b1, ao1, n1, c1, b2, ao2, n2, c2, b3, ao3, n3, c3, rfl, g1, g2, g3⟩ := hv1
    clear g1 g2 g3
    have kp0 := kp_alloc w (.cells #[.string ⟨#[]⟩, .string ⟨#[]⟩, .string ⟨#[]⟩, .int .i64 0] 23)
    have BR0 : Blk (w.alloc (.cells #[.string ⟨#[]⟩, .string ⟨#[]⟩, .string ⟨#[]⟩, .int .i64 0] 23)) w.heap.size #[.string ⟨#[]⟩, .string ⟨#[]⟩, .string ⟨#[]⟩, .int .i64 0] 23 := Blk.new w _ _
    have NBR := Blk.alloc (BR0.keep hk1) (.cells #[.bool b1, .slice ao1 n1 c1, .bool b2, .slice ao2 n2 c2, .bool b3, .slice ao3 n3 c3, .int .i64 a1.d] 66)
    have bec := NBR.cell
    have bef := NBR.frozen
    have bel := NBR.lt
    go_wp2_with fail
    refine bodyPost_ret (v := .tuple #[.agg #[.string ⟨#[]⟩, .string ⟨#[]⟩, .string ⟨#[]⟩, .int .i64 0], .int .i64 r.e]) (by simp [results, Tryd.results10, go_sem, bec]) rfl ?_
    exact ⟨rfl, (Below.setCell (Below.setCell (Below.setCell (Below.setCell (Kp.alloc' (kp0.trans' hk1) _) (p := ⟨w.heap.size, 0, none⟩) (Nat.le_refl _) _) (p := ⟨w.heap.size, 1, none⟩) (Nat.le_refl _) _) (p := ⟨w.heap.size, 2, none⟩) (Nat.le_refl _) _) (p := ⟨w.heap.size, 3, none⟩) (Nat.le_refl _) _)⟩

end Go.Proofs.YtjahbjjekednfaaDoor

namespace Go.Proofs.YtjahbjjekednfaaDoor
open Go.RowKit

theorem valV_shape (r : Rs) : ∃ s1 s2 s3 d, valV r = .agg #[.string s1, .string s2, .string s3, .int .i64 d] := by
  unfold valV formV noV
  split
  · exact ⟨_, _, _, _, rfl⟩
  · exact ⟨_, _, _, _, rfl⟩

set_option maxHeartbeats 800000 in
theorem numv_any (n : Int) (w : World) : Calls Tryd.prog 11 #[.int .i64 n] w (RetV w (.int .i64 n)) := by
  go_enter Tryd.func11, Tryd.ntmps11
  go_wp2_with fail
  go_ret
  exact ⟨rfl, Below.refl _ _⟩

set_option maxHeartbeats 1600000 in
theorem values_any (s : ByteArray) (w : World) (ht : Tens w) : Calls Tryd.prog 3 #[.string s] w (RetV w (.bool true)) := by
  obtain ⟨r, hr⟩ := rk_all s
  obtain ⟨s1, s2, s3, d, hV⟩ := valV_shape r
  go_enter Tryd.func3, Tryd.ntmps3
  go_wp2_with fail
  refine (sval_any s r _ hr ht).mono ?_
  rw [hV]
  rintro e w1 ⟨rfl, hk1⟩
  have kp1 := kp_alloc w1 (.cells #[.string s1, .string s2, .string s3, .int .i64 d] 23)
  have B1 : Blk (w1.alloc (.cells #[.string s1, .string s2, .string s3, .int .i64 d] 23)) w1.heap.size #[.string s1, .string s2, .string s3, .int .i64 d] 23 := Blk.new w1 _ _
  go_wp2_with fail
  refine (rval_any s r _ hr).mono ?_
  rw [hV]
  rintro e w2 ⟨rfl, hk2⟩
  replace B1 := B1.keep hk2
  have b1c := B1.cell
  have b1l := B1.lt
  have kp2 := kp_alloc w2 (.cells #[.string s1, .string s2, .string s3, .int .i64 d] 23)
  go_wp2_with fail
  refine (numv_any r.e _).mono ?_
  rintro e w3 ⟨rfl, hk3⟩
  go_wp2_with fail
  go_ret
  exact ⟨rfl, ((hk1.trans' kp1).trans' (hk2.trans' kp2)).trans' hk3⟩

end Go.Proofs.YtjahbjjekednfaaDoor

namespace Go.Proofs.YtjahbjjekednfaaDoor.values
open Go.ChangeShapes Go.WideShapes Go.ChangeAt Go.RowKit
open Go.ChangeMaps (open_string shut_string)

theorem own : ownKnob Tryd.prog.godebug = none := by kernel_rfl
theorem gTens : Tryd.prog.globalNamed "internal/strconv.uint64pow10" = some 0 := by kernel_rfl
theorem tTens : (Tryd.prog.globals[0]?).map (·.type) = some 149 := by kernel_rfl

/-- The door's own heap meets the condition. -/
theorem door_met (os : Os) (args : Array Value) : laidMetH Tryd.prog Rows.valuesRow.laid ((World.doorLaid Tryd.prog 24 os).forCall (fun _ _ => 0) ⟨#[], args, []⟩).memory :=
  laidMetH_of_parts3 (fuel := 8) (laidMet_of_run' 8 (by kernel_rfl) (by kernel_rfl)) (by kernel_rfl) (by kernel_rfl)

theorem tens_of {W : World} (h : laidMetH Tryd.prog Rows.valuesRow.laid W) : Tens W := by
  rw [MakeChecks.laidMetH_plain _ _ _ (by kernel_rfl)] at h
  obtain ⟨ps, ⟨g0, t0, cs0, f0, p0, q0, _, _, _, _, ⟨g1, t1, cs1, f1, p1, q1, _, _, _, _, ⟨g2, t2, cs2, f2, p2, q2, hg2, ht2, hv2, hd2, _, _⟩, _⟩, _⟩, _, _⟩ := h
  obtain rfl := Option.some.inj (gTens.symm.trans hg2)
  obtain rfl := Option.some.inj (tTens.symm.trans ht2)
  unfold Tens Lib.TabIs
  rw [hv2, ← Lib.cells_of_tab (k := .u64) (zs := Lib.pow10Tab) (n := 20) Tryd.underlying149 Tryd.underlying130 (by kernel_rfl) (by kernel_rfl) hd2]

theorem walk (a0 : ByteArray) (w : World) (ht : Tens w) :
    Calls Tryd.prog 3 #[.string a0] w fun e w' => e = .returned (.bool true) ∧ Below w.heap.size w w' := values_any a0 w ht

set_option maxRecDepth 100000 in
theorem lifted (os : Os) (started : os.Started) (H : Type) (enc : TypeId × Value → H) :
    ReturnsInHanded {} Tryd.checked os 3 .any (fun w args => (Rows.valuesSpec.pre enc Tryd.prog Tryd.f3 [] false w args ∧ laidMetH Tryd.prog Rows.valuesRow.laid w) ∧ sizedMet enc Tryd.prog Tryd.f3 (OpenSpec.ofChange Rows.valuesSpec) false w args)
      (Rows.valuesSpec.post enc Tryd.prog Tryd.f3 false true false false) := by
  refine returnsInHanded_of_change_and (C := Tryd.checked) (X := fun w _ => laidMetH Tryd.prog Rows.valuesRow.laid w) (fun _ _ _ hh h => h.of_heap hh) own started (by kernel_rfl) Tryd.func3
    (ChangeSpec.witness_shaped (enc := enc) (C := Tryd.checked) (os := os) (X := fun w _ => laidMetH Tryd.prog Rows.valuesRow.laid w) false (World.doorLaid Tryd.prog 24 os) #[.string ByteArray.empty] 8 rfl (World.shaped_of_RefB (by kernel_rfl) (by kernel_rfl)) (by kernel_rfl) (by kernel_rfl) (by kernel_rfl) (door_met os _)) ?_
  intro W base args ds gs before hval0 hW _ _ hL _
  have hval : ∀ (j : Nat) t v, Tryd.f3.params[j]? = some t → args[j]? = some v → Value.okWide Tryd.prog W .any base t v := hval0
  have hW' := hW
  obtain ⟨p, q, hA0, hV, rfl, hfz, hnd⟩ := hW
  have hA : DataW.TrodAll enc Tryd.prog W 0 (fun _ => true) true Tryd.f3.params.toList args.toList ds p := hA0
  rw [Tryd.params3] at hA hval
  obtain ⟨v0, vs0, d0, ds0, p0, q0, hargs, rfl, rfl, h0, r0⟩ := trodAll_cons hA
  obtain ⟨rfl, rfl, rfl⟩ := trodAll_nil r0
  obtain rfl : args = #[v0] := by cases args; simp_all
  obtain ⟨rfl, rfl⟩ := trodVars_none hV
  obtain ⟨a0, rfl, rfl, rfl, w0⟩ := open_string Tryd.underlying9 (hval 0 9 v0 rfl rfl) h0
  clear hA0 hval0
  refine (walk a0 W (tens_of hL)).mono fun e W' ⟨he, bel⟩ => ?_
  subst he
  exact ⟨_, rfl, _, _, _, [], _, [], hW', trodAll_mk1 (shut_bool Tryd.underlying4 _), trodAll_cons_mk (shut_string Tryd.underlying9 w0) trodAll_mk0, rfl, bel.frame _, fun h => by cases h⟩

theorem over : Rows.valuesRow.holds Tryd.pinned (OpenSpec.ofChange Rows.valuesSpec) :=
  OpenClaim.holds_of_wide 3 Tryd.f3 rfl rfl rfl rfl rfl rfl rfl ⟨rfl, rfl, rfl, rfl, rfl⟩ rfl rfl rfl rfl rfl (by kernel_rfl) Tryd.func3 (by kernel_rfl)
    (of_decide_eq_true (by kernel_rfl)) (by unfold Func.isWrapper; first | (rw [if_pos (by decide +kernel)]; kernel_rfl) | (rw [if_neg (by decide +kernel)]; exact ⟨rfl, rfl⟩))
    (fun os started H enc _ => lifted os started H enc)

theorem card : Rows.ValuesCardSaid :=
  Claim7.holds_tied_plain_at .later [] [.data, .data, .data] true Rows.valuesCard.stood.harness false
    over (fun _ h => by cases h) (by kernel_rfl) (fun _ h => by cases h) values_row_tie rfl ⟨rfl, rfl⟩ (by kernel_rfl) rfl
    (fun f fn hf hfn => by
      obtain rfl : f = 3 := Option.some.inj ((show Tryd.prog.funcNamed "surd/surdlaw.Values" = some 3 by kernel_rfl).symm.trans hf) |>.symm
      obtain rfl : fn = Tryd.f3 := (Option.some.inj (Tryd.func3.symm.trans hfn)).symm
      exact ⟨by kernel_rfl, fun j t ht => by
        rw [Tryd.params3] at ht
        have hm : t ∈ [9] := by simpa using Array.mem_of_getElem? ht
        have hall : ([9].all fun u => !Tryd.prog.wantsStandIn u) = true := by kernel_rfl
        exact (show Tryd.prog.wantsStandIn t = false by simpa using List.all_eq_true.1 hall t hm)⟩)
    (by kernel_rfl)

end Go.Proofs.YtjahbjjekednfaaDoor.values

namespace Go.Proofs.YtjahbjjekednfaaDoor
theorem values_holds : Rows.ValuesCardSaid := values.card
#print axioms values_holds
end Go.Proofs.YtjahbjjekednfaaDoor
