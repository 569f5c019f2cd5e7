import Derived.Test.YtjahbjjekednfaaDoorA3
import Derived.Deep.RegionWith
namespace Go.Proofs.YtjahbjjekednfaaDoor
open Go.RowKit

theorem itoa_ten (n : Int) (h0 : -9223372036854775808 ≤ n) (h1 : n ≤ 9223372036854775807) (w : World) (ht : Tens w) : Calls Tryd.prog 27 #[.int .i64 n] w (RetV w (.string (strOf (Go.Lib.itoa n)))) := by
  refine (Tryd.strconv_Itoa n h0 h1 w ht).mono ?_
  rintro e w' ⟨rfl, k, os, rfl⟩
  refine ⟨rfl, rfl, rfl, rfl, ?_, fun i hi => ?_⟩
  · show w.heap.size ≤ (w.heap ++ os).size
    simp
  · show (w.heap ++ os)[i]? = w.heap[i]?
    rw [Array.getElem?_append_left hi]
theorem itoa_0 : strOf (Go.Lib.itoa 0) = ⟨#[48]⟩ := itoa_nought.2 rfl
theorem itoa_1 : strOf (Go.Lib.itoa 1) = ⟨#[49]⟩ := by
  rw [Go.Lib.itoa, if_neg (by decide), Go.Lib.decDigits, dif_pos (by decide)]
  rfl

set_option maxHeartbeats 1600000 in
theorem is_any (s : ByteArray) (n : Int) (h0 : -9223372036854775808 ≤ n) (h1 : n ≤ 9223372036854775807) (w : World) (ht : Tens w) (h : Is s n) : Calls Tryd.prog 16 #[.string s, .int .i64 n] w (RetV w (.bool true)) := by
  obtain ⟨r, hr⟩ := rk_all s
  have H1 := fun (W : World) (hT : Tens W) => sval_any s r W hr hT
  rcases h r hr with he | he | ⟨he, hv⟩
  · obtain ⟨s1, s2, s3, d, hV⟩ := valV_parts r
    rw [hV, he] at H1
    clear hV h hr he
    go_enter Tryd.func16, Tryd.ntmps16
    go_wp2_with fail
    refine (H1 _ ht).mono ?_
    rintro e w1 ⟨rfl, hk1⟩
    go_wp2_with fail
    go_ret
    exact ⟨rfl, Kp.alloc' hk1 _⟩
  · obtain ⟨s1, s2, s3, d, hV⟩ := valV_parts r
    rw [hV, he] at H1
    clear hV h hr he
    go_enter Tryd.func16, Tryd.ntmps16
    go_wp2_with fail
    refine (H1 _ ht).mono ?_
    rintro e w1 ⟨rfl, hk1⟩
    go_wp2_with fail
    go_ret
    exact ⟨rfl, Kp.alloc' hk1 _⟩
  · have hV : valV r = formV r.v := if_pos he
    have H2 := fun (W : World) (hT : Tens W) => itoa_ten n h0 h1 W hT
    rw [hV, he, hv] at H1
    unfold formV at H1
    simp only at H1
    rw [itoa_0, itoa_1] at H1
    generalize strOf (Go.Lib.itoa n) = s1 at H1 H2
    clear hV h hr he hv
    go_enter Tryd.func16, Tryd.ntmps16
    go_wp2_with fail
    refine (H1 _ ht).mono ?_
    rintro e w1 ⟨rfl, hk1⟩
    have kp1 := kp_alloc w1 (.cells #[.string s1, .string ⟨#[48]⟩, .string ⟨#[49]⟩, .int .i64 1] 23)
    have B1 : Blk (w1.alloc (.cells #[.string s1, .string ⟨#[48]⟩, .string ⟨#[49]⟩, .int .i64 1] 23)) w1.heap.size #[.string s1, .string ⟨#[48]⟩, .string ⟨#[49]⟩, .int .i64 1] 23 := Blk.new w1 _ _
    have hkw := hk1.trans' kp1
    go_wp2_with fail
    go_region_with (go_at_call 27; refine (H2 _ (ht.keep (Kp.drew' hkw))).mono ?_; rintro e w2 ⟨rfl, hk2⟩; have B2 := Blk.keep hk2 (Blk.drew B1); have b2c := B2.cell; have b2l := B2.lt)
    all_goals
      go_wp2_with fail
      go_ret
      exact ⟨rfl, (Kp.drew' hkw).trans' hk2⟩

end Go.Proofs.YtjahbjjekednfaaDoor
