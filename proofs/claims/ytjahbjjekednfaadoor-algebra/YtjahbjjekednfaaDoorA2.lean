import Derived.Test.YtjahbjjekednfaaDoorA1
import Derived.Test.YtjahbjjekednfaaDoorV5
namespace Go.Proofs.YtjahbjjekednfaaDoor
open Go.RowKit

theorem valV_parts (r : Rs) : ∃ s1 s2 s3 d, valV r = .agg #[.string s1, .string s2, .string s3, .int .i64 d] := by
  unfold valV formV noV
  split
  · exact ⟨_, _, _, _, rfl⟩
  · exact ⟨_, _, _, _, rfl⟩

set_option maxHeartbeats 1600000 in
theorem alike_any (s t : ByteArray) (w : World) (ht : Tens w) (h : Alike s t) : Calls Tryd.prog 14 #[.string s, .string t] w (RetV w (.bool true)) := by
  obtain ⟨r1, h1⟩ := rk_all s
  obtain ⟨r2, h2⟩ := rk_all t
  obtain ⟨e1, e2⟩ := h r1 r2 h1 h2
  have hV : valV r1 = valV r2 := by
    unfold valV
    by_cases he : r1.e = 0
    · rw [if_pos he, if_pos (by omega), e2 he]
    · rw [if_neg he, if_neg (by omega)]
  have H1 := fun (W : World) (hT : Tens W) => sval_any s r1 W h1 hT
  have H2 := fun (W : World) (hT : Tens W) => sval_any t r2 W h2 hT
  obtain ⟨s1, s2, s3, d, hV2⟩ := valV_parts r2
  rw [hV, hV2, e1] at H1
  rw [hV2] at H2
  generalize r2.e = E at *
  clear hV hV2 e1 e2 h1 h2 h
  go_enter Tryd.func14, Tryd.ntmps14
  go_wp2_with fail
  refine (H1 _ ht).mono ?_
  rintro e w1 ⟨rfl, hk1⟩
  have kp1 := kp_alloc w1 (.cells #[.string s1, .string s2, .string s3, .int .i64 d] 23)
  have B1 : Blk (w1.alloc (.cells #[.string s1, .string s2, .string s3, .int .i64 d] 23)) w1.heap.size #[.string s1, .string s2, .string s3, .int .i64 d] 23 := Blk.new w1 _ _
  go_wp2_with fail
  refine (H2 _ (ht.keep (hk1.trans' kp1))).mono ?_
  rintro e w2 ⟨rfl, hk2⟩
  replace B1 := B1.keep hk2
  have b1c := B1.cell
  have b1l := B1.lt
  have kp2 := kp_alloc w2 (.cells #[.string s1, .string s2, .string s3, .int .i64 d] 23)
  go_wp2_with fail
  go_ret
  exact ⟨rfl, (hk1.trans' kp1).trans' (hk2.trans' kp2)⟩

set_option maxHeartbeats 1600000 in
theorem agree_any (s t : ByteArray) (w : World) (ht : Tens w) (h : Agrees s t) : Calls Tryd.prog 15 #[.string s, .string t] w (RetV w (.bool true)) := by
  obtain ⟨r1, h1⟩ := rk_all s
  obtain ⟨r2, h2⟩ := rk_all t
  have e2 := h r1 r2 h1 h2
  have H1 := fun (W : World) (hT : Tens W) => sval_any s r1 W h1 hT
  have H2 := fun (W : World) (hT : Tens W) => sval_any t r2 W h2 hT
  obtain ⟨u1, u2, u3, f, hV2⟩ := valV_parts r2
  rw [hV2] at H2
  by_cases c1 : r1.e = 0
  · by_cases c2 : r2.e = 0
    · have hV : valV r1 = valV r2 := by
        unfold valV
        rw [if_pos c1, if_pos c2, e2 c1 c2]
      rw [hV, hV2, c1] at H1
      rw [c2] at H2
      clear hV hV2 h1 h2 h e2 c1 c2
      go_enter Tryd.func15, Tryd.ntmps15
      go_wp2_with fail
      refine (H1 _ ht).mono ?_
      rintro e w1 ⟨rfl, hk1⟩
      have kp1 := kp_alloc w1 (.cells #[.string u1, .string u2, .string u3, .int .i64 f] 23)
      have B1 : Blk (w1.alloc (.cells #[.string u1, .string u2, .string u3, .int .i64 f] 23)) w1.heap.size #[.string u1, .string u2, .string u3, .int .i64 f] 23 := Blk.new w1 _ _
      go_wp2_with fail
      refine (H2 _ (ht.keep (hk1.trans' kp1))).mono ?_
      rintro e w2 ⟨rfl, hk2⟩
      replace B1 := B1.keep hk2
      have b1c := B1.cell
      have b1l := B1.lt
      have kp2 := kp_alloc w2 (.cells #[.string u1, .string u2, .string u3, .int .i64 f] 23)
      go_wp2_with fail
      go_ret
      exact ⟨rfl, (hk1.trans' kp1).trans' (hk2.trans' kp2)⟩

    · obtain ⟨s1, s2, s3, d, hV1⟩ := valV_parts r1
      rw [hV1, c1] at H1
      have x2 : (r2.e != 0) = true := by simp [c2]
      clear hV1 hV2 h1 h2 h e2 c1 c2
      go_enter Tryd.func15, Tryd.ntmps15
      go_wp2_with fail
      refine (H1 _ ht).mono ?_
      rintro e w1 ⟨rfl, hk1⟩
      have kp1 := kp_alloc w1 (.cells #[.string s1, .string s2, .string s3, .int .i64 d] 23)
      have B1 : Blk (w1.alloc (.cells #[.string s1, .string s2, .string s3, .int .i64 d] 23)) w1.heap.size #[.string s1, .string s2, .string s3, .int .i64 d] 23 := Blk.new w1 _ _
      go_wp2_with fail
      refine (H2 _ (ht.keep (hk1.trans' kp1))).mono ?_
      rintro e w2 ⟨rfl, hk2⟩
      replace B1 := B1.keep hk2
      have b1c := B1.cell
      have b1l := B1.lt
      have kp2 := kp_alloc w2 (.cells #[.string u1, .string u2, .string u3, .int .i64 f] 23)
      go_wp2_with fail
      go_ret
      exact ⟨rfl, (hk1.trans' kp1).trans' (hk2.trans' kp2)⟩

  · obtain ⟨s1, s2, s3, d, hV1⟩ := valV_parts r1
    rw [hV1] at H1
    have x1 : (r1.e != 0) = true := by simp [c1]
    clear hV1 hV2 h1 h2 h e2 c1
    go_enter Tryd.func15, Tryd.ntmps15
    go_wp2_with fail
    refine (H1 _ ht).mono ?_
    rintro e w1 ⟨rfl, hk1⟩
    have kp1 := kp_alloc w1 (.cells #[.string s1, .string s2, .string s3, .int .i64 d] 23)
    have B1 : Blk (w1.alloc (.cells #[.string s1, .string s2, .string s3, .int .i64 d] 23)) w1.heap.size #[.string s1, .string s2, .string s3, .int .i64 d] 23 := Blk.new w1 _ _
    go_wp2_with fail
    refine (H2 _ (ht.keep (hk1.trans' kp1))).mono ?_
    rintro e w2 ⟨rfl, hk2⟩
    replace B1 := B1.keep hk2
    have b1c := B1.cell
    have b1l := B1.lt
    have kp2 := kp_alloc w2 (.cells #[.string u1, .string u2, .string u3, .int .i64 f] 23)
    go_wp2_with fail
    go_ret
    exact ⟨rfl, (hk1.trans' kp1).trans' (hk2.trans' kp2)⟩

end Go.Proofs.YtjahbjjekednfaaDoor
