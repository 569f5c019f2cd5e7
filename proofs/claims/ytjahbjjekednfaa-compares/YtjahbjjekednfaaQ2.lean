import Derived.Test.YtjahbjjekednfaaQ1
namespace Go.Proofs.Ytjahbjjekednfaa
open Go.RowKit

set_option maxHeartbeats 1600000 in
theorem combine_qadd (c : Int) (a b : Qn) (m : Nat) (u v : Value) (w : World) (ha : XN w u a) (hb : XN w v b) (hm : m ≤ 15000000) (fa : QF m a) (fb : QF m b) (da : QD a) (db : QD b) (h0 : c = 43) :
  Calls Try.prog 76 #[u, .int .u8 c, v] w (RetXE w (comb c a b).1 (comb c a b).2) := by
 have HC : comb c a b = qadd a b := by unfold comb; rw [if_pos h0]
 rw [HC]
 clear HC
 have e0 : (c == 43) = true := by simp [h0]
 clear h0
 obtain ⟨b1, ao1, n1, c1, b2, ao2, n2, c2, b3, ao3, n3, c3, rfl, hp, hq, hr⟩ := id ha
 obtain ⟨b4, ao4, n4, c4, b5, ao5, n5, c5, b6, ao6, n6, c6, rfl, hp', hq', hr'⟩ := id hb
 clear hp hq hr hp' hq' hr'
 go_enter Try.func76, Try.ntmps76
 go_wp2_with fail
 have kp0 : Kp w _ := (Kp.alloc' (Kp.alloc' (Kp.alloc' (Below.refl w.heap.size w) (.cells #[.bool b1, .slice ao1 n1 c1, .bool b2, .slice ao2 n2 c2, .bool b3, .slice ao3 n3 c3, .int .i64 a.d] 41)) (.cells #[.bool b4, .slice ao4 n4 c4, .bool b5, .slice ao5 n5 c5, .bool b6, .slice ao6 n6 c6, .int .i64 b.d] 41)) (.cells #[.bool false, .slice none 0 0, .bool false, .slice none 0 0, .bool false, .slice none 0 0, .int .i64 0] 41))
 have sf0 : Sf 2 w _ := (Sf.alloc (Sf.alloc (Sf.alloc (Sf.refl 2 w) (.cells #[.bool b1, .slice ao1 n1 c1, .bool b2, .slice ao2 n2 c2, .bool b3, .slice ao3 n3 c3, .int .i64 a.d] 41)) (.cells #[.bool b4, .slice ao4 n4 c4, .bool b5, .slice ao5 n5 c5, .bool b6, .slice ao6 n6 c6, .int .i64 b.d] 41)) (.cells #[.bool false, .slice none 0 0, .bool false, .slice none 0 0, .bool false, .slice none 0 0, .int .i64 0] 41))
 refine (xadd_any a b m _ _ _ (ha.soft sf0) (hb.soft sf0) (by omega) fa fb da db).mono ?_
 rintro e w1 ⟨v1, rfl, hv1, hk1⟩
 obtain ⟨b7, ao7, n7, c7, b8, ao8, n8, c8, b9, ao9, n9, c9, rfl, g1, g2, g3⟩ := id hv1
 clear g1 g2 g3
 have kq0 := kp0.trans' hk1
 have sq0 := sf0.trans (Sf.keep hk1)
 have B1res : Blk w1 (w.heap.size + 1 + 1) #[.bool false, .slice none 0 0, .bool false, .slice none 0 0, .bool false, .slice none 0 0, .int .i64 0] 41 := Blk.keep hk1 (Blk.at (Blk.new _ _ _) (by simp))
 obtain ⟨B1resc, B1resf, B1resl⟩ := B1res.all
 have ge1res : w.heap.size ≤ w.heap.size + 1 + 1 := by (first | omega | (have := kp0.size; simp only [World.size_alloc, size_setCell', size_drew'] at this; omega))
 generalize hQ : qadd a b = Q at *
 go_wp2_with fail
 refine bodyPost_ret (v := .tuple #[.agg #[.bool b7, .slice ao7 n7 c7, .bool b8, .slice ao8 n8 c8, .bool b9, .slice ao9 n9 c9, .int .i64 Q.1.d], .int .i64 Q.2]) (by simp [results, Try.results76, go_sem, B1resc]) rfl ?_
 have kpE : Kp w _ := (stK7 (A := w.heap.size + 1 + 1) (.bool b7) (.slice ao7 n7 c7) (.bool b8) (.slice ao8 n8 c8) (.bool b9) (.slice ao9 n9 c9) (.int .i64 Q.1.d) kq0 (by have := ge1res; omega))
 have sfE : Sf 2 w1 _ := (stS7 (E := 2) (.bool b7) (.slice ao7 n7 c7) (.bool b8) (.slice ao8 n8 c8) (.bool b9) (.slice ao9 n9 c9) (.int .i64 Q.1.d) B1res (by decide))
 exact ⟨_, rfl, hv1.soft sfE, kpE⟩

set_option maxHeartbeats 1600000 in
theorem combine_qsub (c : Int) (a b : Qn) (m : Nat) (u v : Value) (w : World) (ha : XN w u a) (hb : XN w v b) (hm : m ≤ 15000000) (fa : QF m a) (fb : QF m b) (da : QD a) (db : QD b) (h0 : ¬ c = 43) (h1 : c = 45) :
  Calls Try.prog 76 #[u, .int .u8 c, v] w (RetXE w (comb c a b).1 (comb c a b).2) := by
 have HC : comb c a b = qsub a b := by unfold comb; rw [if_neg h0, if_pos h1]
 rw [HC]
 clear HC
 have e0 : (c == 43) = false := by simp [h0]
 have e1 : (c == 45) = true := by simp [h1]
 clear h0 h1
 obtain ⟨b1, ao1, n1, c1, b2, ao2, n2, c2, b3, ao3, n3, c3, rfl, hp, hq, hr⟩ := id ha
 obtain ⟨b4, ao4, n4, c4, b5, ao5, n5, c5, b6, ao6, n6, c6, rfl, hp', hq', hr'⟩ := id hb
 clear hp hq hr hp' hq' hr'
 go_enter Try.func76, Try.ntmps76
 go_wp2_with fail
 have kp0 : Kp w _ := (Kp.alloc' (Kp.alloc' (Kp.alloc' (Below.refl w.heap.size w) (.cells #[.bool b1, .slice ao1 n1 c1, .bool b2, .slice ao2 n2 c2, .bool b3, .slice ao3 n3 c3, .int .i64 a.d] 41)) (.cells #[.bool b4, .slice ao4 n4 c4, .bool b5, .slice ao5 n5 c5, .bool b6, .slice ao6 n6 c6, .int .i64 b.d] 41)) (.cells #[.bool false, .slice none 0 0, .bool false, .slice none 0 0, .bool false, .slice none 0 0, .int .i64 0] 41))
 have sf0 : Sf 2 w _ := (Sf.alloc (Sf.alloc (Sf.alloc (Sf.refl 2 w) (.cells #[.bool b1, .slice ao1 n1 c1, .bool b2, .slice ao2 n2 c2, .bool b3, .slice ao3 n3 c3, .int .i64 a.d] 41)) (.cells #[.bool b4, .slice ao4 n4 c4, .bool b5, .slice ao5 n5 c5, .bool b6, .slice ao6 n6 c6, .int .i64 b.d] 41)) (.cells #[.bool false, .slice none 0 0, .bool false, .slice none 0 0, .bool false, .slice none 0 0, .int .i64 0] 41))
 refine (xsub_any a b m _ _ _ (ha.soft sf0) (hb.soft sf0) (by omega) fa fb da db).mono ?_
 rintro e w1 ⟨v1, rfl, hv1, hk1⟩
 obtain ⟨b7, ao7, n7, c7, b8, ao8, n8, c8, b9, ao9, n9, c9, rfl, g1, g2, g3⟩ := id hv1
 clear g1 g2 g3
 have kq0 := kp0.trans' hk1
 have sq0 := sf0.trans (Sf.keep hk1)
 have B1res : Blk w1 (w.heap.size + 1 + 1) #[.bool false, .slice none 0 0, .bool false, .slice none 0 0, .bool false, .slice none 0 0, .int .i64 0] 41 := Blk.keep hk1 (Blk.at (Blk.new _ _ _) (by simp))
 obtain ⟨B1resc, B1resf, B1resl⟩ := B1res.all
 have ge1res : w.heap.size ≤ w.heap.size + 1 + 1 := by (first | omega | (have := kp0.size; simp only [World.size_alloc, size_setCell', size_drew'] at this; omega))
 generalize hQ : qsub a b = Q at *
 go_wp2_with fail
 refine bodyPost_ret (v := .tuple #[.agg #[.bool b7, .slice ao7 n7 c7, .bool b8, .slice ao8 n8 c8, .bool b9, .slice ao9 n9 c9, .int .i64 Q.1.d], .int .i64 Q.2]) (by simp [results, Try.results76, go_sem, B1resc]) rfl ?_
 have kpE : Kp w _ := (stK7 (A := w.heap.size + 1 + 1) (.bool b7) (.slice ao7 n7 c7) (.bool b8) (.slice ao8 n8 c8) (.bool b9) (.slice ao9 n9 c9) (.int .i64 Q.1.d) kq0 (by have := ge1res; omega))
 have sfE : Sf 2 w1 _ := (stS7 (E := 2) (.bool b7) (.slice ao7 n7 c7) (.bool b8) (.slice ao8 n8 c8) (.bool b9) (.slice ao9 n9 c9) (.int .i64 Q.1.d) B1res (by decide))
 exact ⟨_, rfl, hv1.soft sfE, kpE⟩

set_option maxHeartbeats 1600000 in
theorem combine_qmul (c : Int) (a b : Qn) (m : Nat) (u v : Value) (w : World) (ha : XN w u a) (hb : XN w v b) (hm : m ≤ 15000000) (fa : QF m a) (fb : QF m b) (da : QD a) (db : QD b) (h0 : ¬ c = 43) (h1 : ¬ c = 45) (h2 : c = 42) :
  Calls Try.prog 76 #[u, .int .u8 c, v] w (RetXE w (comb c a b).1 (comb c a b).2) := by
 have HC : comb c a b = qmul a b := by unfold comb; rw [if_neg h0, if_neg h1, if_pos h2]
 rw [HC]
 clear HC
 have e0 : (c == 43) = false := by simp [h0]
 have e1 : (c == 45) = false := by simp [h1]
 have e2 : (c == 42) = true := by simp [h2]
 clear h0 h1 h2
 obtain ⟨b1, ao1, n1, c1, b2, ao2, n2, c2, b3, ao3, n3, c3, rfl, hp, hq, hr⟩ := id ha
 obtain ⟨b4, ao4, n4, c4, b5, ao5, n5, c5, b6, ao6, n6, c6, rfl, hp', hq', hr'⟩ := id hb
 clear hp hq hr hp' hq' hr'
 go_enter Try.func76, Try.ntmps76
 go_wp2_with fail
 have kp0 : Kp w _ := (Kp.alloc' (Kp.alloc' (Kp.alloc' (Below.refl w.heap.size w) (.cells #[.bool b1, .slice ao1 n1 c1, .bool b2, .slice ao2 n2 c2, .bool b3, .slice ao3 n3 c3, .int .i64 a.d] 41)) (.cells #[.bool b4, .slice ao4 n4 c4, .bool b5, .slice ao5 n5 c5, .bool b6, .slice ao6 n6 c6, .int .i64 b.d] 41)) (.cells #[.bool false, .slice none 0 0, .bool false, .slice none 0 0, .bool false, .slice none 0 0, .int .i64 0] 41))
 have sf0 : Sf 2 w _ := (Sf.alloc (Sf.alloc (Sf.alloc (Sf.refl 2 w) (.cells #[.bool b1, .slice ao1 n1 c1, .bool b2, .slice ao2 n2 c2, .bool b3, .slice ao3 n3 c3, .int .i64 a.d] 41)) (.cells #[.bool b4, .slice ao4 n4 c4, .bool b5, .slice ao5 n5 c5, .bool b6, .slice ao6 n6 c6, .int .i64 b.d] 41)) (.cells #[.bool false, .slice none 0 0, .bool false, .slice none 0 0, .bool false, .slice none 0 0, .int .i64 0] 41))
 refine (xmul_any a b m _ _ _ (ha.soft sf0) (hb.soft sf0) (by omega) fa fb da db).mono ?_
 rintro e w1 ⟨v1, rfl, hv1, hk1⟩
 obtain ⟨b7, ao7, n7, c7, b8, ao8, n8, c8, b9, ao9, n9, c9, rfl, g1, g2, g3⟩ := id hv1
 clear g1 g2 g3
 have kq0 := kp0.trans' hk1
 have sq0 := sf0.trans (Sf.keep hk1)
 have B1res : Blk w1 (w.heap.size + 1 + 1) #[.bool false, .slice none 0 0, .bool false, .slice none 0 0, .bool false, .slice none 0 0, .int .i64 0] 41 := Blk.keep hk1 (Blk.at (Blk.new _ _ _) (by simp))
 obtain ⟨B1resc, B1resf, B1resl⟩ := B1res.all
 have ge1res : w.heap.size ≤ w.heap.size + 1 + 1 := by (first | omega | (have := kp0.size; simp only [World.size_alloc, size_setCell', size_drew'] at this; omega))
 generalize hQ : qmul a b = Q at *
 go_wp2_with fail
 refine bodyPost_ret (v := .tuple #[.agg #[.bool b7, .slice ao7 n7 c7, .bool b8, .slice ao8 n8 c8, .bool b9, .slice ao9 n9 c9, .int .i64 Q.1.d], .int .i64 Q.2]) (by simp [results, Try.results76, go_sem, B1resc]) rfl ?_
 have kpE : Kp w _ := (stK7 (A := w.heap.size + 1 + 1) (.bool b7) (.slice ao7 n7 c7) (.bool b8) (.slice ao8 n8 c8) (.bool b9) (.slice ao9 n9 c9) (.int .i64 Q.1.d) kq0 (by have := ge1res; omega))
 have sfE : Sf 2 w1 _ := (stS7 (E := 2) (.bool b7) (.slice ao7 n7 c7) (.bool b8) (.slice ao8 n8 c8) (.bool b9) (.slice ao9 n9 c9) (.int .i64 Q.1.d) B1res (by decide))
 exact ⟨_, rfl, hv1.soft sfE, kpE⟩

set_option maxHeartbeats 1600000 in
theorem combine_qdiv (c : Int) (a b : Qn) (m : Nat) (u v : Value) (w : World) (ha : XN w u a) (hb : XN w v b) (hm : m ≤ 15000000) (fa : QF m a) (fb : QF m b) (da : QD a) (db : QD b) (h0 : ¬ c = 43) (h1 : ¬ c = 45) (h2 : ¬ c = 42) :
  Calls Try.prog 76 #[u, .int .u8 c, v] w (RetXE w (comb c a b).1 (comb c a b).2) := by
 have HC : comb c a b = qdiv a b := by unfold comb; rw [if_neg h0, if_neg h1, if_neg h2]
 rw [HC]
 clear HC
 have e0 : (c == 43) = false := by simp [h0]
 have e1 : (c == 45) = false := by simp [h1]
 have e2 : (c == 42) = false := by simp [h2]
 clear h0 h1 h2
 obtain ⟨b1, ao1, n1, c1, b2, ao2, n2, c2, b3, ao3, n3, c3, rfl, hp, hq, hr⟩ := id ha
 obtain ⟨b4, ao4, n4, c4, b5, ao5, n5, c5, b6, ao6, n6, c6, rfl, hp', hq', hr'⟩ := id hb
 clear hp hq hr hp' hq' hr'
 go_enter Try.func76, Try.ntmps76
 go_wp2_with fail
 have kp0 : Kp w _ := (Kp.alloc' (Kp.alloc' (Kp.alloc' (Below.refl w.heap.size w) (.cells #[.bool b1, .slice ao1 n1 c1, .bool b2, .slice ao2 n2 c2, .bool b3, .slice ao3 n3 c3, .int .i64 a.d] 41)) (.cells #[.bool b4, .slice ao4 n4 c4, .bool b5, .slice ao5 n5 c5, .bool b6, .slice ao6 n6 c6, .int .i64 b.d] 41)) (.cells #[.bool false, .slice none 0 0, .bool false, .slice none 0 0, .bool false, .slice none 0 0, .int .i64 0] 41))
 have sf0 : Sf 2 w _ := (Sf.alloc (Sf.alloc (Sf.alloc (Sf.refl 2 w) (.cells #[.bool b1, .slice ao1 n1 c1, .bool b2, .slice ao2 n2 c2, .bool b3, .slice ao3 n3 c3, .int .i64 a.d] 41)) (.cells #[.bool b4, .slice ao4 n4 c4, .bool b5, .slice ao5 n5 c5, .bool b6, .slice ao6 n6 c6, .int .i64 b.d] 41)) (.cells #[.bool false, .slice none 0 0, .bool false, .slice none 0 0, .bool false, .slice none 0 0, .int .i64 0] 41))
 refine (xdiv_any a b m _ _ _ (ha.soft sf0) (hb.soft sf0) (by omega) fa fb da db).mono ?_
 rintro e w1 ⟨v1, rfl, hv1, hk1⟩
 obtain ⟨b7, ao7, n7, c7, b8, ao8, n8, c8, b9, ao9, n9, c9, rfl, g1, g2, g3⟩ := id hv1
 clear g1 g2 g3
 have kq0 := kp0.trans' hk1
 have sq0 := sf0.trans (Sf.keep hk1)
 have B1res : Blk w1 (w.heap.size + 1 + 1) #[.bool false, .slice none 0 0, .bool false, .slice none 0 0, .bool false, .slice none 0 0, .int .i64 0] 41 := Blk.keep hk1 (Blk.at (Blk.new _ _ _) (by simp))
 obtain ⟨B1resc, B1resf, B1resl⟩ := B1res.all
 have ge1res : w.heap.size ≤ w.heap.size + 1 + 1 := by (first | omega | (have := kp0.size; simp only [World.size_alloc, size_setCell', size_drew'] at this; omega))
 generalize hQ : qdiv a b = Q at *
 go_wp2_with fail
 refine bodyPost_ret (v := .tuple #[.agg #[.bool b7, .slice ao7 n7 c7, .bool b8, .slice ao8 n8 c8, .bool b9, .slice ao9 n9 c9, .int .i64 Q.1.d], .int .i64 Q.2]) (by simp [results, Try.results76, go_sem, B1resc]) rfl ?_
 have kpE : Kp w _ := (stK7 (A := w.heap.size + 1 + 1) (.bool b7) (.slice ao7 n7 c7) (.bool b8) (.slice ao8 n8 c8) (.bool b9) (.slice ao9 n9 c9) (.int .i64 Q.1.d) kq0 (by have := ge1res; omega))
 have sfE : Sf 2 w1 _ := (stS7 (E := 2) (.bool b7) (.slice ao7 n7 c7) (.bool b8) (.slice ao8 n8 c8) (.bool b9) (.slice ao9 n9 c9) (.int .i64 Q.1.d) B1res (by decide))
 exact ⟨_, rfl, hv1.soft sfE, kpE⟩

theorem combine_any (c : Int) (a b : Qn) (m : Nat) (u v : Value) (w : World) (ha : XN w u a) (hb : XN w v b) (hm : m ≤ 15000000) (fa : QF m a) (fb : QF m b) (da : QD a) (db : QD b) :
  Calls Try.prog 76 #[u, .int .u8 c, v] w (RetXE w (comb c a b).1 (comb c a b).2) := by
 by_cases h0 : c = 43
 ·exact combine_qadd c a b m u v w ha hb hm fa fb da db h0
 by_cases h1 : c = 45
 ·exact combine_qsub c a b m u v w ha hb hm fa fb da db h0 h1
 by_cases h2 : c = 42
 ·exact combine_qmul c a b m u v w ha hb hm fa fb da db h0 h1 h2
 ·exact combine_qdiv c a b m u v w ha hb hm fa fb da db h0 h1 h2

theorem KeepsBut.of_kp {c : Nat} {x w : World} (h : Kp x w) : KeepsBut c x w := ⟨h.os, h.tape, h.output, h.size, fun k hk _ => h.block k hk⟩
theorem KeepsBut.setNew {c d o : Nat} {x w : World} {y : Value} (h : KeepsBut c x w) (hd : x.heap.size ≤ d) : KeepsBut c x (w.setCell ⟨d, o, none⟩ y) :=
 ⟨h.os, h.tape, h.output, by simpa [World.setCell] using h.size, fun k hk hc => (Below.heap_setCell _ _ _ _ (show k ≠ d by omega)).trans (h.block k hk hc)⟩
theorem Blk.but {c : Nat} {w w' : World} {b : Nat} {cs : Array Value} {t : TypeId} (hk : KeepsBut c w w') (hb : b ≠ c) (h : Blk w b cs t) : Blk w' b cs t := by
 unfold Blk
 rw [hk.block b h.lt hb]; exact h

/-- What a reading leaves: the value; the reader behind it; all else as it was. -/
def RetO (b : Nat) (s : ByteArray) (p : Int) (r : Rs) (w : World) (e : Ending) (w' : World) : Prop :=
 ∃ v, e = .returned v ∧ XN w' v r.v ∧ Blk w' b #[.string s, .int .i64 p, .int .i64 r.e, .int .i64 r.k] 62 ∧ KeepsBut b w w'

set_option maxHeartbeats 1600000 in
theorem operate_e (s : ByteArray) (i : Int) (er ea c : Int) (p : Nat) (a : Rs) (bq : Qn) (b : Nat) (u v : Value) (w : World) (hB : Blk w b #[.string s, .int .i64 i, .int .i64 er, .int .i64 ea] 62) (ha : XN w u a.v) (hb : XN w v bq) (h1 : er ≠ 0) :
  Calls Try.prog 47 #[.pointer (some ⟨b, 0, none⟩), u, .int .u8 c, .int .i64 p, v] w (RetO b s i ⟨a.v, er, ea⟩ w) := by
 have e1 : (er != 0) = true := by simp [h1]
 have hl := hB.lt
 have hc := hB.cell
 clear h1
 obtain ⟨b1, ao1, n1, c1, b2, ao2, n2, c2, b3, ao3, n3, c3, rfl, hp, hq, hr⟩ := id ha
 obtain ⟨b4, ao4, n4, c4, b5, ao5, n5, c5, b6, ao6, n6, c6, rfl, hp', hq', hr'⟩ := id hb
 clear hp hq hr hp' hq' hr'
 have hB3 : Blk (((w.alloc (.cells #[.bool b1, .slice ao1 n1 c1, .bool b2, .slice ao2 n2 c2, .bool b3, .slice ao3 n3 c3, .int .i64 a.v.d] 41)).alloc (.cells #[.bool b4, .slice ao4 n4 c4, .bool b5, .slice ao5 n5 c5, .bool b6, .slice ao6 n6 c6, .int .i64 bq.d] 41)).alloc (.cells #[.bool false, .slice none 0 0, .bool false, .slice none 0 0, .bool false, .slice none 0 0, .int .i64 0] 41)) b #[.string s, .int .i64 i, .int .i64 er, .int .i64 ea] 62 := Blk.alloc (Blk.alloc (Blk.alloc hB (.cells #[.bool b1, .slice ao1 n1 c1, .bool b2, .slice ao2 n2 c2, .bool b3, .slice ao3 n3 c3, .int .i64 a.v.d] 41)) (.cells #[.bool b4, .slice ao4 n4 c4, .bool b5, .slice ao5 n5 c5, .bool b6, .slice ao6 n6 c6, .int .i64 bq.d] 41)) (.cells #[.bool false, .slice none 0 0, .bool false, .slice none 0 0, .bool false, .slice none 0 0, .int .i64 0] 41)
 have hc3 := hB3.cell
 have hl3 := hB3.lt
 go_enter Try.func47, Try.ntmps47
 go_wp2_with fail
 refine bodyPost_ret (v := .agg #[.bool b1, .slice ao1 n1 c1, .bool b2, .slice ao2 n2 c2, .bool b3, .slice ao3 n3 c3, .int .i64 a.v.d]) (by simp [results, Try.results47, go_sem]) rfl ?_
 have kpE : Kp w _ := (Kp.alloc' (Kp.alloc' (Kp.alloc' (Below.refl w.heap.size w) (.cells #[.bool b1, .slice ao1 n1 c1, .bool b2, .slice ao2 n2 c2, .bool b3, .slice ao3 n3 c3, .int .i64 a.v.d] 41)) (.cells #[.bool b4, .slice ao4 n4 c4, .bool b5, .slice ao5 n5 c5, .bool b6, .slice ao6 n6 c6, .int .i64 bq.d] 41)) (.cells #[.bool b1, .slice ao1 n1 c1, .bool b2, .slice ao2 n2 c2, .bool b3, .slice ao3 n3 c3, .int .i64 a.v.d] 41))
 have sfE : Sf 2 w _ := (Sf.alloc (Sf.alloc (Sf.alloc (Sf.refl 2 w) (.cells #[.bool b1, .slice ao1 n1 c1, .bool b2, .slice ao2 n2 c2, .bool b3, .slice ao3 n3 c3, .int .i64 a.v.d] 41)) (.cells #[.bool b4, .slice ao4 n4 c4, .bool b5, .slice ao5 n5 c5, .bool b6, .slice ao6 n6 c6, .int .i64 bq.d] 41)) (.cells #[.bool b1, .slice ao1 n1 c1, .bool b2, .slice ao2 n2 c2, .bool b3, .slice ao3 n3 c3, .int .i64 a.v.d] 41))
 exact ⟨_, rfl, ha.soft sfE, (Blk.alloc (Blk.alloc (Blk.alloc hB (.cells #[.bool b1, .slice ao1 n1 c1, .bool b2, .slice ao2 n2 c2, .bool b3, .slice ao3 n3 c3, .int .i64 a.v.d] 41)) (.cells #[.bool b4, .slice ao4 n4 c4, .bool b5, .slice ao5 n5 c5, .bool b6, .slice ao6 n6 c6, .int .i64 bq.d] 41)) (.cells #[.bool b1, .slice ao1 n1 c1, .bool b2, .slice ao2 n2 c2, .bool b3, .slice ao3 n3 c3, .int .i64 a.v.d] 41)), KeepsBut.of_kp kpE⟩


set_option maxHeartbeats 1600000 in
theorem operate_ok (s : ByteArray) (i : Int) (er ea c : Int) (p : Nat) (a : Rs) (bq : Qn) (m : Nat) (b : Nat) (u v : Value) (w : World) (hB : Blk w b #[.string s, .int .i64 i, .int .i64 er, .int .i64 ea] 62) (ha : XN w u a.v) (hb : XN w v bq) (h1 : er = 0) (h2 : (comb c a.v bq).2 = 0) (hm : m ≤ 15000000) (fa : QF m a.v) (fb : QF m bq) (da : QD a.v) (db : QD bq) :
  Calls Try.prog 47 #[.pointer (some ⟨b, 0, none⟩), u, .int .u8 c, .int .i64 p, v] w (RetO b s i ⟨(comb c a.v bq).1, 0, ea⟩ w) := by
 subst h1
 have hl := hB.lt
 have hc := hB.cell
 have hf := hB.frozen
 obtain ⟨b1, ao1, n1, c1, b2, ao2, n2, c2, b3, ao3, n3, c3, rfl, hp, hq, hr⟩ := id ha
 obtain ⟨b4, ao4, n4, c4, b5, ao5, n5, c5, b6, ao6, n6, c6, rfl, hp', hq', hr'⟩ := id hb
 clear hp hq hr hp' hq' hr'
 have hB3 : Blk (((w.alloc (.cells #[.bool b1, .slice ao1 n1 c1, .bool b2, .slice ao2 n2 c2, .bool b3, .slice ao3 n3 c3, .int .i64 a.v.d] 41)).alloc (.cells #[.bool b4, .slice ao4 n4 c4, .bool b5, .slice ao5 n5 c5, .bool b6, .slice ao6 n6 c6, .int .i64 bq.d] 41)).alloc (.cells #[.bool false, .slice none 0 0, .bool false, .slice none 0 0, .bool false, .slice none 0 0, .int .i64 0] 41)) b #[.string s, .int .i64 i, .int .i64 0, .int .i64 ea] 62 := Blk.alloc (Blk.alloc (Blk.alloc hB (.cells #[.bool b1, .slice ao1 n1 c1, .bool b2, .slice ao2 n2 c2, .bool b3, .slice ao3 n3 c3, .int .i64 a.v.d] 41)) (.cells #[.bool b4, .slice ao4 n4 c4, .bool b5, .slice ao5 n5 c5, .bool b6, .slice ao6 n6 c6, .int .i64 bq.d] 41)) (.cells #[.bool false, .slice none 0 0, .bool false, .slice none 0 0, .bool false, .slice none 0 0, .int .i64 0] 41)
 have hc3 := hB3.cell
 have hl3 := hB3.lt
 go_enter Try.func47, Try.ntmps47
 go_wp2_with fail
 have kp0 : Kp w _ := (Kp.alloc' (Kp.alloc' (Kp.alloc' (Below.refl w.heap.size w) (.cells #[.bool b1, .slice ao1 n1 c1, .bool b2, .slice ao2 n2 c2, .bool b3, .slice ao3 n3 c3, .int .i64 a.v.d] 41)) (.cells #[.bool b4, .slice ao4 n4 c4, .bool b5, .slice ao5 n5 c5, .bool b6, .slice ao6 n6 c6, .int .i64 bq.d] 41)) (.cells #[.bool false, .slice none 0 0, .bool false, .slice none 0 0, .bool false, .slice none 0 0, .int .i64 0] 41))
 have sf0 : Sf 2 w _ := (Sf.alloc (Sf.alloc (Sf.alloc (Sf.refl 2 w) (.cells #[.bool b1, .slice ao1 n1 c1, .bool b2, .slice ao2 n2 c2, .bool b3, .slice ao3 n3 c3, .int .i64 a.v.d] 41)) (.cells #[.bool b4, .slice ao4 n4 c4, .bool b5, .slice ao5 n5 c5, .bool b6, .slice ao6 n6 c6, .int .i64 bq.d] 41)) (.cells #[.bool false, .slice none 0 0, .bool false, .slice none 0 0, .bool false, .slice none 0 0, .int .i64 0] 41))
 refine (combine_any c a.v bq m _ _ _ (ha.soft sf0) (hb.soft sf0) hm fa fb da db).mono ?_
 rintro e w1 ⟨v1, rfl, hv1, hk1⟩
 obtain ⟨b7, ao7, n7, c7, b8, ao8, n8, c8, b9, ao9, n9, c9, rfl, g1, g2, g3⟩ := id hv1
 clear g1 g2 g3
 replace hB : Blk w1 b #[.string s, .int .i64 i, .int .i64 0, .int .i64 ea] 62 := Blk.keep hk1 (Blk.alloc (Blk.alloc (Blk.alloc hB _) _) _)
 replace hc := hB.cell
 replace hf := hB.frozen
 have hl1 := hB.lt
 clear hB3 hc3 hl3
 have kq0 := kp0.trans' hk1
 have sq0 := sf0.trans (Sf.keep hk1)
 have B1res : Blk w1 (w.heap.size + 1 + 1) #[.bool false, .slice none 0 0, .bool false, .slice none 0 0, .bool false, .slice none 0 0, .int .i64 0] 41 := Blk.keep hk1 (Blk.at (Blk.new _ _ _) (by simp))
 obtain ⟨B1resc, B1resf, B1resl⟩ := B1res.all
 have ge1res : w.heap.size ≤ w.heap.size + 1 + 1 := by (first | omega | (have := kp0.size; simp only [World.size_alloc, size_setCell', size_drew'] at this; omega))
 generalize hQ : comb c a.v bq = Q at *
 rw [h2]
 clear h2
 go_wp2_with fail
 refine bodyPost_ret (v := .agg #[.bool b7, .slice ao7 n7 c7, .bool b8, .slice ao8 n8 c8, .bool b9, .slice ao9 n9 c9, .int .i64 Q.1.d]) (by simp [results, Try.results47, go_sem, B1resc, B1resl]) rfl ?_
 exact ⟨_, rfl, hv1.soft (Sf.alloc (stS7 (E := 2) (.bool b7) (.slice ao7 n7 c7) (.bool b8) (.slice ao8 n8 c8) (.bool b9) (.slice ao9 n9 c9) (.int .i64 Q.1.d) B1res (by decide)) (.cells #[.bool b7, .slice ao7 n7 c7, .bool b8, .slice ao8 n8 c8, .bool b9, .slice ao9 n9 c9, .int .i64 Q.1.d] 41)), (Blk.alloc (Blk.other (Blk.other (Blk.other (Blk.other (Blk.other (Blk.other (Blk.other hB (by omega)) (by omega)) (by omega)) (by omega)) (by omega)) (by omega)) (by omega)) (.cells #[.bool b7, .slice ao7 n7 c7, .bool b8, .slice ao8 n8 c8, .bool b9, .slice ao9 n9 c9, .int .i64 Q.1.d] 41)), (KeepsBut.alloc (KeepsBut.setNew (d := w.heap.size + 1 + 1) (o := 6) (y := .int .i64 Q.1.d) (KeepsBut.setNew (d := w.heap.size + 1 + 1) (o := 5) (y := .slice ao9 n9 c9) (KeepsBut.setNew (d := w.heap.size + 1 + 1) (o := 4) (y := .bool b9) (KeepsBut.setNew (d := w.heap.size + 1 + 1) (o := 3) (y := .slice ao8 n8 c8) (KeepsBut.setNew (d := w.heap.size + 1 + 1) (o := 2) (y := .bool b8) (KeepsBut.setNew (d := w.heap.size + 1 + 1) (o := 1) (y := .slice ao7 n7 c7) (KeepsBut.setNew (d := w.heap.size + 1 + 1) (o := 0) (y := .bool b7) (KeepsBut.of_kp kq0) (by have := ge1res; omega)) (by have := ge1res; omega)) (by have := ge1res; omega)) (by have := ge1res; omega)) (by have := ge1res; omega)) (by have := ge1res; omega)) (by have := ge1res; omega)) (.cells #[.bool b7, .slice ao7 n7 c7, .bool b8, .slice ao8 n8 c8, .bool b9, .slice ao9 n9 c9, .int .i64 Q.1.d] 41))⟩


set_option maxHeartbeats 1600000 in
theorem operate_bad (s : ByteArray) (i : Int) (er ea c : Int) (p : Nat) (a : Rs) (bq : Qn) (m : Nat) (b : Nat) (u v : Value) (w : World) (hB : Blk w b #[.string s, .int .i64 i, .int .i64 er, .int .i64 ea] 62) (ha : XN w u a.v) (hb : XN w v bq) (h1 : er = 0) (h2 : (comb c a.v bq).2 ≠ 0) (hm : m ≤ 15000000) (fa : QF m a.v) (fb : QF m bq) (da : QD a.v) (db : QD bq) :
  Calls Try.prog 47 #[.pointer (some ⟨b, 0, none⟩), u, .int .u8 c, .int .i64 p, v] w (RetO b s i ⟨(comb c a.v bq).1, (comb c a.v bq).2, p⟩ w) := by
 subst h1
 have hl := hB.lt
 have hc := hB.cell
 have hf := hB.frozen
 obtain ⟨b1, ao1, n1, c1, b2, ao2, n2, c2, b3, ao3, n3, c3, rfl, hp, hq, hr⟩ := id ha
 obtain ⟨b4, ao4, n4, c4, b5, ao5, n5, c5, b6, ao6, n6, c6, rfl, hp', hq', hr'⟩ := id hb
 clear hp hq hr hp' hq' hr'
 have hB3 : Blk (((w.alloc (.cells #[.bool b1, .slice ao1 n1 c1, .bool b2, .slice ao2 n2 c2, .bool b3, .slice ao3 n3 c3, .int .i64 a.v.d] 41)).alloc (.cells #[.bool b4, .slice ao4 n4 c4, .bool b5, .slice ao5 n5 c5, .bool b6, .slice ao6 n6 c6, .int .i64 bq.d] 41)).alloc (.cells #[.bool false, .slice none 0 0, .bool false, .slice none 0 0, .bool false, .slice none 0 0, .int .i64 0] 41)) b #[.string s, .int .i64 i, .int .i64 0, .int .i64 ea] 62 := Blk.alloc (Blk.alloc (Blk.alloc hB (.cells #[.bool b1, .slice ao1 n1 c1, .bool b2, .slice ao2 n2 c2, .bool b3, .slice ao3 n3 c3, .int .i64 a.v.d] 41)) (.cells #[.bool b4, .slice ao4 n4 c4, .bool b5, .slice ao5 n5 c5, .bool b6, .slice ao6 n6 c6, .int .i64 bq.d] 41)) (.cells #[.bool false, .slice none 0 0, .bool false, .slice none 0 0, .bool false, .slice none 0 0, .int .i64 0] 41)
 have hc3 := hB3.cell
 have hl3 := hB3.lt
 go_enter Try.func47, Try.ntmps47
 go_wp2_with fail
 have kp0 : Kp w _ := (Kp.alloc' (Kp.alloc' (Kp.alloc' (Below.refl w.heap.size w) (.cells #[.bool b1, .slice ao1 n1 c1, .bool b2, .slice ao2 n2 c2, .bool b3, .slice ao3 n3 c3, .int .i64 a.v.d] 41)) (.cells #[.bool b4, .slice ao4 n4 c4, .bool b5, .slice ao5 n5 c5, .bool b6, .slice ao6 n6 c6, .int .i64 bq.d] 41)) (.cells #[.bool false, .slice none 0 0, .bool false, .slice none 0 0, .bool false, .slice none 0 0, .int .i64 0] 41))
 have sf0 : Sf 2 w _ := (Sf.alloc (Sf.alloc (Sf.alloc (Sf.refl 2 w) (.cells #[.bool b1, .slice ao1 n1 c1, .bool b2, .slice ao2 n2 c2, .bool b3, .slice ao3 n3 c3, .int .i64 a.v.d] 41)) (.cells #[.bool b4, .slice ao4 n4 c4, .bool b5, .slice ao5 n5 c5, .bool b6, .slice ao6 n6 c6, .int .i64 bq.d] 41)) (.cells #[.bool false, .slice none 0 0, .bool false, .slice none 0 0, .bool false, .slice none 0 0, .int .i64 0] 41))
 refine (combine_any c a.v bq m _ _ _ (ha.soft sf0) (hb.soft sf0) hm fa fb da db).mono ?_
 rintro e w1 ⟨v1, rfl, hv1, hk1⟩
 obtain ⟨b7, ao7, n7, c7, b8, ao8, n8, c8, b9, ao9, n9, c9, rfl, g1, g2, g3⟩ := id hv1
 clear g1 g2 g3
 replace hB : Blk w1 b #[.string s, .int .i64 i, .int .i64 0, .int .i64 ea] 62 := Blk.keep hk1 (Blk.alloc (Blk.alloc (Blk.alloc hB _) _) _)
 replace hc := hB.cell
 replace hf := hB.frozen
 have hl1 := hB.lt
 clear hB3 hc3 hl3
 have kq0 := kp0.trans' hk1
 have sq0 := sf0.trans (Sf.keep hk1)
 have B1res : Blk w1 (w.heap.size + 1 + 1) #[.bool false, .slice none 0 0, .bool false, .slice none 0 0, .bool false, .slice none 0 0, .int .i64 0] 41 := Blk.keep hk1 (Blk.at (Blk.new _ _ _) (by simp))
 obtain ⟨B1resc, B1resf, B1resl⟩ := B1res.all
 have ge1res : w.heap.size ≤ w.heap.size + 1 + 1 := by (first | omega | (have := kp0.size; simp only [World.size_alloc, size_setCell', size_drew'] at this; omega))
 generalize hQ : comb c a.v bq = Q at *
 have e2 : (Q.2 != 0) = true := by simp [h2]
 clear h2
 go_wp2_with fail
 refine bodyPost_ret (v := .agg #[.bool b7, .slice ao7 n7 c7, .bool b8, .slice ao8 n8 c8, .bool b9, .slice ao9 n9 c9, .int .i64 Q.1.d]) (by simp [results, Try.results47, go_sem, B1resc, B1resl]) rfl ?_
 exact ⟨_, rfl, hv1.soft (Sf.alloc (Sf.set (t := 41) (c := w.heap.size + 1 + 1) (o := 6) (y := .int .i64 Q.1.d) (Sf.set (t := 41) (c := w.heap.size + 1 + 1) (o := 5) (y := .slice ao9 n9 c9) (Sf.set (t := 41) (c := w.heap.size + 1 + 1) (o := 4) (y := .bool b9) (Sf.set (t := 41) (c := w.heap.size + 1 + 1) (o := 3) (y := .slice ao8 n8 c8) (Sf.set (t := 41) (c := w.heap.size + 1 + 1) (o := 2) (y := .bool b8) (Sf.set (t := 41) (c := w.heap.size + 1 + 1) (o := 1) (y := .slice ao7 n7 c7) (Sf.set (t := 41) (c := w.heap.size + 1 + 1) (o := 0) (y := .bool b7) (Sf.set (t := 62) (c := b) (o := 3) (y := .int .i64 p) (Sf.set (t := 62) (c := b) (o := 2) (y := .int .i64 Q.2) (Sf.refl 2 w1) (by first | (simp only [elemOf_setCell]; exact hB.elem) | exact hB.elem) (by decide)) (by first | (simp only [elemOf_setCell]; exact hB.elem) | exact hB.elem) (by decide)) (by first | (simp only [elemOf_setCell]; exact B1res.elem) | exact B1res.elem) (by decide)) (by first | (simp only [elemOf_setCell]; exact B1res.elem) | exact B1res.elem) (by decide)) (by first | (simp only [elemOf_setCell]; exact B1res.elem) | exact B1res.elem) (by decide)) (by first | (simp only [elemOf_setCell]; exact B1res.elem) | exact B1res.elem) (by decide)) (by first | (simp only [elemOf_setCell]; exact B1res.elem) | exact B1res.elem) (by decide)) (by first | (simp only [elemOf_setCell]; exact B1res.elem) | exact B1res.elem) (by decide)) (by first | (simp only [elemOf_setCell]; exact B1res.elem) | exact B1res.elem) (by decide)) (.cells #[.bool b7, .slice ao7 n7 c7, .bool b8, .slice ao8 n8 c8, .bool b9, .slice ao9 n9 c9, .int .i64 Q.1.d] 41)), (Blk.alloc (Blk.other (Blk.other (Blk.other (Blk.other (Blk.other (Blk.other (Blk.other (Blk.set (o := 3) (y := .int .i64 p) (Blk.set (o := 2) (y := .int .i64 Q.2) hB)) (by omega)) (by omega)) (by omega)) (by omega)) (by omega)) (by omega)) (by omega)) (.cells #[.bool b7, .slice ao7 n7 c7, .bool b8, .slice ao8 n8 c8, .bool b9, .slice ao9 n9 c9, .int .i64 Q.1.d] 41)), (KeepsBut.alloc (KeepsBut.setNew (d := w.heap.size + 1 + 1) (o := 6) (y := .int .i64 Q.1.d) (KeepsBut.setNew (d := w.heap.size + 1 + 1) (o := 5) (y := .slice ao9 n9 c9) (KeepsBut.setNew (d := w.heap.size + 1 + 1) (o := 4) (y := .bool b9) (KeepsBut.setNew (d := w.heap.size + 1 + 1) (o := 3) (y := .slice ao8 n8 c8) (KeepsBut.setNew (d := w.heap.size + 1 + 1) (o := 2) (y := .bool b8) (KeepsBut.setNew (d := w.heap.size + 1 + 1) (o := 1) (y := .slice ao7 n7 c7) (KeepsBut.setNew (d := w.heap.size + 1 + 1) (o := 0) (y := .bool b7) (KeepsBut.setCell (KeepsBut.setCell (KeepsBut.of_kp kq0) 2 (.int .i64 Q.2)) 3 (.int .i64 p)) (by have := ge1res; omega)) (by have := ge1res; omega)) (by have := ge1res; omega)) (by have := ge1res; omega)) (by have := ge1res; omega)) (by have := ge1res; omega)) (by have := ge1res; omega)) (.cells #[.bool b7, .slice ao7 n7 c7, .bool b8, .slice ao8 n8 c8, .bool b9, .slice ao9 n9 c9, .int .i64 Q.1.d] 41))⟩

end Go.Proofs.Ytjahbjjekednfaa

namespace Go.Proofs.Ytjahbjjekednfaa
open Go.RowKit

theorem operate_any (s : ByteArray) (i : Int) (c : Int) (p : Nat) (a r : Rs) (m : Nat) (b : Nat) (u v : Value) (w : World) (hB : Blk w b #[.string s, .int .i64 i, .int .i64 r.e, .int .i64 r.k] 62) (ha : XN w u a.v) (hb : XN w v r.v)
  (h1 : a.e = 0) (hm : m ≤ 15000000) (fa : RsOk m a) (fb : RsOk m r) :
  Calls Try.prog 47 #[.pointer (some ⟨b, 0, none⟩), u, .int .u8 c, .int .i64 p, v] w (RetO b s i (opR c p a r) w) := by
 by_cases h2 : r.e = 0
 ·by_cases h3 : (comb c a.v r.v).2 = 0
  ·have e : opR c p a r = ⟨(comb c a.v r.v).1, 0, r.k⟩ := by
    unfold opR
    rw [if_neg (by omega), if_neg (by omega), h3, if_pos rfl, fb.k h2]
   rw [e]
   exact operate_ok s i r.e r.k c p a r.v m b u v w hB ha hb h2 h3 hm fa.f fb.f fa.d fb.d
  ·have e : opR c p a r = ⟨(comb c a.v r.v).1, (comb c a.v r.v).2, p⟩ := by
    unfold opR
    rw [if_neg (by omega), if_neg (by omega), if_neg h3]
   rw [e]
   exact operate_bad s i r.e r.k c p a r.v m b u v w hB ha hb h2 h3 hm fa.f fb.f fa.d fb.d
 ·have e : opR c p a r = ⟨a.v, r.e, r.k⟩ := by
   unfold opR
   rw [if_neg (by omega), if_pos h2]
  rw [e]
  exact operate_e s i r.e r.k c p a r.v b u v w hB ha hb h2

/-- A call that has read up to a place, or come to an error ahead of it. -/
def RetS (b : Nat) (s : ByteArray) (q : Nat) (r : Rs) (w : World) (e : Ending) (w' : World) : Prop :=
 ∃ v, ∃ i : Nat, e = .returned v ∧ XN w' v r.v ∧ Blk w' b #[.string s, .int .i64 i, .int .i64 r.e, .int .i64 r.k] 62 ∧ (r.e = 0 → i = q) ∧ i ≤ q ∧ KeepsBut b w w'
/-- A function reads what F tells, where nothing of P comes next. -/
def Rds (f : Nat) (F : List Int → Nat → Rs → Prop) (P : Int → Prop) : Prop := ∀ (s : ByteArray) (p : Nat) (t post : List Int) (r : Rs) (b : Nat) (w : World), s.size ≤ 100 → At s p (t ++ post) → F t p r → Hd P post →
 Blk w b #[.string s, .int .i64 p, .int .i64 0, .int .i64 0] 62 → Calls Try.prog f #[.pointer (some ⟨b, 0, none⟩)] w (RetS b s (p + t.length) r w)
/-- A factor without a sign ahead. -/
def Bare (n : Nat) (core : List Int) (p : Nat) (r : Rs) : Prop := Atom core r ∨ ∃ n' t, n = n' + 1 ∧ core = 40 :: (t ++ [41]) ∧ Sm n' t (p + 1) r
theorem fc_bare {n : Nat} {s : List Int} {p : Nat} {r : Rs} (h : Fc n s p r) : ∃ m core r0, s = List.replicate m 45 ++ core ∧ Bare n core (p + m) r0 ∧ r = negs m r0 := by
 cases n with
 | zero =>
  obtain ⟨m, core, r0, h1, h2, h3⟩ := h
  exact ⟨m, core, r0, h1, Or.inl h2, h3⟩
 | succ n =>
  obtain ⟨m, core, r0, h1, h2, h3⟩ := h
  refine ⟨m, core, r0, h1, ?_, h3⟩
  rcases h2 with h2 | ⟨t, h4, h5⟩
  ·exact Or.inl h2
  ·exact Or.inr ⟨n, t, rfl, h4, h5⟩
def closes (c : Int) : Prop := (isD c ∨ mulOp c) ∨ addOp c

theorem Sf.butB {b : Nat} {w W : World} {cs : Array Value} (hB : Blk w b cs 62) (h : KeepsBut b w W) : Sf 2 w W := Sf.but h (by rw [hB.elem]; decide)

set_option maxHeartbeats 1600000 in
theorem bare_num (s : ByteArray) (p : Nat) (t post : List Int) (b : Nat) (w : World) (hs : s.size ≤ 100) (hat : At s p (t ++ post)) (ht : t ≠ []) (hl : t.length ≤ 18) (hd : Digs t) (hh : Hd isD post) (hB : Blk w b #[.string s, .int .i64 p, .int .i64 0, .int .i64 0] 62) :
  Calls Try.prog 91 #[.pointer (some ⟨b, 0, none⟩)] w (RetS b s (p + t.length) ⟨⟨decN t, 0, 1, 1⟩, 0, 0⟩ w) := by
 have hsz := hat.size
 have hlp : 0 < t.length := List.length_pos_iff.mpr ht
 have hp : p ≤ 1000 := by omega
 have hdig : isDig (byteAt s p) = true := by
  have := hat.byte 0
  rw [Nat.add_zero, at0_append_lt hlp] at this
  rw [this]; exact digs_at hd hlp
 have hbd := isDig_bd hdig
 have e1 : (byteAt s p == 40) = false := by simp; omega
 have e2 : (byteAt s p == 114) = false := by simp; omega
 have hn := decN_bd hd
 have hn2 : decN t ≤ 9223372036854775807 := by
  have : (10 : Int) ^ t.length ≤ 10 ^ 18 := by exact_mod_cast Nat.pow_le_pow_right (show 0 < 10 by decide) hl
  omega
 have hbl := hB.lt
 have hB1 : Blk (w.alloc (.cells #[.bool false, .slice none 0 0, .bool false, .slice none 0 0, .bool false, .slice none 0 0, .int .i64 0] 41)) b #[.string s, .int .i64 p, .int .i64 0, .int .i64 0] 62 := Blk.alloc hB (.cells #[.bool false, .slice none 0 0, .bool false, .slice none 0 0, .bool false, .slice none 0 0, .int .i64 0] 41)
 have R1 := Blk.new w #[.bool false, .slice none 0 0, .bool false, .slice none 0 0, .bool false, .slice none 0 0, .int .i64 0] 41
 go_enter Try.func91, Try.ntmps91
 go_wp2_with fail
 refine (peek_any s p 0 0 b _ hB1 (by omega) hp).mono ?_
 rintro e w1 ⟨rfl, hk1⟩
 replace hB1 := hB1.keep hk1
 replace R1 := R1.keep hk1
 have hkw : Kp w w1 := (kp_alloc w (.cells #[.bool false, .slice none 0 0, .bool false, .slice none 0 0, .bool false, .slice none 0 0, .int .i64 0] 41)).trans' hk1
 generalize byteAt s p = c0 at *
 go_wp2_with fail
 refine (digits_any s p t post b _ hB1 (by omega) hat hd hl hh).mono ?_
 rintro e w2 ⟨rfl, hB2, hk2⟩
 have R2 := R1.but hk2 (by omega)
 go_wp2_with fail
 refine (xfromInt_any (decN t) _ hn.1 hn2).mono ?_
 rintro e w3 ⟨v3, rfl, hv3, hk3⟩
 obtain ⟨b7, ao7, n7, c7, b8, ao8, n8, c8, b9, ao9, n9, c9, rfl, g1, g2, g3⟩ := id hv3
 clear g1 g2 g3
 have R3 := R2.keep hk3
 obtain ⟨R3c, R3f, R3l⟩ := R3.all
 have hB3 := hB2.keep hk3
 go_wp2_with fail
 refine bodyPost_ret (v := .agg #[.bool b7, .slice ao7 n7 c7, .bool b8, .slice ao8 n8 c8, .bool b9, .slice ao9 n9 c9, .int .i64 1]) (by simp [results, Try.results91, go_sem, R3c]) rfl ?_
 exact ⟨_, p + t.length, rfl, hv3.soft (stS7 (E := 2) (.bool b7) (.slice ao7 n7 c7) (.bool b8) (.slice ao8 n8 c8) (.bool b9) (.slice ao9 n9 c9) (.int .i64 1) R3 (by decide)), (Blk.other (c := w.heap.size) (o := 6) (y := .int .i64 1) (Blk.other (c := w.heap.size) (o := 5) (y := .slice ao9 n9 c9) (Blk.other (c := w.heap.size) (o := 4) (y := .bool b9) (Blk.other (c := w.heap.size) (o := 3) (y := .slice ao8 n8 c8) (Blk.other (c := w.heap.size) (o := 2) (y := .bool b8) (Blk.other (c := w.heap.size) (o := 1) (y := .slice ao7 n7 c7) (Blk.other (c := w.heap.size) (o := 0) (y := .bool b7) hB3 (by omega)) (by omega)) (by omega)) (by omega)) (by omega)) (by omega)) (by omega)), fun _ => rfl, Nat.le_refl _, (KeepsBut.setNew (d := w.heap.size) (o := 6) (y := .int .i64 1) (KeepsBut.setNew (d := w.heap.size) (o := 5) (y := .slice ao9 n9 c9) (KeepsBut.setNew (d := w.heap.size) (o := 4) (y := .bool b9) (KeepsBut.setNew (d := w.heap.size) (o := 3) (y := .slice ao8 n8 c8) (KeepsBut.setNew (d := w.heap.size) (o := 2) (y := .bool b8) (KeepsBut.setNew (d := w.heap.size) (o := 1) (y := .slice ao7 n7 c7) (KeepsBut.setNew (d := w.heap.size) (o := 0) (y := .bool b7) (((KeepsBut.of_kp hkw).trans hk2).trans (KeepsBut.of_kp hk3)) (Nat.le_refl _)) (Nat.le_refl _)) (Nat.le_refl _)) (Nat.le_refl _)) (Nat.le_refl _)) (Nat.le_refl _)) (Nat.le_refl _))⟩

set_option maxHeartbeats 1600000 in
theorem bare_root (s : ByteArray) (p : Nat) (t post : List Int) (b : Nat) (w : World) (hs : s.size ≤ 100) (hat : At s p (114 :: (t ++ post))) (ht : t ≠ []) (hl : t.length ≤ 6) (hd : Digs t) (hh : Hd isD post) (hB : Blk w b #[.string s, .int .i64 p, .int .i64 0, .int .i64 0] 62) :
  Calls Try.prog 91 #[.pointer (some ⟨b, 0, none⟩)] w (RetS b s (p + (t.length + 1)) ⟨qsqrt (decN t).toNat, 0, 0⟩ w) := by
 have hsz := hat.size
 have hat1 : At s (p + 1) (t ++ post) := At.step (t := [114]) hat
 have hlp : 0 < t.length := List.length_pos_iff.mpr ht
 have hsz1 := hat1.size
 have hp : p ≤ 1000 := by omega
 have hc0 : byteAt s p = 114 := by
  have := hat.byte 0
  rwa [Nat.add_zero, at0_cons_zero] at this
 have hn := decN_bd hd
 have hn2 : (decN t).toNat < 1000000 := by
  have : (10 : Int) ^ t.length ≤ 10 ^ 6 := by exact_mod_cast Nat.pow_le_pow_right (show 0 < 10 by decide) hl
  omega
 have HDG := fun (w' : World) (hB' : Blk w' b #[.string s, .int .i64 ((p + 1 : Nat) : Int), .int .i64 0, .int .i64 0] 62) => digits_any s (p + 1) t post b w' hB' (by omega) hat1 hd (by omega) hh
 generalize decN t = D at *
 obtain ⟨N, rfl⟩ := Int.eq_ofNat_of_zero_le hn.1
 rw [Int.toNat_natCast] at *
 have hbl := hB.lt
 have hB1 : Blk (w.alloc (.cells #[.bool false, .slice none 0 0, .bool false, .slice none 0 0, .bool false, .slice none 0 0, .int .i64 0] 41)) b #[.string s, .int .i64 p, .int .i64 0, .int .i64 0] 62 := Blk.alloc hB (.cells #[.bool false, .slice none 0 0, .bool false, .slice none 0 0, .bool false, .slice none 0 0, .int .i64 0] 41)
 have R1 := Blk.new w #[.bool false, .slice none 0 0, .bool false, .slice none 0 0, .bool false, .slice none 0 0, .int .i64 0] 41
 go_enter Try.func91, Try.ntmps91
 go_wp2_with fail
 refine (peek_any s p 0 0 b _ hB1 (by omega) hp).mono ?_
 rintro e w1 ⟨rfl, hk1⟩
 replace hB1 := hB1.keep hk1
 replace R1 := R1.keep hk1
 have hkw : Kp w w1 := (kp_alloc w (.cells #[.bool false, .slice none 0 0, .bool false, .slice none 0 0, .bool false, .slice none 0 0, .int .i64 0] 41)).trans' hk1
 rw [hc0]
 have b1c := hB1.cell
 have b1f := hB1.frozen
 have b1l := hB1.lt
 go_wp2_with fail
 have hB1' : Blk (w1.setCell ⟨b, 1, none⟩ (.int .i64 ((p : Int) + 1))) b #[.string s, .int .i64 ((p + 1 : Nat) : Int), .int .i64 0, .int .i64 0] 62 := by
  rw [show ((p + 1 : Nat) : Int) = (p : Int) + 1 by omega]
  exact Blk.set (o := 1) (y := .int .i64 ((p : Int) + 1)) hB1
 refine (HDG _ hB1').mono ?_
 rintro e w2 ⟨rfl, hB2, hk2⟩
 have hk2' : KeepsBut b w1 w2 := (KeepsBut.setCell (KeepsBut.refl b w1) 1 (.int .i64 ((p : Int) + 1))).trans hk2
 have R2 := R1.but hk2' (by omega)
 go_wp2_with fail
 refine (root_any N _ hn2).mono ?_
 rintro e w3 ⟨v3, rfl, hv3, hk3⟩
 obtain ⟨b7, ao7, n7, c7, b8, ao8, n8, c8, b9, ao9, n9, c9, rfl, g1, g2, g3⟩ := id hv3
 clear g1 g2 g3
 generalize qsqrt N = Q at *
 have R3 := R2.keep hk3
 obtain ⟨R3c, R3f, R3l⟩ := R3.all
 have hB3 := hB2.keep hk3
 go_wp2_with fail
 refine bodyPost_ret (v := .agg #[.bool b7, .slice ao7 n7 c7, .bool b8, .slice ao8 n8 c8, .bool b9, .slice ao9 n9 c9, .int .i64 Q.d]) (by simp [results, Try.results91, go_sem, R3c]) rfl ?_
 exact ⟨_, p + 1 + t.length, rfl, hv3.soft (stS7 (E := 2) (.bool b7) (.slice ao7 n7 c7) (.bool b8) (.slice ao8 n8 c8) (.bool b9) (.slice ao9 n9 c9) (.int .i64 Q.d) R3 (by decide)), (Blk.other (c := w.heap.size) (o := 6) (y := .int .i64 Q.d) (Blk.other (c := w.heap.size) (o := 5) (y := .slice ao9 n9 c9) (Blk.other (c := w.heap.size) (o := 4) (y := .bool b9) (Blk.other (c := w.heap.size) (o := 3) (y := .slice ao8 n8 c8) (Blk.other (c := w.heap.size) (o := 2) (y := .bool b8) (Blk.other (c := w.heap.size) (o := 1) (y := .slice ao7 n7 c7) (Blk.other (c := w.heap.size) (o := 0) (y := .bool b7) hB3 (by omega)) (by omega)) (by omega)) (by omega)) (by omega)) (by omega)) (by omega)), fun _ => by omega, by omega, (KeepsBut.setNew (d := w.heap.size) (o := 6) (y := .int .i64 Q.d) (KeepsBut.setNew (d := w.heap.size) (o := 5) (y := .slice ao9 n9 c9) (KeepsBut.setNew (d := w.heap.size) (o := 4) (y := .bool b9) (KeepsBut.setNew (d := w.heap.size) (o := 3) (y := .slice ao8 n8 c8) (KeepsBut.setNew (d := w.heap.size) (o := 2) (y := .bool b8) (KeepsBut.setNew (d := w.heap.size) (o := 1) (y := .slice ao7 n7 c7) (KeepsBut.setNew (d := w.heap.size) (o := 0) (y := .bool b7) (((KeepsBut.of_kp hkw).trans hk2').trans (KeepsBut.of_kp hk3)) (Nat.le_refl _)) (Nat.le_refl _)) (Nat.le_refl _)) (Nat.le_refl _)) (Nat.le_refl _)) (Nat.le_refl _)) (Nat.le_refl _))⟩

set_option maxHeartbeats 1600000 in
theorem bare_par (n : Nat) (hS : Rds 22 (Sm n) closes) (s : ByteArray) (p : Nat) (t post : List Int) (r : Rs) (b : Nat) (w : World) (hs : s.size ≤ 100) (hat : At s p (40 :: (t ++ (41 :: post)))) (ht : Sm n t (p + 1) r) (hB : Blk w b #[.string s, .int .i64 p, .int .i64 0, .int .i64 0] 62) :
  Calls Try.prog 91 #[.pointer (some ⟨b, 0, none⟩)] w (RetS b s (p + (t.length + 1 + 1)) r w) := by
 have hsz := hat.size
 have hat1 : At s (p + 1) (t ++ (41 :: post)) := At.step (t := [40]) hat
 have hsz1 := hat1.size
 rw [List.length_append] at hsz1
 have hp : p ≤ 1000 := by omega
 have hc0 : byteAt s p = 40 := by
  have := hat.byte 0
  rwa [Nat.add_zero, at0_cons_zero] at this
 have hcl : Hd closes (41 :: post) := by
  intro c l e
  cases e
  unfold closes isD mulOp addOp isDig
  decide
 have hbl := hB.lt
 have hB1 : Blk (w.alloc (.cells #[.bool false, .slice none 0 0, .bool false, .slice none 0 0, .bool false, .slice none 0 0, .int .i64 0] 41)) b #[.string s, .int .i64 p, .int .i64 0, .int .i64 0] 62 := Blk.alloc hB (.cells #[.bool false, .slice none 0 0, .bool false, .slice none 0 0, .bool false, .slice none 0 0, .int .i64 0] 41)
 have R1 := Blk.new w #[.bool false, .slice none 0 0, .bool false, .slice none 0 0, .bool false, .slice none 0 0, .int .i64 0] 41
 go_enter Try.func91, Try.ntmps91
 go_wp2_with fail
 refine (peek_any s p 0 0 b _ hB1 (by omega) hp).mono ?_
 rintro e w1 ⟨rfl, hk1⟩
 replace hB1 := hB1.keep hk1
 replace R1 := R1.keep hk1
 have hkw : Kp w w1 := (kp_alloc w (.cells #[.bool false, .slice none 0 0, .bool false, .slice none 0 0, .bool false, .slice none 0 0, .int .i64 0] 41)).trans' hk1
 rw [hc0]
 have b1c := hB1.cell
 have b1f := hB1.frozen
 have b1l := hB1.lt
 go_wp2_with fail
 have hB1' : Blk (w1.setCell ⟨b, 1, none⟩ (.int .i64 ((p : Int) + 1))) b #[.string s, .int .i64 ((p + 1 : Nat) : Int), .int .i64 0, .int .i64 0] 62 := by
  rw [show ((p + 1 : Nat) : Int) = (p : Int) + 1 by omega]
  exact Blk.set (o := 1) (y := .int .i64 ((p : Int) + 1)) hB1
 refine (hS s (p + 1) t (41 :: post) r b _ hs hat1 ht hcl hB1').mono ?_
 rintro e w2 ⟨v2, i, rfl, hv2, hB2, hi1, hi2, hk2⟩
 have hk2' : KeepsBut b w1 w2 := (KeepsBut.setCell (KeepsBut.refl b w1) 1 (.int .i64 ((p : Int) + 1))).trans hk2
 have R2 := R1.but hk2' (by omega)
 obtain ⟨b7, ao7, n7, c7, b8, ao8, n8, c8, b9, ao9, n9, c9, rfl, g1, g2, g3⟩ := id hv2
 clear g1 g2 g3
 have R3c := R2.cell
 have R3f := R2.frozen
 have R3l := R2.lt
 have b2c := hB2.cell
 have b2f := hB2.frozen
 have b2l := hB2.lt
 have HI := Hid.mk hi1
 clear hi1
 go_wp2_with fail
 refine bodyPost_ret (v := .agg #[.bool b7, .slice ao7 n7 c7, .bool b8, .slice ao8 n8 c8, .bool b9, .slice ao9 n9 c9, .int .i64 r.v.d]) (by simp [results, Try.results91, go_sem, R3c, R3l]) rfl ?_
 have hE : Blk _ b #[.string s, .int .i64 ((i : Int) + 1), .int .i64 r.e, .int .i64 r.k] 62 := Blk.alloc (Blk.other (c := w.heap.size) (o := 6) (y := .int .i64 r.v.d) (Blk.other (c := w.heap.size) (o := 5) (y := .slice ao9 n9 c9) (Blk.other (c := w.heap.size) (o := 4) (y := .bool b9) (Blk.other (c := w.heap.size) (o := 3) (y := .slice ao8 n8 c8) (Blk.other (c := w.heap.size) (o := 2) (y := .bool b8) (Blk.other (c := w.heap.size) (o := 1) (y := .slice ao7 n7 c7) (Blk.other (c := w.heap.size) (o := 0) (y := .bool b7) (Blk.set (o := 1) (y := .int .i64 ((i : Int) + 1)) hB2) (by omega)) (by omega)) (by omega)) (by omega)) (by omega)) (by omega)) (by omega)) (.cells #[.bool b7, .slice ao7 n7 c7, .bool b8, .slice ao8 n8 c8, .bool b9, .slice ao9 n9 c9, .int .i64 r.v.d] 41)
 rw [show (i : Int) + 1 = ((i + 1 : Nat) : Int) by omega] at hE
 exact ⟨_, i + 1, rfl, hv2.soft (Sf.alloc (Sf.set (t := 41) (c := w.heap.size) (o := 6) (y := .int .i64 r.v.d) (Sf.set (t := 41) (c := w.heap.size) (o := 5) (y := .slice ao9 n9 c9) (Sf.set (t := 41) (c := w.heap.size) (o := 4) (y := .bool b9) (Sf.set (t := 41) (c := w.heap.size) (o := 3) (y := .slice ao8 n8 c8) (Sf.set (t := 41) (c := w.heap.size) (o := 2) (y := .bool b8) (Sf.set (t := 41) (c := w.heap.size) (o := 1) (y := .slice ao7 n7 c7) (Sf.set (t := 41) (c := w.heap.size) (o := 0) (y := .bool b7) (Sf.set (t := 62) (c := b) (o := 1) (y := .int .i64 ((i : Int) + 1)) (Sf.refl 2 w2) hB2.elem (by decide)) (by first | (simp only [elemOf_setCell]; exact R2.elem) | exact R2.elem) (by decide)) (by first | (simp only [elemOf_setCell]; exact R2.elem) | exact R2.elem) (by decide)) (by first | (simp only [elemOf_setCell]; exact R2.elem) | exact R2.elem) (by decide)) (by first | (simp only [elemOf_setCell]; exact R2.elem) | exact R2.elem) (by decide)) (by first | (simp only [elemOf_setCell]; exact R2.elem) | exact R2.elem) (by decide)) (by first | (simp only [elemOf_setCell]; exact R2.elem) | exact R2.elem) (by decide)) (by first | (simp only [elemOf_setCell]; exact R2.elem) | exact R2.elem) (by decide)) (.cells #[.bool b7, .slice ao7 n7 c7, .bool b8, .slice ao8 n8 c8, .bool b9, .slice ao9 n9 c9, .int .i64 r.v.d] 41)), hE, fun h => by have := HI.out h; omega, by omega, KeepsBut.alloc (KeepsBut.setNew (d := w.heap.size) (o := 6) (y := .int .i64 r.v.d) (KeepsBut.setNew (d := w.heap.size) (o := 5) (y := .slice ao9 n9 c9) (KeepsBut.setNew (d := w.heap.size) (o := 4) (y := .bool b9) (KeepsBut.setNew (d := w.heap.size) (o := 3) (y := .slice ao8 n8 c8) (KeepsBut.setNew (d := w.heap.size) (o := 2) (y := .bool b8) (KeepsBut.setNew (d := w.heap.size) (o := 1) (y := .slice ao7 n7 c7) (KeepsBut.setNew (d := w.heap.size) (o := 0) (y := .bool b7) (KeepsBut.setCell ((KeepsBut.of_kp hkw).trans hk2') 1 (.int .i64 ((i : Int) + 1))) (Nat.le_refl _)) (Nat.le_refl _)) (Nat.le_refl _)) (Nat.le_refl _)) (Nat.le_refl _)) (Nat.le_refl _)) (Nat.le_refl _)) (.cells #[.bool b7, .slice ao7 n7 c7, .bool b8, .slice ao8 n8 c8, .bool b9, .slice ao9 n9 c9, .int .i64 r.v.d] 41)⟩

theorem bare_any (n : Nat) (hS : ∀ n', n = n' + 1 → Rds 22 (Sm n') closes) : Rds 91 (Bare n) isD := by
 intro s p t post r b w hs hat ht hh hB
 rcases ht with (⟨h1, h2, h3, rfl⟩ | ⟨t', rfl, h1, h2, h3, rfl⟩) | ⟨n', t', h1, rfl, h2⟩
 ·exact bare_num s p t post b w hs hat h1 h2 h3 hh hB
 ·exact bare_root s p t' post b w hs hat h1 h2 h3 hh hB
 ·have hat' : At s p (40 :: (t' ++ (41 :: post))) := by
   have e : 40 :: (t' ++ [41]) ++ post = 40 :: (t' ++ (41 :: post)) := by simp
   rwa [e] at hat
  have h := bare_par n' (hS n' h1) s p t' post r b w hs hat' h2 hB
  have e : (40 :: (t' ++ [(41 : Int)])).length = t'.length + 1 + 1 := by simp
  rw [e]; exact h

end Go.Proofs.Ytjahbjjekednfaa

namespace Go.Proofs.Ytjahbjjekednfaa
open Go.RowKit

theorem bare_head {n : Nat} {core : List Int} {p : Nat} {r : Rs} (h : Bare n core p r) : 0 < core.length ∧ at0 core 0 ≠ 45 := by
 rcases h with (⟨h1, h2, h3, _⟩ | ⟨t, rfl, _⟩) | ⟨n', t, _, rfl, _⟩
 ·have hl : 0 < core.length := List.length_pos_iff.mpr h1
  have := isDig_bd (digs_at h3 hl)
  exact ⟨hl, by omega⟩
 ·exact ⟨by simp, by rw [at0_cons_zero]; decide⟩
 ·exact ⟨by simp, by rw [at0_cons_zero]; decide⟩
theorem bare_ok {n : Nat} {core : List Int} {p : Nat} {r : Rs} (h : Bare n core p r) (hn : n ≤ 8) (hl : core.length ≤ 100) : RsOk 1000000 r := by
 have hf : Fc n core p r := by
  cases n with
  | zero =>
   rcases h with h | ⟨n', t, h1, _⟩
   ·exact ⟨0, core, r, rfl, h, rfl⟩
   ·omega
  | succ n =>
   refine ⟨0, core, r, rfl, ?_, rfl⟩
   rcases h with h | ⟨n', t, h1, h2, h3⟩
   ·exact Or.inl h
   ·have : n = n' := by omega
    subst this
    exact Or.inr ⟨t, h2, h3⟩
 refine (fc_ok n core p r hf).mono ?_
 have h1 : 2 ^ n ≤ 2 ^ 8 := Nat.pow_le_pow_right (by decide) hn
 have h2 := Nat.mul_le_mul (Nat.mul_le_mul_left 20 h1) hl
 omega

set_option maxHeartbeats 3200000 in
set_option maxRecDepth 100000 in
theorem factor_at (n m : Nat) (hn : n ≤ 8) (hF : Rds 91 (Bare n) isD) (s : ByteArray) (p : Nat) (core post : List Int) (r : Rs) (b : Nat) (w : World) (hs : s.size ≤ 100) (hat : At s p (List.replicate m 45 ++ (core ++ post))) (ht : Bare n core (p + m) r) (hh : Hd isD post) (hB : Blk w b #[.string s, .int .i64 p, .int .i64 0, .int .i64 0] 62) :
  Calls Try.prog 75 #[.pointer (some ⟨b, 0, none⟩)] w (RetS b s (p + (m + core.length)) (negs m r) w) := by
 have hsz := hat.size
 rw [List.length_append, List.length_append, List.length_replicate] at hsz
 have hat1 : At s (p + m) (core ++ post) := by
  have := At.step hat
  rwa [List.length_replicate] at this
 obtain ⟨hc1, hc2⟩ := bare_head ht
 have HR := Hid.mk (bare_ok ht hn (by omega))
 have HA := Hid.mk hat
 have HA1 := Hid.mk hat1
 have HT := Hid.mk ht
 have hbl := hB.lt
 clear hat hat1 ht
 go_enter Try.func75, Try.ntmps75
 go_wp2_with fail
 go_loopw [3] (fun ng wr => ∃ j i : Nat, Hid (i = p + j) ∧ j ≤ m ∧ ng = .bool (decide (j % 2 = 1)) ∧ Blk wr b #[.string s, .int .i64 i, .int .i64 0, .int .i64 0] 62 ∧ Blk wr w.heap.size #[.bool false, .slice none 0 0, .bool false, .slice none 0 0, .bool false, .slice none 0 0, .int .i64 0] 41 ∧ KeepsBut b w wr)
  (fun _ wr => s.size + 1 - atOf b wr)
 case atStart => exact ⟨0, p, rfl, by omega, rfl, Blk.alloc hB _, Blk.new w _ _, KeepsBut.alloc (KeepsBut.refl _ _) _⟩
 case round =>
  obtain ⟨j, i, HI, hj, rfl, hBr, hRr, hkr⟩ := hrel
  have hij := HI.out
  have HM := Hid.mk (atOf_blk hBr)
  by_cases h1 : j < m
  ·have hc0 : byteAt s i = 45 := by
    rw [hij, HA.out.byte j, at0_append_lt (by rw [List.length_replicate]; exact h1), at0_eq (by rw [List.length_replicate]; exact h1), List.getElem_replicate]
   have hi : i ≤ 1000 := by omega
   clear hij
   go_wp2_with fail
   refine (peek_any s i 0 0 b _ hBr (by omega) hi).mono ?_
   rintro e w1 ⟨rfl, hk1⟩
   replace hBr := hBr.keep hk1
   replace hRr := hRr.keep hk1
   have bc := hBr.cell
   have bf := hBr.frozen
   have blt := hBr.lt
   rw [hc0]
   go_wp2_with fail
   go_roundw
   case rel =>
    refine ⟨j + 1, i + 1, by have := HI.out; unfold Hid; omega, by omega, ?_, ?_, Blk.other hRr (by omega), KeepsBut.setCell (hkr.trans (KeepsBut.of_kp hk1)) _ _⟩
    ·by_cases h5 : j % 2 = 1
     ·rw [decide_eq_true h5, decide_eq_false (show ¬ (j + 1) % 2 = 1 by omega)]; rfl
     ·rw [decide_eq_false h5, decide_eq_true (show (j + 1) % 2 = 1 by omega)]; rfl
    ·rw [show ((i + 1 : Nat) : Int) = (i : Int) + 1 by omega]
     exact Blk.set (o := 1) (y := .int .i64 ((i : Int) + 1)) hBr
   case measure =>
    rw [HM.out, atOf_blk (i := i + 1) (s := s) (er := 0) (ea := 0) (by rw [show ((i + 1 : Nat) : Int) = (i : Int) + 1 by omega]; exact Blk.set (o := 1) (y := .int .i64 ((i : Int) + 1)) hBr)]
    have := HI.out
    omega
  ·have hje : j = m := by omega
   subst hje
   have hc0 : (byteAt s i == 45) = false := by
    have := HA1.out.byte 0
    rw [Nat.add_zero, at0_append_lt hc1, ← hij] at this
    rw [this]
    simpa using hc2
   have hi : i ≤ 1000 := by omega
   have HAi : Hid (At s i (core ++ post)) := by unfold Hid; rw [hij]; exact HA1.out
   have HTi : Hid (Bare n core i r) := by unfold Hid; rw [hij]; exact HT.out
   clear hij HA HA1 HT
   go_wp2_with fail
   refine (peek_any s i 0 0 b _ hBr (by omega) hi).mono ?_
   rintro e w1 ⟨rfl, hk1⟩
   replace hBr := hBr.keep hk1
   replace hRr := hRr.keep hk1
   generalize byteAt s i = c0 at *
   go_wp2_with fail
   refine (hF s i core post r b _ hs HAi.out HTi.out hh hBr).mono ?_
   rintro e w2 ⟨v2, i2, rfl, hv2, hB2, hi1, hi2, hk2⟩
   have hij := HI.out
   have HI2 : Hid (r.e = 0 → i2 = p + (j + core.length)) := by unfold Hid; intro h; have := hi1 h; omega
   have hi3 : i2 ≤ p + (j + core.length) := by omega
   clear hi1 hi2 hij HI HAi HTi
   have R2 := hRr.but hk2 (by omega)
   obtain ⟨b7, ao7, n7, c7, b8, ao8, n8, c8, b9, ao9, n9, c9, rfl, g1, g2, g3⟩ := id hv2
   clear g1 g2 g3
   obtain ⟨R2c, R2f, R2l⟩ := R2.all
   have b2l := hB2.lt
   by_cases h5 : j % 2 = 1
   ·rw [decide_eq_true h5]
    go_wp2_with fail
    refine (xnegate_any r.v 1000000 _ _ (hv2.soft (Sf.alloc (Sf.refl 2 w2) (.cells #[.bool b7, .slice ao7 n7 c7, .bool b8, .slice ao8 n8 c8, .bool b9, .slice ao9 n9 c9, .int .i64 r.v.d] 41))) (by omega) (HR.out).f).mono ?_
    rintro e w3 ⟨v3, rfl, hv3, hk3⟩
    obtain ⟨b17, ao17, n17, c17, b18, ao18, n18, c18, b19, ao19, n19, c19, rfl, g1, g2, g3⟩ := id hv3
    clear g1 g2 g3
    have hk3' : Kp w2 w3 := (kp_alloc w2 (.cells #[.bool b7, .slice ao7 n7 c7, .bool b8, .slice ao8 n8 c8, .bool b9, .slice ao9 n9 c9, .int .i64 r.v.d] 41)).trans' hk3
    have hB3 := hB2.keep hk3'
    have R3 := R2.keep hk3'
    have V3 : Blk w3 w2.heap.size #[.bool b7, .slice ao7 n7 c7, .bool b8, .slice ao8 n8 c8, .bool b9, .slice ao9 n9 c9, .int .i64 r.v.d] 41 := Blk.keep hk3 (Blk.new w2 _ _)
    obtain ⟨R3c, R3f, R3l⟩ := R3.all
    obtain ⟨V3c, V3f, V3l⟩ := V3.all
    have hne : w.heap.size ≠ w2.heap.size := by omega
    clear R2c R2f R2l
    go_wp2_with fail
    refine bodyPost_ret (v := .agg #[.bool b17, .slice ao17 n17 c17, .bool b18, .slice ao18 n18 c18, .bool b19, .slice ao19 n19 c19, .int .i64 (qneg r.v).d]) (by simp [results, Try.results75, go_sem, R3c]) rfl ?_
    have e9 : negs j r = ⟨qneg r.v, r.e, r.k⟩ := by unfold negs; rw [if_pos (by omega)]
    rw [e9]
    exact ⟨_, i2, rfl, hv3.soft (Sf.set (t := 41) (c := w.heap.size) (o := 6) (y := .int .i64 (qneg r.v).d) (Sf.set (t := 41) (c := w.heap.size) (o := 5) (y := .slice ao19 n19 c19) (Sf.set (t := 41) (c := w.heap.size) (o := 4) (y := .bool b19) (Sf.set (t := 41) (c := w.heap.size) (o := 3) (y := .slice ao18 n18 c18) (Sf.set (t := 41) (c := w.heap.size) (o := 2) (y := .bool b18) (Sf.set (t := 41) (c := w.heap.size) (o := 1) (y := .slice ao17 n17 c17) (Sf.set (t := 41) (c := w.heap.size) (o := 0) (y := .bool b17) (stS7 (E := 2) (.bool b17) (.slice ao17 n17 c17) (.bool b18) (.slice ao18 n18 c18) (.bool b19) (.slice ao19 n19 c19) (.int .i64 (qneg r.v).d) V3 (by decide)) (by first | (simp only [elemOf_setCell]; exact R3.elem) | exact R3.elem) (by decide)) (by first | (simp only [elemOf_setCell]; exact R3.elem) | exact R3.elem) (by decide)) (by first | (simp only [elemOf_setCell]; exact R3.elem) | exact R3.elem) (by decide)) (by first | (simp only [elemOf_setCell]; exact R3.elem) | exact R3.elem) (by decide)) (by first | (simp only [elemOf_setCell]; exact R3.elem) | exact R3.elem) (by decide)) (by first | (simp only [elemOf_setCell]; exact R3.elem) | exact R3.elem) (by decide)) (by first | (simp only [elemOf_setCell]; exact R3.elem) | exact R3.elem) (by decide)), (Blk.other (c := w.heap.size) (o := 6) (y := .int .i64 (qneg r.v).d) (Blk.other (c := w.heap.size) (o := 5) (y := .slice ao19 n19 c19) (Blk.other (c := w.heap.size) (o := 4) (y := .bool b19) (Blk.other (c := w.heap.size) (o := 3) (y := .slice ao18 n18 c18) (Blk.other (c := w.heap.size) (o := 2) (y := .bool b18) (Blk.other (c := w.heap.size) (o := 1) (y := .slice ao17 n17 c17) (Blk.other (c := w.heap.size) (o := 0) (y := .bool b17) (Blk.other (c := w2.heap.size) (o := 6) (y := .int .i64 (qneg r.v).d) (Blk.other (c := w2.heap.size) (o := 5) (y := .slice ao19 n19 c19) (Blk.other (c := w2.heap.size) (o := 4) (y := .bool b19) (Blk.other (c := w2.heap.size) (o := 3) (y := .slice ao18 n18 c18) (Blk.other (c := w2.heap.size) (o := 2) (y := .bool b18) (Blk.other (c := w2.heap.size) (o := 1) (y := .slice ao17 n17 c17) (Blk.other (c := w2.heap.size) (o := 0) (y := .bool b17) hB3 (by omega)) (by omega)) (by omega)) (by omega)) (by omega)) (by omega)) (by omega)) (by omega)) (by omega)) (by omega)) (by omega)) (by omega)) (by omega)) (by omega)), fun h => by have := HI2.out h; omega, by omega, (KeepsBut.setNew (d := w.heap.size) (o := 6) (y := .int .i64 (qneg r.v).d) (KeepsBut.setNew (d := w.heap.size) (o := 5) (y := .slice ao19 n19 c19) (KeepsBut.setNew (d := w.heap.size) (o := 4) (y := .bool b19) (KeepsBut.setNew (d := w.heap.size) (o := 3) (y := .slice ao18 n18 c18) (KeepsBut.setNew (d := w.heap.size) (o := 2) (y := .bool b18) (KeepsBut.setNew (d := w.heap.size) (o := 1) (y := .slice ao17 n17 c17) (KeepsBut.setNew (d := w.heap.size) (o := 0) (y := .bool b17) (KeepsBut.setNew (d := w2.heap.size) (o := 6) (y := .int .i64 (qneg r.v).d) (KeepsBut.setNew (d := w2.heap.size) (o := 5) (y := .slice ao19 n19 c19) (KeepsBut.setNew (d := w2.heap.size) (o := 4) (y := .bool b19) (KeepsBut.setNew (d := w2.heap.size) (o := 3) (y := .slice ao18 n18 c18) (KeepsBut.setNew (d := w2.heap.size) (o := 2) (y := .bool b18) (KeepsBut.setNew (d := w2.heap.size) (o := 1) (y := .slice ao17 n17 c17) (KeepsBut.setNew (d := w2.heap.size) (o := 0) (y := .bool b17) (((hkr.trans (KeepsBut.of_kp hk1)).trans hk2).trans (KeepsBut.of_kp hk3')) (by have := hkr.size; have := hk1.size; have := hk2.size; omega)) (by have := hkr.size; have := hk1.size; have := hk2.size; omega)) (by have := hkr.size; have := hk1.size; have := hk2.size; omega)) (by have := hkr.size; have := hk1.size; have := hk2.size; omega)) (by have := hkr.size; have := hk1.size; have := hk2.size; omega)) (by have := hkr.size; have := hk1.size; have := hk2.size; omega)) (by have := hkr.size; have := hk1.size; have := hk2.size; omega)) (Nat.le_refl _)) (Nat.le_refl _)) (Nat.le_refl _)) (Nat.le_refl _)) (Nat.le_refl _)) (Nat.le_refl _)) (Nat.le_refl _))⟩
   ·rw [decide_eq_false h5]
    go_wp2_with fail
    refine bodyPost_ret (v := .agg #[.bool b7, .slice ao7 n7 c7, .bool b8, .slice ao8 n8 c8, .bool b9, .slice ao9 n9 c9, .int .i64 r.v.d]) (by simp [results, Try.results75, go_sem, R2c, R2l]) rfl ?_
    have e9 : negs j r = r := by unfold negs; rw [if_neg (by omega)]
    rw [e9]
    exact ⟨_, i2, rfl, hv2.soft (Sf.alloc (stS7 (E := 2) (.bool b7) (.slice ao7 n7 c7) (.bool b8) (.slice ao8 n8 c8) (.bool b9) (.slice ao9 n9 c9) (.int .i64 r.v.d) R2 (by decide)) (.cells #[.bool b7, .slice ao7 n7 c7, .bool b8, .slice ao8 n8 c8, .bool b9, .slice ao9 n9 c9, .int .i64 r.v.d] 41)), Blk.alloc (Blk.other (c := w.heap.size) (o := 6) (y := .int .i64 r.v.d) (Blk.other (c := w.heap.size) (o := 5) (y := .slice ao9 n9 c9) (Blk.other (c := w.heap.size) (o := 4) (y := .bool b9) (Blk.other (c := w.heap.size) (o := 3) (y := .slice ao8 n8 c8) (Blk.other (c := w.heap.size) (o := 2) (y := .bool b8) (Blk.other (c := w.heap.size) (o := 1) (y := .slice ao7 n7 c7) (Blk.other (c := w.heap.size) (o := 0) (y := .bool b7) hB2 (by omega)) (by omega)) (by omega)) (by omega)) (by omega)) (by omega)) (by omega)) (.cells #[.bool b7, .slice ao7 n7 c7, .bool b8, .slice ao8 n8 c8, .bool b9, .slice ao9 n9 c9, .int .i64 r.v.d] 41), fun h => by have := HI2.out h; omega, by omega, KeepsBut.alloc (KeepsBut.setNew (d := w.heap.size) (o := 6) (y := .int .i64 r.v.d) (KeepsBut.setNew (d := w.heap.size) (o := 5) (y := .slice ao9 n9 c9) (KeepsBut.setNew (d := w.heap.size) (o := 4) (y := .bool b9) (KeepsBut.setNew (d := w.heap.size) (o := 3) (y := .slice ao8 n8 c8) (KeepsBut.setNew (d := w.heap.size) (o := 2) (y := .bool b8) (KeepsBut.setNew (d := w.heap.size) (o := 1) (y := .slice ao7 n7 c7) (KeepsBut.setNew (d := w.heap.size) (o := 0) (y := .bool b7) ((hkr.trans (KeepsBut.of_kp hk1)).trans hk2) (Nat.le_refl _)) (Nat.le_refl _)) (Nat.le_refl _)) (Nat.le_refl _)) (Nat.le_refl _)) (Nat.le_refl _)) (Nat.le_refl _)) (.cells #[.bool b7, .slice ao7 n7 c7, .bool b8, .slice ao8 n8 c8, .bool b9, .slice ao9 n9 c9, .int .i64 r.v.d] 41)⟩

theorem factor_any (n : Nat) (hn : n ≤ 8) (hF : Rds 91 (Bare n) isD) : Rds 75 (Fc n) isD := by
 intro s p t post r b w hs hat ht hh hB
 obtain ⟨m, core, r0, rfl, h2, rfl⟩ := fc_bare ht
 rw [List.append_assoc] at hat
 rw [List.length_append, List.length_replicate]
 exact factor_at n m hn hF s p core post r0 b w hs hat h2 hh hB

end Go.Proofs.Ytjahbjjekednfaa

namespace Go.Proofs.Ytjahbjjekednfaa
open Go.RowKit

/-- The reader's error. -/
def errOf (b : Nat) (w : World) : Int := ((w.cell? ⟨b, 2, none⟩).map intOf).getD 0
theorem errOf_blk {w : World} {b : Nat} {s : ByteArray} {i : Int} {er ea : Int} (h : Blk w b #[.string s, .int .i64 i, .int .i64 er, .int .i64 ea] 62) : errOf b w = er := by
 unfold errOf
 rw [h.cell 2]
 simp [intOf]
/-- How far a chain's loop is from its end. -/
def farOf (s : ByteArray) (b : Nat) (w : World) : Nat := if errOf b w = 0 then s.size + 1 - atOf b w else 0

theorem chT_err {F : List Int → Nat → Rs → Prop} {ops : Int → Prop} : ∀ (k : Nat) (acc : Rs) (q : Nat) (rest : List Int) (r : Rs), acc.e ≠ 0 → ChT F ops k acc q rest r → r = acc
 | 0, acc, q, rest, r, _, h => h.2
 | k + 1, acc, q, rest, r, he, h => by
  obtain ⟨c, t, s', rt, _, _, _, h4⟩ := h
  have e : opR c q acc rt = acc := by unfold opR; rw [if_pos he]
  rw [e] at h4
  exact chT_err k acc _ s' r he h4

/-- Where a chain's loop stands. -/
def LoopAt (F : List Int → Nat → Rs → Prop) (ops : Int → Prop) (j C : Nat) (s : ByteArray) (post : List Int) (r : Rs) (fin : Nat) (acc : Rs) (i : Nat) : Prop :=
 ∃ k q rest M, ChT F ops k acc q rest r ∧ (acc.e = 0 → i = q) ∧ i ≤ q ∧ q + rest.length = fin ∧ At s q (rest ++ post) ∧ RsOk M acc ∧ M + j * C * rest.length ≤ 15000000

theorem loop_err {F : List Int → Nat → Rs → Prop} {ops : Int → Prop} {j C : Nat} {s : ByteArray} {post : List Int} {r : Rs} {fin : Nat} {acc : Rs} {i : Nat} (h : LoopAt F ops j C s post r fin acc i) (he : acc.e ≠ 0) : r = acc ∧ i ≤ fin := by
 obtain ⟨k, q, rest, M, h1, h2, h3, h4, h5, h6, h7⟩ := h
 exact ⟨chT_err k acc q rest r he h1, by omega⟩
theorem loop_ok {F : List Int → Nat → Rs → Prop} {ops : Int → Prop} {j C : Nat} {s : ByteArray} {post : List Int} {r : Rs} {fin : Nat} {acc : Rs} {i : Nat} (h : LoopAt F ops j C s post r fin acc i) : RsOk 15000000 acc ∧ fin + post.length = s.size ∧ i ≤ s.size := by
 obtain ⟨k, q, rest, M, h1, h2, h3, h4, h5, h6, h7⟩ := h
 have := h5.size
 rw [List.length_append] at this
 exact ⟨h6.mono (by omega), by omega, by omega⟩

/-- At the loop's head, without an error: the end, or one more operation. -/
theorem loop_step {F : List Int → Nat → Rs → Prop} {ops Pc : Int → Prop} {j C : Nat} (hC : 20 ≤ C) (hj : 1 ≤ j) (hF : ∀ t p r, F t p r → RsOk (C * t.length) r)
  (hop : ∀ c a b m n, ops c → QF m a → QF n b → QD a → QD b → QF (m + j * n + 20) (comb c a b).1) (hcl : ∀ c, ops c → ¬ Pc c) (h0 : ¬ ops 0)
  {s : ByteArray} {post : List Int} {r : Rs} {fin : Nat} {acc : Rs} {i : Nat} (hpost : Hd (fun c => Pc c ∨ ops c) post) (h : LoopAt F ops j C s post r fin acc i) (he : acc.e = 0) :
  (r = acc ∧ i = fin ∧ ¬ ops (byteAt s i)) ∨ ∃ t rt post', ops (byteAt s i) ∧ i < s.size ∧ F t (i + 1) rt ∧ At s (i + 1) (t ++ post') ∧ Hd Pc post' ∧ RsOk 15000000 rt ∧
   ∀ i', (rt.e = 0 → i' = i + 1 + t.length) → i' ≤ i + 1 + t.length → LoopAt F ops j C s post r fin (opR (byteAt s i) i acc rt) i' := by
 obtain ⟨k, q, rest, M, h1, h2, h3, h4, h5, h6, h7⟩ := h
 have hiq := h2 he
 subst hiq
 cases k with
 | zero =>
  obtain ⟨rfl, rfl⟩ := h1
  refine Or.inl ⟨rfl, by simpa using h4, ?_⟩
  have hb := h5.byte 0
  rw [Nat.add_zero, List.nil_append] at hb
  rw [hb]
  cases post with
  | nil => rw [at0_nil]; exact h0
  | cons c l => rw [at0_cons_zero]; exact fun hc => hpost c l rfl (Or.inr hc)
 | succ k =>
  obtain ⟨c, t, s', rt, g1, rfl, g3, g4⟩ := h1
  have hb := h5.byte 0
  rw [Nat.add_zero, List.cons_append, at0_cons_zero] at hb
  have hsz := h5.size
  simp only [List.length_append, List.length_cons] at hsz h4 h7
  have ht := hF t _ rt g3
  have e1 : j * C * (t.length + s'.length + 1) = j * (C * t.length) + j * C * s'.length + j * C := by
   rw [Nat.mul_add, Nat.mul_add, Nat.mul_one, Nat.mul_assoc]
  have e2 : C ≤ j * C := Nat.le_mul_of_pos_left C hj
  have e3 : C * t.length ≤ j * (C * t.length) := Nat.le_mul_of_pos_left _ hj
  rw [hb]
  refine Or.inr ⟨t, rt, s' ++ post, g1, by omega, g3, ?_, ?_, ht.mono (by omega), ?_⟩
  ·have := At.step (t := [c]) (l := t ++ (s' ++ post)) (by simpa using h5)
   exact this
  ·intro c' l e
   cases s' with
   | nil => exact fun hc => hpost c' l e (Or.inl hc)
   | cons c'' s'' =>
    rw [List.cons_append] at e
    cases e
    cases k with
    | zero => cases g4.1
    | succ k =>
     obtain ⟨c3, _, _, _, g5, g6, _⟩ := g4
     cases g6
     exact hcl c' g5
  ·intro i' h8 h9
   refine ⟨k, i + 1 + t.length, s', M + j * (C * t.length) + 20, g4, ?_, h9, by omega, ?_, ?_, by omega⟩
   ·intro h10
    refine h8 ?_
    by_cases h11 : rt.e = 0
    ·exact h11
    ·exfalso
     unfold opR at h10
     rw [if_neg (by omega), if_pos h11] at h10
     exact h11 h10
   ·have := At.step (t := c :: t) (l := s' ++ post) (by simpa using h5)
    rw [List.length_cons] at this
    rwa [show i + 1 + t.length = i + (t.length + 1) by omega]
   ·exact opR_ok (k := j) (p := i) h6 ht (hop c _ _ _ _ g1 h6.f ht.f h6.d ht.d)

def isM (c : Int) : Prop := isD c ∨ mulOp c

set_option maxHeartbeats 3200000 in
set_option maxRecDepth 100000 in
theorem product_at (n m : Nat) (hn : n ≤ 8) (hF : Rds 75 (Fc n) isD) (s : ByteArray) (p : Nat) (f s' post : List Int) (rf r : Rs) (b : Nat) (w : World) (hs : s.size ≤ 100) (hat : At s p (f ++ (s' ++ post))) (hf : Fc n f p rf) (hc : ChT (Fc n) mulOp m rf (p + f.length) s' r) (hh : Hd (fun c => isD c ∨ mulOp c) post) (hB : Blk w b #[.string s, .int .i64 p, .int .i64 0, .int .i64 0] 62) :
  Calls Try.prog 45 #[.pointer (some ⟨b, 0, none⟩)] w (RetS b s (p + (f.length + s'.length)) r w) := by
 have hsz := hat.size
 rw [List.length_append, List.length_append] at hsz
 have hok : ∀ t p r, Fc n t p r → RsOk (20 * 2 ^ n * t.length) r := fc_ok n
 have hC8 : 20 * 2 ^ n ≤ 5120 := by
  have h1 : 2 ^ n ≤ 2 ^ 8 := Nat.pow_le_pow_right (by decide) hn
  omega
 have hC0 : 20 ≤ 20 * 2 ^ n := by
  have h1 : 0 < 2 ^ n := Nat.pow_pos (by decide)
  omega
 have hcl : ∀ c, mulOp c → ¬ isD c := by
  intro c h1 h2
  unfold mulOp at h1
  unfold isD at h2
  rcases h1 with rfl | rfl <;> revert h2 <;> decide
 have h00 : ¬ mulOp 0 := by unfold mulOp; decide
 have hh1 : Hd isD (s' ++ post) := by
  intro c' l e
  cases s' with
  | nil => exact fun hc => hh c' l e (Or.inl hc)
  | cons c'' s'' =>
   rw [List.cons_append] at e
   cases e
   cases m with
   | zero => cases hc.1
   | succ k =>
    obtain ⟨c3, _, _, _, g5, g6, _⟩ := hc
    cases g6
    exact hcl c' g5
 have HL : Hid (∀ i, (rf.e = 0 → i = p + f.length) → i ≤ p + f.length → LoopAt (Fc n) mulOp 2 (20 * 2 ^ n) s post r (p + (f.length + s'.length)) rf i) := by
  intro i h1 h2
  refine ⟨m, p + f.length, s', 20 * 2 ^ n * f.length, hc, h1, h2, by omega, At.step hat, hok f p rf hf, ?_⟩
  have h3 : 20 * 2 ^ n * f.length ≤ 10240 * 100 := Nat.mul_le_mul (by omega) (by omega)
  have h4 : 2 * (20 * 2 ^ n) * s'.length ≤ 20480 * 100 := Nat.mul_le_mul (by omega) (by omega)
  omega
 have HST := Hid.mk (fun (acc : Rs) (i : Nat) h he => loop_step (F := Fc n) (ops := mulOp) (Pc := isD) (j := 2) (C := 20 * 2 ^ n) hC0 (by decide) hok mul_cost hcl h00 (s := s) (post := post) (r := r) (fin := p + (f.length + s'.length)) (acc := acc) (i := i) hh h he)
 have HAT := Hid.mk hat
 have HF := Hid.mk hf
 clear hat hf hc hh hcl h00 hok hC8 hC0
 have hbl := hB.lt
 have hB1 : Blk (w.alloc (.cells #[.bool false, .slice none 0 0, .bool false, .slice none 0 0, .bool false, .slice none 0 0, .int .i64 0] 41)) b #[.string s, .int .i64 p, .int .i64 0, .int .i64 0] 62 := Blk.alloc hB (.cells #[.bool false, .slice none 0 0, .bool false, .slice none 0 0, .bool false, .slice none 0 0, .int .i64 0] 41)
 have hR1 := Blk.new w #[.bool false, .slice none 0 0, .bool false, .slice none 0 0, .bool false, .slice none 0 0, .int .i64 0] 41
 go_enter Try.func45, Try.ntmps45
 go_wp2_with fail
 refine (hF s p f (s' ++ post) rf b _ hs HAT.out HF.out hh1 hB1).mono ?_
 rintro e wA ⟨vA, iA, rfl, hvA, hBA, hi1, hi2, hkA⟩
 have hRA := hR1.but hkA (by omega)
 have hkwA : KeepsBut b w wA := (KeepsBut.alloc (KeepsBut.refl b w) (.cells #[.bool false, .slice none 0 0, .bool false, .slice none 0 0, .bool false, .slice none 0 0, .int .i64 0] 41)).trans hkA
 have hszA := hkA.size
 have hLA : Hid (LoopAt (Fc n) mulOp 2 (20 * 2 ^ n) s post r (p + (f.length + s'.length)) rf iA) := HL.out iA hi1 hi2
 obtain ⟨b1, ao1, n1, c1, b2, ao2, n2, c2, b3, ao3, n3, c3, rfl, g1, g2, g3⟩ := id hvA
 clear g1 g2 g3 HL HAT HF hi1 hi2
 have hRl := hRA.lt
 have hBl := hBA.lt
 go_wp2_with fail
 go_loopw [4, 5, 6] (fun _ _ _ wr => ∃ (acc : Rs) (i : Nat) (b1 : Bool) (ao1 : Option Addr) (n1 c1 : Nat) (b2 : Bool) (ao2 : Option Addr) (n2 c2 : Nat) (b3 : Bool) (ao3 : Option Addr) (n3 c3 : Nat),
   XN wr (.agg #[.bool b1, .slice ao1 n1 c1, .bool b2, .slice ao2 n2 c2, .bool b3, .slice ao3 n3 c3, .int .i64 acc.v.d]) acc.v ∧ Blk wr wA.heap.size #[.bool b1, .slice ao1 n1 c1, .bool b2, .slice ao2 n2 c2, .bool b3, .slice ao3 n3 c3, .int .i64 acc.v.d] 41 ∧ Blk wr b #[.string s, .int .i64 i, .int .i64 acc.e, .int .i64 acc.k] 62 ∧ Blk wr w.heap.size #[.bool false, .slice none 0 0, .bool false, .slice none 0 0, .bool false, .slice none 0 0, .int .i64 0] 41 ∧ KeepsBut b w wr ∧ Hid (LoopAt (Fc n) mulOp 2 (20 * 2 ^ n) s post r (p + (f.length + s'.length)) acc i))
  (fun _ _ _ wr => farOf s b wr)
 case atStart => exact ⟨rf, iA, b1, ao1, n1, c1, b2, ao2, n2, c2, b3, ao3, n3, c3, hvA.soft (Sf.alloc (Sf.refl _ _) _), Blk.new wA _ _, Blk.alloc hBA _, Blk.alloc hRA _, KeepsBut.alloc hkwA _, hLA⟩
 case round =>
  clear hvA hBA hRA hLA hkwA
  obtain ⟨acc, i, b1, ao1, n1, c1, b2, ao2, n2, c2, b3, ao3, n3, c3, hvr, hVr, hBr, hRr, hkr, hLr⟩ := hrel
  have HM : Hid (farOf s b wr = if acc.e = 0 then s.size + 1 - i else 0) := by unfold Hid farOf; rw [errOf_blk hBr, atOf_blk hBr]
  obtain ⟨hra, hrb, hrc⟩ := loop_ok hLr.out
  have HRA := Hid.mk hra
  clear hra
  have bc := hBr.cell
  have bl := hBr.lt
  have vc := hVr.cell
  have vl := hVr.lt
  have rc := hRr.cell
  have rf' := hRr.frozen
  have rl := hRr.lt
  have hneV : w.heap.size ≠ wA.heap.size := by omega
  by_cases he : acc.e = 0
  ·rcases HST.out acc i hLr.out he with ⟨hra, hrf, hno⟩ | ⟨t, rt, post', hop, hlt, hft, hatt, hht, hrt, hnext⟩
   ·
    have x1 : (byteAt s i != 42) = true := by
     have : byteAt s i ≠ 42 := fun h => hno (Or.inl h)
     simp [this]
    have x2 : (byteAt s i != 47) = true := by
     have : byteAt s i ≠ 47 := fun h => hno (Or.inr h)
     simp [this]
    have hB0 : Blk wr b #[.string s, .int .i64 i, .int .i64 0, .int .i64 0] 62 := by have h9 := hBr; rw [he, (HRA.out).k he] at h9; exact h9
    have HE : Hid (r = acc ∧ i = p + (f.length + s'.length)) := ⟨hra, hrf⟩
    clear hno HST hLr hra hrf
    rw [he] at bc
    go_wp2_with fail
    refine (peek_any s i 0 0 b _ hB0 (by omega) (by omega)).mono ?_
    rintro e w1 ⟨rfl, hk1⟩
    have hB1 := hBr.keep hk1
    have hR1 := hRr.keep hk1
    have hV1 := hVr.keep hk1
    replace hvr := hvr.keep hk1
    generalize byteAt s i = cc at *
    clear bc bl vc vl rc rf' rl hBr hRr hVr hB0
    have vc := hV1.cell
    have vl := hV1.lt
    have rc := hR1.cell
    have rf' := hR1.frozen
    have rl := hR1.lt
    have bl := hB1.lt
    go_wp2_with fail
    refine bodyPost_ret (v := .agg #[.bool b1, .slice ao1 n1 c1, .bool b2, .slice ao2 n2 c2, .bool b3, .slice ao3 n3 c3, .int .i64 acc.v.d]) (by simp [results, Try.results45, go_sem, rc]) rfl ?_
    obtain ⟨e1, e2⟩ := HE.out
    rw [e1]
    exact ⟨_, i, rfl, hvr.soft (stS7 (E := 2) (.bool b1) (.slice ao1 n1 c1) (.bool b2) (.slice ao2 n2 c2) (.bool b3) (.slice ao3 n3 c3) (.int .i64 acc.v.d) hR1 (by decide)), (Blk.other (c := w.heap.size) (o := 6) (y := .int .i64 acc.v.d) (Blk.other (c := w.heap.size) (o := 5) (y := .slice ao3 n3 c3) (Blk.other (c := w.heap.size) (o := 4) (y := .bool b3) (Blk.other (c := w.heap.size) (o := 3) (y := .slice ao2 n2 c2) (Blk.other (c := w.heap.size) (o := 2) (y := .bool b2) (Blk.other (c := w.heap.size) (o := 1) (y := .slice ao1 n1 c1) (Blk.other (c := w.heap.size) (o := 0) (y := .bool b1) hB1 (by omega)) (by omega)) (by omega)) (by omega)) (by omega)) (by omega)) (by omega)), fun _ => e2, by omega, (KeepsBut.setNew (d := w.heap.size) (o := 6) (y := .int .i64 acc.v.d) (KeepsBut.setNew (d := w.heap.size) (o := 5) (y := .slice ao3 n3 c3) (KeepsBut.setNew (d := w.heap.size) (o := 4) (y := .bool b3) (KeepsBut.setNew (d := w.heap.size) (o := 3) (y := .slice ao2 n2 c2) (KeepsBut.setNew (d := w.heap.size) (o := 2) (y := .bool b2) (KeepsBut.setNew (d := w.heap.size) (o := 1) (y := .slice ao1 n1 c1) (KeepsBut.setNew (d := w.heap.size) (o := 0) (y := .bool b1) (hkr.trans (KeepsBut.of_kp hk1)) (Nat.le_refl _)) (Nat.le_refl _)) (Nat.le_refl _)) (Nat.le_refl _)) (Nat.le_refl _)) (Nat.le_refl _)) (Nat.le_refl _))⟩
   ·
    have hBq : Blk wr b #[.string s, .int .i64 i, .int .i64 0, .int .i64 0] 62 := by have h9 := hBr; rw [he, (HRA.out).k he] at h9; exact h9
    have HN := Hid.mk hnext
    have HFT := Hid.mk hft
    have HAT := Hid.mk hatt
    have HRT := Hid.mk hrt
    have HHT := Hid.mk hht
    clear hnext hft hatt hrt hht HST hLr bc rc rf'
    have bc := hBq.cell
    have bf := hBq.frozen
    have step : ∀ cc : Int, byteAt s i = cc → ((cc != 42) = false ∨ ((cc != 42) = true ∧ (cc != 47) = false)) → True := fun _ _ _ => trivial
    clear step
    go_wp2_with fail
    refine (peek_any s i 0 0 b _ hBq (by omega) (by omega)).mono ?_
    rintro e w1 ⟨rfl, hk1⟩
    replace hBq := hBq.keep hk1
    replace hRr := hRr.keep hk1
    replace hVr := hVr.keep hk1
    replace hvr := hvr.keep hk1
    clear bc bf bl vc vl rl hBr
    have bc := hBq.cell
    have bf := hBq.frozen
    have bl := hBq.lt
    have vc := hVr.cell
    have vl := hVr.lt
    have rl := hRr.lt
    have hk2a := hkr.trans (KeepsBut.of_kp hk1)
    have hB2 : Blk (w1.setCell ⟨b, 1, none⟩ (.int .i64 ((i : Int) + 1))) b #[.string s, .int .i64 ((i + 1 : Nat) : Int), .int .i64 0, .int .i64 0] 62 := by
     rw [show ((i + 1 : Nat) : Int) = (i : Int) + 1 by omega]
     exact Blk.set (o := 1) (y := .int .i64 ((i : Int) + 1)) hBq
    have hT := Hid.mk (fun w' hB' => hF s (i + 1) t post' rt b w' hs HAT.out HFT.out HHT.out hB')
    have HM2 : Hid (farOf s b wr = s.size + 1 - i) := by unfold Hid; rw [HM.out, if_pos he]
    clear HAT HFT HHT HM
    have hcc := hop
    generalize byteAt s i = cc at *
    rcases hcc with rfl | rfl
    ·have x1 : ((42 : Int) == 42) = true := by decide
     go_wp2_with fail
     refine (hT.out _ hB2).mono ?_
     rintro e w3 ⟨v3, i3, rfl, hv3, hB3, hi1, hi2, hk3⟩
     have hk3' : KeepsBut b w1 w3 := (KeepsBut.setCell (KeepsBut.refl b w1) 1 (.int .i64 ((i : Int) + 1))).trans hk3
     have hR3 := hRr.but hk3' (by omega)
     have hV3 := hVr.but hk3' (by omega)
     have hvr3 := hvr.soft (Sf.butB hBq hk3')
     have HI3 := Hid.mk hi1
     clear hi1 hk3 bc bf bl vc vl rl
     obtain ⟨b4, ao4, n4, c4, b5, ao5, n5, c5, b6, ao6, n6, c6, rfl, g1, g2, g3⟩ := id hv3
     clear g1 g2 g3
     have vc := hV3.cell
     have vl := hV3.lt
     go_wp2_with fail
     refine (operate_any s i3 (42) i acc rt 15000000 b _ _ _ (Blk.alloc hB3 (.cells #[.bool b4, .slice ao4 n4 c4, .bool b5, .slice ao5 n5 c5, .bool b6, .slice ao6 n6 c6, .int .i64 rt.v.d] 41)) (hvr3.soft (Sf.alloc (Sf.refl _ _) (.cells #[.bool b4, .slice ao4 n4 c4, .bool b5, .slice ao5 n5 c5, .bool b6, .slice ao6 n6 c6, .int .i64 rt.v.d] 41))) (hv3.soft (Sf.alloc (Sf.refl _ _) (.cells #[.bool b4, .slice ao4 n4 c4, .bool b5, .slice ao5 n5 c5, .bool b6, .slice ao6 n6 c6, .int .i64 rt.v.d] 41))) he (by omega) HRA.out HRT.out).mono ?_
     rintro e w4 ⟨v4, rfl, hv4, hB4, hk4⟩
     have hk4' : KeepsBut b w3 w4 := (KeepsBut.alloc (KeepsBut.refl b w3) (.cells #[.bool b4, .slice ao4 n4 c4, .bool b5, .slice ao5 n5 c5, .bool b6, .slice ao6 n6 c6, .int .i64 rt.v.d] 41)).trans hk4
     have hR4 := hR3.but hk4' (by omega)
     have hV4 := hV3.but hk4' (by omega)
     have HLN : Hid (LoopAt (Fc n) mulOp 2 (20 * 2 ^ n) s post r (p + (f.length + s'.length)) (opR (42) i acc rt) i3) := HN.out i3 HI3.out hi2
     have HE3 : Hid ((opR (42) i acc rt).e = 0 → i3 = i + 1 + t.length) := by
      intro h10
      refine HI3.out ?_
      by_cases h11 : rt.e = 0
      ·exact h11
      ·exfalso
       unfold opR at h10
       rw [if_neg (by omega), if_pos h11] at h10
       exact h11 h10
     obtain ⟨b17, ao17, n17, c17, b18, ao18, n18, c18, b19, ao19, n19, c19, rfl, g1, g2, g3⟩ := id hv4
     clear g1 g2 g3 vc vl HN hT HI3
     generalize opR (42) i acc rt = A at *
     have vc := hV4.cell
     have vf := hV4.frozen
     have vl := hV4.lt
     go_wp2_with fail
     go_roundw
     case rel =>
      refine ⟨A, i3, b17, ao17, n17, c17, b18, ao18, n18, c18, b19, ao19, n19, c19, hv4.soft (stS7 (E := 2) (.bool b17) (.slice ao17 n17 c17) (.bool b18) (.slice ao18 n18 c18) (.bool b19) (.slice ao19 n19 c19) (.int .i64 A.v.d) hV4 (by decide)), (Blk.set (o := 6) (y := .int .i64 A.v.d) (Blk.set (o := 5) (y := .slice ao19 n19 c19) (Blk.set (o := 4) (y := .bool b19) (Blk.set (o := 3) (y := .slice ao18 n18 c18) (Blk.set (o := 2) (y := .bool b18) (Blk.set (o := 1) (y := .slice ao17 n17 c17) (Blk.set (o := 0) (y := .bool b17) hV4))))))), (Blk.other (c := wA.heap.size) (o := 6) (y := .int .i64 A.v.d) (Blk.other (c := wA.heap.size) (o := 5) (y := .slice ao19 n19 c19) (Blk.other (c := wA.heap.size) (o := 4) (y := .bool b19) (Blk.other (c := wA.heap.size) (o := 3) (y := .slice ao18 n18 c18) (Blk.other (c := wA.heap.size) (o := 2) (y := .bool b18) (Blk.other (c := wA.heap.size) (o := 1) (y := .slice ao17 n17 c17) (Blk.other (c := wA.heap.size) (o := 0) (y := .bool b17) hB4 (by omega)) (by omega)) (by omega)) (by omega)) (by omega)) (by omega)) (by omega)), (Blk.other (c := wA.heap.size) (o := 6) (y := .int .i64 A.v.d) (Blk.other (c := wA.heap.size) (o := 5) (y := .slice ao19 n19 c19) (Blk.other (c := wA.heap.size) (o := 4) (y := .bool b19) (Blk.other (c := wA.heap.size) (o := 3) (y := .slice ao18 n18 c18) (Blk.other (c := wA.heap.size) (o := 2) (y := .bool b18) (Blk.other (c := wA.heap.size) (o := 1) (y := .slice ao17 n17 c17) (Blk.other (c := wA.heap.size) (o := 0) (y := .bool b17) hR4 (by omega)) (by omega)) (by omega)) (by omega)) (by omega)) (by omega)) (by omega)), (KeepsBut.setNew (d := wA.heap.size) (o := 6) (y := .int .i64 A.v.d) (KeepsBut.setNew (d := wA.heap.size) (o := 5) (y := .slice ao19 n19 c19) (KeepsBut.setNew (d := wA.heap.size) (o := 4) (y := .bool b19) (KeepsBut.setNew (d := wA.heap.size) (o := 3) (y := .slice ao18 n18 c18) (KeepsBut.setNew (d := wA.heap.size) (o := 2) (y := .bool b18) (KeepsBut.setNew (d := wA.heap.size) (o := 1) (y := .slice ao17 n17 c17) (KeepsBut.setNew (d := wA.heap.size) (o := 0) (y := .bool b17) ((hk2a.trans hk3').trans hk4') (by omega)) (by omega)) (by omega)) (by omega)) (by omega)) (by omega)) (by omega)), HLN⟩
     case measure =>
      rw [HM2.out]
      unfold farOf
      rw [errOf_blk (Blk.other (c := wA.heap.size) (o := 6) (y := .int .i64 A.v.d) (Blk.other (c := wA.heap.size) (o := 5) (y := .slice ao19 n19 c19) (Blk.other (c := wA.heap.size) (o := 4) (y := .bool b19) (Blk.other (c := wA.heap.size) (o := 3) (y := .slice ao18 n18 c18) (Blk.other (c := wA.heap.size) (o := 2) (y := .bool b18) (Blk.other (c := wA.heap.size) (o := 1) (y := .slice ao17 n17 c17) (Blk.other (c := wA.heap.size) (o := 0) (y := .bool b17) hB4 (by omega)) (by omega)) (by omega)) (by omega)) (by omega)) (by omega)) (by omega)), atOf_blk (Blk.other (c := wA.heap.size) (o := 6) (y := .int .i64 A.v.d) (Blk.other (c := wA.heap.size) (o := 5) (y := .slice ao19 n19 c19) (Blk.other (c := wA.heap.size) (o := 4) (y := .bool b19) (Blk.other (c := wA.heap.size) (o := 3) (y := .slice ao18 n18 c18) (Blk.other (c := wA.heap.size) (o := 2) (y := .bool b18) (Blk.other (c := wA.heap.size) (o := 1) (y := .slice ao17 n17 c17) (Blk.other (c := wA.heap.size) (o := 0) (y := .bool b17) hB4 (by omega)) (by omega)) (by omega)) (by omega)) (by omega)) (by omega)) (by omega))]
      split
      ·rename_i h12
       have := HE3.out h12
       omega
      ·omega
    ·have x1 : ((47 : Int) == 42) = false := by decide
     go_wp2_with fail
     refine (hT.out _ hB2).mono ?_
     rintro e w3 ⟨v3, i3, rfl, hv3, hB3, hi1, hi2, hk3⟩
     have hk3' : KeepsBut b w1 w3 := (KeepsBut.setCell (KeepsBut.refl b w1) 1 (.int .i64 ((i : Int) + 1))).trans hk3
     have hR3 := hRr.but hk3' (by omega)
     have hV3 := hVr.but hk3' (by omega)
     have hvr3 := hvr.soft (Sf.butB hBq hk3')
     have HI3 := Hid.mk hi1
     clear hi1 hk3 bc bf bl vc vl rl
     obtain ⟨b4, ao4, n4, c4, b5, ao5, n5, c5, b6, ao6, n6, c6, rfl, g1, g2, g3⟩ := id hv3
     clear g1 g2 g3
     have vc := hV3.cell
     have vl := hV3.lt
     go_wp2_with fail
     refine (operate_any s i3 (47) i acc rt 15000000 b _ _ _ (Blk.alloc hB3 (.cells #[.bool b4, .slice ao4 n4 c4, .bool b5, .slice ao5 n5 c5, .bool b6, .slice ao6 n6 c6, .int .i64 rt.v.d] 41)) (hvr3.soft (Sf.alloc (Sf.refl _ _) (.cells #[.bool b4, .slice ao4 n4 c4, .bool b5, .slice ao5 n5 c5, .bool b6, .slice ao6 n6 c6, .int .i64 rt.v.d] 41))) (hv3.soft (Sf.alloc (Sf.refl _ _) (.cells #[.bool b4, .slice ao4 n4 c4, .bool b5, .slice ao5 n5 c5, .bool b6, .slice ao6 n6 c6, .int .i64 rt.v.d] 41))) he (by omega) HRA.out HRT.out).mono ?_
     rintro e w4 ⟨v4, rfl, hv4, hB4, hk4⟩
     have hk4' : KeepsBut b w3 w4 := (KeepsBut.alloc (KeepsBut.refl b w3) (.cells #[.bool b4, .slice ao4 n4 c4, .bool b5, .slice ao5 n5 c5, .bool b6, .slice ao6 n6 c6, .int .i64 rt.v.d] 41)).trans hk4
     have hR4 := hR3.but hk4' (by omega)
     have hV4 := hV3.but hk4' (by omega)
     have HLN : Hid (LoopAt (Fc n) mulOp 2 (20 * 2 ^ n) s post r (p + (f.length + s'.length)) (opR (47) i acc rt) i3) := HN.out i3 HI3.out hi2
     have HE3 : Hid ((opR (47) i acc rt).e = 0 → i3 = i + 1 + t.length) := by
      intro h10
      refine HI3.out ?_
      by_cases h11 : rt.e = 0
      ·exact h11
      ·exfalso
       unfold opR at h10
       rw [if_neg (by omega), if_pos h11] at h10
       exact h11 h10
     obtain ⟨b17, ao17, n17, c17, b18, ao18, n18, c18, b19, ao19, n19, c19, rfl, g1, g2, g3⟩ := id hv4
     clear g1 g2 g3 vc vl HN hT HI3
     generalize opR (47) i acc rt = A at *
     have vc := hV4.cell
     have vf := hV4.frozen
     have vl := hV4.lt
     go_wp2_with fail
     go_roundw
     case rel =>
      refine ⟨A, i3, b17, ao17, n17, c17, b18, ao18, n18, c18, b19, ao19, n19, c19, hv4.soft (stS7 (E := 2) (.bool b17) (.slice ao17 n17 c17) (.bool b18) (.slice ao18 n18 c18) (.bool b19) (.slice ao19 n19 c19) (.int .i64 A.v.d) hV4 (by decide)), (Blk.set (o := 6) (y := .int .i64 A.v.d) (Blk.set (o := 5) (y := .slice ao19 n19 c19) (Blk.set (o := 4) (y := .bool b19) (Blk.set (o := 3) (y := .slice ao18 n18 c18) (Blk.set (o := 2) (y := .bool b18) (Blk.set (o := 1) (y := .slice ao17 n17 c17) (Blk.set (o := 0) (y := .bool b17) hV4))))))), (Blk.other (c := wA.heap.size) (o := 6) (y := .int .i64 A.v.d) (Blk.other (c := wA.heap.size) (o := 5) (y := .slice ao19 n19 c19) (Blk.other (c := wA.heap.size) (o := 4) (y := .bool b19) (Blk.other (c := wA.heap.size) (o := 3) (y := .slice ao18 n18 c18) (Blk.other (c := wA.heap.size) (o := 2) (y := .bool b18) (Blk.other (c := wA.heap.size) (o := 1) (y := .slice ao17 n17 c17) (Blk.other (c := wA.heap.size) (o := 0) (y := .bool b17) hB4 (by omega)) (by omega)) (by omega)) (by omega)) (by omega)) (by omega)) (by omega)), (Blk.other (c := wA.heap.size) (o := 6) (y := .int .i64 A.v.d) (Blk.other (c := wA.heap.size) (o := 5) (y := .slice ao19 n19 c19) (Blk.other (c := wA.heap.size) (o := 4) (y := .bool b19) (Blk.other (c := wA.heap.size) (o := 3) (y := .slice ao18 n18 c18) (Blk.other (c := wA.heap.size) (o := 2) (y := .bool b18) (Blk.other (c := wA.heap.size) (o := 1) (y := .slice ao17 n17 c17) (Blk.other (c := wA.heap.size) (o := 0) (y := .bool b17) hR4 (by omega)) (by omega)) (by omega)) (by omega)) (by omega)) (by omega)) (by omega)), (KeepsBut.setNew (d := wA.heap.size) (o := 6) (y := .int .i64 A.v.d) (KeepsBut.setNew (d := wA.heap.size) (o := 5) (y := .slice ao19 n19 c19) (KeepsBut.setNew (d := wA.heap.size) (o := 4) (y := .bool b19) (KeepsBut.setNew (d := wA.heap.size) (o := 3) (y := .slice ao18 n18 c18) (KeepsBut.setNew (d := wA.heap.size) (o := 2) (y := .bool b18) (KeepsBut.setNew (d := wA.heap.size) (o := 1) (y := .slice ao17 n17 c17) (KeepsBut.setNew (d := wA.heap.size) (o := 0) (y := .bool b17) ((hk2a.trans hk3').trans hk4') (by omega)) (by omega)) (by omega)) (by omega)) (by omega)) (by omega)) (by omega)), HLN⟩
     case measure =>
      rw [HM2.out]
      unfold farOf
      rw [errOf_blk (Blk.other (c := wA.heap.size) (o := 6) (y := .int .i64 A.v.d) (Blk.other (c := wA.heap.size) (o := 5) (y := .slice ao19 n19 c19) (Blk.other (c := wA.heap.size) (o := 4) (y := .bool b19) (Blk.other (c := wA.heap.size) (o := 3) (y := .slice ao18 n18 c18) (Blk.other (c := wA.heap.size) (o := 2) (y := .bool b18) (Blk.other (c := wA.heap.size) (o := 1) (y := .slice ao17 n17 c17) (Blk.other (c := wA.heap.size) (o := 0) (y := .bool b17) hB4 (by omega)) (by omega)) (by omega)) (by omega)) (by omega)) (by omega)) (by omega)), atOf_blk (Blk.other (c := wA.heap.size) (o := 6) (y := .int .i64 A.v.d) (Blk.other (c := wA.heap.size) (o := 5) (y := .slice ao19 n19 c19) (Blk.other (c := wA.heap.size) (o := 4) (y := .bool b19) (Blk.other (c := wA.heap.size) (o := 3) (y := .slice ao18 n18 c18) (Blk.other (c := wA.heap.size) (o := 2) (y := .bool b18) (Blk.other (c := wA.heap.size) (o := 1) (y := .slice ao17 n17 c17) (Blk.other (c := wA.heap.size) (o := 0) (y := .bool b17) hB4 (by omega)) (by omega)) (by omega)) (by omega)) (by omega)) (by omega)) (by omega))]
      split
      ·rename_i h12
       have := HE3.out h12
       omega
      ·omega
  ·have x1 : (acc.e == 0) = false := by simp [he]
   obtain ⟨e1, e2⟩ := loop_err hLr.out he
   have HE : Hid (r = acc ∧ i ≤ p + (f.length + s'.length)) := ⟨e1, e2⟩
   clear HST hLr e1 e2
   go_wp2_with fail
   refine bodyPost_ret (v := .agg #[.bool b1, .slice ao1 n1 c1, .bool b2, .slice ao2 n2 c2, .bool b3, .slice ao3 n3 c3, .int .i64 acc.v.d]) (by simp [results, Try.results45, go_sem, rc]) rfl ?_
   obtain ⟨e1, e2⟩ := HE.out
   rw [e1]
   exact ⟨_, i, rfl, hvr.soft (stS7 (E := 2) (.bool b1) (.slice ao1 n1 c1) (.bool b2) (.slice ao2 n2 c2) (.bool b3) (.slice ao3 n3 c3) (.int .i64 acc.v.d) hRr (by decide)), (Blk.other (c := w.heap.size) (o := 6) (y := .int .i64 acc.v.d) (Blk.other (c := w.heap.size) (o := 5) (y := .slice ao3 n3 c3) (Blk.other (c := w.heap.size) (o := 4) (y := .bool b3) (Blk.other (c := w.heap.size) (o := 3) (y := .slice ao2 n2 c2) (Blk.other (c := w.heap.size) (o := 2) (y := .bool b2) (Blk.other (c := w.heap.size) (o := 1) (y := .slice ao1 n1 c1) (Blk.other (c := w.heap.size) (o := 0) (y := .bool b1) hBr (by omega)) (by omega)) (by omega)) (by omega)) (by omega)) (by omega)) (by omega)), fun h => absurd h he, e2, (KeepsBut.setNew (d := w.heap.size) (o := 6) (y := .int .i64 acc.v.d) (KeepsBut.setNew (d := w.heap.size) (o := 5) (y := .slice ao3 n3 c3) (KeepsBut.setNew (d := w.heap.size) (o := 4) (y := .bool b3) (KeepsBut.setNew (d := w.heap.size) (o := 3) (y := .slice ao2 n2 c2) (KeepsBut.setNew (d := w.heap.size) (o := 2) (y := .bool b2) (KeepsBut.setNew (d := w.heap.size) (o := 1) (y := .slice ao1 n1 c1) (KeepsBut.setNew (d := w.heap.size) (o := 0) (y := .bool b1) hkr (Nat.le_refl _)) (Nat.le_refl _)) (Nat.le_refl _)) (Nat.le_refl _)) (Nat.le_refl _)) (Nat.le_refl _)) (Nat.le_refl _))⟩

theorem product_any (n : Nat) (hn : n ≤ 8) (hF : Rds 75 (Fc n) isD) : Rds 45 (Pd n) isM := by
 intro s p t post r b w hs hat ht hh hB
 obtain ⟨m, f, s', rf, rfl, h2, h3⟩ := ht
 rw [List.append_assoc] at hat
 rw [List.length_append]
 exact product_at n m hn hF s p f s' post rf r b w hs hat h2 h3 hh hB


end Go.Proofs.Ytjahbjjekednfaa

namespace Go.Proofs.Ytjahbjjekednfaa
open Go.RowKit

theorem pd_ok (n : Nat) (t : List Int) (p : Nat) (r : Rs) (h : Pd n t p r) : RsOk (2 * (20 * 2 ^ n) * t.length) r := by
 have h1 : 0 < 2 ^ n := Nat.pow_pos (by decide)
 exact ch_ok (by decide) (by omega) (fc_ok n) mul_cost h

set_option maxHeartbeats 3200000 in
set_option maxRecDepth 100000 in
theorem sum_at (n m : Nat) (hn : n ≤ 8) (hF : Rds 45 (Pd n) isM) (s : ByteArray) (p : Nat) (f s' post : List Int) (rf r : Rs) (b : Nat) (w : World) (hs : s.size ≤ 100) (hat : At s p (f ++ (s' ++ post))) (hf : Pd n f p rf) (hc : ChT (Pd n) addOp m rf (p + f.length) s' r) (hh : Hd (fun c => isM c ∨ addOp c) post) (hB : Blk w b #[.string s, .int .i64 p, .int .i64 0, .int .i64 0] 62) :
  Calls Try.prog 22 #[.pointer (some ⟨b, 0, none⟩)] w (RetS b s (p + (f.length + s'.length)) r w) := by
 have hsz := hat.size
 rw [List.length_append, List.length_append] at hsz
 have hok : ∀ t p r, Pd n t p r → RsOk (2 * (20 * 2 ^ n) * t.length) r := pd_ok n
 have hC8 : 2 * (20 * 2 ^ n) ≤ 10240 := by
  have h1 : 2 ^ n ≤ 2 ^ 8 := Nat.pow_le_pow_right (by decide) hn
  omega
 have hC0 : 20 ≤ 2 * (20 * 2 ^ n) := by
  have h1 : 0 < 2 ^ n := Nat.pow_pos (by decide)
  omega
 have hcl : ∀ c, addOp c → ¬ isM c := by
  intro c h1 h2
  unfold addOp at h1
  unfold isM isD mulOp at h2
  rcases h1 with rfl | rfl <;> revert h2 <;> decide
 have h00 : ¬ addOp 0 := by unfold addOp; decide
 have hh1 : Hd isM (s' ++ post) := by
  intro c' l e
  cases s' with
  | nil => exact fun hc => hh c' l e (Or.inl hc)
  | cons c'' s'' =>
   rw [List.cons_append] at e
   cases e
   cases m with
   | zero => cases hc.1
   | succ k =>
    obtain ⟨c3, _, _, _, g5, g6, _⟩ := hc
    cases g6
    exact hcl c' g5
 have HL : Hid (∀ i, (rf.e = 0 → i = p + f.length) → i ≤ p + f.length → LoopAt (Pd n) addOp 1 (2 * (20 * 2 ^ n)) s post r (p + (f.length + s'.length)) rf i) := by
  intro i h1 h2
  refine ⟨m, p + f.length, s', 2 * (20 * 2 ^ n) * f.length, hc, h1, h2, by omega, At.step hat, hok f p rf hf, ?_⟩
  have h3 : 2 * (20 * 2 ^ n) * f.length ≤ 10240 * 100 := Nat.mul_le_mul (by omega) (by omega)
  have h4 : 1 * (2 * (20 * 2 ^ n)) * s'.length ≤ 20480 * 100 := Nat.mul_le_mul (by omega) (by omega)
  omega
 have HST := Hid.mk (fun (acc : Rs) (i : Nat) h he => loop_step (F := Pd n) (ops := addOp) (Pc := isM) (j := 1) (C := 2 * (20 * 2 ^ n)) hC0 (by decide) hok add_cost hcl h00 (s := s) (post := post) (r := r) (fin := p + (f.length + s'.length)) (acc := acc) (i := i) hh h he)
 have HAT := Hid.mk hat
 have HF := Hid.mk hf
 clear hat hf hc hh hcl h00 hok hC8 hC0
 have hbl := hB.lt
 have hB1 : Blk (w.alloc (.cells #[.bool false, .slice none 0 0, .bool false, .slice none 0 0, .bool false, .slice none 0 0, .int .i64 0] 41)) b #[.string s, .int .i64 p, .int .i64 0, .int .i64 0] 62 := Blk.alloc hB (.cells #[.bool false, .slice none 0 0, .bool false, .slice none 0 0, .bool false, .slice none 0 0, .int .i64 0] 41)
 have hR1 := Blk.new w #[.bool false, .slice none 0 0, .bool false, .slice none 0 0, .bool false, .slice none 0 0, .int .i64 0] 41
 go_enter Try.func22, Try.ntmps22
 go_wp2_with fail
 refine (hF s p f (s' ++ post) rf b _ hs HAT.out HF.out hh1 hB1).mono ?_
 rintro e wA ⟨vA, iA, rfl, hvA, hBA, hi1, hi2, hkA⟩
 have hRA := hR1.but hkA (by omega)
 have hkwA : KeepsBut b w wA := (KeepsBut.alloc (KeepsBut.refl b w) (.cells #[.bool false, .slice none 0 0, .bool false, .slice none 0 0, .bool false, .slice none 0 0, .int .i64 0] 41)).trans hkA
 have hszA := hkA.size
 have hLA : Hid (LoopAt (Pd n) addOp 1 (2 * (20 * 2 ^ n)) s post r (p + (f.length + s'.length)) rf iA) := HL.out iA hi1 hi2
 obtain ⟨b1, ao1, n1, c1, b2, ao2, n2, c2, b3, ao3, n3, c3, rfl, g1, g2, g3⟩ := id hvA
 clear g1 g2 g3 HL HAT HF hi1 hi2
 have hRl := hRA.lt
 have hBl := hBA.lt
 go_wp2_with fail
 go_loopw [4, 5, 6] (fun _ _ _ wr => ∃ (acc : Rs) (i : Nat) (b1 : Bool) (ao1 : Option Addr) (n1 c1 : Nat) (b2 : Bool) (ao2 : Option Addr) (n2 c2 : Nat) (b3 : Bool) (ao3 : Option Addr) (n3 c3 : Nat),
   XN wr (.agg #[.bool b1, .slice ao1 n1 c1, .bool b2, .slice ao2 n2 c2, .bool b3, .slice ao3 n3 c3, .int .i64 acc.v.d]) acc.v ∧ Blk wr wA.heap.size #[.bool b1, .slice ao1 n1 c1, .bool b2, .slice ao2 n2 c2, .bool b3, .slice ao3 n3 c3, .int .i64 acc.v.d] 41 ∧ Blk wr b #[.string s, .int .i64 i, .int .i64 acc.e, .int .i64 acc.k] 62 ∧ Blk wr w.heap.size #[.bool false, .slice none 0 0, .bool false, .slice none 0 0, .bool false, .slice none 0 0, .int .i64 0] 41 ∧ KeepsBut b w wr ∧ Hid (LoopAt (Pd n) addOp 1 (2 * (20 * 2 ^ n)) s post r (p + (f.length + s'.length)) acc i))
  (fun _ _ _ wr => farOf s b wr)
 case atStart => exact ⟨rf, iA, b1, ao1, n1, c1, b2, ao2, n2, c2, b3, ao3, n3, c3, hvA.soft (Sf.alloc (Sf.refl _ _) _), Blk.new wA _ _, Blk.alloc hBA _, Blk.alloc hRA _, KeepsBut.alloc hkwA _, hLA⟩
 case round =>
  clear hvA hBA hRA hLA hkwA
  obtain ⟨acc, i, b1, ao1, n1, c1, b2, ao2, n2, c2, b3, ao3, n3, c3, hvr, hVr, hBr, hRr, hkr, hLr⟩ := hrel
  have HM : Hid (farOf s b wr = if acc.e = 0 then s.size + 1 - i else 0) := by unfold Hid farOf; rw [errOf_blk hBr, atOf_blk hBr]
  obtain ⟨hra, hrb, hrc⟩ := loop_ok hLr.out
  have HRA := Hid.mk hra
  clear hra
  have bc := hBr.cell
  have bl := hBr.lt
  have vc := hVr.cell
  have vl := hVr.lt
  have rc := hRr.cell
  have rf' := hRr.frozen
  have rl := hRr.lt
  have hneV : w.heap.size ≠ wA.heap.size := by omega
  by_cases he : acc.e = 0
  ·rcases HST.out acc i hLr.out he with ⟨hra, hrf, hno⟩ | ⟨t, rt, post', hop, hlt, hft, hatt, hht, hrt, hnext⟩
   ·
    have x1 : (byteAt s i != 43) = true := by
     have : byteAt s i ≠ 43 := fun h => hno (Or.inl h)
     simp [this]
    have x2 : (byteAt s i != 45) = true := by
     have : byteAt s i ≠ 45 := fun h => hno (Or.inr h)
     simp [this]
    have hB0 : Blk wr b #[.string s, .int .i64 i, .int .i64 0, .int .i64 0] 62 := by have h9 := hBr; rw [he, (HRA.out).k he] at h9; exact h9
    have HE : Hid (r = acc ∧ i = p + (f.length + s'.length)) := ⟨hra, hrf⟩
    clear hno HST hLr hra hrf
    rw [he] at bc
    go_wp2_with fail
    refine (peek_any s i 0 0 b _ hB0 (by omega) (by omega)).mono ?_
    rintro e w1 ⟨rfl, hk1⟩
    have hB1 := hBr.keep hk1
    have hR1 := hRr.keep hk1
    have hV1 := hVr.keep hk1
    replace hvr := hvr.keep hk1
    generalize byteAt s i = cc at *
    clear bc bl vc vl rc rf' rl hBr hRr hVr hB0
    have vc := hV1.cell
    have vl := hV1.lt
    have rc := hR1.cell
    have rf' := hR1.frozen
    have rl := hR1.lt
    have bl := hB1.lt
    go_wp2_with fail
    refine bodyPost_ret (v := .agg #[.bool b1, .slice ao1 n1 c1, .bool b2, .slice ao2 n2 c2, .bool b3, .slice ao3 n3 c3, .int .i64 acc.v.d]) (by simp [results, Try.results22, go_sem, rc]) rfl ?_
    obtain ⟨e1, e2⟩ := HE.out
    rw [e1]
    exact ⟨_, i, rfl, hvr.soft (stS7 (E := 2) (.bool b1) (.slice ao1 n1 c1) (.bool b2) (.slice ao2 n2 c2) (.bool b3) (.slice ao3 n3 c3) (.int .i64 acc.v.d) hR1 (by decide)), (Blk.other (c := w.heap.size) (o := 6) (y := .int .i64 acc.v.d) (Blk.other (c := w.heap.size) (o := 5) (y := .slice ao3 n3 c3) (Blk.other (c := w.heap.size) (o := 4) (y := .bool b3) (Blk.other (c := w.heap.size) (o := 3) (y := .slice ao2 n2 c2) (Blk.other (c := w.heap.size) (o := 2) (y := .bool b2) (Blk.other (c := w.heap.size) (o := 1) (y := .slice ao1 n1 c1) (Blk.other (c := w.heap.size) (o := 0) (y := .bool b1) hB1 (by omega)) (by omega)) (by omega)) (by omega)) (by omega)) (by omega)) (by omega)), fun _ => e2, by omega, (KeepsBut.setNew (d := w.heap.size) (o := 6) (y := .int .i64 acc.v.d) (KeepsBut.setNew (d := w.heap.size) (o := 5) (y := .slice ao3 n3 c3) (KeepsBut.setNew (d := w.heap.size) (o := 4) (y := .bool b3) (KeepsBut.setNew (d := w.heap.size) (o := 3) (y := .slice ao2 n2 c2) (KeepsBut.setNew (d := w.heap.size) (o := 2) (y := .bool b2) (KeepsBut.setNew (d := w.heap.size) (o := 1) (y := .slice ao1 n1 c1) (KeepsBut.setNew (d := w.heap.size) (o := 0) (y := .bool b1) (hkr.trans (KeepsBut.of_kp hk1)) (Nat.le_refl _)) (Nat.le_refl _)) (Nat.le_refl _)) (Nat.le_refl _)) (Nat.le_refl _)) (Nat.le_refl _)) (Nat.le_refl _))⟩
   ·
    have hBq : Blk wr b #[.string s, .int .i64 i, .int .i64 0, .int .i64 0] 62 := by have h9 := hBr; rw [he, (HRA.out).k he] at h9; exact h9
    have HN := Hid.mk hnext
    have HFT := Hid.mk hft
    have HAT := Hid.mk hatt
    have HRT := Hid.mk hrt
    have HHT := Hid.mk hht
    clear hnext hft hatt hrt hht HST hLr bc rc rf'
    have bc := hBq.cell
    have bf := hBq.frozen
    have step : ∀ cc : Int, byteAt s i = cc → ((cc != 43) = false ∨ ((cc != 43) = true ∧ (cc != 45) = false)) → True := fun _ _ _ => trivial
    clear step
    go_wp2_with fail
    refine (peek_any s i 0 0 b _ hBq (by omega) (by omega)).mono ?_
    rintro e w1 ⟨rfl, hk1⟩
    replace hBq := hBq.keep hk1
    replace hRr := hRr.keep hk1
    replace hVr := hVr.keep hk1
    replace hvr := hvr.keep hk1
    clear bc bf bl vc vl rl hBr
    have bc := hBq.cell
    have bf := hBq.frozen
    have bl := hBq.lt
    have vc := hVr.cell
    have vl := hVr.lt
    have rl := hRr.lt
    have hk2a := hkr.trans (KeepsBut.of_kp hk1)
    have hB2 : Blk (w1.setCell ⟨b, 1, none⟩ (.int .i64 ((i : Int) + 1))) b #[.string s, .int .i64 ((i + 1 : Nat) : Int), .int .i64 0, .int .i64 0] 62 := by
     rw [show ((i + 1 : Nat) : Int) = (i : Int) + 1 by omega]
     exact Blk.set (o := 1) (y := .int .i64 ((i : Int) + 1)) hBq
    have hT := Hid.mk (fun w' hB' => hF s (i + 1) t post' rt b w' hs HAT.out HFT.out HHT.out hB')
    have HM2 : Hid (farOf s b wr = s.size + 1 - i) := by unfold Hid; rw [HM.out, if_pos he]
    clear HAT HFT HHT HM
    have hcc := hop
    generalize byteAt s i = cc at *
    rcases hcc with rfl | rfl
    ·have x1 : ((43 : Int) == 43) = true := by decide
     go_wp2_with fail
     refine (hT.out _ hB2).mono ?_
     rintro e w3 ⟨v3, i3, rfl, hv3, hB3, hi1, hi2, hk3⟩
     have hk3' : KeepsBut b w1 w3 := (KeepsBut.setCell (KeepsBut.refl b w1) 1 (.int .i64 ((i : Int) + 1))).trans hk3
     have hR3 := hRr.but hk3' (by omega)
     have hV3 := hVr.but hk3' (by omega)
     have hvr3 := hvr.soft (Sf.butB hBq hk3')
     have HI3 := Hid.mk hi1
     clear hi1 hk3 bc bf bl vc vl rl
     obtain ⟨b4, ao4, n4, c4, b5, ao5, n5, c5, b6, ao6, n6, c6, rfl, g1, g2, g3⟩ := id hv3
     clear g1 g2 g3
     have vc := hV3.cell
     have vl := hV3.lt
     go_wp2_with fail
     refine (operate_any s i3 (43) i acc rt 15000000 b _ _ _ (Blk.alloc hB3 (.cells #[.bool b4, .slice ao4 n4 c4, .bool b5, .slice ao5 n5 c5, .bool b6, .slice ao6 n6 c6, .int .i64 rt.v.d] 41)) (hvr3.soft (Sf.alloc (Sf.refl _ _) (.cells #[.bool b4, .slice ao4 n4 c4, .bool b5, .slice ao5 n5 c5, .bool b6, .slice ao6 n6 c6, .int .i64 rt.v.d] 41))) (hv3.soft (Sf.alloc (Sf.refl _ _) (.cells #[.bool b4, .slice ao4 n4 c4, .bool b5, .slice ao5 n5 c5, .bool b6, .slice ao6 n6 c6, .int .i64 rt.v.d] 41))) he (by omega) HRA.out HRT.out).mono ?_
     rintro e w4 ⟨v4, rfl, hv4, hB4, hk4⟩
     have hk4' : KeepsBut b w3 w4 := (KeepsBut.alloc (KeepsBut.refl b w3) (.cells #[.bool b4, .slice ao4 n4 c4, .bool b5, .slice ao5 n5 c5, .bool b6, .slice ao6 n6 c6, .int .i64 rt.v.d] 41)).trans hk4
     have hR4 := hR3.but hk4' (by omega)
     have hV4 := hV3.but hk4' (by omega)
     have HLN : Hid (LoopAt (Pd n) addOp 1 (2 * (20 * 2 ^ n)) s post r (p + (f.length + s'.length)) (opR (43) i acc rt) i3) := HN.out i3 HI3.out hi2
     have HE3 : Hid ((opR (43) i acc rt).e = 0 → i3 = i + 1 + t.length) := by
      intro h10
      refine HI3.out ?_
      by_cases h11 : rt.e = 0
      ·exact h11
      ·exfalso
       unfold opR at h10
       rw [if_neg (by omega), if_pos h11] at h10
       exact h11 h10
     obtain ⟨b17, ao17, n17, c17, b18, ao18, n18, c18, b19, ao19, n19, c19, rfl, g1, g2, g3⟩ := id hv4
     clear g1 g2 g3 vc vl HN hT HI3
     generalize opR (43) i acc rt = A at *
     have vc := hV4.cell
     have vf := hV4.frozen
     have vl := hV4.lt
     go_wp2_with fail
     go_roundw
     case rel =>
      refine ⟨A, i3, b17, ao17, n17, c17, b18, ao18, n18, c18, b19, ao19, n19, c19, hv4.soft (stS7 (E := 2) (.bool b17) (.slice ao17 n17 c17) (.bool b18) (.slice ao18 n18 c18) (.bool b19) (.slice ao19 n19 c19) (.int .i64 A.v.d) hV4 (by decide)), (Blk.set (o := 6) (y := .int .i64 A.v.d) (Blk.set (o := 5) (y := .slice ao19 n19 c19) (Blk.set (o := 4) (y := .bool b19) (Blk.set (o := 3) (y := .slice ao18 n18 c18) (Blk.set (o := 2) (y := .bool b18) (Blk.set (o := 1) (y := .slice ao17 n17 c17) (Blk.set (o := 0) (y := .bool b17) hV4))))))), (Blk.other (c := wA.heap.size) (o := 6) (y := .int .i64 A.v.d) (Blk.other (c := wA.heap.size) (o := 5) (y := .slice ao19 n19 c19) (Blk.other (c := wA.heap.size) (o := 4) (y := .bool b19) (Blk.other (c := wA.heap.size) (o := 3) (y := .slice ao18 n18 c18) (Blk.other (c := wA.heap.size) (o := 2) (y := .bool b18) (Blk.other (c := wA.heap.size) (o := 1) (y := .slice ao17 n17 c17) (Blk.other (c := wA.heap.size) (o := 0) (y := .bool b17) hB4 (by omega)) (by omega)) (by omega)) (by omega)) (by omega)) (by omega)) (by omega)), (Blk.other (c := wA.heap.size) (o := 6) (y := .int .i64 A.v.d) (Blk.other (c := wA.heap.size) (o := 5) (y := .slice ao19 n19 c19) (Blk.other (c := wA.heap.size) (o := 4) (y := .bool b19) (Blk.other (c := wA.heap.size) (o := 3) (y := .slice ao18 n18 c18) (Blk.other (c := wA.heap.size) (o := 2) (y := .bool b18) (Blk.other (c := wA.heap.size) (o := 1) (y := .slice ao17 n17 c17) (Blk.other (c := wA.heap.size) (o := 0) (y := .bool b17) hR4 (by omega)) (by omega)) (by omega)) (by omega)) (by omega)) (by omega)) (by omega)), (KeepsBut.setNew (d := wA.heap.size) (o := 6) (y := .int .i64 A.v.d) (KeepsBut.setNew (d := wA.heap.size) (o := 5) (y := .slice ao19 n19 c19) (KeepsBut.setNew (d := wA.heap.size) (o := 4) (y := .bool b19) (KeepsBut.setNew (d := wA.heap.size) (o := 3) (y := .slice ao18 n18 c18) (KeepsBut.setNew (d := wA.heap.size) (o := 2) (y := .bool b18) (KeepsBut.setNew (d := wA.heap.size) (o := 1) (y := .slice ao17 n17 c17) (KeepsBut.setNew (d := wA.heap.size) (o := 0) (y := .bool b17) ((hk2a.trans hk3').trans hk4') (by omega)) (by omega)) (by omega)) (by omega)) (by omega)) (by omega)) (by omega)), HLN⟩
     case measure =>
      rw [HM2.out]
      unfold farOf
      rw [errOf_blk (Blk.other (c := wA.heap.size) (o := 6) (y := .int .i64 A.v.d) (Blk.other (c := wA.heap.size) (o := 5) (y := .slice ao19 n19 c19) (Blk.other (c := wA.heap.size) (o := 4) (y := .bool b19) (Blk.other (c := wA.heap.size) (o := 3) (y := .slice ao18 n18 c18) (Blk.other (c := wA.heap.size) (o := 2) (y := .bool b18) (Blk.other (c := wA.heap.size) (o := 1) (y := .slice ao17 n17 c17) (Blk.other (c := wA.heap.size) (o := 0) (y := .bool b17) hB4 (by omega)) (by omega)) (by omega)) (by omega)) (by omega)) (by omega)) (by omega)), atOf_blk (Blk.other (c := wA.heap.size) (o := 6) (y := .int .i64 A.v.d) (Blk.other (c := wA.heap.size) (o := 5) (y := .slice ao19 n19 c19) (Blk.other (c := wA.heap.size) (o := 4) (y := .bool b19) (Blk.other (c := wA.heap.size) (o := 3) (y := .slice ao18 n18 c18) (Blk.other (c := wA.heap.size) (o := 2) (y := .bool b18) (Blk.other (c := wA.heap.size) (o := 1) (y := .slice ao17 n17 c17) (Blk.other (c := wA.heap.size) (o := 0) (y := .bool b17) hB4 (by omega)) (by omega)) (by omega)) (by omega)) (by omega)) (by omega)) (by omega))]
      split
      ·rename_i h12
       have := HE3.out h12
       omega
      ·omega
    ·have x1 : ((45 : Int) == 43) = false := by decide
     go_wp2_with fail
     refine (hT.out _ hB2).mono ?_
     rintro e w3 ⟨v3, i3, rfl, hv3, hB3, hi1, hi2, hk3⟩
     have hk3' : KeepsBut b w1 w3 := (KeepsBut.setCell (KeepsBut.refl b w1) 1 (.int .i64 ((i : Int) + 1))).trans hk3
     have hR3 := hRr.but hk3' (by omega)
     have hV3 := hVr.but hk3' (by omega)
     have hvr3 := hvr.soft (Sf.butB hBq hk3')
     have HI3 := Hid.mk hi1
     clear hi1 hk3 bc bf bl vc vl rl
     obtain ⟨b4, ao4, n4, c4, b5, ao5, n5, c5, b6, ao6, n6, c6, rfl, g1, g2, g3⟩ := id hv3
     clear g1 g2 g3
     have vc := hV3.cell
     have vl := hV3.lt
     go_wp2_with fail
     refine (operate_any s i3 (45) i acc rt 15000000 b _ _ _ (Blk.alloc hB3 (.cells #[.bool b4, .slice ao4 n4 c4, .bool b5, .slice ao5 n5 c5, .bool b6, .slice ao6 n6 c6, .int .i64 rt.v.d] 41)) (hvr3.soft (Sf.alloc (Sf.refl _ _) (.cells #[.bool b4, .slice ao4 n4 c4, .bool b5, .slice ao5 n5 c5, .bool b6, .slice ao6 n6 c6, .int .i64 rt.v.d] 41))) (hv3.soft (Sf.alloc (Sf.refl _ _) (.cells #[.bool b4, .slice ao4 n4 c4, .bool b5, .slice ao5 n5 c5, .bool b6, .slice ao6 n6 c6, .int .i64 rt.v.d] 41))) he (by omega) HRA.out HRT.out).mono ?_
     rintro e w4 ⟨v4, rfl, hv4, hB4, hk4⟩
     have hk4' : KeepsBut b w3 w4 := (KeepsBut.alloc (KeepsBut.refl b w3) (.cells #[.bool b4, .slice ao4 n4 c4, .bool b5, .slice ao5 n5 c5, .bool b6, .slice ao6 n6 c6, .int .i64 rt.v.d] 41)).trans hk4
     have hR4 := hR3.but hk4' (by omega)
     have hV4 := hV3.but hk4' (by omega)
     have HLN : Hid (LoopAt (Pd n) addOp 1 (2 * (20 * 2 ^ n)) s post r (p + (f.length + s'.length)) (opR (45) i acc rt) i3) := HN.out i3 HI3.out hi2
     have HE3 : Hid ((opR (45) i acc rt).e = 0 → i3 = i + 1 + t.length) := by
      intro h10
      refine HI3.out ?_
      by_cases h11 : rt.e = 0
      ·exact h11
      ·exfalso
       unfold opR at h10
       rw [if_neg (by omega), if_pos h11] at h10
       exact h11 h10
     obtain ⟨b17, ao17, n17, c17, b18, ao18, n18, c18, b19, ao19, n19, c19, rfl, g1, g2, g3⟩ := id hv4
     clear g1 g2 g3 vc vl HN hT HI3
     generalize opR (45) i acc rt = A at *
     have vc := hV4.cell
     have vf := hV4.frozen
     have vl := hV4.lt
     go_wp2_with fail
     go_roundw
     case rel =>
      refine ⟨A, i3, b17, ao17, n17, c17, b18, ao18, n18, c18, b19, ao19, n19, c19, hv4.soft (stS7 (E := 2) (.bool b17) (.slice ao17 n17 c17) (.bool b18) (.slice ao18 n18 c18) (.bool b19) (.slice ao19 n19 c19) (.int .i64 A.v.d) hV4 (by decide)), (Blk.set (o := 6) (y := .int .i64 A.v.d) (Blk.set (o := 5) (y := .slice ao19 n19 c19) (Blk.set (o := 4) (y := .bool b19) (Blk.set (o := 3) (y := .slice ao18 n18 c18) (Blk.set (o := 2) (y := .bool b18) (Blk.set (o := 1) (y := .slice ao17 n17 c17) (Blk.set (o := 0) (y := .bool b17) hV4))))))), (Blk.other (c := wA.heap.size) (o := 6) (y := .int .i64 A.v.d) (Blk.other (c := wA.heap.size) (o := 5) (y := .slice ao19 n19 c19) (Blk.other (c := wA.heap.size) (o := 4) (y := .bool b19) (Blk.other (c := wA.heap.size) (o := 3) (y := .slice ao18 n18 c18) (Blk.other (c := wA.heap.size) (o := 2) (y := .bool b18) (Blk.other (c := wA.heap.size) (o := 1) (y := .slice ao17 n17 c17) (Blk.other (c := wA.heap.size) (o := 0) (y := .bool b17) hB4 (by omega)) (by omega)) (by omega)) (by omega)) (by omega)) (by omega)) (by omega)), (Blk.other (c := wA.heap.size) (o := 6) (y := .int .i64 A.v.d) (Blk.other (c := wA.heap.size) (o := 5) (y := .slice ao19 n19 c19) (Blk.other (c := wA.heap.size) (o := 4) (y := .bool b19) (Blk.other (c := wA.heap.size) (o := 3) (y := .slice ao18 n18 c18) (Blk.other (c := wA.heap.size) (o := 2) (y := .bool b18) (Blk.other (c := wA.heap.size) (o := 1) (y := .slice ao17 n17 c17) (Blk.other (c := wA.heap.size) (o := 0) (y := .bool b17) hR4 (by omega)) (by omega)) (by omega)) (by omega)) (by omega)) (by omega)) (by omega)), (KeepsBut.setNew (d := wA.heap.size) (o := 6) (y := .int .i64 A.v.d) (KeepsBut.setNew (d := wA.heap.size) (o := 5) (y := .slice ao19 n19 c19) (KeepsBut.setNew (d := wA.heap.size) (o := 4) (y := .bool b19) (KeepsBut.setNew (d := wA.heap.size) (o := 3) (y := .slice ao18 n18 c18) (KeepsBut.setNew (d := wA.heap.size) (o := 2) (y := .bool b18) (KeepsBut.setNew (d := wA.heap.size) (o := 1) (y := .slice ao17 n17 c17) (KeepsBut.setNew (d := wA.heap.size) (o := 0) (y := .bool b17) ((hk2a.trans hk3').trans hk4') (by omega)) (by omega)) (by omega)) (by omega)) (by omega)) (by omega)) (by omega)), HLN⟩
     case measure =>
      rw [HM2.out]
      unfold farOf
      rw [errOf_blk (Blk.other (c := wA.heap.size) (o := 6) (y := .int .i64 A.v.d) (Blk.other (c := wA.heap.size) (o := 5) (y := .slice ao19 n19 c19) (Blk.other (c := wA.heap.size) (o := 4) (y := .bool b19) (Blk.other (c := wA.heap.size) (o := 3) (y := .slice ao18 n18 c18) (Blk.other (c := wA.heap.size) (o := 2) (y := .bool b18) (Blk.other (c := wA.heap.size) (o := 1) (y := .slice ao17 n17 c17) (Blk.other (c := wA.heap.size) (o := 0) (y := .bool b17) hB4 (by omega)) (by omega)) (by omega)) (by omega)) (by omega)) (by omega)) (by omega)), atOf_blk (Blk.other (c := wA.heap.size) (o := 6) (y := .int .i64 A.v.d) (Blk.other (c := wA.heap.size) (o := 5) (y := .slice ao19 n19 c19) (Blk.other (c := wA.heap.size) (o := 4) (y := .bool b19) (Blk.other (c := wA.heap.size) (o := 3) (y := .slice ao18 n18 c18) (Blk.other (c := wA.heap.size) (o := 2) (y := .bool b18) (Blk.other (c := wA.heap.size) (o := 1) (y := .slice ao17 n17 c17) (Blk.other (c := wA.heap.size) (o := 0) (y := .bool b17) hB4 (by omega)) (by omega)) (by omega)) (by omega)) (by omega)) (by omega)) (by omega))]
      split
      ·rename_i h12
       have := HE3.out h12
       omega
      ·omega
  ·have x1 : (acc.e == 0) = false := by simp [he]
   obtain ⟨e1, e2⟩ := loop_err hLr.out he
   have HE : Hid (r = acc ∧ i ≤ p + (f.length + s'.length)) := ⟨e1, e2⟩
   clear HST hLr e1 e2
   go_wp2_with fail
   refine bodyPost_ret (v := .agg #[.bool b1, .slice ao1 n1 c1, .bool b2, .slice ao2 n2 c2, .bool b3, .slice ao3 n3 c3, .int .i64 acc.v.d]) (by simp [results, Try.results22, go_sem, rc]) rfl ?_
   obtain ⟨e1, e2⟩ := HE.out
   rw [e1]
   exact ⟨_, i, rfl, hvr.soft (stS7 (E := 2) (.bool b1) (.slice ao1 n1 c1) (.bool b2) (.slice ao2 n2 c2) (.bool b3) (.slice ao3 n3 c3) (.int .i64 acc.v.d) hRr (by decide)), (Blk.other (c := w.heap.size) (o := 6) (y := .int .i64 acc.v.d) (Blk.other (c := w.heap.size) (o := 5) (y := .slice ao3 n3 c3) (Blk.other (c := w.heap.size) (o := 4) (y := .bool b3) (Blk.other (c := w.heap.size) (o := 3) (y := .slice ao2 n2 c2) (Blk.other (c := w.heap.size) (o := 2) (y := .bool b2) (Blk.other (c := w.heap.size) (o := 1) (y := .slice ao1 n1 c1) (Blk.other (c := w.heap.size) (o := 0) (y := .bool b1) hBr (by omega)) (by omega)) (by omega)) (by omega)) (by omega)) (by omega)) (by omega)), fun h => absurd h he, e2, (KeepsBut.setNew (d := w.heap.size) (o := 6) (y := .int .i64 acc.v.d) (KeepsBut.setNew (d := w.heap.size) (o := 5) (y := .slice ao3 n3 c3) (KeepsBut.setNew (d := w.heap.size) (o := 4) (y := .bool b3) (KeepsBut.setNew (d := w.heap.size) (o := 3) (y := .slice ao2 n2 c2) (KeepsBut.setNew (d := w.heap.size) (o := 2) (y := .bool b2) (KeepsBut.setNew (d := w.heap.size) (o := 1) (y := .slice ao1 n1 c1) (KeepsBut.setNew (d := w.heap.size) (o := 0) (y := .bool b1) hkr (Nat.le_refl _)) (Nat.le_refl _)) (Nat.le_refl _)) (Nat.le_refl _)) (Nat.le_refl _)) (Nat.le_refl _)) (Nat.le_refl _))⟩

theorem sum_any (n : Nat) (hn : n ≤ 8) (hF : Rds 45 (Pd n) isM) : Rds 22 (Sm n) closes := by
 intro s p t post r b w hs hat ht hh hB
 obtain ⟨m, f, s', rf, rfl, h2, h3⟩ := ht
 rw [List.append_assoc] at hat
 rw [List.length_append]
 exact sum_at n m hn hF s p f s' post rf r b w hs hat h2 h3 hh hB

theorem sums : ∀ n, n ≤ 8 → Rds 22 (Sm n) closes
 | 0, hn => sum_any 0 hn (product_any 0 hn (factor_any 0 hn (bare_any 0 (fun n' h => by omega))))
 | n + 1, hn => sum_any (n + 1) hn (product_any (n + 1) hn (factor_any (n + 1) hn (bare_any (n + 1) (fun n' h => by
   have e : n' = n := by omega
   rw [e]; exact sums n (by omega)))))

end Go.Proofs.Ytjahbjjekednfaa

namespace Go.Proofs.Ytjahbjjekednfaa
open Go.RowKit

/-- What a text comes to. -/
def Rk (s : ByteArray) (r : Rs) : Prop :=
 (100 < s.size ∧ r = ⟨qzero, 1, 0⟩) ∨ (s.size ≤ 100 ∧ 0 ≤ plFault s 0 s.size ∧ r = ⟨qzero, 2, plFault s 0 s.size⟩) ∨
 (s.size ≤ 100 ∧ plFault s 0 s.size = -1 ∧ ∃ r0, Sm 8 (bl s) 0 r0 ∧ r = if r0.e = 0 then ⟨r0.v, 0, 0⟩ else ⟨qzero, r0.e, r0.k⟩)
def Ret3 (w : World) (r : Rs) (e : Ending) (w' : World) : Prop := ∃ v, e = .returned (.tuple #[v, .int .i64 r.e, .int .i64 r.k]) ∧ XN w' v r.v ∧ Kp w w'

theorem ends_of_fault (s : ByteArray) : ∀ (m i : Nat), i + m = s.size → plFault s i m = -1 → Ends (plAt s i) ((bl s).drop i)
 | 0, i, hi, h => by
  unfold plFault at h
  rw [List.drop_of_length_le (by rw [bl_len]; omega)]
  split at h
  ·omega
  ·rename_i h1
   refine ⟨plAt s i, rfl, ?_, ?_⟩ <;> omega
 | m + 1, i, hi, h => by
  unfold plFault at h
  split at h
  ·rename_i h1
   have ih := ends_of_fault s m (i + 1) (by omega) h
   have hl : i < (bl s).length := by rw [bl_len]; omega
   rw [List.drop_eq_getElem_cons hl, ← at0_eq hl, ← byteAt_bl]
   obtain ⟨z, h2, h3⟩ := ih
   refine ⟨z, ?_, h3⟩
   unfold pRun
   have h1' : (plStep (plAt s i) (byteAt s i)).2 = true := h1
   rw [if_pos h1']
   exact h2
  ·omega
theorem plFault_ge (s : ByteArray) : ∀ (m i : Nat), -1 ≤ plFault s i m
 | 0, i => by unfold plFault; split <;> omega
 | m + 1, i => by
  unfold plFault
  split
  ·exact plFault_ge s m (i + 1)
  ·omega
theorem rk_all (s : ByteArray) : ∃ r, Rk s r := by
 by_cases h1 : 100 < s.size
 ·exact ⟨_, Or.inl ⟨h1, rfl⟩⟩
 ·by_cases h2 : 0 ≤ plFault s 0 s.size
  ·exact ⟨_, Or.inr (Or.inl ⟨by omega, h2, rfl⟩)⟩
  ·have h3 : plFault s 0 s.size = -1 := by have := plFault_ge s s.size 0; omega
   have h4 := ends_of_fault s s.size 0 (by omega) h3
   rw [List.drop_zero] at h4
   obtain ⟨r, hr⟩ := text_reads h4
   exact ⟨_, Or.inr (Or.inr ⟨by omega, h3, r, hr, rfl⟩)⟩

set_option maxHeartbeats 1600000 in
theorem reckon_long (s : ByteArray) (w : World) (h : 100 < s.size) : Calls Try.prog 13 #[.string s] w (Ret3 w ⟨qzero, 1, 0⟩) := by
 have h1 : (100 : Int) < (s.size : Int) := by omega
 go_enter Try.func13, Try.ntmps13
 go_wp2_with fail
 refine bodyPost_ret (v := .tuple #[.agg #[.bool false, .slice none 0 0, .bool false, .slice none 0 0, .bool false, .slice none 0 0, .int .i64 0], .int .i64 1, .int .i64 0]) (by simp [results, Try.results13, go_sem]) rfl ?_
 exact ⟨_, rfl, xn_zero _, kp_alloc _ _⟩

set_option maxHeartbeats 1600000 in
theorem reckon_fault (s : ByteArray) (w : World) (h : s.size ≤ 100) (hf : 0 ≤ plFault s 0 s.size) : Calls Try.prog 13 #[.string s] w (Ret3 w ⟨qzero, 2, plFault s 0 s.size⟩) := by
 have h1 : ¬ (100 : Int) < (s.size : Int) := by omega
 have hR1 := Blk.new w #[.bool false, .slice none 0 0, .bool false, .slice none 0 0, .bool false, .slice none 0 0, .int .i64 0] 41
 go_enter Try.func13, Try.ntmps13
 go_wp2_with fail
 refine (faultOf_any s _ (by omega)).mono ?_
 rintro e w1 ⟨rfl, hk1⟩
 have hR2 := hR1.keep hk1
 have rc := hR2.cell
 have rf' := hR2.frozen
 have rl := hR2.lt
 have hkw : Kp w w1 := (kp_alloc w (.cells #[.bool false, .slice none 0 0, .bool false, .slice none 0 0, .bool false, .slice none 0 0, .int .i64 0] 41)).trans' hk1
 generalize plFault s 0 s.size = fl at *
 go_wp2_with fail
 refine bodyPost_ret (v := .tuple #[.agg #[.bool false, .slice none 0 0, .bool false, .slice none 0 0, .bool false, .slice none 0 0, .int .i64 0], .int .i64 2, .int .i64 fl]) (by simp [results, Try.results13, go_sem, rc]) rfl ?_
 exact ⟨_, rfl, xn_zero _, (stK7 (A := w.heap.size) (.bool false) (.slice none 0 0) (.bool false) (.slice none 0 0) (.bool false) (.slice none 0 0) (.int .i64 0) hkw (Nat.le_refl _))⟩

set_option maxHeartbeats 1600000 in
theorem reckon_ok (s : ByteArray) (r : Rs) (w : World) (h : s.size ≤ 100) (hf : plFault s 0 s.size = -1) (hr : Sm 8 (bl s) 0 r) : Calls Try.prog 13 #[.string s] w (Ret3 w (if r.e = 0 then ⟨r.v, 0, 0⟩ else ⟨qzero, r.e, r.k⟩)) := by
 have h1 : ¬ (100 : Int) < (s.size : Int) := by omega
 have hat : At s 0 (bl s ++ []) := ⟨[], by simp, rfl⟩
 have hS := Hid.mk (fun b w' hB => sums 8 (by decide) s 0 (bl s) [] r b w' h hat hr (by intro c l e; cases e) hB)
 have hR1 := Blk.new w #[.bool false, .slice none 0 0, .bool false, .slice none 0 0, .bool false, .slice none 0 0, .int .i64 0] 41
 generalize hG : (if r.e = 0 then (⟨r.v, 0, 0⟩ : Rs) else ⟨qzero, r.e, r.k⟩) = G
 have HG := Hid.mk hG
 clear hG hr hat
 go_enter Try.func13, Try.ntmps13
 go_wp2_with fail
 refine (faultOf_any s _ (by omega)).mono ?_
 rintro e w1 ⟨rfl, hk1⟩
 have hR2 := hR1.keep hk1
 have hkw : Kp w w1 := (kp_alloc w (.cells #[.bool false, .slice none 0 0, .bool false, .slice none 0 0, .bool false, .slice none 0 0, .int .i64 0] 41)).trans' hk1
 rw [hf]
 go_wp2_with fail
 refine (hS.out w1.heap.size _ (Blk.new w1 _ _)).mono ?_
 rintro e w2 ⟨v2, i2, rfl, hv2, hB2, hi1, hi2, hk2a⟩
 have hk2 : Kp w1 w2 := ((KeepsBut.alloc (KeepsBut.refl w1.heap.size w1) (.cells #[.string s, .int .i64 ((0 : Nat) : Int), .int .i64 0, .int .i64 0] 62)).trans hk2a).below (Nat.le_refl _)
 replace hR2 := hR2.keep hk2
 have hsz1 := hkw.size
 have hRl0 := (hR1.keep hk1).lt
 obtain ⟨b1, ao1, n1, c1, b2, ao2, n2, c2, b3, ao3, n3, c3, rfl, g1, g2, g3⟩ := id hv2
 clear g1 g2 g3 hi1 hi2 hS hf
 have rc := hR2.cell
 have rf' := hR2.frozen
 have rl := hR2.lt
 have bc := hB2.cell
 have bl' := hB2.lt
 have hne : w.heap.size ≠ w1.heap.size := by omega
 by_cases he : r.e = 0
 ·have HG2 : Hid (G = ⟨r.v, 0, 0⟩) := by unfold Hid; rw [← HG.out, if_pos he]
  rw [he] at bc
  go_wp2_with fail
  refine bodyPost_ret (v := .tuple #[.agg #[.bool b1, .slice ao1 n1 c1, .bool b2, .slice ao2 n2 c2, .bool b3, .slice ao3 n3 c3, .int .i64 r.v.d], .int .i64 0, .int .i64 0]) (by simp [results, Try.results13, go_sem, rc, rl]) rfl ?_
  rw [HG2.out]
  exact ⟨_, rfl, hv2.soft (Sf.alloc (stS7 (E := 2) (.bool b1) (.slice ao1 n1 c1) (.bool b2) (.slice ao2 n2 c2) (.bool b3) (.slice ao3 n3 c3) (.int .i64 r.v.d) hR2 (by decide)) (.cells #[.bool b1, .slice ao1 n1 c1, .bool b2, .slice ao2 n2 c2, .bool b3, .slice ao3 n3 c3, .int .i64 r.v.d] 41)), (Kp.alloc' (stK7 (A := w.heap.size) (.bool b1) (.slice ao1 n1 c1) (.bool b2) (.slice ao2 n2 c2) (.bool b3) (.slice ao3 n3 c3) (.int .i64 r.v.d) (hkw.trans' hk2) (Nat.le_refl _)) (.cells #[.bool b1, .slice ao1 n1 c1, .bool b2, .slice ao2 n2 c2, .bool b3, .slice ao3 n3 c3, .int .i64 r.v.d] 41))⟩
 ·have HG2 : Hid (G = ⟨qzero, r.e, r.k⟩) := by unfold Hid; rw [← HG.out, if_neg he]
  have x1 : (r.e != 0) = true := by simp [he]
  go_wp2_with fail
  go_region
  all_goals go_wp2_with fail
  all_goals
   refine bodyPost_ret (v := .tuple #[.agg #[.bool false, .slice none 0 0, .bool false, .slice none 0 0, .bool false, .slice none 0 0, .int .i64 0], .int .i64 r.e, .int .i64 r.k]) (by simp [results, Try.results13, go_sem, rc, rl]) rfl ?_
   rw [HG2.out]
   exact ⟨_, rfl, xn_zero _, Kp.drew' (Kp.alloc' (stK7 (A := w.heap.size) (.bool false) (.slice none 0 0) (.bool false) (.slice none 0 0) (.bool false) (.slice none 0 0) (.int .i64 0) (hkw.trans' hk2) (Nat.le_refl _)) (.cells #[.bool b1, .slice ao1 n1 c1, .bool b2, .slice ao2 n2 c2, .bool b3, .slice ao3 n3 c3, .int .i64 r.v.d] 41))⟩

theorem reckon_any (s : ByteArray) (r : Rs) (w : World) (h : Rk s r) : Calls Try.prog 13 #[.string s] w (Ret3 w r) := by
 rcases h with ⟨h1, rfl⟩ | ⟨h1, h2, rfl⟩ | ⟨h1, h2, r0, h3, rfl⟩
 ·exact reckon_long s w h1
 ·exact reckon_fault s w h1 h2
 ·exact reckon_ok s r0 w h1 h2 h3

end Go.Proofs.Ytjahbjjekednfaa
