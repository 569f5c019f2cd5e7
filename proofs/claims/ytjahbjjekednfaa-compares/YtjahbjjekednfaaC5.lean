import Derived.Test.YtjahbjjekednfaaC1u
import Derived.Test.YtjahbjjekednfaaR9
import Derived.Test.YtjahbjjekednfaaSt
namespace Go.Proofs.Ytjahbjjekednfaa
open Go.RowKit

set_option maxHeartbeats 1600000 in
set_option maxRecDepth 100000 in
theorem sign_mm (p q d : Int) (u v : Value) (w : World) (hp : IN w u p) (hq : IN w v q) (s1 : p.sign = -1) (s2' : q.sign = -1) :
  Calls Try.prog 31 #[u, v, .int .i64 d] w (RetV w (.int .i64 (rsg p q d))) := by
 obtain ⟨b1, ao1, n1, c1, rfl⟩ := hp.shape'
 obtain ⟨b2, ao2, n2, c2, rfl⟩ := hq.shape'
 have HR : rsg p q d = -1 := by unfold rsg rsS; rw [s1, s2']; exact (if_pos (by decide)).trans (by decide)
 rw [HR]
 clear HR
 have hkb : Kp w ((w.alloc (.cells #[.bool b1, .slice ao1 n1 c1] 46)).alloc (.cells #[.bool b2, .slice ao2 n2 c2] 46)) := (Kp.alloc' (Kp.alloc' (Below.refl w.heap.size w) (.cells #[.bool b1, .slice ao1 n1 c1] 46)) (.cells #[.bool b2, .slice ao2 n2 c2] 46))
 have BP : Blk ((w.alloc (.cells #[.bool b1, .slice ao1 n1 c1] 46)).alloc (.cells #[.bool b2, .slice ao2 n2 c2] 46)) (w.heap.size) #[.bool b1, .slice ao1 n1 c1] 46 := (Blk.alloc (Blk.new w _ _) (.cells #[.bool b2, .slice ao2 n2 c2] 46))
 have BQ : Blk ((w.alloc (.cells #[.bool b1, .slice ao1 n1 c1] 46)).alloc (.cells #[.bool b2, .slice ao2 n2 c2] 46)) (w.heap.size + 1) #[.bool b2, .slice ao2 n2 c2] 46 := (Blk.at (Blk.new (w.alloc (.cells #[.bool b1, .slice ao1 n1 c1] 46)) _ _) (by simp))
 
 replace hp := hp.keep hkb
 replace hq := hq.keep hkb
 go_enter Try.func31, Try.ntmps31
 go_wp2_with fail
 refine (rsign_any p _ _ hp).mono ?_
 rintro e w1 ⟨rfl, hk1⟩
 rw [s1]
 replace BP := BP.keep hk1
 replace BQ := BQ.keep hk1
 have bpc := BP.cell
 have bqc := BQ.cell
 have bpl := BP.lt
 have bql := BQ.lt
 replace hp := hp.keep hk1
 replace hq := hq.keep hk1
 replace hkb := hkb.trans' hk1
 clear hk1
 go_wp2_with fail
 refine (rsign_any q _ _ hq).mono ?_
 rintro e w2 ⟨rfl, hk2⟩
 rw [s2']
 replace BP := BP.keep hk2
 replace BQ := BQ.keep hk2
 replace hp := hp.keep hk2
 replace hq := hq.keep hk2
 replace hkb := hkb.trans' hk2
 clear hk2 bpc bqc bpl bql
 have bpl := BP.lt
 have bql := BQ.lt
 go_wp2_with fail
 go_ret
 exact ⟨rfl, hkb⟩

set_option maxHeartbeats 1600000 in
set_option maxRecDepth 100000 in
theorem sign_mz (p q d : Int) (u v : Value) (w : World) (hp : IN w u p) (hq : IN w v q) (s1 : p.sign = -1) (s2' : q.sign = 0) :
  Calls Try.prog 31 #[u, v, .int .i64 d] w (RetV w (.int .i64 (rsg p q d))) := by
 obtain ⟨b1, ao1, n1, c1, rfl⟩ := hp.shape'
 obtain ⟨b2, ao2, n2, c2, rfl⟩ := hq.shape'
 have HR : rsg p q d = -1 := by unfold rsg rsS; rw [s1, s2']; exact (if_pos (by decide)).trans (by decide)
 rw [HR]
 clear HR
 have hkb : Kp w ((w.alloc (.cells #[.bool b1, .slice ao1 n1 c1] 46)).alloc (.cells #[.bool b2, .slice ao2 n2 c2] 46)) := (Kp.alloc' (Kp.alloc' (Below.refl w.heap.size w) (.cells #[.bool b1, .slice ao1 n1 c1] 46)) (.cells #[.bool b2, .slice ao2 n2 c2] 46))
 have BP : Blk ((w.alloc (.cells #[.bool b1, .slice ao1 n1 c1] 46)).alloc (.cells #[.bool b2, .slice ao2 n2 c2] 46)) (w.heap.size) #[.bool b1, .slice ao1 n1 c1] 46 := (Blk.alloc (Blk.new w _ _) (.cells #[.bool b2, .slice ao2 n2 c2] 46))
 have BQ : Blk ((w.alloc (.cells #[.bool b1, .slice ao1 n1 c1] 46)).alloc (.cells #[.bool b2, .slice ao2 n2 c2] 46)) (w.heap.size + 1) #[.bool b2, .slice ao2 n2 c2] 46 := (Blk.at (Blk.new (w.alloc (.cells #[.bool b1, .slice ao1 n1 c1] 46)) _ _) (by simp))
 
 replace hp := hp.keep hkb
 replace hq := hq.keep hkb
 go_enter Try.func31, Try.ntmps31
 go_wp2_with fail
 refine (rsign_any p _ _ hp).mono ?_
 rintro e w1 ⟨rfl, hk1⟩
 rw [s1]
 replace BP := BP.keep hk1
 replace BQ := BQ.keep hk1
 have bpc := BP.cell
 have bqc := BQ.cell
 have bpl := BP.lt
 have bql := BQ.lt
 replace hp := hp.keep hk1
 replace hq := hq.keep hk1
 replace hkb := hkb.trans' hk1
 clear hk1
 go_wp2_with fail
 refine (rsign_any q _ _ hq).mono ?_
 rintro e w2 ⟨rfl, hk2⟩
 rw [s2']
 replace BP := BP.keep hk2
 replace BQ := BQ.keep hk2
 replace hp := hp.keep hk2
 replace hq := hq.keep hk2
 replace hkb := hkb.trans' hk2
 clear hk2 bpc bqc bpl bql
 have bpl := BP.lt
 have bql := BQ.lt
 go_wp2_with fail
 go_ret
 exact ⟨rfl, hkb⟩

set_option maxHeartbeats 1600000 in
set_option maxRecDepth 100000 in
theorem sign_mp (p q d : Int) (m : Nat) (u v : Value) (w : World) (hp : IN w u p) (hq : IN w v q) (hm : m ≤ 100000000) (fp : Ft m p) (fq : Ft m q) (d0 : 0 ≤ d) (d1 : d ≤ 1000000) (s1 : p.sign = -1) (s2' : q.sign = 1) :
  Calls Try.prog 31 #[u, v, .int .i64 d] w (RetV w (.int .i64 (rsg p q d))) := by
 obtain ⟨b1, ao1, n1, c1, rfl⟩ := hp.shape'
 obtain ⟨b2, ao2, n2, c2, rfl⟩ := hq.shape'
 have fd : Ft 7 d := by unfold Ft; omega
 have hkb : Kp w ((w.alloc (.cells #[.bool b1, .slice ao1 n1 c1] 46)).alloc (.cells #[.bool b2, .slice ao2 n2 c2] 46)) := (Kp.alloc' (Kp.alloc' (Below.refl w.heap.size w) (.cells #[.bool b1, .slice ao1 n1 c1] 46)) (.cells #[.bool b2, .slice ao2 n2 c2] 46))
 have BP : Blk ((w.alloc (.cells #[.bool b1, .slice ao1 n1 c1] 46)).alloc (.cells #[.bool b2, .slice ao2 n2 c2] 46)) (w.heap.size) #[.bool b1, .slice ao1 n1 c1] 46 := (Blk.alloc (Blk.new w _ _) (.cells #[.bool b2, .slice ao2 n2 c2] 46))
 have BQ : Blk ((w.alloc (.cells #[.bool b1, .slice ao1 n1 c1] 46)).alloc (.cells #[.bool b2, .slice ao2 n2 c2] 46)) (w.heap.size + 1) #[.bool b2, .slice ao2 n2 c2] 46 := (Blk.at (Blk.new (w.alloc (.cells #[.bool b1, .slice ao1 n1 c1] 46)) _ _) (by simp))
 
 replace hp := hp.keep hkb
 replace hq := hq.keep hkb
 go_enter Try.func31, Try.ntmps31
 go_wp2_with fail
 refine (rsign_any p _ _ hp).mono ?_
 rintro e w1 ⟨rfl, hk1⟩
 rw [s1]
 replace BP := BP.keep hk1
 replace BQ := BQ.keep hk1
 have bpc := BP.cell
 have bqc := BQ.cell
 have bpl := BP.lt
 have bql := BQ.lt
 replace hp := hp.keep hk1
 replace hq := hq.keep hk1
 replace hkb := hkb.trans' hk1
 clear hk1
 go_wp2_with fail
 refine (rsign_any q _ _ hq).mono ?_
 rintro e w2 ⟨rfl, hk2⟩
 rw [s2']
 replace BP := BP.keep hk2
 replace BQ := BQ.keep hk2
 replace hp := hp.keep hk2
 replace hq := hq.keep hk2
 replace hkb := hkb.trans' hk2
 clear hk2 bpc bqc bpl bql
 have bpl := BP.lt
 have bql := BQ.lt
 go_wp2_with fail
 refine wp_region_l (S := fun w' => Kp w2 w') (by kernel_rfl) (Kp.drew' (Below.refl _ _)) (fun hS0 => ?_)
 generalize w2.drew = wd at *
 refine wpAnyL_tk (i := 0) (k := 2) (v := .agg #[.bool b1, .slice ao1 n1 c1]) rfl ?_ hS0 ?_
 ·intro w' hw'; have hc := ((BP).keep hw').cell; go_simp
 simp only [sq]
 refine wpAnyL_tk (i := 1) (k := 2) (v := .agg #[.bool b1, .slice ao1 n1 c1]) rfl ?_ hS0 ?_
 ·intro w' hw'; have hc := ((BP).keep hw').cell; go_simp
 simp only [sq]
 refine wpAnyL_tk (i := 3) (k := 5) (v := .agg #[.bool b2, .slice ao2 n2 c2]) rfl ?_ hS0 ?_
 ·intro w' hw'; have hc := ((BQ).keep hw').cell; go_simp
 simp only [sq]
 refine wpAnyL_tk (i := 4) (k := 5) (v := .agg #[.bool b2, .slice ao2 n2 c2]) rfl ?_ hS0 ?_
 ·intro w' hw'; have hc := ((BQ).keep hw').cell; go_simp
 simp only [sq]
 refine wpAnyL_tk (i := 6) (k := 7) (v := .int .i64 d) rfl ?_ hS0 ?_
 ·intro w' hw'; go_simp
 simp only [sq]
 refine wpAnyL_on (i := 2) rfl (fun K hK => ?_)
 go_simp
 refine (rtimes_any p p _ _ _ (hp.keep hS0) (hp.keep hS0) (fp.fit (by omega)) (fp.fit (by omega))).mono ?_
 rintro e w102 ⟨v102, rfl, hv102, hk102⟩
 obtain ⟨b102, ao102, n102, c102, rfl⟩ := hv102.shape'
 go_wp2_with fail
 refine hK.out _ _ (hS0.trans' hk102) (fun hS1 => ?_)
 clear hK K
 refine wpAnyL_on (i := 5) rfl (fun K hK => ?_)
 go_simp
 refine (rtimes_any q q _ _ _ (hq.keep hS1) (hq.keep hS1) (fq.fit (by omega)) (fq.fit (by omega))).mono ?_
 rintro e w105 ⟨v105, rfl, hv105, hk105⟩
 obtain ⟨b105, ao105, n105, c105, rfl⟩ := hv105.shape'
 replace hv102 := hv102.keep hk105
 go_wp2_with fail
 refine hK.out _ _ (hS1.trans' hk105) (fun hS2 => ?_)
 clear hK K
 refine wpAnyL_on (i := 7) rfl (fun K hK => ?_)
 go_simp
 refine (of_any d _ d0 (by omega)).mono ?_
 rintro e w107 ⟨v107, rfl, hv107, hk107⟩
 obtain ⟨b107, ao107, n107, c107, rfl⟩ := hv107.shape'
 replace hv102 := hv102.keep hk107
 replace hv105 := hv105.keep hk107
 go_wp2_with fail
 refine hK.out _ _ (hS2.trans' hk107) (fun hS3 => ?_)
 clear hK K
 refine wpAnyL_on (i := 8) rfl (fun K hK => ?_)
 go_simp
 refine (rtimes_any (q * q) d _ _ _ hv105 hv107 ((fq.mul fq).fit (by omega)) (fd.fit (by omega))).mono ?_
 rintro e w108 ⟨v108, rfl, hv108, hk108⟩
 obtain ⟨b108, ao108, n108, c108, rfl⟩ := hv108.shape'
 replace hv102 := hv102.keep hk108
 go_wp2_with fail
 refine hK.out _ _ (hS3.trans' hk108) (fun hS4 => ?_)
 clear hK K
 refine wpAnyL_on (i := 9) rfl (fun K hK => ?_)
 go_simp
 refine (rcmp_any (p * p) (q * q * d) _ _ _ hv102 hv108 ((fp.mul fp).fit (by omega)) (((fq.mul fq).mul fd).fit (by omega))).mono ?_
 rintro e w109 ⟨rfl, hk109⟩
 generalize hso : (p * p - q * q * d).sign = so at *
 go_wp2_with fail
 refine hK.out _ _ (hS4.trans' hk109) (fun hS5 => ?_)
 clear hK K
 refine wpAnyL_last (i := 10) rfl (by kernel_rfl) (by kernel_rfl) (by kernel_rfl) (fun K hK => ?_)
 go_simp
 refine hK.out _ _ ?_
 clear hK K
 by_cases hpos : 0 < so
 ·have HR : Hid (rsg p q d = -1) := by
   unfold Hid rsg rsS
   rw [s1, s2', if_neg (by decide), hso, if_pos hpos]
  clear hso
  go_wp2_with fail
  go_ret
  exact ⟨by rw [HR.out]; rfl, hkb.trans' hS5⟩
 ·have HR : Hid (rsg p q d = 1) := by
   unfold Hid rsg rsS
   rw [s1, s2', if_neg (by decide), hso, if_neg hpos]
  clear hso
  go_wp2_with fail
  go_ret
  exact ⟨by rw [HR.out]; rfl, hkb.trans' hS5⟩

set_option maxHeartbeats 1600000 in
set_option maxRecDepth 100000 in
theorem sign_zm (p q d : Int) (u v : Value) (w : World) (hp : IN w u p) (hq : IN w v q) (s1 : p.sign = 0) (s2' : q.sign = -1) :
  Calls Try.prog 31 #[u, v, .int .i64 d] w (RetV w (.int .i64 (rsg p q d))) := by
 obtain ⟨b1, ao1, n1, c1, rfl⟩ := hp.shape'
 obtain ⟨b2, ao2, n2, c2, rfl⟩ := hq.shape'
 have HR : rsg p q d = -1 := by unfold rsg rsS; rw [s1, s2']; exact (if_pos (by decide)).trans (by decide)
 rw [HR]
 clear HR
 have hkb : Kp w ((w.alloc (.cells #[.bool b1, .slice ao1 n1 c1] 46)).alloc (.cells #[.bool b2, .slice ao2 n2 c2] 46)) := (Kp.alloc' (Kp.alloc' (Below.refl w.heap.size w) (.cells #[.bool b1, .slice ao1 n1 c1] 46)) (.cells #[.bool b2, .slice ao2 n2 c2] 46))
 have BP : Blk ((w.alloc (.cells #[.bool b1, .slice ao1 n1 c1] 46)).alloc (.cells #[.bool b2, .slice ao2 n2 c2] 46)) (w.heap.size) #[.bool b1, .slice ao1 n1 c1] 46 := (Blk.alloc (Blk.new w _ _) (.cells #[.bool b2, .slice ao2 n2 c2] 46))
 have BQ : Blk ((w.alloc (.cells #[.bool b1, .slice ao1 n1 c1] 46)).alloc (.cells #[.bool b2, .slice ao2 n2 c2] 46)) (w.heap.size + 1) #[.bool b2, .slice ao2 n2 c2] 46 := (Blk.at (Blk.new (w.alloc (.cells #[.bool b1, .slice ao1 n1 c1] 46)) _ _) (by simp))
 
 replace hp := hp.keep hkb
 replace hq := hq.keep hkb
 go_enter Try.func31, Try.ntmps31
 go_wp2_with fail
 refine (rsign_any p _ _ hp).mono ?_
 rintro e w1 ⟨rfl, hk1⟩
 rw [s1]
 replace BP := BP.keep hk1
 replace BQ := BQ.keep hk1
 have bpc := BP.cell
 have bqc := BQ.cell
 have bpl := BP.lt
 have bql := BQ.lt
 replace hp := hp.keep hk1
 replace hq := hq.keep hk1
 replace hkb := hkb.trans' hk1
 clear hk1
 go_wp2_with fail
 refine (rsign_any q _ _ hq).mono ?_
 rintro e w2 ⟨rfl, hk2⟩
 rw [s2']
 replace BP := BP.keep hk2
 replace BQ := BQ.keep hk2
 replace hp := hp.keep hk2
 replace hq := hq.keep hk2
 replace hkb := hkb.trans' hk2
 clear hk2 bpc bqc bpl bql
 have bpl := BP.lt
 have bql := BQ.lt
 go_wp2_with fail
 go_ret
 exact ⟨rfl, hkb⟩

set_option maxHeartbeats 1600000 in
set_option maxRecDepth 100000 in
theorem sign_zz (p q d : Int) (u v : Value) (w : World) (hp : IN w u p) (hq : IN w v q) (s1 : p.sign = 0) (s2' : q.sign = 0) :
  Calls Try.prog 31 #[u, v, .int .i64 d] w (RetV w (.int .i64 (rsg p q d))) := by
 obtain ⟨b1, ao1, n1, c1, rfl⟩ := hp.shape'
 obtain ⟨b2, ao2, n2, c2, rfl⟩ := hq.shape'
 have HR : rsg p q d = 0 := by unfold rsg rsS; rw [s1, s2']; exact (if_pos (by decide)).trans (by decide)
 rw [HR]
 clear HR
 have hkb : Kp w ((w.alloc (.cells #[.bool b1, .slice ao1 n1 c1] 46)).alloc (.cells #[.bool b2, .slice ao2 n2 c2] 46)) := (Kp.alloc' (Kp.alloc' (Below.refl w.heap.size w) (.cells #[.bool b1, .slice ao1 n1 c1] 46)) (.cells #[.bool b2, .slice ao2 n2 c2] 46))
 have BP : Blk ((w.alloc (.cells #[.bool b1, .slice ao1 n1 c1] 46)).alloc (.cells #[.bool b2, .slice ao2 n2 c2] 46)) (w.heap.size) #[.bool b1, .slice ao1 n1 c1] 46 := (Blk.alloc (Blk.new w _ _) (.cells #[.bool b2, .slice ao2 n2 c2] 46))
 have BQ : Blk ((w.alloc (.cells #[.bool b1, .slice ao1 n1 c1] 46)).alloc (.cells #[.bool b2, .slice ao2 n2 c2] 46)) (w.heap.size + 1) #[.bool b2, .slice ao2 n2 c2] 46 := (Blk.at (Blk.new (w.alloc (.cells #[.bool b1, .slice ao1 n1 c1] 46)) _ _) (by simp))
 
 replace hp := hp.keep hkb
 replace hq := hq.keep hkb
 go_enter Try.func31, Try.ntmps31
 go_wp2_with fail
 refine (rsign_any p _ _ hp).mono ?_
 rintro e w1 ⟨rfl, hk1⟩
 rw [s1]
 replace BP := BP.keep hk1
 replace BQ := BQ.keep hk1
 have bpc := BP.cell
 have bqc := BQ.cell
 have bpl := BP.lt
 have bql := BQ.lt
 replace hp := hp.keep hk1
 replace hq := hq.keep hk1
 replace hkb := hkb.trans' hk1
 clear hk1
 go_wp2_with fail
 refine (rsign_any q _ _ hq).mono ?_
 rintro e w2 ⟨rfl, hk2⟩
 rw [s2']
 replace BP := BP.keep hk2
 replace BQ := BQ.keep hk2
 replace hp := hp.keep hk2
 replace hq := hq.keep hk2
 replace hkb := hkb.trans' hk2
 clear hk2 bpc bqc bpl bql
 have bpl := BP.lt
 have bql := BQ.lt
 go_wp2_with fail
 go_ret
 exact ⟨rfl, hkb⟩

set_option maxHeartbeats 1600000 in
set_option maxRecDepth 100000 in
theorem sign_zp (p q d : Int) (u v : Value) (w : World) (hp : IN w u p) (hq : IN w v q) (s1 : p.sign = 0) (s2' : q.sign = 1) :
  Calls Try.prog 31 #[u, v, .int .i64 d] w (RetV w (.int .i64 (rsg p q d))) := by
 obtain ⟨b1, ao1, n1, c1, rfl⟩ := hp.shape'
 obtain ⟨b2, ao2, n2, c2, rfl⟩ := hq.shape'
 have HR : rsg p q d = 1 := by unfold rsg rsS; rw [s1, s2']; exact (if_pos (by decide)).trans (by decide)
 rw [HR]
 clear HR
 have hkb : Kp w ((w.alloc (.cells #[.bool b1, .slice ao1 n1 c1] 46)).alloc (.cells #[.bool b2, .slice ao2 n2 c2] 46)) := (Kp.alloc' (Kp.alloc' (Below.refl w.heap.size w) (.cells #[.bool b1, .slice ao1 n1 c1] 46)) (.cells #[.bool b2, .slice ao2 n2 c2] 46))
 have BP : Blk ((w.alloc (.cells #[.bool b1, .slice ao1 n1 c1] 46)).alloc (.cells #[.bool b2, .slice ao2 n2 c2] 46)) (w.heap.size) #[.bool b1, .slice ao1 n1 c1] 46 := (Blk.alloc (Blk.new w _ _) (.cells #[.bool b2, .slice ao2 n2 c2] 46))
 have BQ : Blk ((w.alloc (.cells #[.bool b1, .slice ao1 n1 c1] 46)).alloc (.cells #[.bool b2, .slice ao2 n2 c2] 46)) (w.heap.size + 1) #[.bool b2, .slice ao2 n2 c2] 46 := (Blk.at (Blk.new (w.alloc (.cells #[.bool b1, .slice ao1 n1 c1] 46)) _ _) (by simp))
 
 replace hp := hp.keep hkb
 replace hq := hq.keep hkb
 go_enter Try.func31, Try.ntmps31
 go_wp2_with fail
 refine (rsign_any p _ _ hp).mono ?_
 rintro e w1 ⟨rfl, hk1⟩
 rw [s1]
 replace BP := BP.keep hk1
 replace BQ := BQ.keep hk1
 have bpc := BP.cell
 have bqc := BQ.cell
 have bpl := BP.lt
 have bql := BQ.lt
 replace hp := hp.keep hk1
 replace hq := hq.keep hk1
 replace hkb := hkb.trans' hk1
 clear hk1
 go_wp2_with fail
 refine (rsign_any q _ _ hq).mono ?_
 rintro e w2 ⟨rfl, hk2⟩
 rw [s2']
 replace BP := BP.keep hk2
 replace BQ := BQ.keep hk2
 replace hp := hp.keep hk2
 replace hq := hq.keep hk2
 replace hkb := hkb.trans' hk2
 clear hk2 bpc bqc bpl bql
 have bpl := BP.lt
 have bql := BQ.lt
 go_wp2_with fail
 go_ret
 exact ⟨rfl, hkb⟩

set_option maxHeartbeats 1600000 in
set_option maxRecDepth 100000 in
theorem sign_pm (p q d : Int) (m : Nat) (u v : Value) (w : World) (hp : IN w u p) (hq : IN w v q) (hm : m ≤ 100000000) (fp : Ft m p) (fq : Ft m q) (d0 : 0 ≤ d) (d1 : d ≤ 1000000) (s1 : p.sign = 1) (s2' : q.sign = -1) :
  Calls Try.prog 31 #[u, v, .int .i64 d] w (RetV w (.int .i64 (rsg p q d))) := by
 obtain ⟨b1, ao1, n1, c1, rfl⟩ := hp.shape'
 obtain ⟨b2, ao2, n2, c2, rfl⟩ := hq.shape'
 have fd : Ft 7 d := by unfold Ft; omega
 have hkb : Kp w ((w.alloc (.cells #[.bool b1, .slice ao1 n1 c1] 46)).alloc (.cells #[.bool b2, .slice ao2 n2 c2] 46)) := (Kp.alloc' (Kp.alloc' (Below.refl w.heap.size w) (.cells #[.bool b1, .slice ao1 n1 c1] 46)) (.cells #[.bool b2, .slice ao2 n2 c2] 46))
 have BP : Blk ((w.alloc (.cells #[.bool b1, .slice ao1 n1 c1] 46)).alloc (.cells #[.bool b2, .slice ao2 n2 c2] 46)) (w.heap.size) #[.bool b1, .slice ao1 n1 c1] 46 := (Blk.alloc (Blk.new w _ _) (.cells #[.bool b2, .slice ao2 n2 c2] 46))
 have BQ : Blk ((w.alloc (.cells #[.bool b1, .slice ao1 n1 c1] 46)).alloc (.cells #[.bool b2, .slice ao2 n2 c2] 46)) (w.heap.size + 1) #[.bool b2, .slice ao2 n2 c2] 46 := (Blk.at (Blk.new (w.alloc (.cells #[.bool b1, .slice ao1 n1 c1] 46)) _ _) (by simp))
 
 replace hp := hp.keep hkb
 replace hq := hq.keep hkb
 go_enter Try.func31, Try.ntmps31
 go_wp2_with fail
 refine (rsign_any p _ _ hp).mono ?_
 rintro e w1 ⟨rfl, hk1⟩
 rw [s1]
 replace BP := BP.keep hk1
 replace BQ := BQ.keep hk1
 have bpc := BP.cell
 have bqc := BQ.cell
 have bpl := BP.lt
 have bql := BQ.lt
 replace hp := hp.keep hk1
 replace hq := hq.keep hk1
 replace hkb := hkb.trans' hk1
 clear hk1
 go_wp2_with fail
 refine (rsign_any q _ _ hq).mono ?_
 rintro e w2 ⟨rfl, hk2⟩
 rw [s2']
 replace BP := BP.keep hk2
 replace BQ := BQ.keep hk2
 replace hp := hp.keep hk2
 replace hq := hq.keep hk2
 replace hkb := hkb.trans' hk2
 clear hk2 bpc bqc bpl bql
 have bpl := BP.lt
 have bql := BQ.lt
 go_wp2_with fail
 refine wp_region_l (S := fun w' => Kp w2 w') (by kernel_rfl) (Kp.drew' (Below.refl _ _)) (fun hS0 => ?_)
 generalize w2.drew = wd at *
 refine wpAnyL_tk (i := 0) (k := 2) (v := .agg #[.bool b1, .slice ao1 n1 c1]) rfl ?_ hS0 ?_
 ·intro w' hw'; have hc := ((BP).keep hw').cell; go_simp
 simp only [sq]
 refine wpAnyL_tk (i := 1) (k := 2) (v := .agg #[.bool b1, .slice ao1 n1 c1]) rfl ?_ hS0 ?_
 ·intro w' hw'; have hc := ((BP).keep hw').cell; go_simp
 simp only [sq]
 refine wpAnyL_tk (i := 3) (k := 5) (v := .agg #[.bool b2, .slice ao2 n2 c2]) rfl ?_ hS0 ?_
 ·intro w' hw'; have hc := ((BQ).keep hw').cell; go_simp
 simp only [sq]
 refine wpAnyL_tk (i := 4) (k := 5) (v := .agg #[.bool b2, .slice ao2 n2 c2]) rfl ?_ hS0 ?_
 ·intro w' hw'; have hc := ((BQ).keep hw').cell; go_simp
 simp only [sq]
 refine wpAnyL_tk (i := 6) (k := 7) (v := .int .i64 d) rfl ?_ hS0 ?_
 ·intro w' hw'; go_simp
 simp only [sq]
 refine wpAnyL_on (i := 2) rfl (fun K hK => ?_)
 go_simp
 refine (rtimes_any p p _ _ _ (hp.keep hS0) (hp.keep hS0) (fp.fit (by omega)) (fp.fit (by omega))).mono ?_
 rintro e w102 ⟨v102, rfl, hv102, hk102⟩
 obtain ⟨b102, ao102, n102, c102, rfl⟩ := hv102.shape'
 go_wp2_with fail
 refine hK.out _ _ (hS0.trans' hk102) (fun hS1 => ?_)
 clear hK K
 refine wpAnyL_on (i := 5) rfl (fun K hK => ?_)
 go_simp
 refine (rtimes_any q q _ _ _ (hq.keep hS1) (hq.keep hS1) (fq.fit (by omega)) (fq.fit (by omega))).mono ?_
 rintro e w105 ⟨v105, rfl, hv105, hk105⟩
 obtain ⟨b105, ao105, n105, c105, rfl⟩ := hv105.shape'
 replace hv102 := hv102.keep hk105
 go_wp2_with fail
 refine hK.out _ _ (hS1.trans' hk105) (fun hS2 => ?_)
 clear hK K
 refine wpAnyL_on (i := 7) rfl (fun K hK => ?_)
 go_simp
 refine (of_any d _ d0 (by omega)).mono ?_
 rintro e w107 ⟨v107, rfl, hv107, hk107⟩
 obtain ⟨b107, ao107, n107, c107, rfl⟩ := hv107.shape'
 replace hv102 := hv102.keep hk107
 replace hv105 := hv105.keep hk107
 go_wp2_with fail
 refine hK.out _ _ (hS2.trans' hk107) (fun hS3 => ?_)
 clear hK K
 refine wpAnyL_on (i := 8) rfl (fun K hK => ?_)
 go_simp
 refine (rtimes_any (q * q) d _ _ _ hv105 hv107 ((fq.mul fq).fit (by omega)) (fd.fit (by omega))).mono ?_
 rintro e w108 ⟨v108, rfl, hv108, hk108⟩
 obtain ⟨b108, ao108, n108, c108, rfl⟩ := hv108.shape'
 replace hv102 := hv102.keep hk108
 go_wp2_with fail
 refine hK.out _ _ (hS3.trans' hk108) (fun hS4 => ?_)
 clear hK K
 refine wpAnyL_on (i := 9) rfl (fun K hK => ?_)
 go_simp
 refine (rcmp_any (p * p) (q * q * d) _ _ _ hv102 hv108 ((fp.mul fp).fit (by omega)) (((fq.mul fq).mul fd).fit (by omega))).mono ?_
 rintro e w109 ⟨rfl, hk109⟩
 generalize hso : (p * p - q * q * d).sign = so at *
 go_wp2_with fail
 refine hK.out _ _ (hS4.trans' hk109) (fun hS5 => ?_)
 clear hK K
 refine wpAnyL_last (i := 10) rfl (by kernel_rfl) (by kernel_rfl) (by kernel_rfl) (fun K hK => ?_)
 go_simp
 refine hK.out _ _ ?_
 clear hK K
 by_cases hpos : 0 < so
 ·have HR : Hid (rsg p q d = 1) := by
   unfold Hid rsg rsS
   rw [s1, s2', if_neg (by decide), hso, if_pos hpos]
  clear hso
  go_wp2_with fail
  go_ret
  exact ⟨by rw [HR.out]; rfl, hkb.trans' hS5⟩
 ·have HR : Hid (rsg p q d = -1) := by
   unfold Hid rsg rsS
   rw [s1, s2', if_neg (by decide), hso, if_neg hpos]
  clear hso
  go_wp2_with fail
  go_ret
  exact ⟨by rw [HR.out]; rfl, hkb.trans' hS5⟩

set_option maxHeartbeats 1600000 in
set_option maxRecDepth 100000 in
theorem sign_pz (p q d : Int) (u v : Value) (w : World) (hp : IN w u p) (hq : IN w v q) (s1 : p.sign = 1) (s2' : q.sign = 0) :
  Calls Try.prog 31 #[u, v, .int .i64 d] w (RetV w (.int .i64 (rsg p q d))) := by
 obtain ⟨b1, ao1, n1, c1, rfl⟩ := hp.shape'
 obtain ⟨b2, ao2, n2, c2, rfl⟩ := hq.shape'
 have HR : rsg p q d = 1 := by unfold rsg rsS; rw [s1, s2']; exact (if_pos (by decide)).trans (by decide)
 rw [HR]
 clear HR
 have hkb : Kp w ((w.alloc (.cells #[.bool b1, .slice ao1 n1 c1] 46)).alloc (.cells #[.bool b2, .slice ao2 n2 c2] 46)) := (Kp.alloc' (Kp.alloc' (Below.refl w.heap.size w) (.cells #[.bool b1, .slice ao1 n1 c1] 46)) (.cells #[.bool b2, .slice ao2 n2 c2] 46))
 have BP : Blk ((w.alloc (.cells #[.bool b1, .slice ao1 n1 c1] 46)).alloc (.cells #[.bool b2, .slice ao2 n2 c2] 46)) (w.heap.size) #[.bool b1, .slice ao1 n1 c1] 46 := (Blk.alloc (Blk.new w _ _) (.cells #[.bool b2, .slice ao2 n2 c2] 46))
 have BQ : Blk ((w.alloc (.cells #[.bool b1, .slice ao1 n1 c1] 46)).alloc (.cells #[.bool b2, .slice ao2 n2 c2] 46)) (w.heap.size + 1) #[.bool b2, .slice ao2 n2 c2] 46 := (Blk.at (Blk.new (w.alloc (.cells #[.bool b1, .slice ao1 n1 c1] 46)) _ _) (by simp))
 
 replace hp := hp.keep hkb
 replace hq := hq.keep hkb
 go_enter Try.func31, Try.ntmps31
 go_wp2_with fail
 refine (rsign_any p _ _ hp).mono ?_
 rintro e w1 ⟨rfl, hk1⟩
 rw [s1]
 replace BP := BP.keep hk1
 replace BQ := BQ.keep hk1
 have bpc := BP.cell
 have bqc := BQ.cell
 have bpl := BP.lt
 have bql := BQ.lt
 replace hp := hp.keep hk1
 replace hq := hq.keep hk1
 replace hkb := hkb.trans' hk1
 clear hk1
 go_wp2_with fail
 refine (rsign_any q _ _ hq).mono ?_
 rintro e w2 ⟨rfl, hk2⟩
 rw [s2']
 replace BP := BP.keep hk2
 replace BQ := BQ.keep hk2
 replace hp := hp.keep hk2
 replace hq := hq.keep hk2
 replace hkb := hkb.trans' hk2
 clear hk2 bpc bqc bpl bql
 have bpl := BP.lt
 have bql := BQ.lt
 go_wp2_with fail
 go_ret
 exact ⟨rfl, hkb⟩

set_option maxHeartbeats 1600000 in
set_option maxRecDepth 100000 in
theorem sign_pp (p q d : Int) (u v : Value) (w : World) (hp : IN w u p) (hq : IN w v q) (s1 : p.sign = 1) (s2' : q.sign = 1) :
  Calls Try.prog 31 #[u, v, .int .i64 d] w (RetV w (.int .i64 (rsg p q d))) := by
 obtain ⟨b1, ao1, n1, c1, rfl⟩ := hp.shape'
 obtain ⟨b2, ao2, n2, c2, rfl⟩ := hq.shape'
 have HR : rsg p q d = 1 := by unfold rsg rsS; rw [s1, s2']; exact (if_pos (by decide)).trans (by decide)
 rw [HR]
 clear HR
 have hkb : Kp w ((w.alloc (.cells #[.bool b1, .slice ao1 n1 c1] 46)).alloc (.cells #[.bool b2, .slice ao2 n2 c2] 46)) := (Kp.alloc' (Kp.alloc' (Below.refl w.heap.size w) (.cells #[.bool b1, .slice ao1 n1 c1] 46)) (.cells #[.bool b2, .slice ao2 n2 c2] 46))
 have BP : Blk ((w.alloc (.cells #[.bool b1, .slice ao1 n1 c1] 46)).alloc (.cells #[.bool b2, .slice ao2 n2 c2] 46)) (w.heap.size) #[.bool b1, .slice ao1 n1 c1] 46 := (Blk.alloc (Blk.new w _ _) (.cells #[.bool b2, .slice ao2 n2 c2] 46))
 have BQ : Blk ((w.alloc (.cells #[.bool b1, .slice ao1 n1 c1] 46)).alloc (.cells #[.bool b2, .slice ao2 n2 c2] 46)) (w.heap.size + 1) #[.bool b2, .slice ao2 n2 c2] 46 := (Blk.at (Blk.new (w.alloc (.cells #[.bool b1, .slice ao1 n1 c1] 46)) _ _) (by simp))
 
 replace hp := hp.keep hkb
 replace hq := hq.keep hkb
 go_enter Try.func31, Try.ntmps31
 go_wp2_with fail
 refine (rsign_any p _ _ hp).mono ?_
 rintro e w1 ⟨rfl, hk1⟩
 rw [s1]
 replace BP := BP.keep hk1
 replace BQ := BQ.keep hk1
 have bpc := BP.cell
 have bqc := BQ.cell
 have bpl := BP.lt
 have bql := BQ.lt
 replace hp := hp.keep hk1
 replace hq := hq.keep hk1
 replace hkb := hkb.trans' hk1
 clear hk1
 go_wp2_with fail
 refine (rsign_any q _ _ hq).mono ?_
 rintro e w2 ⟨rfl, hk2⟩
 rw [s2']
 replace BP := BP.keep hk2
 replace BQ := BQ.keep hk2
 replace hp := hp.keep hk2
 replace hq := hq.keep hk2
 replace hkb := hkb.trans' hk2
 clear hk2 bpc bqc bpl bql
 have bpl := BP.lt
 have bql := BQ.lt
 go_wp2_with fail
 go_ret
 exact ⟨rfl, hkb⟩

theorem sign_ref (p q d : Int) (m : Nat) (u v : Value) (w : World) (hp : IN w u p) (hq : IN w v q) (hm : m ≤ 100000000) (fp : Ft m p) (fq : Ft m q) (d0 : 0 ≤ d) (d1 : d ≤ 1000000) :
  Calls Try.prog 31 #[u, v, .int .i64 d] w (RetV w (.int .i64 (rsg p q d))) := by
 rcases sign3 p with ⟨h1, _⟩ | ⟨h1, _⟩ | ⟨h1, _⟩ <;> rcases sign3 q with ⟨g1, _⟩ | ⟨g1, _⟩ | ⟨g1, _⟩
 ·exact sign_mm p q d u v w hp hq h1 g1
 ·exact sign_mz p q d u v w hp hq h1 g1
 ·exact sign_mp p q d m u v w hp hq hm fp fq d0 d1 h1 g1
 ·exact sign_zm p q d u v w hp hq h1 g1
 ·exact sign_zz p q d u v w hp hq h1 g1
 ·exact sign_zp p q d u v w hp hq h1 g1
 ·exact sign_pm p q d m u v w hp hq hm fp fq d0 d1 h1 g1
 ·exact sign_pz p q d u v w hp hq h1 g1
 ·exact sign_pp p q d u v w hp hq h1 g1

end Go.Proofs.Ytjahbjjekednfaa
