import Derived.Test.YtjahbjjekednfaaGreatDoorC1u
import Derived.Test.YtjahbjjekednfaaGreatDoorR9g
import Derived.Test.YtjahbjjekednfaaGreatDoorSt
namespace Go.Proofs.YtjahbjjekednfaaGreatDoor
set_option maxHeartbeats 1600000
set_option maxRecDepth 100000
open Go.RowKit
theorem sign_mm (p q d:Int) (u v:Value) (w:World) (h:IN w u p) (i:IN w v q) (z:p.sign = -1) (r:q.sign = -1) :
  Calls Tryz.prog 59 #[u,v,.int .i64 d] w (RetV w (.int .i64 (rsg p q d))):=by
 obtain⟨l,b,m,c1,rfl⟩:=h.shape';obtain⟨n,c,o,c2,rfl⟩:=i.shape';have A:rsg p q d = -1:=by unfold rsg rsS;rw[z,r];exact(if_pos (by decide)).trans (by decide)
 rw[A];clear A;have a:Kp w ((w.alloc (.cells #[.bool l,.slice b m c1] 52)).alloc (.cells #[.bool n,.slice c o c2] 52)):=(Kp.alloc' (Kp.alloc' (Below.refl w.heap.size w) (.cells #[.bool l,.slice b m c1] 52)) (.cells #[.bool n,.slice c o c2] 52));have j:Blk ((w.alloc (.cells #[.bool l,.slice b m c1] 52)).alloc (.cells #[.bool n,.slice c o c2] 52)) (w.heap.size) #[.bool l,.slice b m c1] 52:=(Blk.alloc (Blk.new w _ _) (.cells #[.bool n,.slice c o c2] 52));have k:Blk ((w.alloc (.cells #[.bool l,.slice b m c1] 52)).alloc (.cells #[.bool n,.slice c o c2] 52)) (w.heap.size+1) #[.bool n,.slice c o c2] 52:=(Blk.at (Blk.new (w.alloc (.cells #[.bool l,.slice b m c1] 52)) _ _) (by simp));replace h:=h.keep a;replace i:=i.keep a
 go_enter Tryz.func59,Tryz.ntmps59
 go_wp2_with fail
 refine(rsign_any p _ _ h).mono ?_;rintro e B ⟨rfl,f⟩;rw[z];replace j:=j.keep f;replace k:=k.keep f;have x:=j.cell;have y:=k.cell;have s:=j.lt;have t:=k.lt;replace h:=h.keep f;replace i:=i.keep f;replace a:=a.trans' f;clear f
 go_wp2_with fail
 refine(rsign_any q _ _ i).mono ?_;rintro e C ⟨rfl,g⟩;rw[r];replace j:=j.keep g;replace k:=k.keep g;replace h:=h.keep g;replace i:=i.keep g;replace a:=a.trans' g;clear g x y s t;have s:=j.lt;have t:=k.lt
 go_wp2_with fail
 go_ret
 exact⟨rfl,a⟩
theorem sign_mz (p q d:Int) (u v:Value) (w:World) (h:IN w u p) (i:IN w v q) (z:p.sign = -1) (r:q.sign=0) :
  Calls Tryz.prog 59 #[u,v,.int .i64 d] w (RetV w (.int .i64 (rsg p q d))):=by
 obtain⟨l,b,m,c1,rfl⟩:=h.shape';obtain⟨n,c,o,c2,rfl⟩:=i.shape';have A:rsg p q d = -1:=by unfold rsg rsS;rw[z,r];exact(if_pos (by decide)).trans (by decide)
 rw[A];clear A;have a:Kp w ((w.alloc (.cells #[.bool l,.slice b m c1] 52)).alloc (.cells #[.bool n,.slice c o c2] 52)):=(Kp.alloc' (Kp.alloc' (Below.refl w.heap.size w) (.cells #[.bool l,.slice b m c1] 52)) (.cells #[.bool n,.slice c o c2] 52));have j:Blk ((w.alloc (.cells #[.bool l,.slice b m c1] 52)).alloc (.cells #[.bool n,.slice c o c2] 52)) (w.heap.size) #[.bool l,.slice b m c1] 52:=(Blk.alloc (Blk.new w _ _) (.cells #[.bool n,.slice c o c2] 52));have k:Blk ((w.alloc (.cells #[.bool l,.slice b m c1] 52)).alloc (.cells #[.bool n,.slice c o c2] 52)) (w.heap.size+1) #[.bool n,.slice c o c2] 52:=(Blk.at (Blk.new (w.alloc (.cells #[.bool l,.slice b m c1] 52)) _ _) (by simp));replace h:=h.keep a;replace i:=i.keep a
 go_enter Tryz.func59,Tryz.ntmps59
 go_wp2_with fail
 refine(rsign_any p _ _ h).mono ?_;rintro e B ⟨rfl,f⟩;rw[z];replace j:=j.keep f;replace k:=k.keep f;have x:=j.cell;have y:=k.cell;have s:=j.lt;have t:=k.lt;replace h:=h.keep f;replace i:=i.keep f;replace a:=a.trans' f;clear f
 go_wp2_with fail
 refine(rsign_any q _ _ i).mono ?_;rintro e C ⟨rfl,g⟩;rw[r];replace j:=j.keep g;replace k:=k.keep g;replace h:=h.keep g;replace i:=i.keep g;replace a:=a.trans' g;clear g x y s t;have s:=j.lt;have t:=k.lt
 go_wp2_with fail
 go_ret
 exact⟨rfl,a⟩
theorem sign_mp (p q d:Int) (m:Nat) (u v:Value) (w:World) (z:IN w u p) (A:IN w v q) (hm:m≤100000000) (R:Ft m p) (M:Ft m q) (d0:0≤d) (d1:d≤1000000) (T:p.sign = -1) (H:q.sign=1) :
  Calls Tryz.prog 59 #[u,v,.int .i64 d] w (RetV w (.int .i64 (rsg p q d))):=by
 obtain⟨D,c,E,c1,rfl⟩:=z.shape';obtain⟨F,f,G,c2,rfl⟩:=A.shape';have fd:Ft 7 d:=by unfold Ft;omega
 have g:Kp w ((w.alloc (.cells #[.bool D,.slice c E c1] 52)).alloc (.cells #[.bool F,.slice f G c2] 52)):=(Kp.alloc' (Kp.alloc' (Below.refl w.heap.size w) (.cells #[.bool D,.slice c E c1] 52)) (.cells #[.bool F,.slice f G c2] 52));have B:Blk ((w.alloc (.cells #[.bool D,.slice c E c1] 52)).alloc (.cells #[.bool F,.slice f G c2] 52)) (w.heap.size) #[.bool D,.slice c E c1] 52:=(Blk.alloc (Blk.new w _ _) (.cells #[.bool F,.slice f G c2] 52));have C:Blk ((w.alloc (.cells #[.bool D,.slice c E c1] 52)).alloc (.cells #[.bool F,.slice f G c2] 52)) (w.heap.size+1) #[.bool F,.slice f G c2] 52:=(Blk.at (Blk.new (w.alloc (.cells #[.bool D,.slice c E c1] 52)) _ _) (by simp));replace z:=z.keep g;replace A:=A.keep g
 go_enter Tryz.func59,Tryz.ntmps59
 go_wp2_with fail
 refine(rsign_any p _ _ z).mono ?_;rintro e w1 ⟨rfl,o⟩;rw[T];replace B:=B.keep o;replace C:=C.keep o;have U:=B.cell;have V:=C.cell;have O:=B.lt;have P:=C.lt;replace z:=z.keep o;replace A:=A.keep o;replace g:=g.trans' o;clear o
 go_wp2_with fail
 refine(rsign_any q _ _ A).mono ?_;rintro e w2 ⟨rfl,r⟩;rw[H];replace B:=B.keep r;replace C:=C.keep r;replace z:=z.keep r;replace A:=A.keep r;replace g:=g.trans' r;clear r U V O P;have O:=B.lt;have P:=C.lt
 go_wp2_with fail
 refine wp_region_l (S:=fun N=>Kp w2 N) (by kernel_rfl) (Kp.drew' (Below.refl _ _)) (fun h=>?_);generalize w2.drew=wd at *;refine wpAnyL_tk (i:=0) (k:=2) (v:=.agg #[.bool D,.slice c E c1]) rfl ?_ h ?_
 ·intro N j;have W:=((B).keep j).cell;go_simp
 simp only[sq];refine wpAnyL_tk (i:=1) (k:=2) (v:=.agg #[.bool D,.slice c E c1]) rfl ?_ h ?_
 ·intro N j;have W:=((B).keep j).cell;go_simp
 simp only[sq];refine wpAnyL_tk (i:=3) (k:=5) (v:=.agg #[.bool F,.slice f G c2]) rfl ?_ h ?_
 ·intro N j;have W:=((C).keep j).cell;go_simp
 simp only[sq];refine wpAnyL_tk (i:=4) (k:=5) (v:=.agg #[.bool F,.slice f G c2]) rfl ?_ h ?_
 ·intro N j;have W:=((C).keep j).cell;go_simp
 simp only[sq];refine wpAnyL_tk (i:=6) (k:=7) (v:=.int .i64 d) rfl ?_ h ?_
 ·intro N j;go_simp
 simp only[sq];refine wpAnyL_on (i:=2) rfl (fun K l=>?_)
 go_simp
 refine(rtimes_any p p _ _ _ (z.keep h) (z.keep h) (R.fit (by omega)) (R.fit (by omega))).mono ?_;rintro e af ⟨ag,rfl,a,I⟩;obtain⟨ah,X,ai,aj,rfl⟩:=a.shape'
 go_wp2_with fail
 refine l.out _ _ (h.trans' I) (fun J=>?_);clear l K;refine wpAnyL_on (i:=5) rfl (fun K l=>?_)
 go_simp
 refine(rtimes_any q q _ _ _ (A.keep J) (A.keep J) (M.fit (by omega)) (M.fit (by omega))).mono ?_;rintro e ak ⟨al,rfl,b,s⟩;obtain⟨am,Y,an,ao,rfl⟩:=b.shape';replace a:=a.keep s
 go_wp2_with fail
 refine l.out _ _ (J.trans' s) (fun Z=>?_);clear l K;refine wpAnyL_on (i:=7) rfl (fun K l=>?_)
 go_simp
 refine(of_any d _ d0 (by omega)).mono ?_;rintro e ap ⟨aq,rfl,t,n⟩;obtain⟨ar,aa,au,av,rfl⟩:=t.shape';replace a:=a.keep n;replace b:=b.keep n
 go_wp2_with fail
 refine l.out _ _ (Z.trans' n) (fun ac=>?_);clear l K;refine wpAnyL_on (i:=8) rfl (fun K l=>?_)
 go_simp
 refine(rtimes_any (q*q) d _ _ _ b t ((M.mul M).fit (by omega)) (fd.fit (by omega))).mono ?_;rintro e aw ⟨ax,rfl,x,y⟩;obtain⟨ay,ad,az,aA,rfl⟩:=x.shape';replace a:=a.keep y
 go_wp2_with fail
 refine l.out _ _ (ac.trans' y) (fun ae=>?_);clear l K;refine wpAnyL_on (i:=9) rfl (fun K l=>?_)
 go_simp
 refine(rcmp_any (p*p) (q*q*d) _ _ _ a x ((R.mul R).fit (by omega)) (((M.mul M).mul fd).fit (by omega))).mono ?_;rintro e aB ⟨rfl,L⟩;generalize hso:(p*p - q*q*d).sign=so at *
 go_wp2_with fail
 refine l.out _ _ (ae.trans' L) (fun Q=>?_);clear l K;refine wpAnyL_last (i:=10) rfl (by kernel_rfl) (by kernel_rfl) (by kernel_rfl) (fun K l=>?_)
 go_simp
 refine l.out _ _ ?_;clear l K;by_cases hpos:0<so
 ·have HR:Hid (rsg p q d = -1):=by
   unfold Hid rsg rsS;rw[T,H,if_neg (by decide),hso,if_pos hpos]
  clear hso
  go_wp2_with fail
  go_ret
  exact⟨by rw[HR.out];rfl,g.trans' Q⟩
 ·have HR:Hid (rsg p q d=1):=by
   unfold Hid rsg rsS;rw[T,H,if_neg (by decide),hso,if_neg hpos]
  clear hso
  go_wp2_with fail
  go_ret
  exact⟨by rw[HR.out];rfl,g.trans' Q⟩
theorem sign_zm (p q d:Int) (u v:Value) (w:World) (h:IN w u p) (i:IN w v q) (z:p.sign=0) (r:q.sign = -1) :
  Calls Tryz.prog 59 #[u,v,.int .i64 d] w (RetV w (.int .i64 (rsg p q d))):=by
 obtain⟨l,b,m,c1,rfl⟩:=h.shape';obtain⟨n,c,o,c2,rfl⟩:=i.shape';have A:rsg p q d = -1:=by unfold rsg rsS;rw[z,r];exact(if_pos (by decide)).trans (by decide)
 rw[A];clear A;have a:Kp w ((w.alloc (.cells #[.bool l,.slice b m c1] 52)).alloc (.cells #[.bool n,.slice c o c2] 52)):=(Kp.alloc' (Kp.alloc' (Below.refl w.heap.size w) (.cells #[.bool l,.slice b m c1] 52)) (.cells #[.bool n,.slice c o c2] 52));have j:Blk ((w.alloc (.cells #[.bool l,.slice b m c1] 52)).alloc (.cells #[.bool n,.slice c o c2] 52)) (w.heap.size) #[.bool l,.slice b m c1] 52:=(Blk.alloc (Blk.new w _ _) (.cells #[.bool n,.slice c o c2] 52));have k:Blk ((w.alloc (.cells #[.bool l,.slice b m c1] 52)).alloc (.cells #[.bool n,.slice c o c2] 52)) (w.heap.size+1) #[.bool n,.slice c o c2] 52:=(Blk.at (Blk.new (w.alloc (.cells #[.bool l,.slice b m c1] 52)) _ _) (by simp));replace h:=h.keep a;replace i:=i.keep a
 go_enter Tryz.func59,Tryz.ntmps59
 go_wp2_with fail
 refine(rsign_any p _ _ h).mono ?_;rintro e B ⟨rfl,f⟩;rw[z];replace j:=j.keep f;replace k:=k.keep f;have x:=j.cell;have y:=k.cell;have s:=j.lt;have t:=k.lt;replace h:=h.keep f;replace i:=i.keep f;replace a:=a.trans' f;clear f
 go_wp2_with fail
 refine(rsign_any q _ _ i).mono ?_;rintro e C ⟨rfl,g⟩;rw[r];replace j:=j.keep g;replace k:=k.keep g;replace h:=h.keep g;replace i:=i.keep g;replace a:=a.trans' g;clear g x y s t;have s:=j.lt;have t:=k.lt
 go_wp2_with fail
 go_ret
 exact⟨rfl,a⟩
theorem sign_zz (p q d:Int) (u v:Value) (w:World) (h:IN w u p) (i:IN w v q) (z:p.sign=0) (r:q.sign=0) :
  Calls Tryz.prog 59 #[u,v,.int .i64 d] w (RetV w (.int .i64 (rsg p q d))):=by
 obtain⟨l,b,m,c1,rfl⟩:=h.shape';obtain⟨n,c,o,c2,rfl⟩:=i.shape';have A:rsg p q d=0:=by unfold rsg rsS;rw[z,r];exact(if_pos (by decide)).trans (by decide)
 rw[A];clear A;have a:Kp w ((w.alloc (.cells #[.bool l,.slice b m c1] 52)).alloc (.cells #[.bool n,.slice c o c2] 52)):=(Kp.alloc' (Kp.alloc' (Below.refl w.heap.size w) (.cells #[.bool l,.slice b m c1] 52)) (.cells #[.bool n,.slice c o c2] 52));have j:Blk ((w.alloc (.cells #[.bool l,.slice b m c1] 52)).alloc (.cells #[.bool n,.slice c o c2] 52)) (w.heap.size) #[.bool l,.slice b m c1] 52:=(Blk.alloc (Blk.new w _ _) (.cells #[.bool n,.slice c o c2] 52));have k:Blk ((w.alloc (.cells #[.bool l,.slice b m c1] 52)).alloc (.cells #[.bool n,.slice c o c2] 52)) (w.heap.size+1) #[.bool n,.slice c o c2] 52:=(Blk.at (Blk.new (w.alloc (.cells #[.bool l,.slice b m c1] 52)) _ _) (by simp));replace h:=h.keep a;replace i:=i.keep a
 go_enter Tryz.func59,Tryz.ntmps59
 go_wp2_with fail
 refine(rsign_any p _ _ h).mono ?_;rintro e B ⟨rfl,f⟩;rw[z];replace j:=j.keep f;replace k:=k.keep f;have x:=j.cell;have y:=k.cell;have s:=j.lt;have t:=k.lt;replace h:=h.keep f;replace i:=i.keep f;replace a:=a.trans' f;clear f
 go_wp2_with fail
 refine(rsign_any q _ _ i).mono ?_;rintro e C ⟨rfl,g⟩;rw[r];replace j:=j.keep g;replace k:=k.keep g;replace h:=h.keep g;replace i:=i.keep g;replace a:=a.trans' g;clear g x y s t;have s:=j.lt;have t:=k.lt
 go_wp2_with fail
 go_ret
 exact⟨rfl,a⟩
theorem sign_zp (p q d:Int) (u v:Value) (w:World) (h:IN w u p) (i:IN w v q) (z:p.sign=0) (r:q.sign=1) :
  Calls Tryz.prog 59 #[u,v,.int .i64 d] w (RetV w (.int .i64 (rsg p q d))):=by
 obtain⟨l,b,m,c1,rfl⟩:=h.shape';obtain⟨n,c,o,c2,rfl⟩:=i.shape';have A:rsg p q d=1:=by unfold rsg rsS;rw[z,r];exact(if_pos (by decide)).trans (by decide)
 rw[A];clear A;have a:Kp w ((w.alloc (.cells #[.bool l,.slice b m c1] 52)).alloc (.cells #[.bool n,.slice c o c2] 52)):=(Kp.alloc' (Kp.alloc' (Below.refl w.heap.size w) (.cells #[.bool l,.slice b m c1] 52)) (.cells #[.bool n,.slice c o c2] 52));have j:Blk ((w.alloc (.cells #[.bool l,.slice b m c1] 52)).alloc (.cells #[.bool n,.slice c o c2] 52)) (w.heap.size) #[.bool l,.slice b m c1] 52:=(Blk.alloc (Blk.new w _ _) (.cells #[.bool n,.slice c o c2] 52));have k:Blk ((w.alloc (.cells #[.bool l,.slice b m c1] 52)).alloc (.cells #[.bool n,.slice c o c2] 52)) (w.heap.size+1) #[.bool n,.slice c o c2] 52:=(Blk.at (Blk.new (w.alloc (.cells #[.bool l,.slice b m c1] 52)) _ _) (by simp));replace h:=h.keep a;replace i:=i.keep a
 go_enter Tryz.func59,Tryz.ntmps59
 go_wp2_with fail
 refine(rsign_any p _ _ h).mono ?_;rintro e B ⟨rfl,f⟩;rw[z];replace j:=j.keep f;replace k:=k.keep f;have x:=j.cell;have y:=k.cell;have s:=j.lt;have t:=k.lt;replace h:=h.keep f;replace i:=i.keep f;replace a:=a.trans' f;clear f
 go_wp2_with fail
 refine(rsign_any q _ _ i).mono ?_;rintro e C ⟨rfl,g⟩;rw[r];replace j:=j.keep g;replace k:=k.keep g;replace h:=h.keep g;replace i:=i.keep g;replace a:=a.trans' g;clear g x y s t;have s:=j.lt;have t:=k.lt
 go_wp2_with fail
 go_ret
 exact⟨rfl,a⟩
theorem sign_pm (p q d:Int) (m:Nat) (u v:Value) (w:World) (z:IN w u p) (A:IN w v q) (hm:m≤100000000) (R:Ft m p) (M:Ft m q) (d0:0≤d) (d1:d≤1000000) (T:p.sign=1) (H:q.sign = -1) :
  Calls Tryz.prog 59 #[u,v,.int .i64 d] w (RetV w (.int .i64 (rsg p q d))):=by
 obtain⟨D,c,E,c1,rfl⟩:=z.shape';obtain⟨F,f,G,c2,rfl⟩:=A.shape';have fd:Ft 7 d:=by unfold Ft;omega
 have g:Kp w ((w.alloc (.cells #[.bool D,.slice c E c1] 52)).alloc (.cells #[.bool F,.slice f G c2] 52)):=(Kp.alloc' (Kp.alloc' (Below.refl w.heap.size w) (.cells #[.bool D,.slice c E c1] 52)) (.cells #[.bool F,.slice f G c2] 52));have B:Blk ((w.alloc (.cells #[.bool D,.slice c E c1] 52)).alloc (.cells #[.bool F,.slice f G c2] 52)) (w.heap.size) #[.bool D,.slice c E c1] 52:=(Blk.alloc (Blk.new w _ _) (.cells #[.bool F,.slice f G c2] 52));have C:Blk ((w.alloc (.cells #[.bool D,.slice c E c1] 52)).alloc (.cells #[.bool F,.slice f G c2] 52)) (w.heap.size+1) #[.bool F,.slice f G c2] 52:=(Blk.at (Blk.new (w.alloc (.cells #[.bool D,.slice c E c1] 52)) _ _) (by simp));replace z:=z.keep g;replace A:=A.keep g
 go_enter Tryz.func59,Tryz.ntmps59
 go_wp2_with fail
 refine(rsign_any p _ _ z).mono ?_;rintro e w1 ⟨rfl,o⟩;rw[T];replace B:=B.keep o;replace C:=C.keep o;have U:=B.cell;have V:=C.cell;have O:=B.lt;have P:=C.lt;replace z:=z.keep o;replace A:=A.keep o;replace g:=g.trans' o;clear o
 go_wp2_with fail
 refine(rsign_any q _ _ A).mono ?_;rintro e w2 ⟨rfl,r⟩;rw[H];replace B:=B.keep r;replace C:=C.keep r;replace z:=z.keep r;replace A:=A.keep r;replace g:=g.trans' r;clear r U V O P;have O:=B.lt;have P:=C.lt
 go_wp2_with fail
 refine wp_region_l (S:=fun N=>Kp w2 N) (by kernel_rfl) (Kp.drew' (Below.refl _ _)) (fun h=>?_);generalize w2.drew=wd at *;refine wpAnyL_tk (i:=0) (k:=2) (v:=.agg #[.bool D,.slice c E c1]) rfl ?_ h ?_
 ·intro N j;have W:=((B).keep j).cell;go_simp
 simp only[sq];refine wpAnyL_tk (i:=1) (k:=2) (v:=.agg #[.bool D,.slice c E c1]) rfl ?_ h ?_
 ·intro N j;have W:=((B).keep j).cell;go_simp
 simp only[sq];refine wpAnyL_tk (i:=3) (k:=5) (v:=.agg #[.bool F,.slice f G c2]) rfl ?_ h ?_
 ·intro N j;have W:=((C).keep j).cell;go_simp
 simp only[sq];refine wpAnyL_tk (i:=4) (k:=5) (v:=.agg #[.bool F,.slice f G c2]) rfl ?_ h ?_
 ·intro N j;have W:=((C).keep j).cell;go_simp
 simp only[sq];refine wpAnyL_tk (i:=6) (k:=7) (v:=.int .i64 d) rfl ?_ h ?_
 ·intro N j;go_simp
 simp only[sq];refine wpAnyL_on (i:=2) rfl (fun K l=>?_)
 go_simp
 refine(rtimes_any p p _ _ _ (z.keep h) (z.keep h) (R.fit (by omega)) (R.fit (by omega))).mono ?_;rintro e af ⟨ag,rfl,a,I⟩;obtain⟨ah,X,ai,aj,rfl⟩:=a.shape'
 go_wp2_with fail
 refine l.out _ _ (h.trans' I) (fun J=>?_);clear l K;refine wpAnyL_on (i:=5) rfl (fun K l=>?_)
 go_simp
 refine(rtimes_any q q _ _ _ (A.keep J) (A.keep J) (M.fit (by omega)) (M.fit (by omega))).mono ?_;rintro e ak ⟨al,rfl,b,s⟩;obtain⟨am,Y,an,ao,rfl⟩:=b.shape';replace a:=a.keep s
 go_wp2_with fail
 refine l.out _ _ (J.trans' s) (fun Z=>?_);clear l K;refine wpAnyL_on (i:=7) rfl (fun K l=>?_)
 go_simp
 refine(of_any d _ d0 (by omega)).mono ?_;rintro e ap ⟨aq,rfl,t,n⟩;obtain⟨ar,aa,au,av,rfl⟩:=t.shape';replace a:=a.keep n;replace b:=b.keep n
 go_wp2_with fail
 refine l.out _ _ (Z.trans' n) (fun ac=>?_);clear l K;refine wpAnyL_on (i:=8) rfl (fun K l=>?_)
 go_simp
 refine(rtimes_any (q*q) d _ _ _ b t ((M.mul M).fit (by omega)) (fd.fit (by omega))).mono ?_;rintro e aw ⟨ax,rfl,x,y⟩;obtain⟨ay,ad,az,aA,rfl⟩:=x.shape';replace a:=a.keep y
 go_wp2_with fail
 refine l.out _ _ (ac.trans' y) (fun ae=>?_);clear l K;refine wpAnyL_on (i:=9) rfl (fun K l=>?_)
 go_simp
 refine(rcmp_any (p*p) (q*q*d) _ _ _ a x ((R.mul R).fit (by omega)) (((M.mul M).mul fd).fit (by omega))).mono ?_;rintro e aB ⟨rfl,L⟩;generalize hso:(p*p - q*q*d).sign=so at *
 go_wp2_with fail
 refine l.out _ _ (ae.trans' L) (fun Q=>?_);clear l K;refine wpAnyL_last (i:=10) rfl (by kernel_rfl) (by kernel_rfl) (by kernel_rfl) (fun K l=>?_)
 go_simp
 refine l.out _ _ ?_;clear l K;by_cases hpos:0<so
 ·have HR:Hid (rsg p q d=1):=by
   unfold Hid rsg rsS;rw[T,H,if_neg (by decide),hso,if_pos hpos]
  clear hso
  go_wp2_with fail
  go_ret
  exact⟨by rw[HR.out];rfl,g.trans' Q⟩
 ·have HR:Hid (rsg p q d = -1):=by
   unfold Hid rsg rsS;rw[T,H,if_neg (by decide),hso,if_neg hpos]
  clear hso
  go_wp2_with fail
  go_ret
  exact⟨by rw[HR.out];rfl,g.trans' Q⟩
theorem sign_pz (p q d:Int) (u v:Value) (w:World) (h:IN w u p) (i:IN w v q) (z:p.sign=1) (r:q.sign=0) :
  Calls Tryz.prog 59 #[u,v,.int .i64 d] w (RetV w (.int .i64 (rsg p q d))):=by
 obtain⟨l,b,m,c1,rfl⟩:=h.shape';obtain⟨n,c,o,c2,rfl⟩:=i.shape';have A:rsg p q d=1:=by unfold rsg rsS;rw[z,r];exact(if_pos (by decide)).trans (by decide)
 rw[A];clear A;have a:Kp w ((w.alloc (.cells #[.bool l,.slice b m c1] 52)).alloc (.cells #[.bool n,.slice c o c2] 52)):=(Kp.alloc' (Kp.alloc' (Below.refl w.heap.size w) (.cells #[.bool l,.slice b m c1] 52)) (.cells #[.bool n,.slice c o c2] 52));have j:Blk ((w.alloc (.cells #[.bool l,.slice b m c1] 52)).alloc (.cells #[.bool n,.slice c o c2] 52)) (w.heap.size) #[.bool l,.slice b m c1] 52:=(Blk.alloc (Blk.new w _ _) (.cells #[.bool n,.slice c o c2] 52));have k:Blk ((w.alloc (.cells #[.bool l,.slice b m c1] 52)).alloc (.cells #[.bool n,.slice c o c2] 52)) (w.heap.size+1) #[.bool n,.slice c o c2] 52:=(Blk.at (Blk.new (w.alloc (.cells #[.bool l,.slice b m c1] 52)) _ _) (by simp));replace h:=h.keep a;replace i:=i.keep a
 go_enter Tryz.func59,Tryz.ntmps59
 go_wp2_with fail
 refine(rsign_any p _ _ h).mono ?_;rintro e B ⟨rfl,f⟩;rw[z];replace j:=j.keep f;replace k:=k.keep f;have x:=j.cell;have y:=k.cell;have s:=j.lt;have t:=k.lt;replace h:=h.keep f;replace i:=i.keep f;replace a:=a.trans' f;clear f
 go_wp2_with fail
 refine(rsign_any q _ _ i).mono ?_;rintro e C ⟨rfl,g⟩;rw[r];replace j:=j.keep g;replace k:=k.keep g;replace h:=h.keep g;replace i:=i.keep g;replace a:=a.trans' g;clear g x y s t;have s:=j.lt;have t:=k.lt
 go_wp2_with fail
 go_ret
 exact⟨rfl,a⟩
theorem sign_pp (p q d:Int) (u v:Value) (w:World) (h:IN w u p) (i:IN w v q) (z:p.sign=1) (r:q.sign=1) :
  Calls Tryz.prog 59 #[u,v,.int .i64 d] w (RetV w (.int .i64 (rsg p q d))):=by
 obtain⟨l,b,m,c1,rfl⟩:=h.shape';obtain⟨n,c,o,c2,rfl⟩:=i.shape';have A:rsg p q d=1:=by unfold rsg rsS;rw[z,r];exact(if_pos (by decide)).trans (by decide)
 rw[A];clear A;have a:Kp w ((w.alloc (.cells #[.bool l,.slice b m c1] 52)).alloc (.cells #[.bool n,.slice c o c2] 52)):=(Kp.alloc' (Kp.alloc' (Below.refl w.heap.size w) (.cells #[.bool l,.slice b m c1] 52)) (.cells #[.bool n,.slice c o c2] 52));have j:Blk ((w.alloc (.cells #[.bool l,.slice b m c1] 52)).alloc (.cells #[.bool n,.slice c o c2] 52)) (w.heap.size) #[.bool l,.slice b m c1] 52:=(Blk.alloc (Blk.new w _ _) (.cells #[.bool n,.slice c o c2] 52));have k:Blk ((w.alloc (.cells #[.bool l,.slice b m c1] 52)).alloc (.cells #[.bool n,.slice c o c2] 52)) (w.heap.size+1) #[.bool n,.slice c o c2] 52:=(Blk.at (Blk.new (w.alloc (.cells #[.bool l,.slice b m c1] 52)) _ _) (by simp));replace h:=h.keep a;replace i:=i.keep a
 go_enter Tryz.func59,Tryz.ntmps59
 go_wp2_with fail
 refine(rsign_any p _ _ h).mono ?_;rintro e B ⟨rfl,f⟩;rw[z];replace j:=j.keep f;replace k:=k.keep f;have x:=j.cell;have y:=k.cell;have s:=j.lt;have t:=k.lt;replace h:=h.keep f;replace i:=i.keep f;replace a:=a.trans' f;clear f
 go_wp2_with fail
 refine(rsign_any q _ _ i).mono ?_;rintro e C ⟨rfl,g⟩;rw[r];replace j:=j.keep g;replace k:=k.keep g;replace h:=h.keep g;replace i:=i.keep g;replace a:=a.trans' g;clear g x y s t;have s:=j.lt;have t:=k.lt
 go_wp2_with fail
 go_ret
 exact⟨rfl,a⟩
theorem sign_ref (p q d:Int) (m:Nat) (u v:Value) (w:World) (c:IN w u p) (e:IN w v q) (f:m≤100000000) (g:Ft m p) (h:Ft m q) (i:0≤d) (j:d≤1000000) :
  Calls Tryz.prog 59 #[u,v,.int .i64 d] w (RetV w (.int .i64 (rsg p q d))):=by
 rcases sign3 p with ⟨a,_⟩|⟨a,_⟩|⟨a,_⟩ <;> rcases sign3 q with ⟨b,_⟩|⟨b,_⟩|⟨b,_⟩
 ·exact sign_mm p q d u v w c e a b
 ·exact sign_mz p q d u v w c e a b
 ·exact sign_mp p q d m u v w c e f g h i j a b
 ·exact sign_zm p q d u v w c e a b
 ·exact sign_zz p q d u v w c e a b
 ·exact sign_zp p q d u v w c e a b
 ·exact sign_pm p q d m u v w c e f g h i j a b
 ·exact sign_pz p q d u v w c e a b
 ·exact sign_pp p q d u v w c e a b
end Go.Proofs.YtjahbjjekednfaaGreatDoor
