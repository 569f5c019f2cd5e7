import Derived.Test.YtjahbjjekednfaaGreatDoorSt
import Derived.Test.YtjahbjjekednfaaGreatDoorSoft
import Derived.Test.YtjahbjjekednfaaGreatDoorMath
namespace Go.Proofs.YtjahbjjekednfaaGreatDoor
set_option maxHeartbeats 3200000
section
open Go.RowKit
theorem sumOfProducts_any (x y z t:Int) (m:Nat) (u v u' v':Value) (w:World) (hx:WN w u x) (hy:WN w v y) (X:WN w u' z) (Y:WN w v' t) (hm:m≤150000000) (fx:Ft m x) (fy:Ft m y) (fz:Ft m z) (ft:Ft m t) :
  Calls Tryz.prog 102 #[u,v,u',v'] w (RetW w (x*y+z*t)):=by
 obtain⟨b1,P,n1,c1,rfl⟩:=hx.shape';obtain⟨b2,Q,n2,c2,rfl⟩:=hy.shape';obtain⟨b3,B,n3,c3,rfl⟩:=X.shape';obtain⟨b4,C,n4,c4,rfl⟩:=Y.shape'
 go_enter Tryz.func102,Tryz.ntmps102
 go_wp2_with fail
 have R:Kp w _:=(Kp.alloc' (Kp.alloc' (Kp.alloc' (Kp.alloc' (Kp.alloc' (Below.refl w.heap.size w) (.cells #[.bool b1,.slice P n1 c1] 38)) (.cells #[.bool b2,.slice Q n2 c2] 38)) (.cells #[.bool b3,.slice B n3 c3] 38)) (.cells #[.bool b4,.slice C n4 c4] 38)) (.cells #[.bool false,.slice none 0 0] 38));have D:Sf 2 w _:=(Sf.alloc (Sf.alloc (Sf.alloc (Sf.alloc (Sf.alloc (Sf.refl 2 w) (.cells #[.bool b1,.slice P n1 c1] 38)) (.cells #[.bool b2,.slice Q n2 c2] 38)) (.cells #[.bool b3,.slice B n3 c3] 38)) (.cells #[.bool b4,.slice C n4 c4] 38)) (.cells #[.bool false,.slice none 0 0] 38));refine(multiply_any x y _ _ _ (hx.soft D) (hy.soft D) (fx.fit (by omega)) (fy.fit (by omega))).mono ?_;rintro e N ⟨v1,rfl,i,g⟩;obtain⟨b5,F,n5,c5,rfl⟩:=i.shape';have ag:=R.trans' g;have S:=D.trans (Sf.keep g);have r:Blk N (w.heap.size+1+1) #[.bool b3,.slice B n3 c3] 38:=Blk.keep g (Blk.at (Blk.alloc (Blk.alloc (Blk.new _ _ _) _) _) (by simp));have s:Blk N (w.heap.size+1+1+1) #[.bool b4,.slice C n4 c4] 38:=Blk.keep g (Blk.at (Blk.alloc (Blk.new _ _ _) _) (by simp));have b:Blk N (w.heap.size+1+1+1+1) #[.bool false,.slice none 0 0] 38:=Blk.keep g (Blk.at (Blk.new _ _ _) (by simp));obtain⟨G,H,ah⟩:=r.all;obtain⟨I,J,ai⟩:=s.all;obtain⟨j,k,Z⟩:=b.all;have aa:w.heap.size≤w.heap.size+1+1+1+1:=by (first | omega | (have:=R.size;simp only[sz] at this;omega))
 replace X:=X.soft S;replace Y:=Y.soft S
 go_wp2_with fail
 have T:Kp w _:=(Kp.alloc' ag (.cells #[.bool b5,.slice F n5 c5] 38));have K:Sf 2 N _:=(Sf.alloc (Sf.refl 2 N) (.cells #[.bool b5,.slice F n5 c5] 38));refine(multiply_any z t _ _ _ (X.soft K) (Y.soft K) (fz.fit (by omega)) (ft.fit (by omega))).mono ?_;rintro e w2 ⟨v2,rfl,U,l⟩;obtain⟨b6,V,n6,c6,rfl⟩:=U.shape';have aj:=T.trans' l;have ak:=K.trans (Sf.keep l);have c:=Blk.keep l (Blk.alloc b _);have a:Blk w2 (N.heap.size) #[.bool b5,.slice F n5 c5] 38:=Blk.keep l (Blk.at (Blk.new _ _ _) (by simp));obtain⟨n,o,ac⟩:=c.all;have ad:w.heap.size≤w.heap.size+1+1+1+1:=by (first | omega | (have:=T.size;simp only[sz] at this;omega))
 obtain⟨d,f,O⟩:=a.all;replace i:=i.soft ak;clear r G H s I J b j k
 go_wp2_with fail
 have kp2:Kp w _:=(Kp.alloc' aj (.cells #[.bool b6,.slice V n6 c6] 38));have sf2:Sf 2 w2 _:=(Sf.alloc (Sf.refl 2 w2) (.cells #[.bool b6,.slice V n6 c6] 38));refine(add_any (x*y) (z*t) _ _ _ (i.soft sf2) (U.soft sf2) ((fx.mul fy).fit (by omega)) ((fz.mul ft).fit (by omega))).mono ?_;rintro e w3 ⟨v3,rfl,W,L⟩;obtain⟨b7,M,n7,c7,rfl⟩:=W.shape';have al:=kp2.trans' L;have ao:=sf2.trans (Sf.keep L);have h:=Blk.keep L (Blk.alloc c _);obtain⟨p,ae,af⟩:=h.all;have q:w.heap.size≤w.heap.size+1+1+1+1:=by (first | omega | (have:=kp2.size;simp only[sz] at this;omega))
 clear c n o a d f
 go_wp2_with fail
 refine bodyPost_ret (v:=.agg #[.bool b7,.slice M n7 c7]) (by simp[results,Tryz.results102,go_sem,p]) rfl ?_;have am:Kp w _:=(stK2 (A:=w.heap.size+1+1+1+1) (.bool b7) (.slice M n7 c7) al (by have:=q;omega))
 have an:Sf 2 w3 _:=(stS2 (E:=2) (.bool b7) (.slice M n7 c7) h (by decide));exact retW_mk W an am
theorem timesRoot_any (x d:Int) (m:Nat) (u:Value) (w:World) (z:WN w u x) (Z:m≤150000000) (U:Ft m x) (V:0≤d) (hd:d≤1000000) :
  Calls Tryz.prog 126 #[u,.int .i64 d] w (RetW w (x*d)):=by
 obtain⟨G,k,H,c1,rfl⟩:=z.shape'
 go_enter Tryz.func126,Tryz.ntmps126
 go_wp2_with fail
 have I:Kp w _:=(Kp.alloc' (Kp.alloc' (Below.refl w.heap.size w) (.cells #[.bool G,.slice k H c1] 38)) (.cells #[.bool false,.slice none 0 0] 38));have J:Sf 2 w _:=(Sf.alloc (Sf.alloc (Sf.refl 2 w) (.cells #[.bool G,.slice k H c1] 38)) (.cells #[.bool false,.slice none 0 0] 38));refine(fromInt_any d _ V (by omega)).mono ?_;rintro e B ⟨v1,rfl,r,c⟩;obtain⟨S,s,T,c2,rfl⟩:=r.shape';have K:=I.trans' c;have L:=J.trans (Sf.keep c);have j:Blk B (w.heap.size) #[.bool G,.slice k H c1] 38:=Blk.keep c (Blk.at (Blk.alloc (Blk.new _ _ _) _) (by simp));have a:Blk B (w.heap.size+1) #[.bool false,.slice none 0 0] 38:=Blk.keep c (Blk.at (Blk.new _ _ _) (by simp));obtain⟨l,n,M⟩:=j.all;obtain⟨f,g,C⟩:=a.all;replace z:=z.soft L
 go_wp2_with fail
 have t:Kp w _:=(Kp.alloc' K (.cells #[.bool S,.slice s T c2] 38));have o:Sf 2 B _:=(Sf.alloc (Sf.refl 2 B) (.cells #[.bool S,.slice s T c2] 38));have W:Ft 7 d:=by unfold Ft;omega
 refine(multiply_any x d _ _ _ (z.soft o) (r.soft o) (U.fit (by omega)) (W.fit (by omega))).mono ?_;rintro e X ⟨v2,rfl,y,p⟩;obtain⟨N,q,O,c3,rfl⟩:=y.shape';have P:=t.trans' p;have Y:=o.trans (Sf.keep p);have b:=Blk.keep p (Blk.alloc a _);obtain⟨h,D,F⟩:=b.all;have i:w.heap.size≤w.heap.size+1:=by (first | omega | (have:=t.size;simp only[sz] at this;omega))
 clear j l n a f g
 go_wp2_with fail
 refine bodyPost_ret (v:=.agg #[.bool N,.slice q O c3]) (by simp[results,Tryz.results126,go_sem,h]) rfl ?_;have Q:Kp w _:=(stK2 (A:=w.heap.size+1) (.bool N) (.slice q O c3) P (by have:=i;omega))
 have R:Sf 2 X _:=(stS2 (E:=2) (.bool N) (.slice q O c3) b (by decide));exact retW_mk y R Q
end
section
open Go.RowKit
structure Qn where
 p:Int
 q:Int
 r:Int
 d:Int
def XN (w:World) (v:Value) (a:Qn):Prop:=∃ f b g c1 h c i c2 j e k c3,v=.agg #[.bool f,.slice b g c1,.bool h,.slice c i c2,.bool j,.slice e k c3,.int .i64 a.d] ∧
 WN w (.agg #[.bool f,.slice b g c1]) a.p∧WN w (.agg #[.bool h,.slice c i c2]) a.q∧WN w (.agg #[.bool j,.slice e k c3]) a.r
def RetX (w:World) (a:Qn) (e:Ending) (b:World):Prop:=∃ v,e=.returned v∧XN b v a∧Kp w b
def RetXE (w:World) (a:Qn) (n:Int) (e:Ending) (b:World):Prop:=∃ v,e=.returned (.tuple #[v,.int .i64 n])∧XN b v a∧Kp w b
theorem XN.soft {w W:World} {v:Value} {a:Qn} (b:Sf 2 w W) (h:XN w v a):XN W v a:=by
 obtain⟨f,c,g,c1,i,d,j,c2,k,e,l,c3,m,n,o,p⟩:=h;exact⟨f,c,g,c1,i,d,j,c2,k,e,l,c3,m,n.soft b,o.soft b,p.soft b⟩
theorem XN.keep {w W:World} {v:Value} {a:Qn} (b:Kp w W) (h:XN w v a):XN W v a:=h.soft (Sf.keep b)
theorem XN.mk3 {w:World} {a:Qn} {f g h:Bool} {b c e:Option Addr} {i c1 j c2 k c3:Nat} {d:Int} (l:WN w (.agg #[.bool f,.slice b i c1]) a.p) (m:WN w (.agg #[.bool g,.slice c j c2]) a.q) (n:WN w (.agg #[.bool h,.slice e k c3]) a.r) (o:d=a.d) :
  XN w (.agg #[.bool f,.slice b i c1,.bool g,.slice c j c2,.bool h,.slice e k c3,.int .i64 d]) a :=
 ⟨f,b,i,c1,g,c,j,c2,h,e,k,c3,by rw[o],l,m,n⟩
theorem wn_zero (w:World):WN w (.agg #[.bool false,.slice none 0 0]) 0:=⟨none,0,0,rfl,rp_none _ _⟩
theorem sign_nn {x:Int} (h:0≤x):x.sign ≥ 0:=by
 rcases Int.lt_or_eq_of_le h with a | a
 ·rw[Int.sign_eq_one_of_pos a];decide
 ·rw[← a];decide
def qcom (p q r:Int):Int:=if r<0 then -(Int.gcd (Int.gcd r p) q:Int) else (Int.gcd (Int.gcd r p) q:Int)
def qreduce (p q r d:Int):Qn:=⟨p.tdiv (qcom p q r),q.tdiv (qcom p q r),r.tdiv (qcom p q r),if q.tdiv (qcom p q r)=0 then 1 else d⟩
theorem Ft.gcd {m:Nat} {x y:Int} (a:Ft m x) (b:Ft m y):Ft m (Int.gcd x y:Int):=by
 by_cases h:x=0
 ·subst h;unfold Ft at *
  simpa using b
 ·refine a.le ?_;have:=Nat.gcd_le_left (m:=x.natAbs) y.natAbs (by omega)
  simpa[Int.gcd] using this
theorem Ft.com {m:Nat} {p q r:Int} (a:Ft m p) (b:Ft m q) (c:Ft m r):Ft m (qcom p q r):=by
 unfold qcom
 split
 ·exact((c.gcd a).gcd b).neg
 ·exact(c.gcd a).gcd b
theorem reduce_nz (p q r d:Int) (m:Nat) (u v t:Value) (w:World) (U:WN w u p) (L:WN w v q) (h:WN w t r) (hm:m≤150000000) (fp:Ft m p) (fq:Ft m q) (fr:Ft m r) (h1:r<0) (h2:q.tdiv (qcom p q r)=0) :
  Calls Tryz.prog 101 #[u,v,t,.int .i64 d] w (RetX w (qreduce p q r d)):=by
 obtain⟨b1,aZ,n1,c1,rfl⟩:=U.shape';obtain⟨b2,a0,n2,c2,rfl⟩:=L.shape';obtain⟨b3,a1,n3,c3,rfl⟩:=h.shape';have HC:=Hid.mk (fp.com fq fr);have HG:Hid (qcom p q r = -(Int.gcd (Int.gcd r p) q:Int)):=by unfold Hid qcom;rw[if_pos h1]
 have HS:Hid (r.sign = -1):=by unfold Hid;rw[Int.sign_eq_neg_one_of_neg h1]
 have HQ:=Hid.mk h2;clear h1 h2
 go_enter Tryz.func101,Tryz.ntmps101
 go_wp2_with fail
 have V:Kp w _:=(Kp.alloc' (Kp.alloc' (Kp.alloc' (Kp.alloc' (Below.refl w.heap.size w) (.cells #[.bool b1,.slice aZ n1 c1] 38)) (.cells #[.bool b2,.slice a0 n2 c2] 38)) (.cells #[.bool b3,.slice a1 n3 c3] 38)) (.cells #[.bool false,.slice none 0 0,.bool false,.slice none 0 0,.bool false,.slice none 0 0,.int .i64 0] 40));have a2:Sf 2 w _:=(Sf.alloc (Sf.alloc (Sf.alloc (Sf.alloc (Sf.refl 2 w) (.cells #[.bool b1,.slice aZ n1 c1] 38)) (.cells #[.bool b2,.slice a0 n2 c2] 38)) (.cells #[.bool b3,.slice a1 n3 c3] 38)) (.cells #[.bool false,.slice none 0 0,.bool false,.slice none 0 0,.bool false,.slice none 0 0,.int .i64 0] 40));refine(divisor_any r p m _ _ _ (h.soft a2) (U.soft a2) (by omega) fr fp).mono ?_;rintro e i ⟨v1,rfl,hg,M⟩;obtain⟨b4,a3,n4,c4,rfl⟩:=hg.shape';have cI:=V.trans' M;have a4:=a2.trans (Sf.keep M);have W:Blk i (w.heap.size) #[.bool b1,.slice aZ n1 c1] 38:=Blk.keep M (Blk.at (Blk.alloc (Blk.alloc (Blk.alloc (Blk.new _ _ _) _) _) _) (by simp));have X:Blk i (w.heap.size+1) #[.bool b2,.slice a0 n2 c2] 38:=Blk.keep M (Blk.at (Blk.alloc (Blk.alloc (Blk.new _ _ _) _) _) (by simp));have Y:Blk i (w.heap.size+1+1) #[.bool b3,.slice a1 n3 c3] 38:=Blk.keep M (Blk.at (Blk.alloc (Blk.new _ _ _) _) (by simp));have j:Blk i (w.heap.size+1+1+1) #[.bool false,.slice none 0 0,.bool false,.slice none 0 0,.bool false,.slice none 0 0,.int .i64 0] 40:=Blk.keep M (Blk.at (Blk.new _ _ _) (by simp));obtain⟨a5,a6,cJ⟩:=W.all;have cK:w.heap.size≤w.heap.size:=by (first | omega | (have:=V.size;simp only[sz] at this;omega))
 obtain⟨a7,a8,cL⟩:=X.all;have cM:w.heap.size≤w.heap.size+1:=by (first | omega | (have:=V.size;simp only[sz] at this;omega))
 obtain⟨a9,ba,cN⟩:=Y.all;have cO:w.heap.size≤w.heap.size+1+1:=by (first | omega | (have:=V.size;simp only[sz] at this;omega))
 obtain⟨av,aw,cj⟩:=j.all;have ck:w.heap.size≤w.heap.size+1+1+1:=by (first | omega | (have:=V.size;simp only[sz] at this;omega))
 replace U:=U.soft a4;replace L:=L.soft a4;replace h:=h.soft a4
 go_wp2_with fail
 have N:Kp w _:=(Kp.alloc' cI (.cells #[.bool b4,.slice a3 n4 c4] 38));have bb:Sf 2 i _:=(Sf.alloc (Sf.refl 2 i) (.cells #[.bool b4,.slice a3 n4 c4] 38));refine(divisor_any (Int.gcd r p) q m _ _ _ (hg.soft bb) (L.soft bb) (by omega) (fr.gcd fp) fq).mono ?_;rintro e w2 ⟨v2,rfl,hc,k⟩;obtain⟨b5,bc,n5,c5,rfl⟩:=hc.shape';have cP:=N.trans' k;have be:=bb.trans (Sf.keep k);have Z:=Blk.keep k (Blk.alloc W _);have aa:=Blk.keep k (Blk.alloc X _);have ac:=Blk.keep k (Blk.alloc Y _);have l:=Blk.keep k (Blk.alloc j _);have b:Blk w2 (i.heap.size) #[.bool b4,.slice a3 n4 c4] 38:=Blk.keep k (Blk.at (Blk.new _ _ _) (by simp));obtain⟨bf,bg,cQ⟩:=Z.all;have cR:w.heap.size≤w.heap.size:=by (first | omega | (have:=N.size;simp only[sz] at this;omega))
 obtain⟨bh,bi,cS⟩:=aa.all;have cT:w.heap.size≤w.heap.size+1:=by (first | omega | (have:=N.size;simp only[sz] at this;omega))
 obtain⟨bj,bm,cU⟩:=ac.all;have cV:w.heap.size≤w.heap.size+1+1:=by (first | omega | (have:=N.size;simp only[sz] at this;omega))
 obtain⟨ax,ay,cl⟩:=l.all;have cm:w.heap.size≤w.heap.size+1+1+1:=by (first | omega | (have:=N.size;simp only[sz] at this;omega))
 obtain⟨az,aA,cn⟩:=b.all;have aB:w.heap.size≤i.heap.size:=by (first | omega | (have:=N.size;simp only[sz] at this;omega))
 replace U:=U.soft be;replace L:=L.soft be;replace h:=h.soft be;clear W a5 a6 X a7 a8 Y a9 ba j av aw
 go_wp2_with fail
 have kp2:Kp w _:=(stK2 (A:=i.heap.size) (.bool b5) (.slice bc n5 c5) cP (by have:=aB;omega))
 have sf2:Sf 2 w2 _:=(stS2 (E:=2) (.bool b5) (.slice bc n5 c5) b (by decide));refine(sign_any r _ _ (h.soft sf2)).mono ?_;rintro e w3 ⟨rfl,n⟩;rw[HS.out];have cW:=kp2.trans' n;have aC:=sf2.trans (Sf.keep n);have ad:=Blk.keep n (Blk.other (Blk.other Z (by omega)) (by omega));have ae:=Blk.keep n (Blk.other (Blk.other aa (by omega)) (by omega));have af:=Blk.keep n (Blk.other (Blk.other ac (by omega)) (by omega));have o:=Blk.keep n (Blk.other (Blk.other l (by omega)) (by omega));have s:Blk w3 (i.heap.size) #[.bool b5,.slice bc n5 c5] 38:=Blk.keep n (Blk.set (Blk.set b));obtain⟨bn,bo,cX⟩:=ad.all;have cY:w.heap.size≤w.heap.size:=by (first | omega | (have:=kp2.size;simp only[sz] at this;omega))
 obtain⟨bp,bq,cZ⟩:=ae.all;have c0:w.heap.size≤w.heap.size+1:=by (first | omega | (have:=kp2.size;simp only[sz] at this;omega))
 obtain⟨br,bs,da⟩:=af.all;have db:w.heap.size≤w.heap.size+1+1:=by (first | omega | (have:=kp2.size;simp only[sz] at this;omega))
 obtain⟨aD,aE,co⟩:=o.all;have cp:w.heap.size≤w.heap.size+1+1+1:=by (first | omega | (have:=kp2.size;simp only[sz] at this;omega))
 obtain⟨aF,aG,cq⟩:=s.all;have cr:w.heap.size≤i.heap.size:=by (first | omega | (have:=kp2.size;simp only[sz] at this;omega))
 replace U:=U.soft aC;replace L:=L.soft aC;replace h:=h.soft aC;replace hc:=hc.soft aC;clear Z bf bg aa bh bi ac bj bm l ax ay b az aA
 go_wp2_with fail
 have O:Kp w _:=cW;have cb:Sf 2 w3 _:=(Sf.refl 2 w3);refine(negate_any _ _ _ (hc.soft cb) (((fr.gcd fp).gcd fq).fit (by omega))).mono ?_;rintro e w4 ⟨v4,rfl,c,x⟩;obtain⟨b6,bt,n6,c6,rfl⟩:=c.shape';rw[← HG.out] at c;have dc:=O.trans' x;have bu:=cb.trans (Sf.keep x);have ag:=Blk.keep x ad;have ah:=Blk.keep x ae;have ai:=Blk.keep x af;have y:=Blk.keep x o;have f:=Blk.keep x s;obtain⟨bv,bw,dd⟩:=ag.all;have de:w.heap.size≤w.heap.size:=by (first | omega | (have:=O.size;simp only[sz] at this;omega))
 obtain⟨bx,bz,df⟩:=ah.all;have dg:w.heap.size≤w.heap.size+1:=by (first | omega | (have:=O.size;simp only[sz] at this;omega))
 obtain⟨bA,bB,dh⟩:=ai.all;have di:w.heap.size≤w.heap.size+1+1:=by (first | omega | (have:=O.size;simp only[sz] at this;omega))
 obtain⟨aH,aI,ct⟩:=y.all;have cu:w.heap.size≤w.heap.size+1+1+1:=by (first | omega | (have:=O.size;simp only[sz] at this;omega))
 obtain⟨aJ,aK,cw⟩:=f.all;have aL:w.heap.size≤i.heap.size:=by (first | omega | (have:=O.size;simp only[sz] at this;omega))
 replace U:=U.soft bu;replace L:=L.soft bu;replace h:=h.soft bu;clear ad bn bo ae bp bq af br bs o aD aE s aF aG
 go_wp2_with fail
 have kp4:Kp w _:=(stK2 (A:=i.heap.size) (.bool b6) (.slice bt n6 c6) dc (by have:=aL;omega))
 have sf4:Sf 2 w4 _:=(stS2 (E:=2) (.bool b6) (.slice bt n6 c6) f (by decide));refine(divide_any p (qcom p q r) m _ _ _ (U.soft sf4) (c.soft sf4) (by omega) fp HC.out).mono ?_;rintro e w5 ⟨u5,v5,rfl,g,cc,z⟩;obtain⟨b7,P,n7,c7,rfl⟩:=g.shape';obtain⟨dR,dO,dS,dT,rfl⟩:=cc.shape';clear cc;have dj:=kp4.trans' z;have bC:=sf4.trans (Sf.keep z);have I:=Blk.keep z (Blk.other (Blk.other ag (by omega)) (by omega));have aj:=Blk.keep z (Blk.other (Blk.other ah (by omega)) (by omega));have ak:=Blk.keep z (Blk.other (Blk.other ai (by omega)) (by omega));have B:=Blk.keep z (Blk.other (Blk.other y (by omega)) (by omega));have C:Blk w5 (i.heap.size) #[.bool b6,.slice bt n6 c6] 38:=Blk.keep z (Blk.set (Blk.set f));obtain⟨bD,bE,dk⟩:=I.all;have bF:w.heap.size≤w.heap.size:=by (first | omega | (have:=kp4.size;simp only[sz] at this;omega))
 obtain⟨bG,bH,dl⟩:=aj.all;have dm:w.heap.size≤w.heap.size+1:=by (first | omega | (have:=kp4.size;simp only[sz] at this;omega))
 obtain⟨bI,bJ,dn⟩:=ak.all;have dp:w.heap.size≤w.heap.size+1+1:=by (first | omega | (have:=kp4.size;simp only[sz] at this;omega))
 obtain⟨aM,aN,cx⟩:=B.all;have cy:w.heap.size≤w.heap.size+1+1+1:=by (first | omega | (have:=kp4.size;simp only[sz] at this;omega))
 obtain⟨aO,aP,cz⟩:=C.all;have cA:w.heap.size≤i.heap.size:=by (first | omega | (have:=kp4.size;simp only[sz] at this;omega))
 replace L:=L.soft bC;replace h:=h.soft bC;replace c:=c.soft bC;clear ag bv bw ah bx bz ai bA bB y aH aI f aJ aK
 go_wp2_with fail
 have al:Kp w _:=(stK2 (A:=w.heap.size) (.bool b7) (.slice P n7 c7) dj (by have:=bF;omega))
 have bK:Sf 2 w5 _:=(stS2 (E:=2) (.bool b7) (.slice P n7 c7) I (by decide));refine(divide_any q (qcom p q r) m _ _ _ (L.soft bK) (c.soft bK) (by omega) fq HC.out).mono ?_;rintro e w6 ⟨u6,v6,rfl,D,cd,F⟩;obtain⟨b8,Q,n8,c8,rfl⟩:=D.shape';obtain⟨dU,dP,dV,dW,rfl⟩:=cd.shape';clear cd;have dq:=al.trans' F;have bL:=bK.trans (Sf.keep F);have am:Blk w6 (w.heap.size) #[.bool b7,.slice P n7 c7] 38:=Blk.keep F (Blk.set (Blk.set I));have J:=Blk.keep F (Blk.other (Blk.other aj (by omega)) (by omega));have an:=Blk.keep F (Blk.other (Blk.other ak (by omega)) (by omega));have G:=Blk.keep F (Blk.other (Blk.other B (by omega)) (by omega));have ao:=Blk.keep F (Blk.other (Blk.other C (by omega)) (by omega));obtain⟨bM,bN,dr⟩:=am.all;have ds:w.heap.size≤w.heap.size:=by (first | omega | (have:=al.size;simp only[sz] at this;omega))
 obtain⟨bO,bP,dt⟩:=J.all;have bQ:w.heap.size≤w.heap.size+1:=by (first | omega | (have:=al.size;simp only[sz] at this;omega))
 obtain⟨bR,bS,du⟩:=an.all;have dv:w.heap.size≤w.heap.size+1+1:=by (first | omega | (have:=al.size;simp only[sz] at this;omega))
 obtain⟨aQ,aR,cB⟩:=G.all;have cC:w.heap.size≤w.heap.size+1+1+1:=by (first | omega | (have:=al.size;simp only[sz] at this;omega))
 obtain⟨aS,aT,cD⟩:=ao.all;replace h:=h.soft bL;replace c:=c.soft bL;replace g:=g.soft bL;clear I bD bE aj bG bH ak bI bJ B aM aN C aO aP
 go_wp2_with fail
 have ap:Kp w _:=(stK2 (A:=w.heap.size+1) (.bool b8) (.slice Q n8 c8) dq (by have:=bQ;omega))
 have bT:Sf 2 w6 _:=(stS2 (E:=2) (.bool b8) (.slice Q n8 c8) J (by decide));refine(divide_any r (qcom p q r) m _ _ _ (h.soft bT) (c.soft bT) (by omega) fr HC.out).mono ?_;rintro e w7 ⟨u7,v7,rfl,aU,ce,R⟩;obtain⟨b9,S,n9,c9,rfl⟩:=aU.shape';obtain⟨dX,dQ,dY,dZ,rfl⟩:=ce.shape';clear ce;have dw:=ap.trans' R;have cf:=bT.trans (Sf.keep R);have aq:=Blk.keep R (Blk.other (Blk.other am (by omega)) (by omega));have ar:Blk w7 (w.heap.size+1) #[.bool b8,.slice Q n8 c8] 38:=Blk.keep R (Blk.set (Blk.set J));have K:=Blk.keep R (Blk.other (Blk.other an (by omega)) (by omega));have H:=Blk.keep R (Blk.other (Blk.other G (by omega)) (by omega));obtain⟨bU,bV,dx⟩:=aq.all;have dy:w.heap.size≤w.heap.size:=by (first | omega | (have:=ap.size;simp only[sz] at this;omega))
 obtain⟨bW,bX,dz⟩:=ar.all;have dA:w.heap.size≤w.heap.size+1:=by (first | omega | (have:=ap.size;simp only[sz] at this;omega))
 obtain⟨bY,bZ,dB⟩:=K.all;have b0:w.heap.size≤w.heap.size+1+1:=by (first | omega | (have:=ap.size;simp only[sz] at this;omega))
 obtain⟨aV,aW,cE⟩:=H.all;have cF:w.heap.size≤w.heap.size+1+1+1:=by (first | omega | (have:=ap.size;simp only[sz] at this;omega))
 replace g:=g.soft cf;replace D:=D.soft cf;clear am bM bN J bO bP an bR bS G aQ aR ao aS aT
 go_wp2_with fail
 have kp7:Kp w _:=(stK2 (A:=w.heap.size+1+1) (.bool b9) (.slice S n9 c9) dw (by have:=b0;omega))
 have sf7:Sf 2 w7 _:=(stS2 (E:=2) (.bool b9) (.slice S n9 c9) K (by decide));refine(sign_any (q.tdiv (qcom p q r)) _ _ (D.soft sf7)).mono ?_;rintro e w8 ⟨rfl,T⟩;rw[HQ.out,Int.sign_zero];have dC:=kp7.trans' T;have ca:=sf7.trans (Sf.keep T);have cg:=Blk.keep T (Blk.other (Blk.other aq (by omega)) (by omega));have ch:=Blk.keep T (Blk.other (Blk.other ar (by omega)) (by omega));have ci:Blk w8 (w.heap.size+1+1) #[.bool b9,.slice S n9 c9] 38:=Blk.keep T (Blk.set (Blk.set K));have au:=Blk.keep T (Blk.other (Blk.other H (by omega)) (by omega));obtain⟨dD,dE,dF⟩:=cg.all;obtain⟨dG,dH,dI⟩:=ch.all;obtain⟨dJ,dK,dL⟩:=ci.all;obtain⟨aX,cG,cH⟩:=au.all;have aY:w.heap.size≤w.heap.size+1+1+1:=by (first | omega | (have:=kp7.size;simp only[sz] at this;omega))
 replace g:=g.soft ca;replace D:=D.soft ca;replace aU:=aU.soft ca;clear aq bU bV ar bW bX K bY bZ H aV aW
 go_wp2_with fail
 refine bodyPost_ret (v:=.agg #[.bool b7,.slice P n7 c7,.bool b8,.slice Q n8 c8,.bool b9,.slice S n9 c9,.int .i64 1]) (by simp[results,Tryz.results101,go_sem,aX]) rfl ?_;have dM:Kp w _:=(stK7 (A:=w.heap.size+1+1+1) (.bool b7) (.slice P n7 c7) (.bool b8) (.slice Q n8 c8) (.bool b9) (.slice S n9 c9) (.int .i64 1) dC (by have:=aY;omega))
 have dN:Sf 2 w8 _:=(stS7 (E:=2) (.bool b7) (.slice P n7 c7) (.bool b8) (.slice Q n8 c8) (.bool b9) (.slice S n9 c9) (.int .i64 1) au (by decide));exact⟨_,rfl,(XN.mk3 (a:=qreduce p q r d) g D aU (by unfold qreduce;simp[HQ.out])).soft dN,dM⟩
theorem reduce_ns (p q r d:Int) (m:Nat) (u v t:Value) (w:World) (U:WN w u p) (L:WN w v q) (h:WN w t r) (hm:m≤150000000) (fp:Ft m p) (fq:Ft m q) (fr:Ft m r) (h1:r<0) (h2:q.tdiv (qcom p q r)≠0) :
  Calls Tryz.prog 101 #[u,v,t,.int .i64 d] w (RetX w (qreduce p q r d)):=by
 obtain⟨b1,aZ,n1,c1,rfl⟩:=U.shape';obtain⟨b2,a0,n2,c2,rfl⟩:=L.shape';obtain⟨b3,a1,n3,c3,rfl⟩:=h.shape';have HC:=Hid.mk (fp.com fq fr);have HG:Hid (qcom p q r = -(Int.gcd (Int.gcd r p) q:Int)):=by unfold Hid qcom;rw[if_pos h1]
 have HS:Hid (r.sign = -1):=by unfold Hid;rw[Int.sign_eq_neg_one_of_neg h1]
 have HQ:=Hid.mk h2;clear h1 h2
 go_enter Tryz.func101,Tryz.ntmps101
 go_wp2_with fail
 have V:Kp w _:=(Kp.alloc' (Kp.alloc' (Kp.alloc' (Kp.alloc' (Below.refl w.heap.size w) (.cells #[.bool b1,.slice aZ n1 c1] 38)) (.cells #[.bool b2,.slice a0 n2 c2] 38)) (.cells #[.bool b3,.slice a1 n3 c3] 38)) (.cells #[.bool false,.slice none 0 0,.bool false,.slice none 0 0,.bool false,.slice none 0 0,.int .i64 0] 40));have a2:Sf 2 w _:=(Sf.alloc (Sf.alloc (Sf.alloc (Sf.alloc (Sf.refl 2 w) (.cells #[.bool b1,.slice aZ n1 c1] 38)) (.cells #[.bool b2,.slice a0 n2 c2] 38)) (.cells #[.bool b3,.slice a1 n3 c3] 38)) (.cells #[.bool false,.slice none 0 0,.bool false,.slice none 0 0,.bool false,.slice none 0 0,.int .i64 0] 40));refine(divisor_any r p m _ _ _ (h.soft a2) (U.soft a2) (by omega) fr fp).mono ?_;rintro e i ⟨v1,rfl,hg,M⟩;obtain⟨b4,a3,n4,c4,rfl⟩:=hg.shape';have cI:=V.trans' M;have a4:=a2.trans (Sf.keep M);have W:Blk i (w.heap.size) #[.bool b1,.slice aZ n1 c1] 38:=Blk.keep M (Blk.at (Blk.alloc (Blk.alloc (Blk.alloc (Blk.new _ _ _) _) _) _) (by simp));have X:Blk i (w.heap.size+1) #[.bool b2,.slice a0 n2 c2] 38:=Blk.keep M (Blk.at (Blk.alloc (Blk.alloc (Blk.new _ _ _) _) _) (by simp));have Y:Blk i (w.heap.size+1+1) #[.bool b3,.slice a1 n3 c3] 38:=Blk.keep M (Blk.at (Blk.alloc (Blk.new _ _ _) _) (by simp));have j:Blk i (w.heap.size+1+1+1) #[.bool false,.slice none 0 0,.bool false,.slice none 0 0,.bool false,.slice none 0 0,.int .i64 0] 40:=Blk.keep M (Blk.at (Blk.new _ _ _) (by simp));obtain⟨a5,a6,cJ⟩:=W.all;have cK:w.heap.size≤w.heap.size:=by (first | omega | (have:=V.size;simp only[sz] at this;omega))
 obtain⟨a7,a8,cL⟩:=X.all;have cM:w.heap.size≤w.heap.size+1:=by (first | omega | (have:=V.size;simp only[sz] at this;omega))
 obtain⟨a9,ba,cN⟩:=Y.all;have cO:w.heap.size≤w.heap.size+1+1:=by (first | omega | (have:=V.size;simp only[sz] at this;omega))
 obtain⟨av,aw,cj⟩:=j.all;have ck:w.heap.size≤w.heap.size+1+1+1:=by (first | omega | (have:=V.size;simp only[sz] at this;omega))
 replace U:=U.soft a4;replace L:=L.soft a4;replace h:=h.soft a4
 go_wp2_with fail
 have N:Kp w _:=(Kp.alloc' cI (.cells #[.bool b4,.slice a3 n4 c4] 38));have bb:Sf 2 i _:=(Sf.alloc (Sf.refl 2 i) (.cells #[.bool b4,.slice a3 n4 c4] 38));refine(divisor_any (Int.gcd r p) q m _ _ _ (hg.soft bb) (L.soft bb) (by omega) (fr.gcd fp) fq).mono ?_;rintro e w2 ⟨v2,rfl,hc,k⟩;obtain⟨b5,bc,n5,c5,rfl⟩:=hc.shape';have cP:=N.trans' k;have be:=bb.trans (Sf.keep k);have Z:=Blk.keep k (Blk.alloc W _);have aa:=Blk.keep k (Blk.alloc X _);have ac:=Blk.keep k (Blk.alloc Y _);have l:=Blk.keep k (Blk.alloc j _);have b:Blk w2 (i.heap.size) #[.bool b4,.slice a3 n4 c4] 38:=Blk.keep k (Blk.at (Blk.new _ _ _) (by simp));obtain⟨bf,bg,cQ⟩:=Z.all;have cR:w.heap.size≤w.heap.size:=by (first | omega | (have:=N.size;simp only[sz] at this;omega))
 obtain⟨bh,bi,cS⟩:=aa.all;have cT:w.heap.size≤w.heap.size+1:=by (first | omega | (have:=N.size;simp only[sz] at this;omega))
 obtain⟨bj,bm,cU⟩:=ac.all;have cV:w.heap.size≤w.heap.size+1+1:=by (first | omega | (have:=N.size;simp only[sz] at this;omega))
 obtain⟨ax,ay,cl⟩:=l.all;have cm:w.heap.size≤w.heap.size+1+1+1:=by (first | omega | (have:=N.size;simp only[sz] at this;omega))
 obtain⟨az,aA,cn⟩:=b.all;have aB:w.heap.size≤i.heap.size:=by (first | omega | (have:=N.size;simp only[sz] at this;omega))
 replace U:=U.soft be;replace L:=L.soft be;replace h:=h.soft be;clear W a5 a6 X a7 a8 Y a9 ba j av aw
 go_wp2_with fail
 have kp2:Kp w _:=(stK2 (A:=i.heap.size) (.bool b5) (.slice bc n5 c5) cP (by have:=aB;omega))
 have sf2:Sf 2 w2 _:=(stS2 (E:=2) (.bool b5) (.slice bc n5 c5) b (by decide));refine(sign_any r _ _ (h.soft sf2)).mono ?_;rintro e w3 ⟨rfl,n⟩;rw[HS.out];have cW:=kp2.trans' n;have aC:=sf2.trans (Sf.keep n);have ad:=Blk.keep n (Blk.other (Blk.other Z (by omega)) (by omega));have ae:=Blk.keep n (Blk.other (Blk.other aa (by omega)) (by omega));have af:=Blk.keep n (Blk.other (Blk.other ac (by omega)) (by omega));have o:=Blk.keep n (Blk.other (Blk.other l (by omega)) (by omega));have s:Blk w3 (i.heap.size) #[.bool b5,.slice bc n5 c5] 38:=Blk.keep n (Blk.set (Blk.set b));obtain⟨bn,bo,cX⟩:=ad.all;have cY:w.heap.size≤w.heap.size:=by (first | omega | (have:=kp2.size;simp only[sz] at this;omega))
 obtain⟨bp,bq,cZ⟩:=ae.all;have c0:w.heap.size≤w.heap.size+1:=by (first | omega | (have:=kp2.size;simp only[sz] at this;omega))
 obtain⟨br,bs,da⟩:=af.all;have db:w.heap.size≤w.heap.size+1+1:=by (first | omega | (have:=kp2.size;simp only[sz] at this;omega))
 obtain⟨aD,aE,co⟩:=o.all;have cp:w.heap.size≤w.heap.size+1+1+1:=by (first | omega | (have:=kp2.size;simp only[sz] at this;omega))
 obtain⟨aF,aG,cq⟩:=s.all;have cr:w.heap.size≤i.heap.size:=by (first | omega | (have:=kp2.size;simp only[sz] at this;omega))
 replace U:=U.soft aC;replace L:=L.soft aC;replace h:=h.soft aC;replace hc:=hc.soft aC;clear Z bf bg aa bh bi ac bj bm l ax ay b az aA
 go_wp2_with fail
 have O:Kp w _:=cW;have cb:Sf 2 w3 _:=(Sf.refl 2 w3);refine(negate_any _ _ _ (hc.soft cb) (((fr.gcd fp).gcd fq).fit (by omega))).mono ?_;rintro e w4 ⟨v4,rfl,c,x⟩;obtain⟨b6,bt,n6,c6,rfl⟩:=c.shape';rw[← HG.out] at c;have dc:=O.trans' x;have bu:=cb.trans (Sf.keep x);have ag:=Blk.keep x ad;have ah:=Blk.keep x ae;have ai:=Blk.keep x af;have y:=Blk.keep x o;have f:=Blk.keep x s;obtain⟨bv,bw,dd⟩:=ag.all;have de:w.heap.size≤w.heap.size:=by (first | omega | (have:=O.size;simp only[sz] at this;omega))
 obtain⟨bx,bz,df⟩:=ah.all;have dg:w.heap.size≤w.heap.size+1:=by (first | omega | (have:=O.size;simp only[sz] at this;omega))
 obtain⟨bA,bB,dh⟩:=ai.all;have di:w.heap.size≤w.heap.size+1+1:=by (first | omega | (have:=O.size;simp only[sz] at this;omega))
 obtain⟨aH,aI,ct⟩:=y.all;have cu:w.heap.size≤w.heap.size+1+1+1:=by (first | omega | (have:=O.size;simp only[sz] at this;omega))
 obtain⟨aJ,aK,cw⟩:=f.all;have aL:w.heap.size≤i.heap.size:=by (first | omega | (have:=O.size;simp only[sz] at this;omega))
 replace U:=U.soft bu;replace L:=L.soft bu;replace h:=h.soft bu;clear ad bn bo ae bp bq af br bs o aD aE s aF aG
 go_wp2_with fail
 have kp4:Kp w _:=(stK2 (A:=i.heap.size) (.bool b6) (.slice bt n6 c6) dc (by have:=aL;omega))
 have sf4:Sf 2 w4 _:=(stS2 (E:=2) (.bool b6) (.slice bt n6 c6) f (by decide));refine(divide_any p (qcom p q r) m _ _ _ (U.soft sf4) (c.soft sf4) (by omega) fp HC.out).mono ?_;rintro e w5 ⟨u5,v5,rfl,g,cc,z⟩;obtain⟨b7,P,n7,c7,rfl⟩:=g.shape';obtain⟨dR,dO,dS,dT,rfl⟩:=cc.shape';clear cc;have dj:=kp4.trans' z;have bC:=sf4.trans (Sf.keep z);have I:=Blk.keep z (Blk.other (Blk.other ag (by omega)) (by omega));have aj:=Blk.keep z (Blk.other (Blk.other ah (by omega)) (by omega));have ak:=Blk.keep z (Blk.other (Blk.other ai (by omega)) (by omega));have B:=Blk.keep z (Blk.other (Blk.other y (by omega)) (by omega));have C:Blk w5 (i.heap.size) #[.bool b6,.slice bt n6 c6] 38:=Blk.keep z (Blk.set (Blk.set f));obtain⟨bD,bE,dk⟩:=I.all;have bF:w.heap.size≤w.heap.size:=by (first | omega | (have:=kp4.size;simp only[sz] at this;omega))
 obtain⟨bG,bH,dl⟩:=aj.all;have dm:w.heap.size≤w.heap.size+1:=by (first | omega | (have:=kp4.size;simp only[sz] at this;omega))
 obtain⟨bI,bJ,dn⟩:=ak.all;have dp:w.heap.size≤w.heap.size+1+1:=by (first | omega | (have:=kp4.size;simp only[sz] at this;omega))
 obtain⟨aM,aN,cx⟩:=B.all;have cy:w.heap.size≤w.heap.size+1+1+1:=by (first | omega | (have:=kp4.size;simp only[sz] at this;omega))
 obtain⟨aO,aP,cz⟩:=C.all;have cA:w.heap.size≤i.heap.size:=by (first | omega | (have:=kp4.size;simp only[sz] at this;omega))
 replace L:=L.soft bC;replace h:=h.soft bC;replace c:=c.soft bC;clear ag bv bw ah bx bz ai bA bB y aH aI f aJ aK
 go_wp2_with fail
 have al:Kp w _:=(stK2 (A:=w.heap.size) (.bool b7) (.slice P n7 c7) dj (by have:=bF;omega))
 have bK:Sf 2 w5 _:=(stS2 (E:=2) (.bool b7) (.slice P n7 c7) I (by decide));refine(divide_any q (qcom p q r) m _ _ _ (L.soft bK) (c.soft bK) (by omega) fq HC.out).mono ?_;rintro e w6 ⟨u6,v6,rfl,D,cd,F⟩;obtain⟨b8,Q,n8,c8,rfl⟩:=D.shape';obtain⟨dU,dP,dV,dW,rfl⟩:=cd.shape';clear cd;have dq:=al.trans' F;have bL:=bK.trans (Sf.keep F);have am:Blk w6 (w.heap.size) #[.bool b7,.slice P n7 c7] 38:=Blk.keep F (Blk.set (Blk.set I));have J:=Blk.keep F (Blk.other (Blk.other aj (by omega)) (by omega));have an:=Blk.keep F (Blk.other (Blk.other ak (by omega)) (by omega));have G:=Blk.keep F (Blk.other (Blk.other B (by omega)) (by omega));have ao:=Blk.keep F (Blk.other (Blk.other C (by omega)) (by omega));obtain⟨bM,bN,dr⟩:=am.all;have ds:w.heap.size≤w.heap.size:=by (first | omega | (have:=al.size;simp only[sz] at this;omega))
 obtain⟨bO,bP,dt⟩:=J.all;have bQ:w.heap.size≤w.heap.size+1:=by (first | omega | (have:=al.size;simp only[sz] at this;omega))
 obtain⟨bR,bS,du⟩:=an.all;have dv:w.heap.size≤w.heap.size+1+1:=by (first | omega | (have:=al.size;simp only[sz] at this;omega))
 obtain⟨aQ,aR,cB⟩:=G.all;have cC:w.heap.size≤w.heap.size+1+1+1:=by (first | omega | (have:=al.size;simp only[sz] at this;omega))
 obtain⟨aS,aT,cD⟩:=ao.all;replace h:=h.soft bL;replace c:=c.soft bL;replace g:=g.soft bL;clear I bD bE aj bG bH ak bI bJ B aM aN C aO aP
 go_wp2_with fail
 have ap:Kp w _:=(stK2 (A:=w.heap.size+1) (.bool b8) (.slice Q n8 c8) dq (by have:=bQ;omega))
 have bT:Sf 2 w6 _:=(stS2 (E:=2) (.bool b8) (.slice Q n8 c8) J (by decide));refine(divide_any r (qcom p q r) m _ _ _ (h.soft bT) (c.soft bT) (by omega) fr HC.out).mono ?_;rintro e w7 ⟨u7,v7,rfl,aU,ce,R⟩;obtain⟨b9,S,n9,c9,rfl⟩:=aU.shape';obtain⟨dX,dQ,dY,dZ,rfl⟩:=ce.shape';clear ce;have dw:=ap.trans' R;have cf:=bT.trans (Sf.keep R);have aq:=Blk.keep R (Blk.other (Blk.other am (by omega)) (by omega));have ar:Blk w7 (w.heap.size+1) #[.bool b8,.slice Q n8 c8] 38:=Blk.keep R (Blk.set (Blk.set J));have K:=Blk.keep R (Blk.other (Blk.other an (by omega)) (by omega));have H:=Blk.keep R (Blk.other (Blk.other G (by omega)) (by omega));obtain⟨bU,bV,dx⟩:=aq.all;have dy:w.heap.size≤w.heap.size:=by (first | omega | (have:=ap.size;simp only[sz] at this;omega))
 obtain⟨bW,bX,dz⟩:=ar.all;have dA:w.heap.size≤w.heap.size+1:=by (first | omega | (have:=ap.size;simp only[sz] at this;omega))
 obtain⟨bY,bZ,dB⟩:=K.all;have b0:w.heap.size≤w.heap.size+1+1:=by (first | omega | (have:=ap.size;simp only[sz] at this;omega))
 obtain⟨aV,aW,cE⟩:=H.all;have cF:w.heap.size≤w.heap.size+1+1+1:=by (first | omega | (have:=ap.size;simp only[sz] at this;omega))
 replace g:=g.soft cf;replace D:=D.soft cf;clear am bM bN J bO bP an bR bS G aQ aR ao aS aT
 go_wp2_with fail
 have kp7:Kp w _:=(stK2 (A:=w.heap.size+1+1) (.bool b9) (.slice S n9 c9) dw (by have:=b0;omega))
 have sf7:Sf 2 w7 _:=(stS2 (E:=2) (.bool b9) (.slice S n9 c9) K (by decide));refine(sign_any (q.tdiv (qcom p q r)) _ _ (D.soft sf7)).mono ?_;rintro e w8 ⟨rfl,T⟩;have d0:((q.tdiv (qcom p q r)).sign == 0)=false:=by simp;exact HQ.out
 generalize (q.tdiv (qcom p q r)).sign=d1 at *;have dC:=kp7.trans' T;have ca:=sf7.trans (Sf.keep T);have cg:=Blk.keep T (Blk.other (Blk.other aq (by omega)) (by omega));have ch:=Blk.keep T (Blk.other (Blk.other ar (by omega)) (by omega));have ci:Blk w8 (w.heap.size+1+1) #[.bool b9,.slice S n9 c9] 38:=Blk.keep T (Blk.set (Blk.set K));have au:=Blk.keep T (Blk.other (Blk.other H (by omega)) (by omega));obtain⟨dD,dE,dF⟩:=cg.all;obtain⟨dG,dH,dI⟩:=ch.all;obtain⟨dJ,dK,dL⟩:=ci.all;obtain⟨aX,cG,cH⟩:=au.all;have aY:w.heap.size≤w.heap.size+1+1+1:=by (first | omega | (have:=kp7.size;simp only[sz] at this;omega))
 replace g:=g.soft ca;replace D:=D.soft ca;replace aU:=aU.soft ca;clear aq bU bV ar bW bX K bY bZ H aV aW
 go_wp2_with fail
 refine bodyPost_ret (v:=.agg #[.bool b7,.slice P n7 c7,.bool b8,.slice Q n8 c8,.bool b9,.slice S n9 c9,.int .i64 d]) (by simp[results,Tryz.results101,go_sem,aX]) rfl ?_;have dM:Kp w _:=(stK7 (A:=w.heap.size+1+1+1) (.bool b7) (.slice P n7 c7) (.bool b8) (.slice Q n8 c8) (.bool b9) (.slice S n9 c9) (.int .i64 d) dC (by have:=aY;omega))
 have dN:Sf 2 w8 _:=(stS7 (E:=2) (.bool b7) (.slice P n7 c7) (.bool b8) (.slice Q n8 c8) (.bool b9) (.slice S n9 c9) (.int .i64 d) au (by decide));exact⟨_,rfl,(XN.mk3 (a:=qreduce p q r d) g D aU (by unfold qreduce;simp[HQ.out])).soft dN,dM⟩
theorem reduce_pz (p q r d:Int) (m:Nat) (u v t:Value) (w:World) (hp:WN w u p) (M:WN w v q) (B:WN w t r) (hm:m≤150000000) (fp:Ft m p) (fq:Ft m q) (fr:Ft m r) (h1:0≤r) (h2:q.tdiv (qcom p q r)=0) :
  Calls Tryz.prog 101 #[u,v,t,.int .i64 d] w (RetX w (qreduce p q r d)):=by
 obtain⟨b1,aH,n1,c1,rfl⟩:=hp.shape';obtain⟨b2,aI,n2,c2,rfl⟩:=M.shape';obtain⟨b3,aJ,n3,c3,rfl⟩:=B.shape';have HC:=Hid.mk (fp.com fq fr);have HG:Hid (qcom p q r=(Int.gcd (Int.gcd r p) q:Int)):=by unfold Hid qcom;rw[if_neg (by omega)]
 have HS:Hid (r.sign ≥ 0):=by unfold Hid;exact sign_nn h1
 have HQ:=Hid.mk h2;clear h1 h2
 go_enter Tryz.func101,Tryz.ntmps101
 go_wp2_with fail
 have b0:Kp w _:=(Kp.alloc' (Kp.alloc' (Kp.alloc' (Kp.alloc' (Below.refl w.heap.size w) (.cells #[.bool b1,.slice aH n1 c1] 38)) (.cells #[.bool b2,.slice aI n2 c2] 38)) (.cells #[.bool b3,.slice aJ n3 c3] 38)) (.cells #[.bool false,.slice none 0 0,.bool false,.slice none 0 0,.bool false,.slice none 0 0,.int .i64 0] 40));have aK:Sf 2 w _:=(Sf.alloc (Sf.alloc (Sf.alloc (Sf.alloc (Sf.refl 2 w) (.cells #[.bool b1,.slice aH n1 c1] 38)) (.cells #[.bool b2,.slice aI n2 c2] 38)) (.cells #[.bool b3,.slice aJ n3 c3] 38)) (.cells #[.bool false,.slice none 0 0,.bool false,.slice none 0 0,.bool false,.slice none 0 0,.int .i64 0] 40));refine(divisor_any r p m _ _ _ (B.soft aK) (hp.soft aK) (by omega) fr fp).mono ?_;rintro e w1 ⟨v1,rfl,hg,G⟩;obtain⟨b4,aL,n4,c4,rfl⟩:=hg.shape';have b6:=b0.trans' G;have aM:=aK.trans (Sf.keep G);have N:Blk w1 (w.heap.size) #[.bool b1,.slice aH n1 c1] 38:=Blk.keep G (Blk.at (Blk.alloc (Blk.alloc (Blk.alloc (Blk.new _ _ _) _) _) _) (by simp));have O:Blk w1 (w.heap.size+1) #[.bool b2,.slice aI n2 c2] 38:=Blk.keep G (Blk.at (Blk.alloc (Blk.alloc (Blk.new _ _ _) _) _) (by simp));have P:Blk w1 (w.heap.size+1+1) #[.bool b3,.slice aJ n3 c3] 38:=Blk.keep G (Blk.at (Blk.alloc (Blk.new _ _ _) _) (by simp));have f:Blk w1 (w.heap.size+1+1+1) #[.bool false,.slice none 0 0,.bool false,.slice none 0 0,.bool false,.slice none 0 0,.int .i64 0] 40:=Blk.keep G (Blk.at (Blk.new _ _ _) (by simp));obtain⟨aN,aO,ca⟩:=N.all;obtain⟨aP,aQ,cb⟩:=O.all;obtain⟨aR,aS,cc⟩:=P.all;obtain⟨ag,ah,bO⟩:=f.all;replace hp:=hp.soft aM;replace M:=M.soft aM;replace B:=B.soft aM
 go_wp2_with fail
 have bC:Kp w _:=(Kp.alloc' b6 (.cells #[.bool b4,.slice aL n4 c4] 38));have aT:Sf 2 w1 _:=(Sf.alloc (Sf.refl 2 w1) (.cells #[.bool b4,.slice aL n4 c4] 38));refine(divisor_any (Int.gcd r p) q m _ _ _ (hg.soft aT) (M.soft aT) (by omega) (fr.gcd fp) fq).mono ?_;rintro e w2 ⟨v2,rfl,Q,g⟩;obtain⟨b5,aU,n5,c5,rfl⟩:=Q.shape';have cd:=bC.trans' g;have aV:=aT.trans (Sf.keep g);have R:=Blk.keep g (Blk.alloc N _);have S:=Blk.keep g (Blk.alloc O _);have T:=Blk.keep g (Blk.alloc P _);have h:=Blk.keep g (Blk.alloc f _);have b:Blk w2 (w1.heap.size) #[.bool b4,.slice aL n4 c4] 38:=Blk.keep g (Blk.at (Blk.new _ _ _) (by simp));obtain⟨aW,aX,ce⟩:=R.all;obtain⟨aY,aZ,cf⟩:=S.all;obtain⟨a0,a1,cg⟩:=T.all;obtain⟨ai,aj,bP⟩:=h.all;obtain⟨ak,al,bQ⟩:=b.all;have am:w.heap.size≤w1.heap.size:=by (first | omega | (have:=bC.size;simp only[sz] at this;omega))
 replace hp:=hp.soft aV;replace M:=M.soft aV;replace B:=B.soft aV;clear N aN aO O aP aQ P aR aS f ag ah
 go_wp2_with fail
 have kp2:Kp w _:=(stK2 (A:=w1.heap.size) (.bool b5) (.slice aU n5 c5) cd (by have:=am;omega))
 have sf2:Sf 2 w2 _:=(stS2 (E:=2) (.bool b5) (.slice aU n5 c5) b (by decide));refine(sign_any r _ _ (B.soft sf2)).mono ?_;rintro e w3 ⟨rfl,i⟩;have cO:=HS.out;generalize r.sign=sg at *;have ch:=kp2.trans' i;have an:=sf2.trans (Sf.keep i);have U:=Blk.keep i (Blk.other (Blk.other R (by omega)) (by omega));have V:=Blk.keep i (Blk.other (Blk.other S (by omega)) (by omega));have W:=Blk.keep i (Blk.other (Blk.other T (by omega)) (by omega));have j:=Blk.keep i (Blk.other (Blk.other h (by omega)) (by omega));have k:Blk w3 (w1.heap.size) #[.bool b5,.slice aU n5 c5] 38:=Blk.keep i (Blk.set (Blk.set b));obtain⟨a2,a3,ci⟩:=U.all;obtain⟨a4,a5,cj⟩:=V.all;obtain⟨a6,a7,ck⟩:=W.all;obtain⟨ao,ap,bR⟩:=j.all;obtain⟨aq,ar,bS⟩:=k.all;replace hp:=hp.soft an;replace M:=M.soft an;replace B:=B.soft an;replace Q:=Q.soft an;clear R aW aX S aY aZ T a0 a1 h ai aj b ak al
 go_wp2_with fail
 rw[← HG.out] at Q;have bD:Kp w _:=ch;have a8:Sf 2 w3 _:=(Sf.refl 2 w3);refine(divide_any p (qcom p q r) m _ _ _ (hp.soft a8) (Q.soft a8) (by omega) fp HC.out).mono ?_;rintro e w4 ⟨u4,v4,rfl,c,bE,l⟩;obtain⟨b7,H,n7,c7,rfl⟩:=c.shape';obtain⟨cP,cL,cQ,cR,rfl⟩:=bE.shape';clear bE;have cl:=bD.trans' l;have a9:=a8.trans (Sf.keep l);have C:=Blk.keep l U;have X:=Blk.keep l V;have Y:=Blk.keep l W;have n:=Blk.keep l j;have o:=Blk.keep l k;obtain⟨ba,bb,cm⟩:=C.all;have bc:w.heap.size≤w.heap.size:=by (first | omega | (have:=bD.size;simp only[sz] at this;omega))
 obtain⟨be,bf,cn⟩:=X.all;obtain⟨bg,bh,co⟩:=Y.all;obtain⟨au,av,bT⟩:=n.all;obtain⟨aw,ax,bU⟩:=o.all;replace M:=M.soft a9;replace B:=B.soft a9;replace Q:=Q.soft a9;clear U a2 a3 V a4 a5 W a6 a7 j ao ap k aq ar
 go_wp2_with fail
 have kp4:Kp w _:=(stK2 (A:=w.heap.size) (.bool b7) (.slice H n7 c7) cl (by have:=bc;omega))
 have sf4:Sf 2 w4 _:=(stS2 (E:=2) (.bool b7) (.slice H n7 c7) C (by decide));refine(divide_any q (qcom p q r) m _ _ _ (M.soft sf4) (Q.soft sf4) (by omega) fq HC.out).mono ?_;rintro e w5 ⟨u5,v5,rfl,s,bF,x⟩;obtain⟨b8,I,n8,c8,rfl⟩:=s.shape';obtain⟨cS,cM,cT,cU,rfl⟩:=bF.shape';clear bF;have cp:=kp4.trans' x;have bi:=sf4.trans (Sf.keep x);have Z:Blk w5 (w.heap.size) #[.bool b7,.slice H n7 c7] 38:=Blk.keep x (Blk.set (Blk.set C));have D:=Blk.keep x (Blk.other (Blk.other X (by omega)) (by omega));have aa:=Blk.keep x (Blk.other (Blk.other Y (by omega)) (by omega));have y:=Blk.keep x (Blk.other (Blk.other n (by omega)) (by omega));have ac:=Blk.keep x (Blk.other (Blk.other o (by omega)) (by omega));obtain⟨bj,bm,cq⟩:=Z.all;obtain⟨bn,bo,cr⟩:=D.all;have bp:w.heap.size≤w.heap.size+1:=by (first | omega | (have:=kp4.size;simp only[sz] at this;omega))
 obtain⟨bq,br,ct⟩:=aa.all;obtain⟨ay,az,bV⟩:=y.all;obtain⟨aA,aB,bW⟩:=ac.all;replace B:=B.soft bi;replace Q:=Q.soft bi;replace c:=c.soft bi;clear C ba bb X be bf Y bg bh n au av o aw ax
 go_wp2_with fail
 have bG:Kp w _:=(stK2 (A:=w.heap.size+1) (.bool b8) (.slice I n8 c8) cp (by have:=bp;omega))
 have bs:Sf 2 w5 _:=(stS2 (E:=2) (.bool b8) (.slice I n8 c8) D (by decide));refine(divide_any r (qcom p q r) m _ _ _ (B.soft bs) (Q.soft bs) (by omega) fr HC.out).mono ?_;rintro e w6 ⟨u6,v6,rfl,aC,bH,J⟩;obtain⟨b9,K,n9,c9,rfl⟩:=aC.shape';obtain⟨cV,cN,cW,cX,rfl⟩:=bH.shape';clear bH;have cu:=bG.trans' J;have bI:=bs.trans (Sf.keep J);have ad:=Blk.keep J (Blk.other (Blk.other Z (by omega)) (by omega));have ae:Blk w6 (w.heap.size+1) #[.bool b8,.slice I n8 c8] 38:=Blk.keep J (Blk.set (Blk.set D));have F:=Blk.keep J (Blk.other (Blk.other aa (by omega)) (by omega));have z:=Blk.keep J (Blk.other (Blk.other y (by omega)) (by omega));obtain⟨bt,bu,cw⟩:=ad.all;obtain⟨bv,bw,cx⟩:=ae.all;obtain⟨bx,bz,cy⟩:=F.all;have bA:w.heap.size≤w.heap.size+1+1:=by (first | omega | (have:=bG.size;simp only[sz] at this;omega))
 obtain⟨aD,aE,bX⟩:=z.all;replace c:=c.soft bI;replace s:=s.soft bI;clear Z bj bm D bn bo aa bq br y ay az ac aA aB
 go_wp2_with fail
 have bJ:Kp w _:=(stK2 (A:=w.heap.size+1+1) (.bool b9) (.slice K n9 c9) cu (by have:=bA;omega))
 have bK:Sf 2 w6 _:=(stS2 (E:=2) (.bool b9) (.slice K n9 c9) F (by decide));refine(sign_any (q.tdiv (qcom p q r)) _ _ (s.soft bK)).mono ?_;rintro e w7 ⟨rfl,L⟩;rw[HQ.out,Int.sign_zero];have cz:=bJ.trans' L;have bB:=bK.trans (Sf.keep L);have bL:=Blk.keep L (Blk.other (Blk.other ad (by omega)) (by omega));have bM:=Blk.keep L (Blk.other (Blk.other ae (by omega)) (by omega));have bN:Blk w7 (w.heap.size+1+1) #[.bool b9,.slice K n9 c9] 38:=Blk.keep L (Blk.set (Blk.set F));have af:=Blk.keep L (Blk.other (Blk.other z (by omega)) (by omega));obtain⟨cA,cB,cC⟩:=bL.all;obtain⟨cD,cE,cF⟩:=bM.all;obtain⟨cG,cH,cI⟩:=bN.all;obtain⟨aF,bY,bZ⟩:=af.all;have aG:w.heap.size≤w.heap.size+1+1+1:=by (first | omega | (have:=bJ.size;simp only[sz] at this;omega))
 replace c:=c.soft bB;replace s:=s.soft bB;replace aC:=aC.soft bB;clear ad bt bu ae bv bw F bx bz z aD aE
 go_wp2_with fail
 refine bodyPost_ret (v:=.agg #[.bool b7,.slice H n7 c7,.bool b8,.slice I n8 c8,.bool b9,.slice K n9 c9,.int .i64 1]) (by simp[results,Tryz.results101,go_sem,aF]) rfl ?_;have cJ:Kp w _:=(stK7 (A:=w.heap.size+1+1+1) (.bool b7) (.slice H n7 c7) (.bool b8) (.slice I n8 c8) (.bool b9) (.slice K n9 c9) (.int .i64 1) cz (by have:=aG;omega))
 have cK:Sf 2 w7 _:=(stS7 (E:=2) (.bool b7) (.slice H n7 c7) (.bool b8) (.slice I n8 c8) (.bool b9) (.slice K n9 c9) (.int .i64 1) af (by decide));exact⟨_,rfl,(XN.mk3 (a:=qreduce p q r d) c s aC (by unfold qreduce;simp[HQ.out])).soft cK,cJ⟩
theorem reduce_ps (p q r d:Int) (m:Nat) (u v t:Value) (w:World) (hp:WN w u p) (M:WN w v q) (B:WN w t r) (hm:m≤150000000) (fp:Ft m p) (fq:Ft m q) (fr:Ft m r) (h1:0≤r) (h2:q.tdiv (qcom p q r)≠0) :
  Calls Tryz.prog 101 #[u,v,t,.int .i64 d] w (RetX w (qreduce p q r d)):=by
 obtain⟨b1,aH,n1,c1,rfl⟩:=hp.shape';obtain⟨b2,aI,n2,c2,rfl⟩:=M.shape';obtain⟨b3,aJ,n3,c3,rfl⟩:=B.shape';have HC:=Hid.mk (fp.com fq fr);have HG:Hid (qcom p q r=(Int.gcd (Int.gcd r p) q:Int)):=by unfold Hid qcom;rw[if_neg (by omega)]
 have HS:Hid (r.sign ≥ 0):=by unfold Hid;exact sign_nn h1
 have HQ:=Hid.mk h2;clear h1 h2
 go_enter Tryz.func101,Tryz.ntmps101
 go_wp2_with fail
 have b0:Kp w _:=(Kp.alloc' (Kp.alloc' (Kp.alloc' (Kp.alloc' (Below.refl w.heap.size w) (.cells #[.bool b1,.slice aH n1 c1] 38)) (.cells #[.bool b2,.slice aI n2 c2] 38)) (.cells #[.bool b3,.slice aJ n3 c3] 38)) (.cells #[.bool false,.slice none 0 0,.bool false,.slice none 0 0,.bool false,.slice none 0 0,.int .i64 0] 40));have aK:Sf 2 w _:=(Sf.alloc (Sf.alloc (Sf.alloc (Sf.alloc (Sf.refl 2 w) (.cells #[.bool b1,.slice aH n1 c1] 38)) (.cells #[.bool b2,.slice aI n2 c2] 38)) (.cells #[.bool b3,.slice aJ n3 c3] 38)) (.cells #[.bool false,.slice none 0 0,.bool false,.slice none 0 0,.bool false,.slice none 0 0,.int .i64 0] 40));refine(divisor_any r p m _ _ _ (B.soft aK) (hp.soft aK) (by omega) fr fp).mono ?_;rintro e w1 ⟨v1,rfl,hg,G⟩;obtain⟨b4,aL,n4,c4,rfl⟩:=hg.shape';have b6:=b0.trans' G;have aM:=aK.trans (Sf.keep G);have N:Blk w1 (w.heap.size) #[.bool b1,.slice aH n1 c1] 38:=Blk.keep G (Blk.at (Blk.alloc (Blk.alloc (Blk.alloc (Blk.new _ _ _) _) _) _) (by simp));have O:Blk w1 (w.heap.size+1) #[.bool b2,.slice aI n2 c2] 38:=Blk.keep G (Blk.at (Blk.alloc (Blk.alloc (Blk.new _ _ _) _) _) (by simp));have P:Blk w1 (w.heap.size+1+1) #[.bool b3,.slice aJ n3 c3] 38:=Blk.keep G (Blk.at (Blk.alloc (Blk.new _ _ _) _) (by simp));have f:Blk w1 (w.heap.size+1+1+1) #[.bool false,.slice none 0 0,.bool false,.slice none 0 0,.bool false,.slice none 0 0,.int .i64 0] 40:=Blk.keep G (Blk.at (Blk.new _ _ _) (by simp));obtain⟨aN,aO,ca⟩:=N.all;obtain⟨aP,aQ,cb⟩:=O.all;obtain⟨aR,aS,cc⟩:=P.all;obtain⟨ag,ah,bO⟩:=f.all;replace hp:=hp.soft aM;replace M:=M.soft aM;replace B:=B.soft aM
 go_wp2_with fail
 have bC:Kp w _:=(Kp.alloc' b6 (.cells #[.bool b4,.slice aL n4 c4] 38));have aT:Sf 2 w1 _:=(Sf.alloc (Sf.refl 2 w1) (.cells #[.bool b4,.slice aL n4 c4] 38));refine(divisor_any (Int.gcd r p) q m _ _ _ (hg.soft aT) (M.soft aT) (by omega) (fr.gcd fp) fq).mono ?_;rintro e w2 ⟨v2,rfl,Q,g⟩;obtain⟨b5,aU,n5,c5,rfl⟩:=Q.shape';have cd:=bC.trans' g;have aV:=aT.trans (Sf.keep g);have R:=Blk.keep g (Blk.alloc N _);have S:=Blk.keep g (Blk.alloc O _);have T:=Blk.keep g (Blk.alloc P _);have h:=Blk.keep g (Blk.alloc f _);have b:Blk w2 (w1.heap.size) #[.bool b4,.slice aL n4 c4] 38:=Blk.keep g (Blk.at (Blk.new _ _ _) (by simp));obtain⟨aW,aX,ce⟩:=R.all;obtain⟨aY,aZ,cf⟩:=S.all;obtain⟨a0,a1,cg⟩:=T.all;obtain⟨ai,aj,bP⟩:=h.all;obtain⟨ak,al,bQ⟩:=b.all;have am:w.heap.size≤w1.heap.size:=by (first | omega | (have:=bC.size;simp only[sz] at this;omega))
 replace hp:=hp.soft aV;replace M:=M.soft aV;replace B:=B.soft aV;clear N aN aO O aP aQ P aR aS f ag ah
 go_wp2_with fail
 have kp2:Kp w _:=(stK2 (A:=w1.heap.size) (.bool b5) (.slice aU n5 c5) cd (by have:=am;omega))
 have sf2:Sf 2 w2 _:=(stS2 (E:=2) (.bool b5) (.slice aU n5 c5) b (by decide));refine(sign_any r _ _ (B.soft sf2)).mono ?_;rintro e w3 ⟨rfl,i⟩;have cO:=HS.out;generalize r.sign=sg at *;have ch:=kp2.trans' i;have an:=sf2.trans (Sf.keep i);have U:=Blk.keep i (Blk.other (Blk.other R (by omega)) (by omega));have V:=Blk.keep i (Blk.other (Blk.other S (by omega)) (by omega));have W:=Blk.keep i (Blk.other (Blk.other T (by omega)) (by omega));have j:=Blk.keep i (Blk.other (Blk.other h (by omega)) (by omega));have k:Blk w3 (w1.heap.size) #[.bool b5,.slice aU n5 c5] 38:=Blk.keep i (Blk.set (Blk.set b));obtain⟨a2,a3,ci⟩:=U.all;obtain⟨a4,a5,cj⟩:=V.all;obtain⟨a6,a7,ck⟩:=W.all;obtain⟨ao,ap,bR⟩:=j.all;obtain⟨aq,ar,bS⟩:=k.all;replace hp:=hp.soft an;replace M:=M.soft an;replace B:=B.soft an;replace Q:=Q.soft an;clear R aW aX S aY aZ T a0 a1 h ai aj b ak al
 go_wp2_with fail
 rw[← HG.out] at Q;have bD:Kp w _:=ch;have a8:Sf 2 w3 _:=(Sf.refl 2 w3);refine(divide_any p (qcom p q r) m _ _ _ (hp.soft a8) (Q.soft a8) (by omega) fp HC.out).mono ?_;rintro e w4 ⟨u4,v4,rfl,c,bE,l⟩;obtain⟨b7,H,n7,c7,rfl⟩:=c.shape';obtain⟨cP,cL,cQ,cR,rfl⟩:=bE.shape';clear bE;have cl:=bD.trans' l;have a9:=a8.trans (Sf.keep l);have C:=Blk.keep l U;have X:=Blk.keep l V;have Y:=Blk.keep l W;have n:=Blk.keep l j;have o:=Blk.keep l k;obtain⟨ba,bb,cm⟩:=C.all;have bc:w.heap.size≤w.heap.size:=by (first | omega | (have:=bD.size;simp only[sz] at this;omega))
 obtain⟨be,bf,cn⟩:=X.all;obtain⟨bg,bh,co⟩:=Y.all;obtain⟨au,av,bT⟩:=n.all;obtain⟨aw,ax,bU⟩:=o.all;replace M:=M.soft a9;replace B:=B.soft a9;replace Q:=Q.soft a9;clear U a2 a3 V a4 a5 W a6 a7 j ao ap k aq ar
 go_wp2_with fail
 have kp4:Kp w _:=(stK2 (A:=w.heap.size) (.bool b7) (.slice H n7 c7) cl (by have:=bc;omega))
 have sf4:Sf 2 w4 _:=(stS2 (E:=2) (.bool b7) (.slice H n7 c7) C (by decide));refine(divide_any q (qcom p q r) m _ _ _ (M.soft sf4) (Q.soft sf4) (by omega) fq HC.out).mono ?_;rintro e w5 ⟨u5,v5,rfl,s,bF,x⟩;obtain⟨b8,I,n8,c8,rfl⟩:=s.shape';obtain⟨cS,cM,cT,cU,rfl⟩:=bF.shape';clear bF;have cp:=kp4.trans' x;have bi:=sf4.trans (Sf.keep x);have Z:Blk w5 (w.heap.size) #[.bool b7,.slice H n7 c7] 38:=Blk.keep x (Blk.set (Blk.set C));have D:=Blk.keep x (Blk.other (Blk.other X (by omega)) (by omega));have aa:=Blk.keep x (Blk.other (Blk.other Y (by omega)) (by omega));have y:=Blk.keep x (Blk.other (Blk.other n (by omega)) (by omega));have ac:=Blk.keep x (Blk.other (Blk.other o (by omega)) (by omega));obtain⟨bj,bm,cq⟩:=Z.all;obtain⟨bn,bo,cr⟩:=D.all;have bp:w.heap.size≤w.heap.size+1:=by (first | omega | (have:=kp4.size;simp only[sz] at this;omega))
 obtain⟨bq,br,ct⟩:=aa.all;obtain⟨ay,az,bV⟩:=y.all;obtain⟨aA,aB,bW⟩:=ac.all;replace B:=B.soft bi;replace Q:=Q.soft bi;replace c:=c.soft bi;clear C ba bb X be bf Y bg bh n au av o aw ax
 go_wp2_with fail
 have bG:Kp w _:=(stK2 (A:=w.heap.size+1) (.bool b8) (.slice I n8 c8) cp (by have:=bp;omega))
 have bs:Sf 2 w5 _:=(stS2 (E:=2) (.bool b8) (.slice I n8 c8) D (by decide));refine(divide_any r (qcom p q r) m _ _ _ (B.soft bs) (Q.soft bs) (by omega) fr HC.out).mono ?_;rintro e w6 ⟨u6,v6,rfl,aC,bH,J⟩;obtain⟨b9,K,n9,c9,rfl⟩:=aC.shape';obtain⟨cV,cN,cW,cX,rfl⟩:=bH.shape';clear bH;have cu:=bG.trans' J;have bI:=bs.trans (Sf.keep J);have ad:=Blk.keep J (Blk.other (Blk.other Z (by omega)) (by omega));have ae:Blk w6 (w.heap.size+1) #[.bool b8,.slice I n8 c8] 38:=Blk.keep J (Blk.set (Blk.set D));have F:=Blk.keep J (Blk.other (Blk.other aa (by omega)) (by omega));have z:=Blk.keep J (Blk.other (Blk.other y (by omega)) (by omega));obtain⟨bt,bu,cw⟩:=ad.all;obtain⟨bv,bw,cx⟩:=ae.all;obtain⟨bx,bz,cy⟩:=F.all;have bA:w.heap.size≤w.heap.size+1+1:=by (first | omega | (have:=bG.size;simp only[sz] at this;omega))
 obtain⟨aD,aE,bX⟩:=z.all;replace c:=c.soft bI;replace s:=s.soft bI;clear Z bj bm D bn bo aa bq br y ay az ac aA aB
 go_wp2_with fail
 have bJ:Kp w _:=(stK2 (A:=w.heap.size+1+1) (.bool b9) (.slice K n9 c9) cu (by have:=bA;omega))
 have bK:Sf 2 w6 _:=(stS2 (E:=2) (.bool b9) (.slice K n9 c9) F (by decide));refine(sign_any (q.tdiv (qcom p q r)) _ _ (s.soft bK)).mono ?_;rintro e w7 ⟨rfl,L⟩;have cY:((q.tdiv (qcom p q r)).sign == 0)=false:=by simp;exact HQ.out
 generalize (q.tdiv (qcom p q r)).sign=cZ at *;have cz:=bJ.trans' L;have bB:=bK.trans (Sf.keep L);have bL:=Blk.keep L (Blk.other (Blk.other ad (by omega)) (by omega));have bM:=Blk.keep L (Blk.other (Blk.other ae (by omega)) (by omega));have bN:Blk w7 (w.heap.size+1+1) #[.bool b9,.slice K n9 c9] 38:=Blk.keep L (Blk.set (Blk.set F));have af:=Blk.keep L (Blk.other (Blk.other z (by omega)) (by omega));obtain⟨cA,cB,cC⟩:=bL.all;obtain⟨cD,cE,cF⟩:=bM.all;obtain⟨cG,cH,cI⟩:=bN.all;obtain⟨aF,bY,bZ⟩:=af.all;have aG:w.heap.size≤w.heap.size+1+1+1:=by (first | omega | (have:=bJ.size;simp only[sz] at this;omega))
 replace c:=c.soft bB;replace s:=s.soft bB;replace aC:=aC.soft bB;clear ad bt bu ae bv bw F bx bz z aD aE
 go_wp2_with fail
 refine bodyPost_ret (v:=.agg #[.bool b7,.slice H n7 c7,.bool b8,.slice I n8 c8,.bool b9,.slice K n9 c9,.int .i64 d]) (by simp[results,Tryz.results101,go_sem,aF]) rfl ?_;have cJ:Kp w _:=(stK7 (A:=w.heap.size+1+1+1) (.bool b7) (.slice H n7 c7) (.bool b8) (.slice I n8 c8) (.bool b9) (.slice K n9 c9) (.int .i64 d) cz (by have:=aG;omega))
 have cK:Sf 2 w7 _:=(stS7 (E:=2) (.bool b7) (.slice H n7 c7) (.bool b8) (.slice I n8 c8) (.bool b9) (.slice K n9 c9) (.int .i64 d) af (by decide));exact⟨_,rfl,(XN.mk3 (a:=qreduce p q r d) c s aC (by unfold qreduce;simp[HQ.out])).soft cK,cJ⟩
theorem reduce_any (p q r d:Int) (m:Nat) (u v t:Value) (w:World) (b:WN w u p) (c:WN w v q) (e:WN w t r) (f:m≤150000000) (g:Ft m p) (h:Ft m q) (fr:Ft m r) :
  Calls Tryz.prog 101 #[u,v,t,.int .i64 d] w (RetX w (qreduce p q r d)):=by
 by_cases i:r<0
 ·by_cases a:q.tdiv (qcom p q r)=0
  ·exact reduce_nz p q r d m u v t w b c e f g h fr i a
  ·exact reduce_ns p q r d m u v t w b c e f g h fr i a
 ·by_cases a:q.tdiv (qcom p q r)=0
  ·exact reduce_pz p q r d m u v t w b c e f g h fr (by omega) a
  ·exact reduce_ps p q r d m u v t w b c e f g h fr (by omega) a
end
section
open Go.RowKit
def QF (m:Nat) (a:Qn):Prop:=Ft m a.p∧Ft m a.q∧Ft m a.r
def qzero:Qn:=⟨0,0,0,0⟩
def qroot (a b:Int):Int:=if a=1∨a=b then b else if b=1 then a else 0
def qneg (a:Qn):Qn:=⟨-a.p,-a.q,a.r,a.d⟩
def qaddN (a b:Qn):Qn:=qreduce (a.p*b.r+b.p*a.r) (a.q*b.r+b.q*a.r) (a.r*b.r) (qroot a.d b.d)
def qmulN (a b:Qn):Qn:=qreduce (a.p*b.p+a.q*(b.q*qroot a.d b.d)) (a.p*b.q+a.q*b.p) (a.r*b.r) (qroot a.d b.d)
def qinv (a:Qn):Qn:=qreduce (a.r*a.p) (a.r*-a.q) (a.p*a.p+a.q*(-a.q*a.d)) a.d
theorem xn_zero (w:World):XN w (.agg #[.bool false,.slice none 0 0,.bool false,.slice none 0 0,.bool false,.slice none 0 0,.int .i64 0]) qzero :=
 XN.mk3 (a:=qzero) (wn_zero w) (wn_zero w) (wn_zero w) rfl
theorem Ft.sop {m:Nat} {x y z t:Int} (a:Ft m x) (b:Ft m y) (c:Ft m z) (d:Ft m t):Ft (m+m+1) (x*y+z*t):=(a.mul b).add (c.mul d)
theorem Ft.tdiv {m:Nat} {x y:Int} (a:Ft m x):Ft m (x.tdiv y):=by
 refine a.le ?_;rw[Int.natAbs_tdiv];exact Nat.div_le_self _ _
theorem QF.reduce {m:Nat} {p q r d:Int} (a:Ft m p) (b:Ft m q) (c:Ft m r):QF m (qreduce p q r d):=⟨a.tdiv,b.tdiv,c.tdiv⟩
theorem xfromInt_any (n:Int) (w:World) (Q:0≤n) (R:n≤9223372036854775807):Calls Tryz.prog 124 #[.int .i64 n] w (RetX w ⟨n,0,1,1⟩):=by
 go_enter Tryz.func124,Tryz.ntmps124
 go_wp2_with fail
 have r:Kp w _:=(Kp.alloc' (Below.refl w.heap.size w) (.cells #[.bool false,.slice none 0 0,.bool false,.slice none 0 0,.bool false,.slice none 0 0,.int .i64 0] 40));have D:Sf 2 w _:=(Sf.alloc (Sf.refl 2 w) (.cells #[.bool false,.slice none 0 0,.bool false,.slice none 0 0,.bool false,.slice none 0 0,.int .i64 0] 40));refine(fromInt_any n _ Q R).mono ?_;rintro e y ⟨T,rfl,g,o⟩;obtain⟨p,c,q,c1,rfl⟩:=g.shape';have F:=r.trans' o;have S:=D.trans (Sf.keep o);have b:Blk y (w.heap.size) #[.bool false,.slice none 0 0,.bool false,.slice none 0 0,.bool false,.slice none 0 0,.int .i64 0] 40:=Blk.keep o (Blk.at (Blk.new _ _ _) (by simp));obtain⟨h,i,z⟩:=b.all;have B:w.heap.size≤w.heap.size:=by (first | omega | (have:=r.size;simp only[sz] at this;omega))
 go_wp2_with fail
 have s:Kp w _:=(Kp.alloc' F (.cells #[.bool p,.slice c q c1] 38));have G:Sf 2 y _:=(Sf.alloc (Sf.refl 2 y) (.cells #[.bool p,.slice c q c1] 38));refine(fromInt_any 1 _ (by decide) (by decide)).mono ?_;rintro e M ⟨U,rfl,t,j⟩;obtain⟨u,d,x,c2,rfl⟩:=t.shape';have H:=s.trans' j;have I:=G.trans (Sf.keep j);have f:=Blk.keep j (Blk.alloc b _);have J:Blk M (y.heap.size) #[.bool p,.slice c q c1] 38:=Blk.keep j (Blk.at (Blk.new _ _ _) (by simp));obtain⟨k,C,l⟩:=f.all;have m:w.heap.size≤w.heap.size:=by (first | omega | (have:=s.size;simp only[sz] at this;omega))
 obtain⟨N,O,P⟩:=J.all;replace g:=g.soft I;clear b h i
 go_wp2_with fail
 refine bodyPost_ret (v:=.agg #[.bool p,.slice c q c1,.bool false,.slice none 0 0,.bool u,.slice d x c2,.int .i64 1]) (by simp[results,Tryz.results124,go_sem,k,l]) rfl ?_;have K:Kp w _:=(Kp.alloc' (stK7 (A:=w.heap.size) (.bool p) (.slice c q c1) (.bool false) (.slice none 0 0) (.bool u) (.slice d x c2) (.int .i64 1) H (by have:=m;omega)) (.cells #[.bool u,.slice d x c2] 38))
 have L:Sf 2 M _:=(Sf.alloc (stS7 (E:=2) (.bool p) (.slice c q c1) (.bool false) (.slice none 0 0) (.bool u) (.slice d x c2) (.int .i64 1) f (by decide)) (.cells #[.bool u,.slice d x c2] 38));exact⟨_,rfl,(XN.mk3 (a:=⟨n,0,1,1⟩) g (wn_zero _) t rfl).soft L,K⟩
theorem xnegate_any (a:Qn) (m:Nat) (u:Value) (w:World) (ha:XN w u a) (hm:m≤150000000) (fa:QF m a):Calls Tryz.prog 105 #[u] w (RetX w (qneg a)):=by
 obtain⟨fp,fq,fr⟩:=fa;obtain⟨V,t,W,c1,X,x,Y,c2,C,c,D,c3,rfl,hp,Z,H⟩:=ha
 go_enter Tryz.func105,Tryz.ntmps105
 go_wp2_with fail
 have y:Kp w _:=(Kp.alloc' (Kp.alloc' (Below.refl w.heap.size w) (.cells #[.bool V,.slice t W c1,.bool X,.slice x Y c2,.bool C,.slice c D c3,.int .i64 a.d] 40)) (.cells #[.bool false,.slice none 0 0,.bool false,.slice none 0 0,.bool false,.slice none 0 0,.int .i64 0] 40));have I:Sf 2 w _:=(Sf.alloc (Sf.alloc (Sf.refl 2 w) (.cells #[.bool V,.slice t W c1,.bool X,.slice x Y c2,.bool C,.slice c D c3,.int .i64 a.d] 40)) (.cells #[.bool false,.slice none 0 0,.bool false,.slice none 0 0,.bool false,.slice none 0 0,.int .i64 0] 40));refine(negate_any a.p _ _ (hp.soft I) (fp.fit (by omega))).mono ?_;rintro e J ⟨v1,rfl,j,k⟩;obtain⟨F,f,G,c4,rfl⟩:=j.shape';have aa:=y.trans' k;have K:=I.trans (Sf.keep k);have z:Blk J (w.heap.size) #[.bool V,.slice t W c1,.bool X,.slice x Y c2,.bool C,.slice c D c3,.int .i64 a.d] 40:=Blk.keep k (Blk.at (Blk.alloc (Blk.new _ _ _) _) (by simp));have b:Blk J (w.heap.size+1) #[.bool false,.slice none 0 0,.bool false,.slice none 0 0,.bool false,.slice none 0 0,.int .i64 0] 40:=Blk.keep k (Blk.at (Blk.new _ _ _) (by simp));obtain⟨L,M,ah⟩:=z.all;have ai:w.heap.size≤w.heap.size:=by (first | omega | (have:=y.size;simp only[sz] at this;omega))
 obtain⟨l,n,S⟩:=b.all;have T:w.heap.size≤w.heap.size+1:=by (first | omega | (have:=y.size;simp only[sz] at this;omega))
 replace Z:=Z.soft K;replace H:=H.soft K
 go_wp2_with fail
 have B:Kp w _:=(Kp.alloc' aa (.cells #[.bool F,.slice f G c4] 38));have N:Sf 2 J _:=(Sf.alloc (Sf.refl 2 J) (.cells #[.bool F,.slice f G c4] 38));refine(negate_any a.q _ _ (Z.soft N) (fq.fit (by omega))).mono ?_;rintro e w2 ⟨v2,rfl,O,g⟩;obtain⟨P,h,Q,c5,rfl⟩:=O.shape';have ac:=B.trans' g;have R:=N.trans (Sf.keep g);have ad:=Blk.keep g (Blk.alloc z _);have i:=Blk.keep g (Blk.alloc b _);have ae:Blk w2 (J.heap.size) #[.bool F,.slice f G c4] 38:=Blk.keep g (Blk.at (Blk.new _ _ _) (by simp));obtain⟨aj,ak,al⟩:=ad.all;have am:w.heap.size≤w.heap.size:=by (first | omega | (have:=B.size;simp only[sz] at this;omega))
 obtain⟨o,U,r⟩:=i.all;have s:w.heap.size≤w.heap.size+1:=by (first | omega | (have:=B.size;simp only[sz] at this;omega))
 obtain⟨an,ao,ap⟩:=ae.all;replace H:=H.soft R;replace j:=j.soft R;clear z L M b l n
 go_wp2_with fail
 refine bodyPost_ret (v:=.agg #[.bool F,.slice f G c4,.bool P,.slice h Q c5,.bool C,.slice c D c3,.int .i64 a.d]) (by simp[results,Tryz.results105,go_sem,o,r]) rfl ?_;have af:Kp w _:=(Kp.alloc' (stK7 (A:=w.heap.size+1) (.bool F) (.slice f G c4) (.bool P) (.slice h Q c5) (.bool C) (.slice c D c3) (.int .i64 a.d) ac (by have:=s;omega)) (.cells #[.bool P,.slice h Q c5] 38))
 have ag:Sf 2 w2 _:=(Sf.alloc (stS7 (E:=2) (.bool F) (.slice f G c4) (.bool P) (.slice h Q c5) (.bool C) (.slice c D c3) (.int .i64 a.d) i (by decide)) (.cells #[.bool P,.slice h Q c5] 38));exact⟨_,rfl,(XN.mk3 (a:=qneg a) j O H rfl).soft ag,af⟩
theorem sign_beq (x:Int):(x.sign == 0)=decide (x=0):=by
 rw[Bool.eq_iff_iff];simp[Int.sign_eq_zero_iff_zero]
theorem s2z {p q x:Int} (h:(x == 0)=decide (q=0)) (a:p=0):(x == 0)=decide (p=0∧q=0):=by
 rw[h];simp[a]
theorem isZero_any (a:Qn) (u:Value) (w:World) (ha:XN w u a):Calls Tryz.prog 127 #[u] w (RetV w (.bool (decide (a.p=0∧a.q=0)))):=by
 obtain⟨v,b,x,c1,y,c,z,c2,A,f,B,c3,rfl,L,C,P⟩:=ha
 go_enter Tryz.func127,Tryz.ntmps127
 go_wp2_with fail
 have j:Kp w _:=(Kp.alloc' (Below.refl w.heap.size w) (.cells #[.bool v,.slice b x c1,.bool y,.slice c z c2,.bool A,.slice f B c3,.int .i64 a.d] 40));have k:Sf 2 w _:=(Sf.alloc (Sf.refl 2 w) (.cells #[.bool v,.slice b x c1,.bool y,.slice c z c2,.bool A,.slice f B c3,.int .i64 a.d] 40));refine(sign_any a.p _ _ (L.soft k)).mono ?_;rintro e D ⟨rfl,g⟩;have E:=j.trans' g;have F:=k.trans (Sf.keep g);have l:Blk D (w.heap.size) #[.bool v,.slice b x c1,.bool y,.slice c z c2,.bool A,.slice f B c3,.int .i64 a.d] 40:=Blk.keep g (Blk.at (Blk.new _ _ _) (by simp));obtain⟨m,n,J⟩:=l.all;have K:w.heap.size≤w.heap.size:=by (first | omega | (have:=j.size;simp only[sz] at this;omega))
 replace C:=C.soft F
 go_wp2_with fail
 have G:Kp w _:=E;have o:Sf 2 D _:=(Sf.refl 2 D);refine(sign_any a.q _ _ (C.soft o)).mono ?_;rintro e Q ⟨rfl,r⟩;have s:=G.trans' r;have M:=o.trans (Sf.keep r);clear l m n;have t:=sign_beq a.p;have s2:=sign_beq a.q;by_cases i:a.p=0
 ·have H:(a.p.sign == 0)=true:=by rw[t];simp[i]
  have I:=Hid.mk i;have N:=Hid.mk s2;clear t s2 i;generalize a.p.sign=O at *
  go_wp2_with fail
  go_ret
  exact⟨by rw[← s2z N.out I.out];rfl,s⟩
 ·have H:(a.p.sign == 0)=false:=by rw[t];simp[i]
  have I:=Hid.mk i;clear t s2 i;generalize a.p.sign=O at *
  go_wp2_with fail
  go_ret
  exact⟨by rw[decide_eq_false (fun h=>I.out h.1)];rfl,s⟩
theorem commonRoot_any (a b:Qn) (u v:Value) (w:World) (ha:XN w u a) (s:XN w v b):Calls Tryz.prog 125 #[u,v] w (RetV w (.int .i64 (qroot a.d b.d))):=by
 obtain⟨t,i,z,c1,A,j,B,c2,C,k,D,c3,rfl,E,F,G⟩:=ha;obtain⟨H,l,I,c4,J,m,K,c5,L,n,M,N,rfl,o,p,q⟩:=s;clear E F G o p q;have e:Kp w _:=((kp_alloc w (.cells #[.bool t,.slice i z c1,.bool A,.slice j B c2,.bool C,.slice k D c3,.int .i64 a.d] 40)).alloc' (.cells #[.bool H,.slice l I c4,.bool J,.slice m K c5,.bool L,.slice n M N,.int .i64 b.d] 40));generalize a.d=x at *;generalize b.d=y at *;by_cases c:x=1
 ·have g:Hid (qroot x y=y):=by unfold Hid qroot;simp[c]
  have r:(x == 1)=true:=by simp[c]
  clear c
  go_enter Tryz.func125,Tryz.ntmps125
  go_wp2
  go_ret
  exact⟨by rw[g.out];rfl,e⟩
 ·by_cases f:x=y
  ·have g:Hid (qroot x y=y):=by unfold Hid qroot;simp[f]
   have r:(x == 1)=false:=by simp[c]
   have O:(x == y)=true:=by simp[f]
   clear c f
   go_enter Tryz.func125,Tryz.ntmps125
   go_wp2
   go_ret
   exact⟨by rw[g.out];rfl,e⟩
  ·have r:(x == 1)=false:=by simp[c]
   have O:(x == y)=false:=by simp[f]
   by_cases h:y=1
   ·have g:Hid (qroot x y=x):=by unfold Hid qroot;rw[if_neg (by simp[c,f]),if_pos h]
    have P:(y == 1)=true:=by simp[h]
    clear c f h
    go_enter Tryz.func125,Tryz.ntmps125
    go_wp2
    go_ret
    exact⟨by rw[g.out];rfl,e⟩
   ·have g:Hid (qroot x y=0):=by unfold Hid qroot;rw[if_neg (by simp[c,f]),if_neg h]
    have P:(y == 1)=false:=by simp[h]
    clear c f h
    go_enter Tryz.func125,Tryz.ntmps125
    go_wp2
    go_ret
    exact⟨by rw[g.out];rfl,e⟩
theorem xadd_e (a b:Qn) (m:Nat) (u v:Value) (w:World) (ha:XN w u a) (V:XN w v b) (_hm:m≤40000000) (fa:QF m a) (fb:QF m b) (da:0≤a.d∧a.d≤1000000) (db:0≤b.d∧b.d≤1000000) (W:qroot a.d b.d=0) :
  Calls Tryz.prog 106 #[u,v] w (RetXE w qzero 4):=by
 have C:0≤qroot a.d b.d∧qroot a.d b.d≤1000000:=by unfold qroot;split <;> (try split) <;> omega
 obtain⟨fp,fq,fr⟩:=fa;obtain⟨aj,ak,al⟩:=fb;obtain⟨D,k,F,c1,G,l,H,c2,I,n,J,c3,rfl,X,Y,Z⟩:=id ha;obtain⟨K,o,L,c4,M,p,N,c5,O,q,P,Q,rfl,s,t,x⟩:=id V
 go_enter Tryz.func106,Tryz.ntmps106
 go_wp2_with fail
 have h:Kp w _:=(Kp.alloc' (Kp.alloc' (Kp.alloc' (Below.refl w.heap.size w) (.cells #[.bool D,.slice k F c1,.bool G,.slice l H c2,.bool I,.slice n J c3,.int .i64 a.d] 40)) (.cells #[.bool K,.slice o L c4,.bool M,.slice p N c5,.bool O,.slice q P Q,.int .i64 b.d] 40)) (.cells #[.bool false,.slice none 0 0,.bool false,.slice none 0 0,.bool false,.slice none 0 0,.int .i64 0] 40));have r:Sf 2 w _:=(Sf.alloc (Sf.alloc (Sf.alloc (Sf.refl 2 w) (.cells #[.bool D,.slice k F c1,.bool G,.slice l H c2,.bool I,.slice n J c3,.int .i64 a.d] 40)) (.cells #[.bool K,.slice o L c4,.bool M,.slice p N c5,.bool O,.slice q P Q,.int .i64 b.d] 40)) (.cells #[.bool false,.slice none 0 0,.bool false,.slice none 0 0,.bool false,.slice none 0 0,.int .i64 0] 40));refine(commonRoot_any a b _ _ _ (ha.soft r) (V.soft r)).mono ?_;rintro e y ⟨rfl,f⟩;have R:=h.trans' f;have c:=r.trans (Sf.keep f);have S:Blk y (w.heap.size) #[.bool D,.slice k F c1,.bool G,.slice l H c2,.bool I,.slice n J c3,.int .i64 a.d] 40:=Blk.keep f (Blk.at (Blk.alloc (Blk.alloc (Blk.new _ _ _) _) _) (by simp));have T:Blk y (w.heap.size+1) #[.bool K,.slice o L c4,.bool M,.slice p N c5,.bool O,.slice q P Q,.int .i64 b.d] 40:=Blk.keep f (Blk.at (Blk.alloc (Blk.new _ _ _) _) (by simp));have g:Blk y (w.heap.size+1+1) #[.bool false,.slice none 0 0,.bool false,.slice none 0 0,.bool false,.slice none 0 0,.int .i64 0] 40:=Blk.keep f (Blk.at (Blk.new _ _ _) (by simp));obtain⟨aa,ac,ad⟩:=S.all;have ae:w.heap.size≤w.heap.size:=by (first | omega | (have:=h.size;simp only[sz] at this;omega))
 obtain⟨af,ag,ah⟩:=T.all;have ai:w.heap.size≤w.heap.size+1:=by (first | omega | (have:=h.size;simp only[sz] at this;omega))
 obtain⟨i,z,B⟩:=g.all;have j:w.heap.size≤w.heap.size+1+1:=by (first | omega | (have:=h.size;simp only[sz] at this;omega))
 replace X:=X.soft c;replace Y:=Y.soft c;replace Z:=Z.soft c;replace s:=s.soft c;replace t:=t.soft c;replace x:=x.soft c;rw[W];clear W C
 go_wp2_with fail
 refine bodyPost_ret (v:=.tuple #[.agg #[.bool false,.slice none 0 0,.bool false,.slice none 0 0,.bool false,.slice none 0 0,.int .i64 0],.int .i64 4]) (by simp[results,Tryz.results106,go_sem,i]) rfl ?_;have U:Kp w _:=(stK7 (A:=w.heap.size+1+1) (.bool false) (.slice none 0 0) (.bool false) (.slice none 0 0) (.bool false) (.slice none 0 0) (.int .i64 0) R (by have:=j;omega))
 have am:Sf 2 y _:=(stS7 (E:=2) (.bool false) (.slice none 0 0) (.bool false) (.slice none 0 0) (.bool false) (.slice none 0 0) (.int .i64 0) g (by decide));exact⟨_,rfl,xn_zero _,U⟩
theorem xadd_n (a b:Qn) (m:Nat) (u v:Value) (w:World) (ha:XN w u a) (hb:XN w v b) (hm:m≤40000000) (fa:QF m a) (fb:QF m b) (da:0≤a.d∧a.d≤1000000) (db:0≤b.d∧b.d≤1000000) (hD:qroot a.d b.d≠0) :
  Calls Tryz.prog 106 #[u,v] w (RetXE w (qaddN a b) 0):=by
 have bA:0≤qroot a.d b.d∧qroot a.d b.d≤1000000:=by unfold qroot;split <;> (try split) <;> omega
 obtain⟨fp,fq,fr⟩:=fa;obtain⟨aB,aC,n⟩:=fb;obtain⟨b1,ah,n1,c1,b2,ai,n2,c2,b3,aj,n3,c3,rfl,hp,hq,P⟩:=id ha;obtain⟨b4,ak,n4,c4,b5,al,n5,c5,b6,am,n6,c6,rfl,an,x,c⟩:=id hb
 go_enter Tryz.func106,Tryz.ntmps106
 go_wp2_with fail
 have R:Kp w _:=(Kp.alloc' (Kp.alloc' (Kp.alloc' (Below.refl w.heap.size w) (.cells #[.bool b1,.slice ah n1 c1,.bool b2,.slice ai n2 c2,.bool b3,.slice aj n3 c3,.int .i64 a.d] 40)) (.cells #[.bool b4,.slice ak n4 c4,.bool b5,.slice al n5 c5,.bool b6,.slice am n6 c6,.int .i64 b.d] 40)) (.cells #[.bool false,.slice none 0 0,.bool false,.slice none 0 0,.bool false,.slice none 0 0,.int .i64 0] 40));have ao:Sf 2 w _:=(Sf.alloc (Sf.alloc (Sf.alloc (Sf.refl 2 w) (.cells #[.bool b1,.slice ah n1 c1,.bool b2,.slice ai n2 c2,.bool b3,.slice aj n3 c3,.int .i64 a.d] 40)) (.cells #[.bool b4,.slice ak n4 c4,.bool b5,.slice al n5 c5,.bool b6,.slice am n6 c6,.int .i64 b.d] 40)) (.cells #[.bool false,.slice none 0 0,.bool false,.slice none 0 0,.bool false,.slice none 0 0,.int .i64 0] 40));refine(commonRoot_any a b _ _ _ (ha.soft ao) (hb.soft ao)).mono ?_;rintro e w1 ⟨rfl,y⟩;have ba:=R.trans' y;have o:=ao.trans (Sf.keep y);have ap:Blk w1 (w.heap.size) #[.bool b1,.slice ah n1 c1,.bool b2,.slice ai n2 c2,.bool b3,.slice aj n3 c3,.int .i64 a.d] 40:=Blk.keep y (Blk.at (Blk.alloc (Blk.alloc (Blk.new _ _ _) _) _) (by simp));have aq:Blk w1 (w.heap.size+1) #[.bool b4,.slice ak n4 c4,.bool b5,.slice al n5 c5,.bool b6,.slice am n6 c6,.int .i64 b.d] 40:=Blk.keep y (Blk.at (Blk.alloc (Blk.new _ _ _) _) (by simp));have i:Blk w1 (w.heap.size+1+1) #[.bool false,.slice none 0 0,.bool false,.slice none 0 0,.bool false,.slice none 0 0,.int .i64 0] 40:=Blk.keep y (Blk.at (Blk.new _ _ _) (by simp));obtain⟨aD,aE,bo⟩:=ap.all;have bp:w.heap.size≤w.heap.size:=by (first | omega | (have:=R.size;simp only[sz] at this;omega))
 obtain⟨aF,aG,bq⟩:=aq.all;have br:w.heap.size≤w.heap.size+1:=by (first | omega | (have:=R.size;simp only[sz] at this;omega))
 obtain⟨S,T,a4⟩:=i.all;have a5:w.heap.size≤w.heap.size+1+1:=by (first | omega | (have:=R.size;simp only[sz] at this;omega))
 replace hp:=hp.soft o;replace hq:=hq.soft o;replace P:=P.soft o;replace an:=an.soft o;replace x:=x.soft o;replace c:=c.soft o;have bB:(qroot a.d b.d == 0)=false:=by simp;exact hD
 have bC:=Hid.mk hD;clear hD;generalize hDg:qroot a.d b.d=D at *;have bb:=Hid.mk hDg;clear hDg
 go_wp2_with fail
 have bc:Kp w _:=ba;have z:Sf 2 w1 _:=(Sf.refl 2 w1);refine(sumOfProducts_any a.p b.r b.p a.r m _ _ _ _ _ (hp.soft z) (c.soft z) (an.soft z) (P.soft z) (by omega) fp n aB fr).mono ?_;rintro e w2 ⟨v2,rfl,s,B⟩;obtain⟨b7,ar,n7,c7,rfl⟩:=s.shape';have be:=bc.trans' B;have U:=z.trans (Sf.keep B);have au:=Blk.keep B ap;have av:=Blk.keep B aq;have j:=Blk.keep B i;obtain⟨aH,aI,bs⟩:=au.all;obtain⟨aJ,aK,bt⟩:=av.all;obtain⟨V,W,a6⟩:=j.all;replace hq:=hq.soft U;replace P:=P.soft U;replace x:=x.soft U;replace c:=c.soft U;clear ap aD aE aq aF aG i S T
 go_wp2_with fail
 have kp2:Kp w _:=(Kp.alloc' be (.cells #[.bool b7,.slice ar n7 c7] 38));have sf2:Sf 2 w2 _:=(Sf.alloc (Sf.refl 2 w2) (.cells #[.bool b7,.slice ar n7 c7] 38));refine(sumOfProducts_any a.q b.r b.q a.r m _ _ _ _ _ (hq.soft sf2) (c.soft sf2) (x.soft sf2) (P.soft sf2) (by omega) fq n aC fr).mono ?_;rintro e w3 ⟨v3,rfl,X,t⟩;obtain⟨b8,aw,n8,c8,rfl⟩:=X.shape';have bf:=kp2.trans' t;have ax:=sf2.trans (Sf.keep t);have aL:=Blk.keep t (Blk.alloc au _);have aM:=Blk.keep t (Blk.alloc av _);have k:=Blk.keep t (Blk.alloc j _);have ay:Blk w3 (w2.heap.size) #[.bool b7,.slice ar n7 c7] 38:=Blk.keep t (Blk.at (Blk.new _ _ _) (by simp));obtain⟨aN,aO,bu⟩:=aL.all;obtain⟨aP,aQ,bv⟩:=aM.all;obtain⟨Y,Z,a7⟩:=k.all;obtain⟨aR,aS,bw⟩:=ay.all;replace P:=P.soft ax;replace c:=c.soft ax;replace s:=s.soft ax;clear au aH aI av aJ aK j V W
 go_wp2_with fail
 have bg:Kp w _:=(Kp.alloc' bf (.cells #[.bool b8,.slice aw n8 c8] 38));have az:Sf 2 w3 _:=(Sf.alloc (Sf.refl 2 w3) (.cells #[.bool b8,.slice aw n8 c8] 38));refine(multiply_any a.r b.r _ _ _ (P.soft az) (c.soft az) (fr.fit (by omega)) (n.fit (by omega))).mono ?_;rintro e w4 ⟨v4,rfl,aT,C⟩;obtain⟨aU,ag,aV,aW,rfl⟩:=aT.shape';have bh:=bg.trans' C;have aX:=az.trans (Sf.keep C);have l:=Blk.keep C (Blk.alloc k _);have aY:=Blk.keep C (Blk.alloc ay _);have aZ:Blk w4 (w3.heap.size) #[.bool b8,.slice aw n8 c8] 38:=Blk.keep C (Blk.at (Blk.new _ _ _) (by simp));obtain⟨aa,ac,a8⟩:=l.all;obtain⟨a0,a1,bx⟩:=aY.all;obtain⟨a2,a3,bz⟩:=aZ.all;replace s:=s.soft aX;replace X:=X.soft aX;clear aL aN aO aM aP aQ k Y Z ay aR aS
 go_wp2_with fail
 have kp4:Kp w _:=(Kp.alloc' bh (.cells #[.bool aU,.slice ag aV aW] 38));have sf4:Sf 2 w4 _:=(Sf.alloc (Sf.refl 2 w4) (.cells #[.bool aU,.slice ag aV aW] 38));refine(reduce_any (a.p*b.r+b.p*a.r) (a.q*b.r+b.q*a.r) (a.r*b.r) D (m+m+1) _ _ _ _ (s.soft sf4) (X.soft sf4) (aT.soft sf4) (by omega) (fp.sop n aB fr) (fq.sop n aC fr) ((fr.mul n).mono (by omega))).mono ?_;rintro e w5 ⟨v5,rfl,hX,aA⟩;obtain⟨F,f,G,H,I,g,J,K,L,h,M,N,rfl,g1,g2,g3⟩:=id hX;clear g1 g2 g3;have bi:=kp4.trans' aA;have bD:=sf4.trans (Sf.keep aA);have O:=Blk.keep aA (Blk.alloc l _);obtain⟨ad,a9,ae⟩:=O.all;have af:w.heap.size≤w.heap.size+1+1:=by (first | omega | (have:=kp4.size;simp only[sz] at this;omega))
 clear l aa ac aY a0 a1 aZ a2 a3;generalize hQ:qreduce (a.p*b.r+b.p*a.r) (a.q*b.r+b.q*a.r) (a.r*b.r) D=Q at *
 go_wp2_with fail
 refine bodyPost_ret (v:=.tuple #[.agg #[.bool F,.slice f G H,.bool I,.slice g J K,.bool L,.slice h M N,.int .i64 Q.d],.int .i64 0]) (by simp[results,Tryz.results106,go_sem,ad,ae]) rfl ?_;have bj:Kp w _:=(Kp.alloc' (stK7 (A:=w.heap.size+1+1) (.bool F) (.slice f G H) (.bool I) (.slice g J K) (.bool L) (.slice h M N) (.int .i64 Q.d) bi (by have:=af;omega)) (.cells #[.bool F,.slice f G H,.bool I,.slice g J K,.bool L,.slice h M N,.int .i64 Q.d] 40))
 have bm:Sf 2 w5 _:=(Sf.alloc (stS7 (E:=2) (.bool F) (.slice f G H) (.bool I) (.slice g J K) (.bool L) (.slice h M N) (.int .i64 Q.d) O (by decide)) (.cells #[.bool F,.slice f G H,.bool I,.slice g J K,.bool L,.slice h M N,.int .i64 Q.d] 40));have bn:Q=(qaddN a b):=by rw[← hQ,← bb.out];rfl
 rw[← bn];exact⟨_,rfl,hX.soft bm,bj⟩
theorem xmul_e (a b:Qn) (m:Nat) (u v:Value) (w:World) (ha:XN w u a) (V:XN w v b) (_hm:m≤40000000) (fa:QF m a) (fb:QF m b) (da:0≤a.d∧a.d≤1000000) (db:0≤b.d∧b.d≤1000000) (W:qroot a.d b.d=0) :
  Calls Tryz.prog 108 #[u,v] w (RetXE w qzero 4):=by
 have C:0≤qroot a.d b.d∧qroot a.d b.d≤1000000:=by unfold qroot;split <;> (try split) <;> omega
 obtain⟨fp,fq,fr⟩:=fa;obtain⟨ah,ai,aj⟩:=fb;obtain⟨D,j,F,c1,G,k,H,c2,I,l,J,c3,rfl,X,Y,Z⟩:=id ha;obtain⟨K,n,L,c4,M,o,N,c5,O,p,P,Q,rfl,r,s,t⟩:=id V
 go_enter Tryz.func108,Tryz.ntmps108
 go_wp2_with fail
 have x:Kp w _:=(Kp.alloc' (Kp.alloc' (Kp.alloc' (Below.refl w.heap.size w) (.cells #[.bool D,.slice j F c1,.bool G,.slice k H c2,.bool I,.slice l J c3,.int .i64 a.d] 40)) (.cells #[.bool K,.slice n L c4,.bool M,.slice o N c5,.bool O,.slice p P Q,.int .i64 b.d] 40)) (.cells #[.bool false,.slice none 0 0,.bool false,.slice none 0 0,.bool false,.slice none 0 0,.int .i64 0] 40));have q:Sf 2 w _:=(Sf.alloc (Sf.alloc (Sf.alloc (Sf.refl 2 w) (.cells #[.bool D,.slice j F c1,.bool G,.slice k H c2,.bool I,.slice l J c3,.int .i64 a.d] 40)) (.cells #[.bool K,.slice n L c4,.bool M,.slice o N c5,.bool O,.slice p P Q,.int .i64 b.d] 40)) (.cells #[.bool false,.slice none 0 0,.bool false,.slice none 0 0,.bool false,.slice none 0 0,.int .i64 0] 40));refine(commonRoot_any a b _ _ _ (ha.soft q) (V.soft q)).mono ?_;rintro e y ⟨rfl,f⟩;have R:=x.trans' f;have c:=q.trans (Sf.keep f);have S:Blk y (w.heap.size) #[.bool D,.slice j F c1,.bool G,.slice k H c2,.bool I,.slice l J c3,.int .i64 a.d] 40:=Blk.keep f (Blk.at (Blk.alloc (Blk.alloc (Blk.new _ _ _) _) _) (by simp));have T:Blk y (w.heap.size+1) #[.bool K,.slice n L c4,.bool M,.slice o N c5,.bool O,.slice p P Q,.int .i64 b.d] 40:=Blk.keep f (Blk.at (Blk.alloc (Blk.new _ _ _) _) (by simp));have g:Blk y (w.heap.size+1+1) #[.bool false,.slice none 0 0,.bool false,.slice none 0 0,.bool false,.slice none 0 0,.int .i64 0] 40:=Blk.keep f (Blk.at (Blk.new _ _ _) (by simp));obtain⟨aa,ac,ad⟩:=S.all;obtain⟨ae,af,ag⟩:=T.all;obtain⟨h,z,B⟩:=g.all;have i:w.heap.size≤w.heap.size+1+1:=by (first | omega | (have:=x.size;simp only[sz] at this;omega))
 replace X:=X.soft c;replace Y:=Y.soft c;replace Z:=Z.soft c;replace r:=r.soft c;replace s:=s.soft c;replace t:=t.soft c;rw[W];clear W C
 go_wp2_with fail
 refine bodyPost_ret (v:=.tuple #[.agg #[.bool false,.slice none 0 0,.bool false,.slice none 0 0,.bool false,.slice none 0 0,.int .i64 0],.int .i64 4]) (by simp[results,Tryz.results108,go_sem,h]) rfl ?_;have U:Kp w _:=(stK7 (A:=w.heap.size+1+1) (.bool false) (.slice none 0 0) (.bool false) (.slice none 0 0) (.bool false) (.slice none 0 0) (.int .i64 0) R (by have:=i;omega))
 have ak:Sf 2 y _:=(stS7 (E:=2) (.bool false) (.slice none 0 0) (.bool false) (.slice none 0 0) (.bool false) (.slice none 0 0) (.int .i64 0) g (by decide));exact⟨_,rfl,xn_zero _,U⟩
theorem xmul_n (a b:Qn) (m:Nat) (u v:Value) (w:World) (ha:XN w u a) (hb:XN w v b) (hm:m≤40000000) (fa:QF m a) (fb:QF m b) (da:0≤a.d∧a.d≤1000000) (db:0≤b.d∧b.d≤1000000) (hD:qroot a.d b.d≠0) :
  Calls Tryz.prog 108 #[u,v] w (RetXE w (qmulN a b) 0):=by
 have aI:0≤qroot a.d b.d∧qroot a.d b.d≤1000000:=by unfold qroot;split <;> (try split) <;> omega
 obtain⟨fp,fq,fr⟩:=fa;obtain⟨U,V,aJ⟩:=fb;obtain⟨b1,ao,n1,c1,b2,ap,n2,c2,b3,aq,n3,c3,rfl,hp,hq,W⟩:=id ha;obtain⟨b4,ar,n4,c4,b5,au,n5,c5,b6,av,n6,c6,rfl,f,g,c⟩:=id hb
 go_enter Tryz.func108,Tryz.ntmps108
 go_wp2_with fail
 have br:Kp w _:=(Kp.alloc' (Kp.alloc' (Kp.alloc' (Below.refl w.heap.size w) (.cells #[.bool b1,.slice ao n1 c1,.bool b2,.slice ap n2 c2,.bool b3,.slice aq n3 c3,.int .i64 a.d] 40)) (.cells #[.bool b4,.slice ar n4 c4,.bool b5,.slice au n5 c5,.bool b6,.slice av n6 c6,.int .i64 b.d] 40)) (.cells #[.bool false,.slice none 0 0,.bool false,.slice none 0 0,.bool false,.slice none 0 0,.int .i64 0] 40));have aw:Sf 2 w _:=(Sf.alloc (Sf.alloc (Sf.alloc (Sf.refl 2 w) (.cells #[.bool b1,.slice ao n1 c1,.bool b2,.slice ap n2 c2,.bool b3,.slice aq n3 c3,.int .i64 a.d] 40)) (.cells #[.bool b4,.slice ar n4 c4,.bool b5,.slice au n5 c5,.bool b6,.slice av n6 c6,.int .i64 b.d] 40)) (.cells #[.bool false,.slice none 0 0,.bool false,.slice none 0 0,.bool false,.slice none 0 0,.int .i64 0] 40));refine(commonRoot_any a b _ _ _ (ha.soft aw) (hb.soft aw)).mono ?_;rintro e w1 ⟨rfl,C⟩;have bs:=br.trans' C;have t:=aw.trans (Sf.keep C);have ax:Blk w1 (w.heap.size) #[.bool b1,.slice ao n1 c1,.bool b2,.slice ap n2 c2,.bool b3,.slice aq n3 c3,.int .i64 a.d] 40:=Blk.keep C (Blk.at (Blk.alloc (Blk.alloc (Blk.new _ _ _) _) _) (by simp));have ay:Blk w1 (w.heap.size+1) #[.bool b4,.slice ar n4 c4,.bool b5,.slice au n5 c5,.bool b6,.slice av n6 c6,.int .i64 b.d] 40:=Blk.keep C (Blk.at (Blk.alloc (Blk.new _ _ _) _) (by simp));have k:Blk w1 (w.heap.size+1+1) #[.bool false,.slice none 0 0,.bool false,.slice none 0 0,.bool false,.slice none 0 0,.int .i64 0] 40:=Blk.keep C (Blk.at (Blk.new _ _ _) (by simp));obtain⟨aK,aL,bF⟩:=ax.all;obtain⟨aM,aN,bG⟩:=ay.all;obtain⟨X,Y,bj⟩:=k.all;replace hp:=hp.soft t;replace hq:=hq.soft t;replace W:=W.soft t;replace f:=f.soft t;replace g:=g.soft t;replace c:=c.soft t;have bQ:(qroot a.d b.d == 0)=false:=by simp;exact hD
 have bR:=Hid.mk hD;clear hD;generalize hDg:qroot a.d b.d=D at *;have bt:=Hid.mk hDg;clear hDg
 go_wp2_with fail
 have bu:Kp w _:=bs;have aO:Sf 2 w1 _:=(Sf.refl 2 w1);refine(timesRoot_any b.q D m _ _ (g.soft aO) (by omega) V aI.1 aI.2).mono ?_;rintro e w2 ⟨v2,rfl,hs,F⟩;obtain⟨b7,aP,n7,c7,rfl⟩:=hs.shape';have fs:Ft (m+7) (b.q*D):=V.mul (by unfold Ft;omega)
 have bv:=bu.trans' F;have x:=aO.trans (Sf.keep F);have az:=Blk.keep F ax;have aA:=Blk.keep F ay;have l:=Blk.keep F k;obtain⟨aQ,aR,bH⟩:=az.all;obtain⟨aS,aT,bI⟩:=aA.all;obtain⟨Z,aa,bm⟩:=l.all;replace hp:=hp.soft x;replace hq:=hq.soft x;replace W:=W.soft x;replace f:=f.soft x;replace g:=g.soft x;replace c:=c.soft x;clear ax aK aL ay aM aN k X Y
 go_wp2_with fail
 have kp2:Kp w _:=(Kp.alloc' bv (.cells #[.bool b7,.slice aP n7 c7] 38));have sf2:Sf 2 w2 _:=(Sf.alloc (Sf.refl 2 w2) (.cells #[.bool b7,.slice aP n7 c7] 38));refine(sumOfProducts_any a.p b.p a.q (b.q*D) (m+7) _ _ _ _ _ (hp.soft sf2) (f.soft sf2) (hq.soft sf2) (hs.soft sf2) (by omega) (fp.mono (by omega)) (U.mono (by omega)) (fq.mono (by omega)) fs).mono ?_;rintro e w3 ⟨v3,rfl,y,G⟩;obtain⟨b8,aB,n8,c8,rfl⟩:=y.shape';have bw:=kp2.trans' G;have z:=sf2.trans (Sf.keep G);have aC:=Blk.keep G (Blk.alloc az _);have aD:=Blk.keep G (Blk.alloc aA _);have n:=Blk.keep G (Blk.alloc l _);obtain⟨aU,aV,bJ⟩:=aC.all;obtain⟨aW,aX,bK⟩:=aD.all;obtain⟨ac,ad,bn⟩:=n.all;replace hp:=hp.soft z;replace hq:=hq.soft z;replace W:=W.soft z;replace f:=f.soft z;replace g:=g.soft z;replace c:=c.soft z;clear az aQ aR aA aS aT l Z aa
 go_wp2_with fail
 have bx:Kp w _:=(Kp.alloc' bw (.cells #[.bool b8,.slice aB n8 c8] 38));have H:Sf 2 w3 _:=(Sf.alloc (Sf.refl 2 w3) (.cells #[.bool b8,.slice aB n8 c8] 38));refine(sumOfProducts_any a.p b.q a.q b.p m _ _ _ _ _ (hp.soft H) (g.soft H) (hq.soft H) (f.soft H) (by omega) fp V fq U).mono ?_;rintro e w4 ⟨v4,rfl,ae,B⟩;obtain⟨b9,aE,n9,c9,rfl⟩:=ae.shape';have bz:=bx.trans' B;have aF:=H.trans (Sf.keep B);have aY:=Blk.keep B (Blk.alloc aC _);have aZ:=Blk.keep B (Blk.alloc aD _);have o:=Blk.keep B (Blk.alloc n _);have aG:Blk w4 (w3.heap.size) #[.bool b8,.slice aB n8 c8] 38:=Blk.keep B (Blk.at (Blk.new _ _ _) (by simp));obtain⟨a0,a1,bL⟩:=aY.all;obtain⟨a2,a3,bM⟩:=aZ.all;obtain⟨af,ag,bo⟩:=o.all;obtain⟨a4,a5,bN⟩:=aG.all;replace W:=W.soft aF;replace c:=c.soft aF;replace y:=y.soft aF;clear aC aU aV aD aW aX n ac ad
 go_wp2_with fail
 have kp4:Kp w _:=(Kp.alloc' bz (.cells #[.bool b9,.slice aE n9 c9] 38));have sf4:Sf 2 w4 _:=(Sf.alloc (Sf.refl 2 w4) (.cells #[.bool b9,.slice aE n9 c9] 38));refine(multiply_any a.r b.r _ _ _ (W.soft sf4) (c.soft sf4) (fr.fit (by omega)) (aJ.fit (by omega))).mono ?_;rintro e w5 ⟨v5,rfl,a6,I⟩;obtain⟨a7,an,a8,a9,rfl⟩:=a6.shape';have bA:=kp4.trans' I;have ba:=sf4.trans (Sf.keep I);have s:=Blk.keep I (Blk.alloc o _);have bb:=Blk.keep I (Blk.alloc aG _);have bc:Blk w5 (w4.heap.size) #[.bool b9,.slice aE n9 c9] 38:=Blk.keep I (Blk.at (Blk.new _ _ _) (by simp));obtain⟨ah,ai,bp⟩:=s.all;obtain⟨be,bf,bO⟩:=bb.all;obtain⟨bg,bh,bP⟩:=bc.all;replace y:=y.soft ba;replace ae:=ae.soft ba;clear aY a0 a1 aZ a2 a3 o af ag aG a4 a5
 go_wp2_with fail
 have bi:Kp w _:=(Kp.alloc' bA (.cells #[.bool a7,.slice an a8 a9] 38));have aj:Sf 2 w5 _:=(Sf.alloc (Sf.refl 2 w5) (.cells #[.bool a7,.slice an a8 a9] 38));refine(reduce_any (a.p*b.p+a.q*(b.q*D)) (a.p*b.q+a.q*b.p) (a.r*b.r) D (m+7+(m+7)+1) _ _ _ _ (y.soft aj) (ae.soft aj) (a6.soft aj) (by omega) ((fp.mono (by omega)).sop (U.mono (by omega)) (fq.mono (by omega)) fs) ((fp.sop V fq U).mono (by omega)) ((fr.mul aJ).mono (by omega))).mono ?_;rintro e w6 ⟨v6,rfl,hX,aH⟩;obtain⟨J,h,K,L,M,i,N,O,P,j,R,S,rfl,g1,g2,g3⟩:=id hX;clear g1 g2 g3;have bB:=bi.trans' aH;have bS:=aj.trans (Sf.keep aH);have T:=Blk.keep aH (Blk.alloc s _);obtain⟨ak,bq,al⟩:=T.all;have am:w.heap.size≤w.heap.size+1+1:=by (first | omega | (have:=bi.size;simp only[sz] at this;omega))
 clear s ah ai bb be bf bc bg bh;generalize hQ:qreduce (a.p*b.p+a.q*(b.q*D)) (a.p*b.q+a.q*b.p) (a.r*b.r) D=Q at *
 go_wp2_with fail
 refine bodyPost_ret (v:=.tuple #[.agg #[.bool J,.slice h K L,.bool M,.slice i N O,.bool P,.slice j R S,.int .i64 Q.d],.int .i64 0]) (by simp[results,Tryz.results108,go_sem,ak,al]) rfl ?_;have bC:Kp w _:=(Kp.alloc' (stK7 (A:=w.heap.size+1+1) (.bool J) (.slice h K L) (.bool M) (.slice i N O) (.bool P) (.slice j R S) (.int .i64 Q.d) bB (by have:=am;omega)) (.cells #[.bool J,.slice h K L,.bool M,.slice i N O,.bool P,.slice j R S,.int .i64 Q.d] 40))
 have bD:Sf 2 w6 _:=(Sf.alloc (stS7 (E:=2) (.bool J) (.slice h K L) (.bool M) (.slice i N O) (.bool P) (.slice j R S) (.int .i64 Q.d) T (by decide)) (.cells #[.bool J,.slice h K L,.bool M,.slice i N O,.bool P,.slice j R S,.int .i64 Q.d] 40));have bE:Q=(qmulN a b):=by rw[← hQ,← bt.out];rfl
 rw[← bE];exact⟨_,rfl,hX.soft bD,bC⟩
end
section
open Go.RowKit
def qadd (a b:Qn):Qn × Int:=if qroot a.d b.d=0 then (qzero,4) else (qaddN a b,0)
def qmul (a b:Qn):Qn × Int:=if qroot a.d b.d=0 then (qzero,4) else (qmulN a b,0)
def qsub (a b:Qn):Qn × Int:=qadd a (qneg b)
def qdiv (a b:Qn):Qn × Int:=if b.p=0∧b.q=0 then (qzero,3) else qmul a (qinv b)
def QD (a:Qn):Prop:=0≤a.d∧a.d≤1000000
theorem QF.neg {m:Nat} {a:Qn} (h:QF m a):QF m (qneg a):=⟨h.1.neg,h.2.1.neg,h.2.2⟩
theorem QD.neg {a:Qn} (h:QD a):QD (qneg a):=h
theorem QF.inv {m:Nat} {a:Qn} (h:QF m a) (b:QD a):QF (m+(m+7)+1) (qinv a):=by
 have c:Ft (m+7) (-a.q*a.d):=h.2.1.neg.mul (by have:=b.1;have:=b.2;unfold Ft;omega)
 refine QF.reduce ((h.2.2.mul h.1).mono (by omega)) ((h.2.2.mul h.2.1.neg).mono (by omega)) ?_;exact(Ft.add ((h.1.mul h.1).mono (by omega)) (h.2.1.mul c))
theorem QD.inv {a:Qn} (h:QD a):QD (qinv a):=by
 have b:=h.1;have c:=h.2;unfold QD qinv qreduce;simp only
 split <;> omega
theorem xadd_any (a b:Qn) (m:Nat) (u v:Value) (w:World) (ha:XN w u a) (c:XN w v b) (d:m≤40000000) (e:QF m a) (fb:QF m b) (f:QD a) (g:QD b) :
  Calls Tryz.prog 106 #[u,v] w (RetXE w (qadd a b).1 (qadd a b).2):=by
 unfold qadd
 split
 ·exact xadd_e a b m u v w ha c d e fb f g (by assumption)
 ·exact xadd_n a b m u v w ha c d e fb f g (by assumption)
theorem xmul_any (a b:Qn) (m:Nat) (u v:Value) (w:World) (ha:XN w u a) (c:XN w v b) (d:m≤40000000) (e:QF m a) (fb:QF m b) (f:QD a) (g:QD b) :
  Calls Tryz.prog 108 #[u,v] w (RetXE w (qmul a b).1 (qmul a b).2):=by
 unfold qmul
 split
 ·exact xmul_e a b m u v w ha c d e fb f g (by assumption)
 ·exact xmul_n a b m u v w ha c d e fb f g (by assumption)
theorem xsub_any (a b:Qn) (m:Nat) (u v:Value) (w:World) (ha:XN w u a) (hb:XN w v b) (hm:m≤40000000) (fa:QF m a) (fb:QF m b) (da:QD a) (db:QD b) :
  Calls Tryz.prog 107 #[u,v] w (RetXE w (qsub a b).1 (qsub a b).2):=by
 obtain⟨b1,p,n1,c1,b2,q,n2,c2,b3,r,n3,c3,rfl,hp,hq,hr⟩:=id ha;obtain⟨b4,J,n4,c4,b5,K,n5,c5,b6,L,n6,c6,rfl,ad,ae,af⟩:=id hb;clear hp hq hr ad ae af
 go_enter Tryz.func107,Tryz.ntmps107
 go_wp2_with fail
 have s:Kp w _:=(Kp.alloc' (Kp.alloc' (Kp.alloc' (Below.refl w.heap.size w) (.cells #[.bool b1,.slice p n1 c1,.bool b2,.slice q n2 c2,.bool b3,.slice r n3 c3,.int .i64 a.d] 40)) (.cells #[.bool b4,.slice J n4 c4,.bool b5,.slice K n5 c5,.bool b6,.slice L n6 c6,.int .i64 b.d] 40)) (.cells #[.bool false,.slice none 0 0,.bool false,.slice none 0 0,.bool false,.slice none 0 0,.int .i64 0] 40));have M:Sf 2 w _:=(Sf.alloc (Sf.alloc (Sf.alloc (Sf.refl 2 w) (.cells #[.bool b1,.slice p n1 c1,.bool b2,.slice q n2 c2,.bool b3,.slice r n3 c3,.int .i64 a.d] 40)) (.cells #[.bool b4,.slice J n4 c4,.bool b5,.slice K n5 c5,.bool b6,.slice L n6 c6,.int .i64 b.d] 40)) (.cells #[.bool false,.slice none 0 0,.bool false,.slice none 0 0,.bool false,.slice none 0 0,.int .i64 0] 40));refine(xnegate_any b m _ _ (hb.soft M) (by omega) fb).mono ?_;rintro e X ⟨v1,rfl,N,j⟩;obtain⟨b7,O,n7,c7,b8,P,n8,c8,b9,R,n9,c9,rfl,g1,g2,g3⟩:=id N;clear g1 g2 g3;have ag:=s.trans' j;have ah:=M.trans (Sf.keep j);have S:Blk X (w.heap.size) #[.bool b1,.slice p n1 c1,.bool b2,.slice q n2 c2,.bool b3,.slice r n3 c3,.int .i64 a.d] 40:=Blk.keep j (Blk.at (Blk.alloc (Blk.alloc (Blk.new _ _ _) _) _) (by simp));have c:Blk X (w.heap.size+1+1) #[.bool false,.slice none 0 0,.bool false,.slice none 0 0,.bool false,.slice none 0 0,.int .i64 0] 40:=Blk.keep j (Blk.at (Blk.new _ _ _) (by simp));obtain⟨T,U,am⟩:=S.all;have an:w.heap.size≤w.heap.size:=by (first | omega | (have:=s.size;simp only[sz] at this;omega))
 obtain⟨k,l,Y⟩:=c.all;have Z:w.heap.size≤w.heap.size+1+1:=by (first | omega | (have:=s.size;simp only[sz] at this;omega))
 replace ha:=ha.soft ah
 go_wp2_with fail
 have V:Kp w _:=(Kp.alloc' ag (.cells #[.bool b7,.slice O n7 c7,.bool b8,.slice P n8 c8,.bool b9,.slice R n9 c9,.int .i64 (qneg b).d] 40));have t:Sf 2 X _:=(Sf.alloc (Sf.refl 2 X) (.cells #[.bool b7,.slice O n7 c7,.bool b8,.slice P n8 c8,.bool b9,.slice R n9 c9,.int .i64 (qneg b).d] 40));refine(xadd_any a (qneg b) m _ _ _ (ha.soft t) (N.soft t) hm fa fb.neg da db.neg).mono ?_;rintro e w2 ⟨v2,rfl,W,x⟩;obtain⟨y,f,z,B,C,g,D,F,G,h,H,I,rfl,g1,g2,g3⟩:=id W;clear g1 g2 g3;have ai:=V.trans' x;have ao:=t.trans (Sf.keep x);have i:=Blk.keep x (Blk.alloc c _);obtain⟨n,aa,ac⟩:=i.all;have o:w.heap.size≤w.heap.size+1+1:=by (first | omega | (have:=V.size;simp only[sz] at this;omega))
 clear S T U c k l;generalize hQ:qadd a (qneg b)=Q at *
 go_wp2_with fail
 refine bodyPost_ret (v:=.tuple #[.agg #[.bool y,.slice f z B,.bool C,.slice g D F,.bool G,.slice h H I,.int .i64 Q.1.d],.int .i64 Q.2]) (by simp[results,Tryz.results107,go_sem,n]) rfl ?_;have aj:Kp w _:=(stK7 (A:=w.heap.size+1+1) (.bool y) (.slice f z B) (.bool C) (.slice g D F) (.bool G) (.slice h H I) (.int .i64 Q.1.d) ai (by have:=o;omega))
 have ak:Sf 2 w2 _:=(stS7 (E:=2) (.bool y) (.slice f z B) (.bool C) (.slice g D F) (.bool G) (.slice h H I) (.int .i64 Q.1.d) i (by decide));have al:qsub a b=Q:=hQ;rw[al];exact⟨_,rfl,W.soft ak,aj⟩
theorem invert_any (a:Qn) (m:Nat) (u:Value) (w:World) (ha:XN w u a) (hm:m≤40000000) (fa:QF m a) (da:QD a) :
  Calls Tryz.prog 128 #[u] w (RetX w (qinv a)):=by
 obtain⟨fp,fq,fr⟩:=fa;obtain⟨b1,aj,n1,c1,b2,ak,n2,c2,b3,al,n3,c3,rfl,J,hq,I⟩:=ha
 go_enter Tryz.func128,Tryz.ntmps128
 go_wp2_with fail
 have am:Kp w _:=(Kp.alloc' (Kp.alloc' (Below.refl w.heap.size w) (.cells #[.bool b1,.slice aj n1 c1,.bool b2,.slice ak n2 c2,.bool b3,.slice al n3 c3,.int .i64 a.d] 40)) (.cells #[.bool false,.slice none 0 0,.bool false,.slice none 0 0,.bool false,.slice none 0 0,.int .i64 0] 40));have aK:Sf 2 w _:=(Sf.alloc (Sf.alloc (Sf.refl 2 w) (.cells #[.bool b1,.slice aj n1 c1,.bool b2,.slice ak n2 c2,.bool b3,.slice al n3 c3,.int .i64 a.d] 40)) (.cells #[.bool false,.slice none 0 0,.bool false,.slice none 0 0,.bool false,.slice none 0 0,.int .i64 0] 40));refine(negate_any a.q _ _ (hq.soft aK) (fq.fit (by omega))).mono ?_;rintro e w1 ⟨v1,rfl,K,L⟩;obtain⟨b4,an,n4,c4,rfl⟩:=K.shape';have bm:=am.trans' L;have ao:=aK.trans (Sf.keep L);have ap:Blk w1 (w.heap.size) #[.bool b1,.slice aj n1 c1,.bool b2,.slice ak n2 c2,.bool b3,.slice al n3 c3,.int .i64 a.d] 40:=Blk.keep L (Blk.at (Blk.alloc (Blk.new _ _ _) _) (by simp));have c:Blk w1 (w.heap.size+1) #[.bool false,.slice none 0 0,.bool false,.slice none 0 0,.bool false,.slice none 0 0,.int .i64 0] 40:=Blk.keep L (Blk.at (Blk.new _ _ _) (by simp));obtain⟨aL,aM,bx⟩:=ap.all;have bz:w.heap.size≤w.heap.size:=by (first | omega | (have:=am.size;simp only[sz] at this;omega))
 obtain⟨M,N,a7⟩:=c.all;have a8:w.heap.size≤w.heap.size+1:=by (first | omega | (have:=am.size;simp only[sz] at this;omega))
 replace J:=J.soft ao;replace hq:=hq.soft ao;replace I:=I.soft ao
 go_wp2_with fail
 have bn:Kp w _:=(Kp.alloc' bm (.cells #[.bool b4,.slice an n4 c4] 38));have aN:Sf 2 w1 _:=(Sf.alloc (Sf.refl 2 w1) (.cells #[.bool b4,.slice an n4 c4] 38));refine(timesRoot_any (-a.q) a.d m _ _ (K.soft aN) (by omega) fq.neg da.1 da.2).mono ?_;rintro e w2 ⟨v2,rfl,hs,s⟩;obtain⟨b5,aO,n5,c5,rfl⟩:=hs.shape';have fs:Ft (m+7) (-a.q*a.d):=fq.neg.mul (by have:=da.1;have:=da.2;unfold Ft;omega)
 have bo:=bn.trans' s;have O:=aN.trans (Sf.keep s);have aq:=Blk.keep s (Blk.alloc ap _);have f:=Blk.keep s (Blk.alloc c _);have g:Blk w2 (w1.heap.size) #[.bool b4,.slice an n4 c4] 38:=Blk.keep s (Blk.at (Blk.new _ _ _) (by simp));obtain⟨aP,aQ,bA⟩:=aq.all;obtain⟨P,R,a9⟩:=f.all;obtain⟨S,T,ba⟩:=g.all;replace J:=J.soft O;replace hq:=hq.soft O;replace I:=I.soft O;replace K:=K.soft O;clear ap aL aM c M N
 go_wp2_with fail
 have kp2:Kp w _:=(Kp.alloc' bo (.cells #[.bool b5,.slice aO n5 c5] 38));have sf2:Sf 2 w2 _:=(Sf.alloc (Sf.refl 2 w2) (.cells #[.bool b5,.slice aO n5 c5] 38));refine(sumOfProducts_any a.p a.p a.q (-a.q*a.d) (m+7) _ _ _ _ _ (J.soft sf2) (J.soft sf2) (hq.soft sf2) (hs.soft sf2) (by omega) (fp.mono (by omega)) (fp.mono (by omega)) (fq.mono (by omega)) fs).mono ?_;rintro e w3 ⟨v3,rfl,hn,t⟩;obtain⟨b6,ar,n6,c6,rfl⟩:=hn.shape';have bp:=kp2.trans' t;have au:=sf2.trans (Sf.keep t);have av:=Blk.keep t (Blk.alloc aq _);have h:=Blk.keep t (Blk.alloc f _);have i:=Blk.keep t (Blk.alloc g _);obtain⟨aR,aS,bB⟩:=av.all;obtain⟨U,V,bb⟩:=h.all;have bc:w.heap.size≤w.heap.size+1:=by (first | omega | (have:=kp2.size;simp only[sz] at this;omega))
 obtain⟨W,X,be⟩:=i.all;replace J:=J.soft au;replace I:=I.soft au;replace K:=K.soft au;clear aq aP aQ f P R g S T
 go_wp2_with fail
 have bq:Kp w _:=(Kp.alloc' bp (.cells #[.bool b6,.slice ar n6 c6] 38));have aw:Sf 2 w3 _:=(Sf.alloc (Sf.refl 2 w3) (.cells #[.bool b6,.slice ar n6 c6] 38));refine(multiply_any a.r a.p _ _ _ (I.soft aw) (J.soft aw) (fr.fit (by omega)) (fp.fit (by omega))).mono ?_;rintro e w4 ⟨v4,rfl,Y,n⟩;obtain⟨b7,ax,n7,c7,rfl⟩:=Y.shape';have br:=bq.trans' n;have ay:=aw.trans (Sf.keep n);have az:=Blk.keep n (Blk.alloc av _);have j:=Blk.keep n (Blk.alloc h _);have x:=Blk.keep n (Blk.alloc i _);have b:Blk w4 (w3.heap.size) #[.bool b6,.slice ar n6 c6] 38:=Blk.keep n (Blk.at (Blk.new _ _ _) (by simp));obtain⟨aT,aU,bC⟩:=az.all;obtain⟨Z,aa,bf⟩:=j.all;obtain⟨ac,ad,bg⟩:=x.all;obtain⟨y,z,aV⟩:=b.all;replace I:=I.soft ay;replace K:=K.soft ay;replace hn:=hn.soft ay;clear av aR aS h U V i W X
 go_wp2_with fail
 have kp4:Kp w _:=(Kp.alloc' br (.cells #[.bool b7,.slice ax n7 c7] 38));have sf4:Sf 2 w4 _:=(Sf.alloc (Sf.refl 2 w4) (.cells #[.bool b7,.slice ax n7 c7] 38));refine(multiply_any a.r (-a.q) _ _ _ (I.soft sf4) (K.soft sf4) (fr.fit (by omega)) (fq.neg.fit (by omega))).mono ?_;rintro e w5 ⟨v5,rfl,aW,o⟩;obtain⟨b8,aX,n8,c8,rfl⟩:=aW.shape';have bs:=kp4.trans' o;have aY:=sf4.trans (Sf.keep o);have aZ:=Blk.keep o (Blk.alloc az _);have k:=Blk.keep o (Blk.alloc j _);have l:=Blk.keep o (Blk.alloc b _);have a0:Blk w5 (w4.heap.size) #[.bool b7,.slice ax n7 c7] 38:=Blk.keep o (Blk.at (Blk.new _ _ _) (by simp));obtain⟨a1,a2,bD⟩:=aZ.all;obtain⟨ae,af,bh⟩:=k.all;obtain⟨B,C,a3⟩:=l.all;obtain⟨a4,a5,bE⟩:=a0.all;replace hn:=hn.soft aY;replace Y:=Y.soft aY;clear az aT aU j Z aa x ac ad b y z
 go_wp2_with fail
 have a6:Kp w _:=(Kp.alloc' bs (.cells #[.bool b8,.slice aX n8 c8] 38));have ag:Sf 2 w5 _:=(Sf.alloc (Sf.refl 2 w5) (.cells #[.bool b8,.slice aX n8 c8] 38));refine(reduce_any (a.r*a.p) (a.r*-a.q) (a.p*a.p+a.q*(-a.q*a.d)) a.d (m+7+(m+7)+1) _ _ _ _ (Y.soft ag) (aW.soft ag) (hn.soft ag) (by omega) ((fr.mul fp).mono (by omega)) ((fr.mul fq.neg).mono (by omega)) (Ft.sop (fp.mono (by omega)) (fp.mono (by omega)) (fq.mono (by omega)) fs)).mono ?_;rintro e w6 ⟨v6,rfl,hX,aA⟩;obtain⟨aB,D,aC,aD,aE,F,aF,aG,aH,G,aI,aJ,rfl,g1,g2,g3⟩:=id hX;clear g1 g2 g3;have bt:=a6.trans' aA;have bF:=ag.trans (Sf.keep aA);have H:=Blk.keep aA (Blk.alloc k _);obtain⟨ah,bi,bj⟩:=H.all;have ai:w.heap.size≤w.heap.size+1:=by (first | omega | (have:=a6.size;simp only[sz] at this;omega))
 clear aZ a1 a2 k ae af l B C a0 a4 a5;generalize hQ:qreduce (a.r*a.p) (a.r*-a.q) (a.p*a.p+a.q*(-a.q*a.d)) a.d=Q at *
 go_wp2_with fail
 refine bodyPost_ret (v:=.agg #[.bool aB,.slice D aC aD,.bool aE,.slice F aF aG,.bool aH,.slice G aI aJ,.int .i64 Q.d]) (by simp[results,Tryz.results128,go_sem,ah]) rfl ?_;have bu:Kp w _:=(stK7 (A:=w.heap.size+1) (.bool aB) (.slice D aC aD) (.bool aE) (.slice F aF aG) (.bool aH) (.slice G aI aJ) (.int .i64 Q.d) bt (by have:=ai;omega))
 have bv:Sf 2 w6 _:=(stS7 (E:=2) (.bool aB) (.slice D aC aD) (.bool aE) (.slice F aF aG) (.bool aH) (.slice G aI aJ) (.int .i64 Q.d) H (by decide));have bw:qinv a=Q:=hQ;rw[bw];exact⟨_,rfl,hX.soft bv,bu⟩
theorem xdiv_e (a b:Qn) (m:Nat) (u v:Value) (w:World) (ha:XN w u a) (x:XN w v b) (_hm:m≤15000000) (_fa:QF m a) (_fb:QF m b) (_da:QD a) (_db:QD b) (X:(b.p=0∧b.q=0)) :
  Calls Tryz.prog 109 #[u,v] w (RetXE w qzero 3):=by
 obtain⟨C,i,D,c1,F,j,G,c2,H,k,I,c3,rfl,hp,hq,hr⟩:=id ha;obtain⟨J,l,K,c4,L,n,M,c5,N,o,O,P,rfl,Q,R,S⟩:=id x;clear hp hq hr Q R S
 go_enter Tryz.func109,Tryz.ntmps109
 go_wp2_with fail
 have r:Kp w _:=(Kp.alloc' (Kp.alloc' (Kp.alloc' (Below.refl w.heap.size w) (.cells #[.bool C,.slice i D c1,.bool F,.slice j G c2,.bool H,.slice k I c3,.int .i64 a.d] 40)) (.cells #[.bool J,.slice l K c4,.bool L,.slice n M c5,.bool N,.slice o O P,.int .i64 b.d] 40)) (.cells #[.bool false,.slice none 0 0,.bool false,.slice none 0 0,.bool false,.slice none 0 0,.int .i64 0] 40));have s:Sf 2 w _:=(Sf.alloc (Sf.alloc (Sf.alloc (Sf.refl 2 w) (.cells #[.bool C,.slice i D c1,.bool F,.slice j G c2,.bool H,.slice k I c3,.int .i64 a.d] 40)) (.cells #[.bool J,.slice l K c4,.bool L,.slice n M c5,.bool N,.slice o O P,.int .i64 b.d] 40)) (.cells #[.bool false,.slice none 0 0,.bool false,.slice none 0 0,.bool false,.slice none 0 0,.int .i64 0] 40));refine(isZero_any b _ _ (x.soft s)).mono ?_;rintro e y ⟨rfl,c⟩;rw[decide_eq_true X];have T:=r.trans' c;have t:=s.trans (Sf.keep c);have U:Blk y (w.heap.size) #[.bool C,.slice i D c1,.bool F,.slice j G c2,.bool H,.slice k I c3,.int .i64 a.d] 40:=Blk.keep c (Blk.at (Blk.alloc (Blk.alloc (Blk.new _ _ _) _) _) (by simp));have V:Blk y (w.heap.size+1) #[.bool J,.slice l K c4,.bool L,.slice n M c5,.bool N,.slice o O P,.int .i64 b.d] 40:=Blk.keep c (Blk.at (Blk.alloc (Blk.new _ _ _) _) (by simp));have f:Blk y (w.heap.size+1+1) #[.bool false,.slice none 0 0,.bool false,.slice none 0 0,.bool false,.slice none 0 0,.int .i64 0] 40:=Blk.keep c (Blk.at (Blk.new _ _ _) (by simp));obtain⟨Y,Z,aa⟩:=U.all;obtain⟨ac,ad,ae⟩:=V.all;obtain⟨g,z,B⟩:=f.all;have h:w.heap.size≤w.heap.size+1+1:=by (first | omega | (have:=r.size;simp only[sz] at this;omega))
 replace ha:=ha.soft t;replace x:=x.soft t;clear X
 go_wp2_with fail
 refine bodyPost_ret (v:=.tuple #[.agg #[.bool false,.slice none 0 0,.bool false,.slice none 0 0,.bool false,.slice none 0 0,.int .i64 0],.int .i64 3]) (by simp[results,Tryz.results109,go_sem,g]) rfl ?_;have W:Kp w _:=(stK7 (A:=w.heap.size+1+1) (.bool false) (.slice none 0 0) (.bool false) (.slice none 0 0) (.bool false) (.slice none 0 0) (.int .i64 0) T (by have:=h;omega))
 have af:Sf 2 y _:=(stS7 (E:=2) (.bool false) (.slice none 0 0) (.bool false) (.slice none 0 0) (.bool false) (.slice none 0 0) (.int .i64 0) f (by decide));exact⟨_,rfl,xn_zero _,W⟩
theorem xdiv_n (a b:Qn) (m:Nat) (u v:Value) (w:World) (ha:XN w u a) (T:XN w v b) (hm:m≤15000000) (fa:QF m a) (fb:QF m b) (da:QD a) (db:QD b) (hZ:¬ (b.p=0∧b.q=0)) :
  Calls Tryz.prog 109 #[u,v] w (RetXE w (qmul a (qinv b)).1 (qmul a (qinv b)).2):=by
 obtain⟨b1,y,n1,c1,b2,z,n2,c2,b3,B,n3,c3,rfl,hp,hq,hr⟩:=id ha;obtain⟨b4,C,n4,c4,b5,D,n5,c5,b6,F,n6,c6,rfl,aq,ar,au⟩:=id T;clear hp hq hr aq ar au
 go_enter Tryz.func109,Tryz.ntmps109
 go_wp2_with fail
 have av:Kp w _:=(Kp.alloc' (Kp.alloc' (Kp.alloc' (Below.refl w.heap.size w) (.cells #[.bool b1,.slice y n1 c1,.bool b2,.slice z n2 c2,.bool b3,.slice B n3 c3,.int .i64 a.d] 40)) (.cells #[.bool b4,.slice C n4 c4,.bool b5,.slice D n5 c5,.bool b6,.slice F n6 c6,.int .i64 b.d] 40)) (.cells #[.bool false,.slice none 0 0,.bool false,.slice none 0 0,.bool false,.slice none 0 0,.int .i64 0] 40));have U:Sf 2 w _:=(Sf.alloc (Sf.alloc (Sf.alloc (Sf.refl 2 w) (.cells #[.bool b1,.slice y n1 c1,.bool b2,.slice z n2 c2,.bool b3,.slice B n3 c3,.int .i64 a.d] 40)) (.cells #[.bool b4,.slice C n4 c4,.bool b5,.slice D n5 c5,.bool b6,.slice F n6 c6,.int .i64 b.d] 40)) (.cells #[.bool false,.slice none 0 0,.bool false,.slice none 0 0,.bool false,.slice none 0 0,.int .i64 0] 40));refine(isZero_any b _ _ (T.soft U)).mono ?_;rintro e V ⟨rfl,g⟩;rw[decide_eq_false hZ];have aw:=av.trans' g;have W:=U.trans (Sf.keep g);have G:Blk V (w.heap.size) #[.bool b1,.slice y n1 c1,.bool b2,.slice z n2 c2,.bool b3,.slice B n3 c3,.int .i64 a.d] 40:=Blk.keep g (Blk.at (Blk.alloc (Blk.alloc (Blk.new _ _ _) _) _) (by simp));have X:Blk V (w.heap.size+1) #[.bool b4,.slice C n4 c4,.bool b5,.slice D n5 c5,.bool b6,.slice F n6 c6,.int .i64 b.d] 40:=Blk.keep g (Blk.at (Blk.alloc (Blk.new _ _ _) _) (by simp));have c:Blk V (w.heap.size+1+1) #[.bool false,.slice none 0 0,.bool false,.slice none 0 0,.bool false,.slice none 0 0,.int .i64 0] 40:=Blk.keep g (Blk.at (Blk.new _ _ _) (by simp));obtain⟨Y,Z,aD⟩:=G.all;obtain⟨aa,ac,aE⟩:=X.all;obtain⟨l,n,am⟩:=c.all;replace ha:=ha.soft W;replace T:=T.soft W;clear hZ
 go_wp2_with fail
 have ax:Kp w _:=aw;have ad:Sf 2 V _:=(Sf.refl 2 V);refine(invert_any b m _ _ (T.soft ad) (by omega) fb db).mono ?_;rintro e w2 ⟨v2,rfl,ae,o⟩;obtain⟨b7,af,n7,c7,b8,ag,n8,c8,b9,ah,n9,c9,rfl,g1,g2,g3⟩:=id ae;clear g1 g2 g3;have ay:=ax.trans' o;have az:=ad.trans (Sf.keep o);have ai:=Blk.keep o G;have f:=Blk.keep o c;obtain⟨aj,ak,aF⟩:=ai.all;obtain⟨r,s,an⟩:=f.all;replace ha:=ha.soft az;clear G Y Z X aa ac c l n;have fi:=fb.inv db;have di:=db.inv;generalize hI:qinv b=I at *
 go_wp2_with fail
 have kp2:Kp w _:=(Kp.alloc' ay (.cells #[.bool b7,.slice af n7 c7,.bool b8,.slice ag n8 c8,.bool b9,.slice ah n9 c9,.int .i64 I.d] 40));have sf2:Sf 2 w2 _:=(Sf.alloc (Sf.refl 2 w2) (.cells #[.bool b7,.slice af n7 c7,.bool b8,.slice ag n8 c8,.bool b9,.slice ah n9 c9,.int .i64 I.d] 40));refine(xmul_any a I (m+(m+7)+1) _ _ _ (ha.soft sf2) (ae.soft sf2) (by omega) ⟨fa.1.mono (by omega),fa.2.1.mono (by omega),fa.2.2.mono (by omega)⟩ fi da di).mono ?_;rintro e w3 ⟨v3,rfl,al,H⟩;obtain⟨J,h,K,L,M,i,N,O,P,j,R,S,rfl,g1,g2,g3⟩:=id al;clear g1 g2 g3;have aA:=kp2.trans' H;have aG:=sf2.trans (Sf.keep H);have k:=Blk.keep H (Blk.alloc f _);obtain⟨t,ao,ap⟩:=k.all;have x:w.heap.size≤w.heap.size+1+1:=by (first | omega | (have:=kp2.size;simp only[sz] at this;omega))
 clear ai aj ak f r s;generalize hQ:qmul a I=Q at *
 go_wp2_with fail
 refine bodyPost_ret (v:=.tuple #[.agg #[.bool J,.slice h K L,.bool M,.slice i N O,.bool P,.slice j R S,.int .i64 Q.1.d],.int .i64 Q.2]) (by simp[results,Tryz.results109,go_sem,t]) rfl ?_;have aB:Kp w _:=(stK7 (A:=w.heap.size+1+1) (.bool J) (.slice h K L) (.bool M) (.slice i N O) (.bool P) (.slice j R S) (.int .i64 Q.1.d) aA (by have:=x;omega))
 have aC:Sf 2 w3 _:=(stS7 (E:=2) (.bool J) (.slice h K L) (.bool M) (.slice i N O) (.bool P) (.slice j R S) (.int .i64 Q.1.d) k (by decide));exact⟨_,rfl,al.soft aC,aB⟩
theorem xdiv_any (a b:Qn) (m:Nat) (u v:Value) (w:World) (ha:XN w u a) (c:XN w v b) (d:m≤15000000) (e:QF m a) (fb:QF m b) (f:QD a) (g:QD b) :
  Calls Tryz.prog 109 #[u,v] w (RetXE w (qdiv a b).1 (qdiv a b).2):=by
 unfold qdiv
 split
 ·exact xdiv_e a b m u v w ha c d e fb f g (by assumption)
 ·exact xdiv_n a b m u v w ha c d e fb f g (by assumption)
end
section
open Go.RowKit
def qsqrt (n:Nat):Qn :=
 if n=0 then ⟨0,0,1,1⟩
 else if n / (sqf n 1000*sqf n 1000)=1 then ⟨sqf n 1000,0,1,1⟩
 else ⟨0,sqf n 1000,1,(n / (sqf n 1000*sqf n 1000):Nat)⟩
theorem qsqrt_of {n o s:Nat} (h:IsRoot n o s) (a:n<1000000):qsqrt n=if s=1 then ⟨o,0,1,1⟩ else ⟨0,o,1,s⟩:=by
 have b:0<n:=by
  have:=Nat.mul_pos (Nat.mul_pos h.op h.op) h.sp;have:=h.eq;omega
 obtain⟨c,d⟩:=h.unique (sqf_root b a);unfold qsqrt;rw[if_neg (by omega),← d,← c]
theorem root_step {n o s i:Nat} (a:o*o*s=n) (c:s % (i*i)=0):(o*i)*(o*i)*(s / (i*i))=n:=by
 obtain⟨t,b⟩:=Nat.dvd_of_mod_eq_zero c;rcases Nat.eq_zero_or_pos (i*i) with h | h
 ·have d:i=0:=by
   rcases Nat.eq_zero_or_pos i with e | e
   ·exact e
   ·have:=Nat.mul_pos e e;omega
  subst d;rw[b] at a;simp at a;rw[← a];simp
 ·rw[b,Nat.mul_div_cancel_left _ h];rw[b] at a;rw[← a]
  grind
theorem le_of_sq {o n:Nat} (h:o*o≤n) (b:n<1000000):o<1000:=by
 rcases Nat.lt_or_ge o 1000 with a | a
 ·exact a
 ·have:=Nat.mul_le_mul a a;omega
theorem ret_x {w b W:World} {a:Qn} {v:Value} (h:XN b v a) (c:Sf 2 b W) (d:Kp w W):RetX w a (.returned v) W:=⟨v,rfl,h.soft c,d⟩
def RI (n o s i:Nat):Prop:=0<o∧0<s∧o*o*s=n∧∀ k,2≤k→k<i→¬ (k*k∣s)
theorem RI.done {n o s i:Nat} (h:RI n o s i) (d:¬ i≤s / i) (b:0<i):IsRoot n o s:=by
 refine⟨h.1,h.2.1,h.2.2.1,?_⟩;intro k e c;refine h.2.2.2 k e ?_ c;have f:=Nat.le_of_dvd h.2.1 c;rcases Nat.lt_or_ge k i with a | a
 ·exact a
 ·exfalso
  apply d
  rw[Nat.le_div_iff_mul_le b];have:=Nat.mul_le_mul a a;omega
theorem RI.down {n o s i:Nat} (h:RI n o s i) (b:0<i) (f:s % (i*i)=0):RI n (o*i) (s / (i*i)) i:=by
 have c:0<i*i:=Nat.mul_pos b b;have a:=Nat.dvd_of_mod_eq_zero f;refine⟨Nat.mul_pos h.1 b,Nat.div_pos (Nat.le_of_dvd h.2.1 a) c,root_step h.2.2.1 f,?_⟩;intro k g d e;exact h.2.2.2 k g d (Nat.dvd_trans e (Nat.div_dvd_of_dvd a))
theorem RI.next {n o s i:Nat} (h:RI n o s i) (c:¬ s % (i*i)=0):RI n o s (i+1):=by
 refine⟨h.1,h.2.1,h.2.2.1,?_⟩;intro k d e a;rcases Nat.lt_or_ge k i with b | b
 ·exact h.2.2.2 k d b a
 ·have:k=i:=by omega
  subst this;exact c (Nat.mod_eq_zero_of_dvd a)
theorem RI.bd {n o s i:Nat} (h:RI n o s i) (d:n<1000000):1≤o∧o<1000∧1≤s∧s<1000000:=by
 obtain⟨a,b,c,_⟩:=h;have e:o*o≤n:=by rw[← c];exact Nat.le_mul_of_pos_right _ b
 have f:s≤n:=by rw[← c];exact Nat.le_mul_of_pos_left _ (Nat.mul_pos a a)
 exact⟨a,le_of_sq e d,b,by omega⟩
theorem root_zero (w:World):Calls Tryz.prog 123 #[.int .i64 0] w (RetX w (qsqrt 0)):=by
 go_enter Tryz.func123,Tryz.ntmps123
 go_wp2_with fail
 have i:Kp w _:=(Kp.alloc' (Below.refl w.heap.size w) (.cells #[.bool false,.slice none 0 0,.bool false,.slice none 0 0,.bool false,.slice none 0 0,.int .i64 0] 40));have m:Sf 2 w _:=(Sf.alloc (Sf.refl 2 w) (.cells #[.bool false,.slice none 0 0,.bool false,.slice none 0 0,.bool false,.slice none 0 0,.int .i64 0] 40));refine(xfromInt_any 0 _ (by decide) (by decide)).mono ?_;rintro e y ⟨F,rfl,j,d⟩;obtain⟨n,f,o,c1,p,g,q,c2,r,h,s,c3,rfl,z,B,C⟩:=id j;clear z B C;have t:=i.trans' d;have D:=m.trans (Sf.keep d);have a:Blk y (w.heap.size) #[.bool false,.slice none 0 0,.bool false,.slice none 0 0,.bool false,.slice none 0 0,.int .i64 0] 40:=Blk.keep d (Blk.at (Blk.new _ _ _) (by simp));obtain⟨b,k,l⟩:=a.all;have c:w.heap.size≤w.heap.size:=by (first | omega | (have:=i.size;simp only[sz] at this;omega))
 go_wp2_with fail
 refine bodyPost_ret (v:=.agg #[.bool n,.slice f o c1,.bool p,.slice g q c2,.bool r,.slice h s c3,.int .i64 1]) (by simp[results,Tryz.results123,go_sem,b]) rfl ?_;have u:Kp w _:=(stK7 (A:=w.heap.size) (.bool n) (.slice f o c1) (.bool p) (.slice g q c2) (.bool r) (.slice h s c3) (.int .i64 1) t (by have:=c;omega))
 have x:Sf 2 y _:=(stS7 (E:=2) (.bool n) (.slice f o c1) (.bool p) (.slice g q c2) (.bool r) (.slice h s c3) (.int .i64 1) a (by decide));exact ret_x j x u
theorem root_pos (n:Nat) (w:World) (h0:0<n) (hn:n<1000000):Calls Tryz.prog 123 #[.int .i64 (n:Int)] w (RetX w (qsqrt n)):=by
 have aq:(n=0)=False:=by simp;omega
 go_enter Tryz.func123,Tryz.ntmps123
 go_wp2_with fail
 go_loop [3,4,5] (fun x y z=>∃ o s i:Nat,x=.int .i64 (o:Int)∧y=.int .i64 (s:Int)∧z=.int .i64 (i:Int)∧Hid (RI n o s i)∧2≤i∧i≤1001) (fun _ _ z=>2000 - (intOf z).toNat)
 case atStart=>exact⟨1,n,2,rfl,rfl,rfl,⟨by decide,h0,by simp,fun k h1 h2=>by omega⟩,by omega,by omega⟩
 case round =>
  obtain⟨o,s,i,rfl,rfl,rfl,d,T,ar⟩:=hrel;have U:=d.out.bd hn;have au:0≤(s:Int) / (i:Int)∧(s:Int) / (i:Int)≤1000000:=by
   have h1:=Nat.div_le_self s i;have h2:s / i≤1000000:=by omega
   rw[← Int.natCast_ediv];exact⟨Int.natCast_nonneg _,Int.ofNat_le.2 h2⟩
  by_cases hc:i≤s / i
  ·have ac:(i:Int)≤(s:Int) / (i:Int):=by have:((s / i:Nat):Int)=(s:Int) / (i:Int):=Int.natCast_ediv _ _;omega
   have L:i*i≤s:=by rw[Nat.le_div_iff_mul_le (by omega)] at hc;exact hc
   have av:i<1000:=le_of_sq L (by omega);have HC:=Hid.mk hc;clear hc L
   go_wp2_with fail
   go_loop [3,4] (fun x y=>∃ o s:Nat,x=.int .i64 (o:Int)∧y=.int .i64 (s:Int)∧Hid (RI n o s i)) (fun _ y=>(intOf y).toNat)
   case atStart=>exact⟨o,s,rfl,rfl,d⟩
   case round =>
    obtain⟨o,s,rfl,rfl,d⟩:=hrel;clear U;have U:=d.out.bd hn;have V:4≤i*i∧i*i≤1000000:=⟨Nat.mul_le_mul T T,by have:=Nat.mul_le_mul (show i≤1000 by omega) (show i≤1000 by omega);omega⟩
    have al:(4:Int)≤(i:Int)*(i:Int)∧(i:Int)*(i:Int)≤1000000:=by rw[← Int.natCast_mul];omega
    by_cases hd:s % (i*i)=0
    ·have ad:((s:Int) % ((i:Int)*(i:Int)) == 0)=true:=by
      rw[← Int.natCast_mul,← Int.natCast_emod,hd];rfl
     have q:=d.out.down (by omega) hd;have W:=q.bd hn;have aw:(o:Int)*(i:Int)≤1000∧0≤(o:Int)*(i:Int):=by rw[← Int.natCast_mul];omega
     have am:0≤(s:Int) / ((i:Int)*(i:Int))∧(s:Int) / ((i:Int)*(i:Int))≤1000000:=by
      have h1:=Nat.div_le_self s (i*i);have h2:s / (i*i)≤1000000:=by omega
      rw[← Int.natCast_mul,← Int.natCast_ediv];exact⟨Int.natCast_nonneg _,Int.ofNat_le.2 h2⟩
     have M:=Hid.mk q;have HM:Hid (s / (i*i)<s):=Nat.div_lt_self (by omega) (by omega);have X:Hid ((s:Int) / ((i:Int)*(i:Int))=((s / (i*i):Nat):Int)):=by unfold Hid;rw[← Int.natCast_mul,← Int.natCast_ediv]
     have ae:Hid ((o:Int)*(i:Int)=((o*i:Nat):Int)):=by unfold Hid;rw[Int.natCast_mul]
     clear q W V hd d
     go_wp2_with fail
     go_round
     case rel=>exact⟨o*i,s / (i*i),by rw[ae.out],by rw[X.out],M⟩
     case measure=>simp only[intOf];rw[X.out];have:=HM.out;omega
    ·have ad:((s:Int) % ((i:Int)*(i:Int)) == 0)=false:=beq_eq_false_iff_ne.2 (fun h=>hd (by exact_mod_cast h));have M:=Hid.mk (d.out.next hd);clear V hd d
     go_wp2_with fail
     go_round
     case rel=>exact⟨o,s,i+1,rfl,rfl,by go_num,M,by omega,by omega⟩
     case measure=>simp[intOf];omega
  ·have ac:¬ (i:Int)≤(s:Int) / (i:Int):=by have:((s / i:Nat):Int)=(s:Int) / (i:Int):=Int.natCast_ediv _ _;omega
   have HR:=d.out.done hc (by omega);have p:=qsqrt_of HR hn;clear hc HR;by_cases hs:s=1
   ·have af:((s:Int) == 1)=true:=by simp[hs]
    rw[if_pos hs] at p;have HQ:=Hid.mk p;clear p hs
    go_wp2_with fail
    have B:Kp w _:=(Kp.alloc' (Below.refl w.heap.size w) (.cells #[.bool false,.slice none 0 0,.bool false,.slice none 0 0,.bool false,.slice none 0 0,.int .i64 0] 40));have N:Sf 2 w _:=(Sf.alloc (Sf.refl 2 w) (.cells #[.bool false,.slice none 0 0,.bool false,.slice none 0 0,.bool false,.slice none 0 0,.int .i64 0] 40));refine(xfromInt_any (o:Int) _ (by omega) (by omega)).mono ?_;rintro e O ⟨v1,rfl,j,l⟩;obtain⟨t,c,u,c1,C,f,D,c2,b3,P,n3,c3,rfl,g1,g2,g3⟩:=id j;clear g1 g2 g3;have Q:=B.trans' l;have ag:=N.trans (Sf.keep l);have b:Blk O (w.heap.size) #[.bool false,.slice none 0 0,.bool false,.slice none 0 0,.bool false,.slice none 0 0,.int .i64 0] 40:=Blk.keep l (Blk.at (Blk.new _ _ _) (by simp));obtain⟨g,m,F⟩:=b.all;have G:w.heap.size≤w.heap.size:=by (first | omega | (have:=B.size;simp only[sz] at this;omega))
    go_wp2_with fail
    refine bodyPost_ret (v:=.agg #[.bool t,.slice c u c1,.bool C,.slice f D c2,.bool b3,.slice P n3 c3,.int .i64 1]) (by simp[results,Tryz.results123,go_sem,g]) rfl ?_;have R:Kp w _:=(stK7 (A:=w.heap.size) (.bool t) (.slice c u c1) (.bool C) (.slice f D c2) (.bool b3) (.slice P n3 c3) (.int .i64 1) Q (by have:=G;omega))
    have S:Sf 2 O _:=(stS7 (E:=2) (.bool t) (.slice c u c1) (.bool C) (.slice f D c2) (.bool b3) (.slice P n3 c3) (.int .i64 1) b (by decide));rw[HQ.out];exact ret_x j S R
   ·have af:((s:Int) == 1)=false:=by simp;omega
    rw[if_neg hs] at p;have HQ:=Hid.mk p;clear p hs
    go_wp2_with fail
    have B:Kp w _:=(Kp.alloc' (Below.refl w.heap.size w) (.cells #[.bool false,.slice none 0 0,.bool false,.slice none 0 0,.bool false,.slice none 0 0,.int .i64 0] 40));have N:Sf 2 w _:=(Sf.alloc (Sf.refl 2 w) (.cells #[.bool false,.slice none 0 0,.bool false,.slice none 0 0,.bool false,.slice none 0 0,.int .i64 0] 40));refine(fromInt_any (o:Int) _ (by omega) (by omega)).mono ?_;rintro e O ⟨v1,rfl,j,l⟩;obtain⟨t,c,u,c1,rfl⟩:=j.shape';have Q:=B.trans' l;have ag:=N.trans (Sf.keep l);have b:Blk O (w.heap.size) #[.bool false,.slice none 0 0,.bool false,.slice none 0 0,.bool false,.slice none 0 0,.int .i64 0] 40:=Blk.keep l (Blk.at (Blk.new _ _ _) (by simp));obtain⟨g,m,F⟩:=b.all
    go_wp2_with fail
    have Y:Kp w _:=(Kp.alloc' Q (.cells #[.bool t,.slice c u c1] 38));have ah:Sf 2 O _:=(Sf.alloc (Sf.refl 2 O) (.cells #[.bool t,.slice c u c1] 38));refine(fromInt_any 1 _ (by decide) (by decide)).mono ?_;rintro e w2 ⟨v2,rfl,Z,H⟩;obtain⟨C,f,D,c2,rfl⟩:=Z.shape';have ai:=Y.trans' H;have aj:=ah.trans (Sf.keep H);have r:=Blk.keep H (Blk.alloc b _);have ak:Blk w2 (O.heap.size) #[.bool t,.slice c u c1] 38:=Blk.keep H (Blk.at (Blk.new _ _ _) (by simp));obtain⟨I,aa,J⟩:=r.all;have K:w.heap.size≤w.heap.size:=by (first | omega | (have:=Y.size;simp only[sz] at this;omega))
    obtain⟨an,ao,ap⟩:=ak.all;replace j:=j.soft aj;clear b g m
    go_wp2_with fail
    refine bodyPost_ret (v:=.agg #[.bool false,.slice none 0 0,.bool t,.slice c u c1,.bool C,.slice f D c2,.int .i64 (s:Int)]) (by simp[results,Tryz.results123,go_sem,I,J]) rfl ?_;have R:Kp w _:=(Kp.alloc' (stK7 (A:=w.heap.size) (.bool false) (.slice none 0 0) (.bool t) (.slice c u c1) (.bool C) (.slice f D c2) (.int .i64 (s:Int)) ai (by have:=K;omega)) (.cells #[.bool C,.slice f D c2] 38))
    have S:Sf 2 w2 _:=(Sf.alloc (stS7 (E:=2) (.bool false) (.slice none 0 0) (.bool t) (.slice c u c1) (.bool C) (.slice f D c2) (.int .i64 (s:Int)) r (by decide)) (.cells #[.bool C,.slice f D c2] 38));rw[HQ.out];exact ret_x (XN.mk3 (a:=⟨0,o,1,s⟩) (wn_zero _) j Z rfl) S R
theorem root_any (n:Nat) (w:World) (a:n<1000000):Calls Tryz.prog 123 #[.int .i64 (n:Int)] w (RetX w (qsqrt n)):=by
 rcases Nat.eq_zero_or_pos n with h | h
 ·subst h;exact root_zero w
 ·exact root_pos n w h a
end
end Go.Proofs.YtjahbjjekednfaaGreatDoor
