import Derived.Test.YtjahbjjekednfaaGreatDoorF8
import Derived.Test.YtjahbjjekednfaaGreatDoorF10
import Derived.Test.YtjahbjjekednfaaGreatDoorSoft
import Derived.Test.YtjahbjjekednfaaGreatDoorSt
namespace Go.Proofs.YtjahbjjekednfaaGreatDoor
set_option maxHeartbeats 3200000
set_option maxRecDepth 100000
section
structure Cv where
 lp:Int
 lq:Int
 ap:Int
 aq:Int
def cv (p q n:Int):Nat→Cv
 | 0=>⟨1,0,0,1⟩
 | k+1=>⟨tm p q n k*(cv p q n k).lp+(cv p q n k).ap,tm p q n k*(cv p q n k).lq+(cv p q n k).aq,(cv p q n k).lp,(cv p q n k).lq⟩
end
section
open Go.RowKit
theorem begin_any (a:Qn) (m:Nat) (v:Value) (w:World) (c:XN w v a) (d:m≤40000000) (f:QF m a) (e:QD a):Calls Tryz.prog 47 #[v] w (RetWK w (p0 a) (q0 a) (n0 a) 1 0 0 1):=by
 unfold p0 q0 n0;by_cases h:a.q<0
 ·rw[if_pos h,if_pos h];exact begin_core a _ _ _ v w c (fun W b=>of_neg a m v W b d f e (Int.sign_eq_neg_one_of_neg h))
 ·rw[if_neg h,if_neg h];refine begin_core a _ _ _ v w c (fun W b=>of_pos a m v W b d f e ?_);rcases sign3 a.q with ⟨g,i⟩|⟨g,i⟩|⟨g,i⟩ <;> omega
theorem WK.keep {w W:World} {v:Value} {p q n a lq b c:Int} (d:Kp w W) (h:WK w v p q n a lq b c):WK W v p q n a lq b c:=h.soft (Sf.keep d)
theorem WK.rr {w:World} {s:Bool} {a:Option Addr} {t c4:Nat} {u:Bool} {b:Option Addr} {v c5:Nat} {x:Bool} {c:Option Addr} {y z:Nat} {A:Bool} {d:Option Addr} {B C:Nat} {D:Bool} {e:Option Addr} {E F:Nat} {G:Bool} {f:Option Addr} {H I:Nat} {j:Bool} {g:Option Addr} {k l:Nat} {m:Bool} {i:Option Addr} {o r:Nat} {p q n J lq L M:Int} (h:WK w (.agg #[.bool s,.slice a t c4,.bool u,.slice b v c5,.bool x,.slice c y z,.bool A,.slice d B C,.bool D,.slice e E F,.bool G,.slice f H I,.bool j,.slice g k l,.bool m,.slice i o r]) p q n J lq L M):RR w (.agg #[.bool s,.slice a t c4,.bool u,.slice b v c5,.bool x,.slice c y z,.bool A,.slice d B C]) p q n∧WN w (.agg #[.bool D,.slice e E F]) J∧WN w (.agg #[.bool G,.slice f H I]) lq:=by
 obtain⟨_,_,_,_,_,_,_,_,_,_,_,_,_,_,_,_,_,_,_,_,_,_,_,_,_,_,_,_,_,_,_,_,K,N,O,P,Q,R,S,_,_⟩:=h;simp only[Value.agg.injEq,Array.mk.injEq,List.cons.injEq,Value.bool.injEq,Value.slice.injEq] at K;obtain⟨rfl,⟨rfl,rfl,rfl⟩,rfl,⟨rfl,rfl,rfl⟩,rfl,⟨rfl,rfl,rfl⟩,rfl,⟨rfl,rfl,rfl⟩,rfl,⟨rfl,rfl,rfl⟩,rfl,⟨rfl,rfl,rfl⟩,_⟩:=K;exact⟨⟨_,_,_,_,_,_,_,_,_,_,_,_,_,_,_,_,rfl,N,O,P,Q⟩,R,S⟩
end
section
open Go.RowKit
def alt (k:Nat):Int:=if k % 2=0 then 1 else -1
theorem alt_succ (k:Nat):alt (k+1) = - alt k:=by
 unfold alt;by_cases h:k % 2=0
 ·rw[if_neg (by omega),if_pos h]
 ·rw[if_pos (by omega),if_neg h];rfl
theorem cv_det (p q n:Int):∀ k,(cv p q n k).lp*(cv p q n k).aq - (cv p q n k).ap*(cv p q n k).lq=alt k
 | 0=>by simp[cv,alt]
 | k+1=>by
  have a:=cv_det p q n k;rw[alt_succ,← a];simp only[cv]
  grind
theorem step_id {p q n P Q t b lq d a c e:Int} (f:Q≠0) (h:c=t*Q - P) (i:Q*e=n - c*c) (j:q*b - p*lq=lq*P+a*Q) (k:P*(q*b - p*lq)+Q*(q*d - p*a)=n*lq) :
  q*(t*b+d) - p*(t*lq+a)=(t*lq+a)*c+lq*e∧c*(q*(t*b+d) - p*(t*lq+a))+e*(q*b - p*lq)=n*(t*lq+a):=by
 have g:q*(t*b+d) - p*(t*lq+a)=(t*lq+a)*c+lq*e:=by
  refine Int.eq_of_mul_eq_mul_left f ?_
  grind
 refine⟨g,?_⟩;refine Int.eq_of_mul_eq_mul_left f ?_
 grind
def Stp (p q n:Int) (k:Nat):Prop:=∀ j,j<k→(rst p q n j).2≠0∧(rst p q n j).2*(rst p q n (j+1)).2=n - (rst p q n (j+1)).1*(rst p q n (j+1)).1
theorem stp_rl {g p q n:Int} {a:Qn} (h:Rl g p q n a) (k:Nat) (b:∀ j,j<k→(rst p q n j).2≠0):Stp p q n k:=fun j c =>
 ⟨b j c,nxq_mul (rl_num h j (fun i d=>b i (by omega)))⟩
theorem cv_id {p q n:Int}:∀ k,Stp p q n k →
  q*(cv p q n k).lp - p*(cv p q n k).lq=(cv p q n k).lq*(rst p q n k).1+(cv p q n k).aq*(rst p q n k).2 ∧
  (rst p q n k).1*(q*(cv p q n k).lp - p*(cv p q n k).lq)+(rst p q n k).2*(q*(cv p q n k).ap - p*(cv p q n k).aq)=n*(cv p q n k).lq
 | 0,_=>by simp[cv,rst];grind
 | k+1,hk=>by
  obtain⟨a,b⟩:=cv_id k (fun j c=>hk j (by omega));exact step_id (t:=tm p q n k) (hk k (by omega)).1 rfl (hk k (by omega)).2 a b
theorem cv_norm {p q n:Int} (k:Nat) (a:Stp p q n k) :
  (q*(cv p q n k).lp - p*(cv p q n k).lq)*(q*(cv p q n k).lp - p*(cv p q n k).lq) - n*((cv p q n k).lq*(cv p q n k).lq)=alt k*q*(rst p q n k).2:=by
 obtain⟨b,c⟩:=cv_id k a;rw[← cv_det p q n k];generalize (cv p q n k).lp=d at *;generalize (cv p q n k).lq=lq at *;generalize (cv p q n k).ap=e at *;generalize (cv p q n k).aq=f at *
 grind
end
section
open Go.RowKit
theorem fl_one_pos {x y:Int} (h:0<y) (a:y≤x):1≤fl x y:=by
 unfold fl;rw[if_pos h];exact(Int.le_ediv_iff_mul_le h).2 (by omega)
theorem fl_one_neg {x y:Int} (h:y<0) (a:x≤y):1≤fl x y:=by
 unfold fl;rw[if_neg (by omega)];exact(Int.le_ediv_iff_mul_le (by omega)).2 (by omega)
theorem nx_core {q n m a b:Int} (o:m*m≤n) (p:n<(m+1)*(m+1)) (i:0≤m) (r:q*b=n - a*a) (j:b≠0)
 (e:(0<q∧m - q<a∧a≤m)∨(q<0∧m+1≤a∧a<m+1 - q)∨(q<0∧n=0∧m≤a∧a<m - q)) :
 (0<b∧b≤a+m)∨(b<0∧a+m+1≤b):=by
 rcases e with ⟨d,c1,c2⟩|⟨d,c1,c2⟩|⟨d,c3,c1,c2⟩
 ·by_cases hp:-m≤a
  ·have h:0≤(m - a)*(m+a):=Int.mul_nonneg (by omega) (by omega);have f:0≤q*b:=by grind
   have c:0<b:=by
    refine Int.not_le.1 fun k=>?_;have:=Int.mul_neg_of_pos_of_neg d (show b<0 by omega);omega
   refine Or.inl ⟨c,Int.not_lt.1 fun e=>?_⟩;have g:(m+1 - a)*(m+1+a)≤q*b:=Int.mul_le_mul (by omega) (by omega) (by omega) (by omega)
   grind
  ·have h:0≤(-a - m - 1)*(m+1 - a):=Int.mul_nonneg (by omega) (by omega);have f:q*b<0:=by grind
   have c:b<0:=by
    refine Int.not_le.1 fun k=>?_;have:=Int.mul_nonneg (Int.le_of_lt d) k;omega
   refine Or.inr ⟨c,Int.not_lt.1 fun e=>?_⟩;have g:(m+1 - a)*(-a - m)≤q*(-b):=Int.mul_le_mul (by omega) (by omega) (by omega) (by omega)
   grind
 ·have h:0≤(a - m - 1)*(a+m+1):=Int.mul_nonneg (by omega) (by omega);have f:q*b<0:=by grind
  have c:0<b:=by
   refine Int.not_le.1 fun k=>?_;have:=Int.mul_nonneg_of_nonpos_of_nonpos (Int.le_of_lt d) k;omega
  refine Or.inl ⟨c,Int.not_lt.1 fun e=>?_⟩;have g:(a - m)*(a+m+1)≤(-q)*b:=Int.mul_le_mul (by omega) (by omega) (by omega) (by omega)
  grind
 ·subst c3;have l:m=0:=by
   by_cases k:0<m
   ·have:=Int.mul_pos k k;omega
   ·omega
  subst l;have f:q*b≤0:=by
   have:=Int.mul_nonneg c1 c1;omega
  have c:0<b:=by
   refine Int.not_le.1 fun k=>?_;have:=Int.mul_pos_of_neg_of_neg d (show b<0 by omega);omega
  refine Or.inl ⟨c,Int.not_lt.1 fun e=>?_⟩;have g:a*(a+1)≤(-q)*b:=Int.mul_le_mul (by omega) (by omega) (by omega) (by omega);have s:(a+1)*(a+1)≤(-q)*b:=Int.mul_le_mul (by omega) (by omega) (by omega) (by omega)
  grind
theorem trm_one {p q n:Int} (b:0≤n) (l:q≠0) (e:q*nxq p q n=n - nxp p q n*nxp p q n) (a:nxq p q n≠0):1≤trm (nxp p q n) (nxq p q n) n:=by
 obtain⟨f,g⟩:=isq_int b;obtain⟨h,i,j⟩:=nxp_at (p:=p) (q:=q) (n:=n);have k:=nx_core f g (by omega) e a (by
  by_cases c:0<q
  ·exact Or.inl ⟨c,h c⟩
  ·by_cases d:0<n
   ·exact Or.inr (Or.inl ⟨by omega,i (by omega) d⟩)
   ·exact Or.inr (Or.inr ⟨by omega,by omega,j (by omega) d⟩))
 generalize nxp p q n=m at *;generalize nxq p q n=o at *;unfold trm;rcases k with ⟨c1,c2⟩|⟨c1,c2⟩
 ·exact fl_one_pos c1 (by rw[if_neg (by omega)];omega)
 ·refine fl_one_neg c1 ?_
  split <;> omega
theorem tm_one {g p q n:Int} {a:Qn} (h:Rl g p q n a) (i:Nat) (b:∀ j,j≤i+1→(rst p q n j).2≠0):1≤tm p q n (i+1) :=
 trm_one h.nn (b i (by omega)) (nxq_mul (rl_num h i (fun j c=>b j (by omega)))) (b (i+1) (by omega))
end
section
open Go.RowKit
theorem sf4 {E t:TypeId} {w:World} {A:Nat} {cs:Array Value} (b d e f:Value) (h:Blk w A cs t) (a:t≠E):Sf E w ((((w.setCell ⟨A,0,none⟩ b).setCell ⟨A,1,none⟩ d).setCell ⟨A,2,none⟩ e).setCell ⟨A,3,none⟩ f) :=
 (Sf.set (t:=t) (c:=A) (o:=3) (y:=f) (Sf.set (t:=t) (c:=A) (o:=2) (y:=e) (Sf.set (t:=t) (c:=A) (o:=1) (y:=d) (Sf.set (t:=t) (c:=A) (o:=0) (y:=b) (Sf.refl E w) h.elem a) (by simp only[elemOf_setCell];exact h.elem) a) (by simp only[elemOf_setCell];exact h.elem) a) (by simp only[elemOf_setCell];exact h.elem) a)
theorem kp4 {a w:World} {A:Nat} (c d e f:Value) (h:Kp a w) (b:a.heap.size≤A):Kp a ((((w.setCell ⟨A,0,none⟩ c).setCell ⟨A,1,none⟩ d).setCell ⟨A,2,none⟩ e).setCell ⟨A,3,none⟩ f) :=
 (Below.setCell (Below.setCell (Below.setCell (Below.setCell h (p:=⟨A,0,none⟩) b c) (p:=⟨A,1,none⟩) b d) (p:=⟨A,2,none⟩) b e) (p:=⟨A,3,none⟩) b f)
theorem ot4 {w:World} {A b:Nat} {cs:Array Value} {t:TypeId} (d e f g:Value) (h:Blk w b cs t) (a:b≠A):Blk ((((w.setCell ⟨A,0,none⟩ d).setCell ⟨A,1,none⟩ e).setCell ⟨A,2,none⟩ f).setCell ⟨A,3,none⟩ g) b cs t :=
 (Blk.other (c:=A) (o:=3) (y:=g) (Blk.other (c:=A) (o:=2) (y:=f) (Blk.other (c:=A) (o:=1) (y:=e) (Blk.other (c:=A) (o:=0) (y:=d) h a) a) a) a)
theorem bl4 {w:World} {A:Nat} {t:TypeId} {f g i j:Value} (a b c d:Value) (h:Blk w A #[f,g,i,j] t):Blk ((((w.setCell ⟨A,0,none⟩ a).setCell ⟨A,1,none⟩ b).setCell ⟨A,2,none⟩ c).setCell ⟨A,3,none⟩ d) A #[a,b,c,d] t:=by
 have e:=(Blk.set (o:=3) (y:=d) (Blk.set (o:=2) (y:=c) (Blk.set (o:=1) (y:=b) (Blk.set (o:=0) (y:=a) h))));simp only[List.setIfInBounds_toArray,List.set_cons_zero,List.set_cons_succ] at e;exact e
end
section
open Go.RowKit
theorem quotient_any (p q:Int) (m:Nat) (u v:Value) (w:World) (n:WN w u p) (o:WN w v q) (U:m≤150000000) (V:Ft m p) (W:Ft m q):Calls Tryz.prog 79 #[u,v] w (RetX w (qreduce p 0 q 1)):=by
 obtain⟨r,f,s,c1,rfl⟩:=n.shape';obtain⟨t,i,x,c2,rfl⟩:=o.shape';have g:Kp w (((w.alloc (.cells #[.bool r,.slice f s c1] 38)).alloc (.cells #[.bool t,.slice i x c2] 38)).alloc (.cells #[.bool false,.slice none 0 0,.bool false,.slice none 0 0,.bool false,.slice none 0 0,.int .i64 0] 40)):=(Kp.alloc' (Kp.alloc' (kp_alloc w _) _) _);have y:Blk (((w.alloc (.cells #[.bool r,.slice f s c1] 38)).alloc (.cells #[.bool t,.slice i x c2] 38)).alloc (.cells #[.bool false,.slice none 0 0,.bool false,.slice none 0 0,.bool false,.slice none 0 0,.int .i64 0] 40)) (w.heap.size) #[.bool r,.slice f s c1] 38:=(Blk.alloc (Blk.alloc (Blk.new w _ _) _) _);have z:Blk (((w.alloc (.cells #[.bool r,.slice f s c1] 38)).alloc (.cells #[.bool t,.slice i x c2] 38)).alloc (.cells #[.bool false,.slice none 0 0,.bool false,.slice none 0 0,.bool false,.slice none 0 0,.int .i64 0] 40)) (w.heap.size+1) #[.bool t,.slice i x c2] 38:=(Blk.alloc (Blk.at (Blk.new (w.alloc (.cells #[.bool r,.slice f s c1] 38)) _ _) (by simp)) _);have k:Blk (((w.alloc (.cells #[.bool r,.slice f s c1] 38)).alloc (.cells #[.bool t,.slice i x c2] 38)).alloc (.cells #[.bool false,.slice none 0 0,.bool false,.slice none 0 0,.bool false,.slice none 0 0,.int .i64 0] 40)) (w.heap.size+1+1) #[.bool false,.slice none 0 0,.bool false,.slice none 0 0,.bool false,.slice none 0 0,.int .i64 0] 40:=(Blk.at (Blk.new ((w.alloc (.cells #[.bool r,.slice f s c1] 38)).alloc (.cells #[.bool t,.slice i x c2] 38)) _ _) (by simp));replace n:=n.keep g;replace o:=o.keep g
 go_enter Tryz.func79,Tryz.ntmps79
 go_wp2_with fail
 generalize (((w.alloc (.cells #[.bool r,.slice f s c1] 38)).alloc (.cells #[.bool t,.slice i x c2] 38)).alloc (.cells #[.bool false,.slice none 0 0,.bool false,.slice none 0 0,.bool false,.slice none 0 0,.int .i64 0] 40))=x0 at *;refine(fromInt_any 0 _ (by decide) (by decide)).mono ?_;rintro e c ⟨v3,rfl,F,h⟩;obtain⟨G,l,H,c3,rfl⟩:=F.shape';have j:Kp c (c.alloc (.cells #[.bool G,.slice l H c3] 38)):=kp_alloc c _;have b:=h.trans' j;have J:=(y.keep h).lt;have K:=(z.keep h).lt;have L:=(k.keep h).lt;replace y:=y.keep b;replace z:=z.keep b;replace k:=k.keep b;replace n:=n.keep b;replace o:=o.keep b;replace g:=g.trans' b;replace F:=F.keep j;have I:Blk (c.alloc (.cells #[.bool G,.slice l H c3] 38)) c.heap.size #[.bool G,.slice l H c3] 38:=Blk.new c _ _;have X:w.heap.size≤c.heap.size:=by have:=(g.size);simp only[World.size_alloc] at this;omega
 clear h j b;have Y:=y.cell;have Z:=y.lt;have qc:=z.cell;have ql:=z.lt;have zc:=I.cell;have zl:=I.lt
 go_wp2_with fail
 generalize (c.alloc (.cells #[.bool G,.slice l H c3] 38))=aa at *;generalize c.heap.size=Az at *;refine(reduce_any p 0 q 1 m _ _ _ _ n F o U V (Ft.zero _) W).mono ?_;rintro e ac ⟨v4,rfl,T,a⟩;obtain⟨M,B,N,c4,O,C,P,c5,Q,D,R,S,rfl,_,_,_⟩:=id T;clear Y qc zc Z ql zl;replace y:=y.keep a;replace z:=z.keep a;replace k:=k.keep a;replace I:=I.keep a;replace n:=n.keep a;replace o:=o.keep a;replace F:=F.keep a;replace g:=g.trans' a;clear a;have rc:=k.cell;have rl:=k.lt;have rf:=k.frozen
 go_wp2_with fail
 refine bodyPost_ret (v:=.agg #[.bool M,.slice B N c4,.bool O,.slice C P c5,.bool Q,.slice D R S,.int .i64 (qreduce p 0 q 1).d]) (by simp[results,Tryz.results79,go_sem,rc]) rfl ?_;exact⟨_,rfl,T.soft (sf7 (E:=2) (.bool M) (.slice B N c4) (.bool O) (.slice C P c5) (.bool Q) (.slice D R S) (.int .i64 (qreduce p 0 q 1).d) k (by decide)),kp7 (A:=w.heap.size+1+1) (.bool M) (.slice B N c4) (.bool O) (.slice C P c5) (.bool Q) (.slice D R S) (.int .i64 (qreduce p 0 q 1).d) g (by omega)⟩
theorem otherSide_any (p q n lp lq ap D N:Int) (M:Nat) (u v:Value) (w:World) (hv:WK w u p q n lp lq ap D) (hm:WN w v N) (hM:M≤100000000) (f1:Ft M lp) (f2:Ft M lq) (f3:Ft M ap) (f4:Ft M D) (fN:Ft M N) (aj:lq≠0) :
 Calls Tryz.prog 53 #[u,v] w (RetFR w (fl (N - D) lq*lp+ap) (fl (N - D) lq*lq+D)):=by
 have ai:Ft (M+1) (N - D):=by rw[Int.sub_eq_add_neg];exact Ft.add fN f4.neg
 have ak:Ft (M+1) (fl (N - D) lq):=ai.le (fl_abs _ _);have hW:=Hid.mk hv;obtain⟨U,i,V,c1,W,j,X,c2,Y,k,Z,c3,b4,l,n4,c4,b5,m,n5,c5,b6,o,n6,c6,b7,r,n7,c7,b8,s,n8,c8,rfl,_,_,_,_,_,h6,_,h8⟩:=id hv;obtain⟨b9,x,n9,c9,rfl⟩:=hm.shape';clear hv;have a:Kp w (((w.alloc (.cells #[.bool U,.slice i V c1,.bool W,.slice j X c2,.bool Y,.slice k Z c3,.bool b4,.slice l n4 c4,.bool b5,.slice m n5 c5,.bool b6,.slice o n6 c6,.bool b7,.slice r n7 c7,.bool b8,.slice s n8 c8] 91)).alloc (.cells #[.bool b9,.slice x n9 c9] 38)).alloc (.cells #[.bool false,.slice none 0 0,.bool false,.slice none 0 0] 62)):=(Kp.alloc' (Kp.alloc' (kp_alloc w _) _) _);have y:Blk (((w.alloc (.cells #[.bool U,.slice i V c1,.bool W,.slice j X c2,.bool Y,.slice k Z c3,.bool b4,.slice l n4 c4,.bool b5,.slice m n5 c5,.bool b6,.slice o n6 c6,.bool b7,.slice r n7 c7,.bool b8,.slice s n8 c8] 91)).alloc (.cells #[.bool b9,.slice x n9 c9] 38)).alloc (.cells #[.bool false,.slice none 0 0,.bool false,.slice none 0 0] 62)) (w.heap.size) #[.bool U,.slice i V c1,.bool W,.slice j X c2,.bool Y,.slice k Z c3,.bool b4,.slice l n4 c4,.bool b5,.slice m n5 c5,.bool b6,.slice o n6 c6,.bool b7,.slice r n7 c7,.bool b8,.slice s n8 c8] 91:=(Blk.alloc (Blk.alloc (Blk.new w _ _) _) _);have J:Blk (((w.alloc (.cells #[.bool U,.slice i V c1,.bool W,.slice j X c2,.bool Y,.slice k Z c3,.bool b4,.slice l n4 c4,.bool b5,.slice m n5 c5,.bool b6,.slice o n6 c6,.bool b7,.slice r n7 c7,.bool b8,.slice s n8 c8] 91)).alloc (.cells #[.bool b9,.slice x n9 c9] 38)).alloc (.cells #[.bool false,.slice none 0 0,.bool false,.slice none 0 0] 62)) (w.heap.size+1) #[.bool b9,.slice x n9 c9] 38:=(Blk.alloc (Blk.at (Blk.new (w.alloc (.cells #[.bool U,.slice i V c1,.bool W,.slice j X c2,.bool Y,.slice k Z c3,.bool b4,.slice l n4 c4,.bool b5,.slice m n5 c5,.bool b6,.slice o n6 c6,.bool b7,.slice r n7 c7,.bool b8,.slice s n8 c8] 91)) _ _) (by simp)) _)
 have C:Blk (((w.alloc (.cells #[.bool U,.slice i V c1,.bool W,.slice j X c2,.bool Y,.slice k Z c3,.bool b4,.slice l n4 c4,.bool b5,.slice m n5 c5,.bool b6,.slice o n6 c6,.bool b7,.slice r n7 c7,.bool b8,.slice s n8 c8] 91)).alloc (.cells #[.bool b9,.slice x n9 c9] 38)).alloc (.cells #[.bool false,.slice none 0 0,.bool false,.slice none 0 0] 62)) (w.heap.size+1+1) #[.bool false,.slice none 0 0,.bool false,.slice none 0 0] 62:=(Blk.at (Blk.new ((w.alloc (.cells #[.bool U,.slice i V c1,.bool W,.slice j X c2,.bool Y,.slice k Z c3,.bool b4,.slice l n4 c4,.bool b5,.slice m n5 c5,.bool b6,.slice o n6 c6,.bool b7,.slice r n7 c7,.bool b8,.slice s n8 c8] 91)).alloc (.cells #[.bool b9,.slice x n9 c9] 38)) _ _) (by simp));replace h6:=h6.keep a;replace h8:=h8.keep a;replace hm:=hm.keep a
 go_enter Tryz.func53,Tryz.ntmps53
 replace hW:=Hid.mk (hW.out.keep a);have mc:=J.cell;have ml:=J.lt;have ac:=y.cell;have al:=y.lt
 go_wp2_with fail
 generalize (((w.alloc (.cells #[.bool U,.slice i V c1,.bool W,.slice j X c2,.bool Y,.slice k Z c3,.bool b4,.slice l n4 c4,.bool b5,.slice m n5 c5,.bool b6,.slice o n6 c6,.bool b7,.slice r n7 c7,.bool b8,.slice s n8 c8] 91)).alloc (.cells #[.bool b9,.slice x n9 c9] 38)).alloc (.cells #[.bool false,.slice none 0 0,.bool false,.slice none 0 0] 62))=x0 at *;refine(wsub_any N D _ _ _ hm h8 (fN.fit (by omega)) (f4.fit (by omega))).mono ?_;rintro e g ⟨ax,rfl,K,t⟩;obtain⟨L,z,O,P,rfl⟩:=K.shape';clear mc ac ml al;have F:Kp g (g.alloc (.cells #[.bool L,.slice z O P] 38)):=kp_alloc g _;have b:=t.trans' F;have am:=(y.keep t).lt;have an:=(J.keep t).lt;have ao:=(C.keep t).lt;replace y:=y.keep b;replace J:=J.keep b;replace C:=C.keep b;replace h6:=h6.keep b;replace a:=a.trans' b;replace K:=K.keep F;have Bo:Blk (g.alloc (.cells #[.bool L,.slice z O P] 38)) g.heap.size #[.bool L,.slice z O P] 38:=Blk.new g _ _;have ay:w.heap.size≤g.heap.size:=by have:=(a.size);simp only[World.size_alloc] at this;omega
 replace hW:=Hid.mk (hW.out.keep b);clear t F b;have oc:=Bo.cell;have ol:=Bo.lt;have ac:=y.cell;have al:=y.lt
 go_wp2_with fail
 generalize (g.alloc (.cells #[.bool L,.slice z O P] 38))=az at *;generalize g.heap.size=Ao at *;refine(floor_any (N - D) lq (M+1) _ _ _ K h6 (by omega) ai (f2.mono (by omega)) aj).mono ?_;rintro e h ⟨aA,rfl,Q,f⟩;obtain⟨R,B,S,T,rfl⟩:=Q.shape';clear oc ac ol al;have G:Kp h (h.alloc (.cells #[.bool R,.slice B S T] 38)):=kp_alloc h _;have c:=f.trans' G;have ar:=(y.keep f).lt;have au:=(J.keep f).lt;have av:=(C.keep f).lt;have aw:=(Bo.keep f).lt;replace y:=y.keep c;replace J:=J.keep c;replace C:=C.keep c;replace Bo:=Bo.keep c;replace a:=a.trans' c;replace Q:=Q.keep G;have Bt:Blk (h.alloc (.cells #[.bool R,.slice B S T] 38)) h.heap.size #[.bool R,.slice B S T] 38:=Blk.new h _ _;have aB:w.heap.size≤h.heap.size:=by have:=(a.size);simp only[World.size_alloc] at this;omega
 replace hW:=Hid.mk (hW.out.keep c);clear f G c;have ac:=y.cell;have al:=y.lt;have tc:=Bt.cell;have tl:=Bt.lt
 go_wp2_with fail
 generalize (h.alloc (.cells #[.bool R,.slice B S T] 38))=aC at *;generalize h.heap.size=At at *;refine(with_any p q n lp lq ap D (fl (N - D) lq) (M+1) M _ _ _ hW.out Q (by omega) f1 f2 f3 f4 ak).mono ?_;rintro e aD ⟨aE,rfl,hF,d⟩;obtain⟨aa,H,ad,ae,af,I,ag,ah,rfl,_,_⟩:=id hF;clear ac tc al tl;replace y:=y.keep d;replace J:=J.keep d;replace C:=C.keep d;replace Bo:=Bo.keep d;replace Bt:=Bt.keep d;replace a:=a.trans' d;clear d;have rc:=C.cell;have rl:=C.lt;have rf:=C.frozen
 go_wp2_with fail
 refine bodyPost_ret (v:=.agg #[.bool aa,.slice H ad ae,.bool af,.slice I ag ah]) (by simp[results,Tryz.results53,go_sem,rc]) rfl ?_;exact⟨_,rfl,hF.soft (sf4 (E:=2) (.bool aa) (.slice H ad ae) (.bool af) (.slice I ag ah) C (by decide)),kp4 (A:=w.heap.size+1+1) (.bool aa) (.slice H ad ae) (.bool af) (.slice I ag ah) a (by omega)⟩
end
end Go.Proofs.YtjahbjjekednfaaGreatDoor
