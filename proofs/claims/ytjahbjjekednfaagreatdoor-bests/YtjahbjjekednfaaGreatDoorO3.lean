import Derived.Test.YtjahbjjekednfaaGreatDoorH1
import Derived.Test.YtjahbjjekednfaaGreatDoorC1
namespace Go.Proofs.YtjahbjjekednfaaGreatDoor
section
theorem abs_le (y:Int):(y:Rat)≤((y.natAbs:Int):Rat)∧-((y.natAbs:Int):Rat)≤(y:Rat)∧(0:Rat)≤((y.natAbs:Int):Rat):=by
 refine⟨Rat.intCast_le_intCast.2 (by omega),?_,Rat.intCast_nonneg.2 (by omega)⟩;rw[← Rat.intCast_neg];exact Rat.intCast_le_intCast.2 (by omega)
theorem xv_bd (x y:Int) {d:Int} (c:1≤d):∃ M,∃ a,∀ N,a≤N→xv x y d N≤M∧- M≤xv x y d N:=by
 obtain⟨a,e⟩:=near c (show (0:Rat)<1 by grind);obtain⟨k,l,m⟩:=abs_le x;obtain⟨f,g,i⟩:=abs_le y;refine⟨((x.natAbs:Int):Rat)+((y.natAbs:Int):Rat)*d,a,fun N h=>?_⟩;obtain⟨b,j,_⟩:=e N h;have n:=mul_le f b;have o:=mul_le g b;have p:=Rat.mul_le_mul_of_nonneg_left j i;unfold xv;exact⟨by grind,by grind⟩
def fv (x y m z n:Int) (N:Nat):Rat:=xv x y m N - (z:Rat)*sg N n
theorem cast_T (x y m z n:Int) (N:Nat):xv ((x*x+(y*y)*m) - (z*z)*n) (2*(x*y)) m N=(x:Rat)*x+(y:Rat)*y*m - (z:Rat)*z*n+2*((x:Rat)*y)*sg N m:=by
 unfold xv;simp only[Rat.intCast_add,Rat.intCast_sub,Rat.intCast_mul]
 grind
theorem r3_pos {x y m z n:Int} (R:SqFree m.toNat) (S:1<m) (n1:1<n) (s:y≠0) (T:z≠0)
  (h:r3 (rsg x y m) z.sign (rsg ((x*x+(y*y)*m) - (z*z)*n) (2*(x*y)) m)=1):EvP (fv x y m z n):=by
 have u:y=0∨x*x≠y*y*m:=Or.inr (irr R S s);have U:2*(x*y)=0∨((x*x+(y*y)*m) - (z*z)*n)*((x*x+(y*y)*m) - (z*z)*n)≠2*(x*y)*(2*(x*y))*m:=by
  by_cases V:2*(x*y)=0
  ·exact Or.inl V
  ·exact Or.inr (irr R S V)
 have v:rsg x y m≠0:=fun e=>s (rsg_nil e).2;have cn:(1:Rat)≤n:=cast_pos (by omega);unfold r3 at h;rcases rsg_val x y m with hs | hs | hs
 ·rcases sign3 z with ⟨t,f⟩|⟨t,f⟩|⟨t,f⟩
  ·rw[hs,t,if_neg (by decide),if_neg (by decide)] at h;have w:rsg ((x*x+(y*y)*m) - (z*z)*n) (2*(x*y)) m = -1:=by omega
   obtain⟨δ,A,B,C⟩:=rsg_min (by omega) U w;obtain⟨δx,D,E,F⟩:=rsg_min (by omega) u hs;obtain⟨M,G,H⟩:=xv_bd x y (d:=m) (by omega);have W:(z:Rat)≤-1:=by
    have:=cast_pos (n:=-z) (by omega);rw[Rat.intCast_neg] at this
    grind
   have I:(0:Rat)<(z:Rat)*z:=by have:=Rat.mul_pos (show (0:Rat) < -z by grind) (show (0:Rat) < -z by grind);grind
   have J:(0:Rat)≤(y:Rat)*y:=by
    have:=cast_nn (sq_nonneg' y)
    rwa [Rat.intCast_mul] at this
   have o:0<δ*(2*((z:Rat)*z))⁻¹:=Rat.mul_pos A (Rat.inv_pos.2 (by grind));obtain⟨j,i⟩:=near (d:=n) (by omega) o;obtain⟨K,k⟩:=near (d:=m) (by omega) o;have e2:(z:Rat)*z*(δ*(2*((z:Rat)*z))⁻¹)=δ*(1 / 2):=by grind
   refine EvP.quot (g:=fun N=>- xv x y m N - (z:Rat)*sg N n) (M:=M - (z:Rat)*n) ?_ ⟨max (max E G) j,fun N p=>?_⟩
   ·refine(EvP.const (c:=δ*(1 / 2)) (by grind)).le ⟨max (max B j) K,fun N p=>?_⟩;have L:δ≤- xv ((x*x+(y*y)*m) - (z*z)*n) (2*(x*y)) m N:=C N (by omega);obtain⟨q,r,X,Y⟩:=i N (by omega);obtain⟨l1,l2,Z,l4⟩:=k N (by omega);rw[cast_T] at L;have l:=Rat.mul_le_mul_of_nonneg_left Y (Rat.le_of_lt I);have O:=Rat.mul_le_mul_of_nonneg_left Z J;have P:(z:Rat)*z*(sg N n*sg N n+δ*(2*((z:Rat)*z))⁻¹)=(z:Rat)*z*(sg N n*sg N n)+δ*(1 / 2):=by grind
    rw[P] at l;have Q:fv x y m z n N*(- xv x y m N - (z:Rat)*sg N n)=(z:Rat)*z*(sg N n*sg N n) - ((x:Rat)*x+2*((x:Rat)*y)*sg N m+(y:Rat)*y*(sg N m*sg N m)):=by unfold fv xv;grind
    show δ*(1 / 2)≤fv x y m z n N*(- xv x y m N - (z:Rat)*sg N n)
    rw[Q]
    grind
   ·have a:δx≤- xv x y m N:=F N (by omega);obtain⟨_,b⟩:=H N (by omega);obtain⟨q,r,_⟩:=i N (by omega);have l:=Rat.mul_nonneg (show (0:Rat)≤-z by grind) q;have O:=Rat.mul_le_mul_of_nonneg_left r (show (0:Rat)≤-z by grind);exact⟨by grind,by grind⟩
  ·exact absurd f T
  ·rw[hs,t,if_neg (by decide),if_pos (by decide)] at h;exact absurd h (by decide)
 ·exact absurd hs v
 ·rcases sign3 z with ⟨t,f⟩|⟨t,f⟩|⟨t,f⟩
  ·have W:(z:Rat)≤-1:=by
    have:=cast_pos (n:=-z) (by omega);rw[Rat.intCast_neg] at this
    grind
   obtain⟨j,i⟩:=near (d:=n) (by omega) (show (0:Rat)<1 by grind);refine(rsg_pos (by omega) u hs).le ⟨j,fun N p=>?_⟩;have l:=Rat.mul_nonneg (show (0:Rat)≤-z by grind) (i N p).1;unfold fv
   grind
  ·exact absurd f T
  ·rw[hs,t,if_neg (by decide),if_neg (by decide)] at h;have w:rsg ((x*x+(y*y)*m) - (z*z)*n) (2*(x*y)) m=1:=by omega
   obtain⟨δ,A,B,C⟩:=rsg_pos (by omega) U w;obtain⟨δx,D,E,F⟩:=rsg_pos (by omega) u hs;obtain⟨M,G,H⟩:=xv_bd x y (d:=m) (by omega);have W:=cast_pos f;have I:(0:Rat)≤(z:Rat)*z:=by have:=Rat.mul_pos (show (0:Rat)<z by grind) (show (0:Rat)<z by grind);grind
   have J:(0:Rat)<(y:Rat)*y:=by
    have h1:0<y*y:=by have:=sq_nonneg' y;have:y*y≠0:=Int.mul_ne_zero s s;omega
    have:=cast_pos h1;rw[Rat.intCast_mul] at this
    grind
   have o:0<δ*(2*((y:Rat)*y))⁻¹:=Rat.mul_pos A (Rat.inv_pos.2 (by grind));obtain⟨j,i⟩:=near (d:=n) (by omega) o;obtain⟨K,k⟩:=near (d:=m) (by omega) o;have e2:(y:Rat)*y*(δ*(2*((y:Rat)*y))⁻¹)=δ*(1 / 2):=by grind
   refine EvP.quot (g:=fun N=>xv x y m N+(z:Rat)*sg N n) (M:=M+(z:Rat)*n) ?_ ⟨max (max E G) j,fun N p=>?_⟩
   ·refine(EvP.const (c:=δ*(1 / 2)) (by grind)).le ⟨max (max B j) K,fun N p=>?_⟩;have L:δ≤xv ((x*x+(y*y)*m) - (z*z)*n) (2*(x*y)) m N:=C N (by omega);obtain⟨q,r,X,Y⟩:=i N (by omega);obtain⟨l1,l2,Z,l4⟩:=k N (by omega);rw[cast_T] at L;have l:=Rat.mul_le_mul_of_nonneg_left l4 (Rat.le_of_lt J);have O:=Rat.mul_le_mul_of_nonneg_left X I;have P:(y:Rat)*y*(sg N m*sg N m+δ*(2*((y:Rat)*y))⁻¹)=(y:Rat)*y*(sg N m*sg N m)+δ*(1 / 2):=by grind
    rw[P] at l;have Q:fv x y m z n N*(xv x y m N+(z:Rat)*sg N n)=((x:Rat)*x+2*((x:Rat)*y)*sg N m+(y:Rat)*y*(sg N m*sg N m)) - (z:Rat)*z*(sg N n*sg N n):=by unfold fv xv;grind
    show δ*(1 / 2)≤fv x y m z n N*(xv x y m N+(z:Rat)*sg N n)
    rw[Q]
    grind
   ·have a:δx≤xv x y m N:=F N (by omega);obtain⟨b,_⟩:=H N (by omega);obtain⟨q,r,_⟩:=i N (by omega);have l:=Rat.mul_nonneg (show (0:Rat)≤z by grind) q;have O:=Rat.mul_le_mul_of_nonneg_left r (show (0:Rat)≤z by grind);exact⟨by grind,by grind⟩
theorem r3_sem {x y m z n:Int} (b:SqFree m.toNat) (j:SqFree n.toNat) (c:1<m) (f:1<n) (a:y≠0) (g:z≠0) (d:m≠n) {o:Int}
  (i:o=r3 (rsg x y m) z.sign (rsg ((x*x+(y*y)*m) - (z*z)*n) (2*(x*y)) m)):(o=1∧EvP (fv x y m z n))∨(o = -1∧EvP (fun N=>- fv x y m z n N)):=by
 have k:y=0∨x*x≠y*y*m:=Or.inr (irr b c a);have l:rsg x y m≠0:=fun e=>a (rsg_nil e).2;have p:rsg ((x*x+(y*y)*m) - (z*z)*n) (2*(x*y)) m≠0:=fun e=>by
  obtain⟨w,q⟩:=rsg_nil e;have r:x=0:=by
   rcases Int.mul_eq_zero.1 q with h | h
   ·omega
   ·rcases Int.mul_eq_zero.1 h with h | h
    ·exact h
    ·exact absurd h a
  subst r;exact irr2 b j (by omega) (by omega) a g d (by omega)
 have s:r3 (rsg (-x) (-y) m) (-z).sign (rsg (((-x)*(-x)+((-y)*(-y))*m) - ((-z)*(-z))*n) (2*((-x)*(-y))) m) = - o:=by
  rw[rsg_neg k,Int.sign_neg,Int.neg_mul_neg,Int.neg_mul_neg,Int.neg_mul_neg,Int.neg_mul_neg,i];generalize rsg ((x*x+(y*y)*m) - (z*z)*n) (2*(x*y)) m=u at *;unfold r3;rcases rsg_val x y m with h | h | h <;> rcases sign3 z with ⟨t,_⟩|⟨t,_⟩|⟨t,_⟩ <;> rw[h,t] <;> simp
 have v:o=1∨o = -1:=by
  rw[i];unfold r3;have:=rsg_val ((x*x+(y*y)*m) - (z*z)*n) (2*(x*y)) m;generalize rsg ((x*x+(y*y)*m) - (z*z)*n) (2*(x*y)) m=u at *;rcases rsg_val x y m with h | h | h <;> rcases sign3 z with ⟨t,_⟩|⟨t,_⟩|⟨t,_⟩ <;> rw[h,t] <;> simp <;> omega
 rcases v with h | h
 ·exact Or.inl ⟨h,r3_pos b c f a g (by omega)⟩
 ·refine Or.inr ⟨h,(r3_pos (x:=-x) (y:=-y) (z:=-z) b c f (by omega) (by omega) (by omega)).congr fun N=>?_⟩;unfold fv xv;simp only[Rat.intCast_neg]
  grind
end
section
theorem vl_in {D:Int} {a:Qn} (h:InF D a) (N:Nat):vl a N=rx a+ry a*sg N D:=by
 unfold vl;rcases h.i with hq | hd
 ·rw[(ry_zero h.cn.ok.r).2 hq]
  grind
 ·rw[hd]
theorem xv_vl {a:Qn} (h:0<a.r) (N:Nat):xv a.p a.q a.d N=(a.r:Rat)*vl a N:=by
 have k:(a.r:Rat)≠0:=cast_ne (by omega);unfold xv vl rx ry
 grind
theorem ev_vl {a:Qn} (h:0<a.r) (k:EvP (xv a.p a.q a.d)):EvP (vl a):=by
 have b:(0:Rat)<(a.r:Rat):=Rat.intCast_pos.2 h;have e:(a.r:Rat)⁻¹*(a.r:Rat)=1:=by grind
 refine(k.scale _ (Rat.inv_pos.2 b)).congr fun N=>?_;rw[xv_vl h];generalize (a.r:Rat)⁻¹=i at *
 grind
theorem ev_nvl {a:Qn} (h:0<a.r) (k:EvP (fun N=>- xv a.p a.q a.d N)):EvP (fun N=>- vl a N):=by
 have b:(0:Rat)<(a.r:Rat):=Rat.intCast_pos.2 h;have e:(a.r:Rat)⁻¹*(a.r:Rat)=1:=by grind
 refine(k.scale _ (Rat.inv_pos.2 b)).congr fun N=>?_;rw[xv_vl h];generalize (a.r:Rat)⁻¹=i at *
 grind
theorem cn_irr {a:Qn} (h:Cn a):a.q=0∨a.p*a.p≠a.q*a.q*a.d:=by
 by_cases hq:a.q=0
 ·exact Or.inl hq
 ·have b:a.d≠1:=fun e=>hq (h.ok.q.2 e);have c:=h.ok.d0;exact Or.inr (irr h.ok.f (by omega) hq)
theorem one_sem {a:Qn} (h:Cn a) {o:Int} (c:o=rsg a.p a.q a.d):(o=1∧EvP (vl a))∨(o = -1∧EvP (fun N=>- vl a N))∨(o=0∧a.p=0∧a.q=0):=by
 have b:=h.ok.d0;rcases rsg_val a.p a.q a.d with e | e | e
 ·exact Or.inr (Or.inl ⟨by omega,ev_nvl h.ok.r (rsg_min b (cn_irr h) e)⟩)
 ·exact Or.inr (Or.inr ⟨by omega,rsg_nil e⟩)
 ·exact Or.inl ⟨by omega,ev_vl h.ok.r (rsg_pos b (cn_irr h) e)⟩
def Lt (a b:Qn):Prop:=EvP (fun N=>vl b N - vl a N)
theorem Lt.trans {a b c:Qn} (h:Lt a b) (k:Lt b c):Lt a c:=(EvP.add h k).congr fun N=>by grind
theorem Lt.not {a b:Qn} (h:Lt a b) (k:Lt b a):False:=EvP.not h (EvP.congr k fun N=>by grind)
theorem Lt.irrefl {a:Qn} (h:Lt a a):False:=h.not h
theorem ord_sem {a b:Qn} (ha:Cn a) (l:Cn b):(rord a b=1∧Lt b a)∨(rord a b = -1∧Lt a b)∨(rord a b=0∧a=b):=by
 have P:=ha.ok.d0;have Q:=l.ok.d0;have F:=ha.ok.r;have G:=l.ok.r;by_cases h:a.d=1∨b.d=1∨a.d=b.d
 ·have H:qroot a.d b.d≠0:=by
   unfold qroot
   split
   ·omega
   ·split <;> omega
  obtain⟨D,u,v⟩:=two_fld ha l H;obtain⟨I,w,A⟩:=f_neg v;obtain⟨g,t,B,C⟩:=f_add u I;have e:(comb 45 a b).1=qaddN a (qneg b):=by
   show (qadd a (qneg b)).1=_
   rw[g]
  have J:rord a b=rsg (qaddN a (qneg b)).p (qaddN a (qneg b)).q (qaddN a (qneg b)).d:=by
   unfold rord;rw[if_pos h,e]
  have s:∀ N,vl (qaddN a (qneg b)) N=vl a N - vl b N:=fun N=>by
   rw[vl_in t,vl_in u,vl_in v,B,C,w,A]
   grind
  rcases one_sem t.cn J with ⟨c,k⟩|⟨c,k⟩|⟨c,k,K⟩
  ·exact Or.inl ⟨c,k.congr s⟩
  ·exact Or.inr (Or.inl ⟨c,k.congr fun N=>by rw[s];grind⟩)
  ·refine Or.inr (Or.inr ⟨c,inf_ext u v ?_ ?_⟩)
   ·have:=(rx_zero t.cn.ok.r).2 k;rw[B,w] at this
    grind
   ·have:=(ry_zero t.cn.ok.r).2 K;rw[C,A] at this
    grind
 ·have L:a.q≠0:=fun e=>h (Or.inl (ha.ok.q.1 e));have M:b.q≠0:=fun e=>h (Or.inr (Or.inl (l.ok.q.1 e)));have s:∀ N,fv (a.p*b.r - b.p*a.r) (a.q*b.r) a.d (b.q*a.r) b.d N=(a.r:Rat)*b.r*(vl a N - vl b N):=fun N=>by
   have R:(a.r:Rat)≠0:=cast_ne (by omega);have S:(b.r:Rat)≠0:=cast_ne (by omega);unfold fv xv vl rx ry;simp only[Rat.intCast_sub,Rat.intCast_mul]
   grind
  have O:(0:Rat)<(a.r:Rat)*b.r:=Rat.mul_pos (Rat.intCast_pos.2 F) (Rat.intCast_pos.2 G);have e:((a.r:Rat)*b.r)⁻¹*((a.r:Rat)*b.r)=1:=by grind
  have E:=Rat.inv_pos.2 O;rcases r3_sem (x:=a.p*b.r - b.p*a.r) (y:=a.q*b.r) (m:=a.d) (z:=b.q*a.r) (n:=b.d) ha.ok.f l.ok.f (by omega) (by omega) (Int.mul_ne_zero L (by omega)) (Int.mul_ne_zero M (by omega)) (by omega) (o:=rord a b) (by unfold rord;rw[if_neg h]) with ⟨c,k⟩|⟨c,k⟩
  ·refine Or.inl ⟨c,(k.scale _ E).congr fun N=>?_⟩;rw[s];generalize ((a.r:Rat)*b.r)⁻¹=i at *;generalize (a.r:Rat)*b.r=j at *
   grind
  ·refine Or.inr (Or.inl ⟨c,(k.scale _ E).congr fun N=>?_⟩);rw[s];generalize ((a.r:Rat)*b.r)⁻¹=i at *;generalize (a.r:Rat)*b.r=j at *
   grind
theorem cmp_sem {a b:Qn} (ha:Cn a) (c:Cn b):(qcmp a b=1∧Lt b a)∨(qcmp a b = -1∧Lt a b)∨(qcmp a b=0∧a=b):=by
 rw[qcmp_rord ha.ok c.ok];exact ord_sem ha c
theorem cmp_flip {a b:Qn} (ha:Cn a) (d:Cn b):qcmp a b = - qcmp b a:=by
 rcases cmp_sem ha d with ⟨h,k⟩|⟨h,k⟩|⟨h,k⟩ <;> rcases cmp_sem d ha with ⟨e,c⟩|⟨e,c⟩|⟨e,c⟩ <;> first | omega | exact(k.not c).elim | (subst k;exact c.irrefl.elim) | (subst c;exact k.irrefl.elim)
theorem cmp_self {a:Qn} (ha:Cn a):qcmp a a=0:=by
 have:=cmp_flip ha ha;omega
end
end Go.Proofs.YtjahbjjekednfaaGreatDoor
