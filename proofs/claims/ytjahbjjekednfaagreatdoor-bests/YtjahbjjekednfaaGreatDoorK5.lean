import Derived.Test.YtjahbjjekednfaaGreatDoorN1
import Derived.Test.YtjahbjjekednfaaGreatDoorO3
namespace Go.Proofs.YtjahbjjekednfaaGreatDoor
section
open Go.RowKit
theorem rsg_a {X Y d:Int} (a:X<0) (e:0≤Y) (h:Y*Y*d<X*X):rsg X Y d = -1:=by
 have b:X.sign = -1:=Int.sign_eq_neg_one_of_neg a;have s3:(X*X - Y*Y*d).sign=1:=Int.sign_eq_one_of_pos (by omega);unfold rsg rsS;rw[b,s3];by_cases c:Y=0
 ·subst c;rfl
 ·rw[Int.sign_eq_one_of_pos (show 0<Y by omega)];rfl
theorem rsg_b {X Y d:Int} (a:0≤Y) (h:X*X<Y*Y*d):rsg X Y d=1:=by
 have b:Y≠0:=fun e=>by
  subst e;have:0≤X*X:=by
   rcases Int.le_total 0 X with k | k
   ·exact Int.mul_nonneg k k
   ·exact Int.mul_nonneg_of_nonpos_of_nonpos k k
  omega
 have s2:Y.sign=1:=Int.sign_eq_one_of_pos (by omega);have s3:(X*X - Y*Y*d).sign = -1:=Int.sign_eq_neg_one_of_neg (by omega);unfold rsg rsS;rw[s2,s3];rcases Int.lt_trichotomy X 0 with k | k | k
 ·rw[Int.sign_eq_neg_one_of_neg k];rfl
 ·subst k;rfl
 ·rw[Int.sign_eq_one_of_pos k];rfl
theorem rsg_c {X Y d:Int} (a:0<X) (c:0≤Y):rsg X Y d=1:=by
 unfold rsg rsS;rw[Int.sign_eq_one_of_pos a];by_cases b:Y=0
 ·subst b;rfl
 ·rw[Int.sign_eq_one_of_pos (show 0<Y by omega)];rfl
theorem sgn_core {q n u lq P Q a e m g d:Int} (y:1≤lq) (ha:0≤a) (f:q≠0) (h:0≤g) (i:n=g*g*d) (j:0≤m) (l:m*m≤n) (o:n<(m+1)*(m+1))
 (p:(0<Q∧Q≤P+m)∨(Q<0∧P+m+1≤Q)) (z:u=lq*P+a*Q) (A:u*u - n*(lq*lq)=e*q*Q) (b:e=1∨e = -1):rsg (-u) (g*lq) d=if 0<q then -e else e:=by
 have c:0≤g*lq:=Int.mul_nonneg h (by omega);have B:g*lq*(g*lq)*d=n*(lq*lq):=by rw[i];grind
 have C:-u*-u=u*u:=by grind
 have D:(m*lq)*(m*lq)≤n*(lq*lq):=by
  have:=Int.mul_le_mul_of_nonneg_right l (Int.mul_nonneg (show 0≤lq by omega) (show 0≤lq by omega))
  grind
 have E:n*(lq*lq)<((m+1)*lq)*((m+1)*lq):=by
  have:=Int.mul_lt_mul_of_pos_right o (Int.mul_pos (show 0<lq by omega) (show 0<lq by omega))
  grind
 rcases p with ⟨c1,c2⟩|⟨c1,c2⟩
 ·have r:lq*Q≤lq*(P+m):=Int.mul_le_mul_of_nonneg_left c2 (by omega);have s:0<lq*Q:=Int.mul_pos (by omega) c1;have t:0≤a*Q:=Int.mul_nonneg ha (by omega);have v:0<u+m*lq:=by grind
  have w:n*(lq*lq)<u*u→0<u:=fun k=>Int.not_le.1 fun F=>by
   have:(-u)*(-u)≤(m*lq)*(m*lq):=Int.mul_le_mul (by omega) (by omega) (by omega) (Int.mul_nonneg j (by omega));omega
  have neg:n*(lq*lq)<u*u→rsg (-u) (g*lq) d = -1:=fun k=>rsg_a (by have:=w k;omega) c (by omega)
  have pos:u*u<n*(lq*lq)→rsg (-u) (g*lq) d=1:=fun k=>rsg_b c (by omega);rcases Int.lt_or_gt_of_ne f with k | k
  ·have:=Int.mul_neg_of_neg_of_pos k c1;rw[if_neg (by omega)];rcases b with rfl | rfl
   ·rw[pos (by grind)]
   ·rw[neg (by grind)]
  ·have:=Int.mul_pos k c1;rw[if_pos k];rcases b with rfl | rfl
   ·rw[neg (by grind)]
   ·rw[pos (by grind)];rfl
 ·have r:lq*(P+m+1)≤lq*Q:=Int.mul_le_mul_of_nonneg_left c2 (by omega);have s:lq*Q<0:=Int.mul_neg_of_pos_of_neg (by omega) c1;have t:a*Q≤0:=Int.mul_nonpos_of_nonneg_of_nonpos ha (by omega);have v:u+(m+1)*lq<0:=by grind
  have x:0≤(m+1)*lq:=Int.mul_nonneg (by omega) (by omega);have G:((m+1)*lq)*((m+1)*lq)≤(-u)*(-u):=Int.mul_le_mul (by omega) (by omega) x (by omega);rw[rsg_c (by omega) c];rcases Int.lt_or_gt_of_ne f with k | k
  ·have:=Int.mul_pos_of_neg_of_neg k c1;rw[if_neg (by omega)];rcases b with rfl | rfl
   ·rfl
   ·exfalso;grind
  ·have:=Int.mul_neg_of_pos_of_neg k c1;rw[if_pos k];rcases b with rfl | rfl
   ·exfalso;grind
   ·rfl
def fb:Nat→Nat
 | 0=>0
 | 1=>1
 | n+2=>fb (n+1)+fb n
theorem nx_hc {p q n:Int} (b:0≤n) (k:q≠0) (e:q*nxq p q n=n - nxp p q n*nxp p q n) (a:nxq p q n≠0) :
 (0<nxq p q n∧nxq p q n≤nxp p q n+(isq n.toNat:Nat))∨(nxq p q n<0∧nxp p q n+(isq n.toNat:Nat)+1≤nxq p q n):=by
 obtain⟨f,g⟩:=isq_int b;obtain⟨h,i,j⟩:=nxp_at (p:=p) (q:=q) (n:=n);exact nx_core f g (by omega) e a (by
  by_cases c:0<q
  ·exact Or.inl ⟨c,h c⟩
  ·by_cases d:0<n
   ·exact Or.inr (Or.inl ⟨by omega,i (by omega) d⟩)
   ·exact Or.inr (Or.inr ⟨by omega,by omega,j (by omega) d⟩))
theorem rst_hc {g p q n:Int} {a:Qn} (h:Rl g p q n a) (k:Nat) (b:∀ j,j≤k+1→(rst p q n j).2≠0) :
 (0<(rst p q n (k+1)).2∧(rst p q n (k+1)).2≤(rst p q n (k+1)).1+(isq n.toNat:Nat))∨((rst p q n (k+1)).2<0∧(rst p q n (k+1)).1+(isq n.toNat:Nat)+1≤(rst p q n (k+1)).2) :=
 nx_hc h.nn (b k (by omega)) (nxq_mul (rl_num h k (fun j c=>b j (by omega)))) (b (k+1) (by omega))
theorem cvq_pos {p q n:Int} {k:Nat} (h:∀ j,j+1<k→1≤tm p q n (j+1)):∀ i,i+1≤k→1≤(cv p q n (i+1)).lq∧0≤(cv p q n i).lq∧(cv p q n (i+1)).aq=(cv p q n i).lq
 | 0,_=>by simp[cv]
 | i+1,hi=>by
  obtain⟨a,b,c⟩:=cvq_pos h i (by omega);have d:1*(cv p q n (i+1)).lq≤tm p q n (i+1)*(cv p q n (i+1)).lq:=Int.mul_le_mul_of_nonneg_right (h i (by omega)) (by omega);refine⟨?_,by omega,rfl⟩;show 1≤tm p q n (i+1)*(cv p q n (i+1)).lq+(cv p q n (i+1)).aq;omega
theorem lq_step {p q n:Int} {k:Nat} (h:∀ j,j+1<k→1≤tm p q n (j+1)) (i:Nat) (a:i+2≤k):(cv p q n (i+1)).lq+(cv p q n i).lq≤(cv p q n (i+2)).lq:=by
 obtain⟨b,c,d⟩:=cvq_pos h i (by omega);have e:1*(cv p q n (i+1)).lq≤tm p q n (i+1)*(cv p q n (i+1)).lq:=Int.mul_le_mul_of_nonneg_right (h i (by omega)) (by omega);show _≤tm p q n (i+1)*(cv p q n (i+1)).lq+(cv p q n (i+1)).aq;omega
theorem rl_tms {g p q n:Int} {a:Qn} (h:Rl g p q n a) {k:Nat} (b:∀ j,j<k→(rst p q n j).2≠0):∀ j,j+1<k→1≤tm p q n (j+1):=fun j c=>tm_one h j (fun i d=>b i (by omega))
theorem alt_two (k:Nat):alt k=1∨alt k = -1:=by
 unfold alt
 split
 ·exact Or.inl rfl
 ·exact Or.inr rfl
theorem cv_side {g p q n:Int} {a:Qn} (h:Rl g p q n a) (k:Nat) (b:∀ j,j≤k+1→(rst p q n j).2≠0) :
 rsg (a.p*(cv p q n (k+1)).lq - (cv p q n (k+1)).lp*a.r) (a.q*(cv p q n (k+1)).lq) a.d=alt k:=by
 have i:=stp_rl h (k+1) (fun j l=>b j (by omega));obtain⟨m,_⟩:=cv_id (k+1) i;have o:=cv_norm (k+1) i;obtain⟨s,x,y⟩:=cvq_pos (k:=k+1) (rl_tms h (fun j l=>b j (by omega))) k (by omega);obtain⟨t,u⟩:=isq_int h.nn;have v:=sgn_core (d:=a.d) s (show 0≤(cv p q n (k+1)).aq by omega) h.q0 h.g0 h.en (by omega) t u (rst_hc h k b) m o (alt_two (k+1));have w:a.q*(cv p q n (k+1)).lq=0∨(a.p*(cv p q n (k+1)).lq - (cv p q n (k+1)).lp*a.r)*(a.p*(cv p q n (k+1)).lq - (cv p q n (k+1)).lp*a.r)≠a.q*(cv p q n (k+1)).lq*(a.q*(cv p q n (k+1)).lq)*a.d:=by
  by_cases hq:a.q=0
  ·exact Or.inl (by rw[hq,Int.zero_mul])
  ·have z:a.d≠1:=fun e=>hq (h.cn.ok.q.2 e);have A:=h.cn.ok.d0;exact Or.inr (irr h.cn.ok.f (by omega) (Int.mul_ne_zero hq (by omega)))
 have hF:=rsg_flip h.q0 w;have B:=h.ex;have C:=h.ey;rw[show q*(a.p*(cv p q n (k+1)).lq - (cv p q n (k+1)).lp*a.r)=a.r*-(q*(cv p q n (k+1)).lp - p*(cv p q n (k+1)).lq) by grind,show q*(a.q*(cv p q n (k+1)).lq)=a.r*(g*(cv p q n (k+1)).lq) by grind,rsg_scale _ _ _ _ h.cn.ok.r,v,alt_succ] at hF;by_cases c:0<q
 ·rw[if_pos c,if_pos c] at hF;omega
 ·rw[if_neg c,if_neg c] at hF;omega
theorem rl_rat {g p q n:Int} {a:Qn} (h:Rl g p q n a) (ha:a.q=0):g=0∧n=0:=by
 have b:=h.ey;have d:=h.cn.ok.r;rw[ha,Int.zero_mul] at b;have c:g=0:=by
  rcases Int.mul_eq_zero.1 b.symm with k | k
  ·exact k
  ·omega
 refine⟨c,?_⟩;rw[h.en,c,Int.zero_mul,Int.zero_mul]
theorem cv_end {g p q n:Int} {a:Qn} (h:Rl g p q n a) (k:Nat) (b:∀ j,j≤k→(rst p q n j).2≠0) (c:(rst p q n (k+1)).2=0):a.q=0∧a.p*(cv p q n (k+1)).lq=(cv p q n (k+1)).lp*a.r:=by
 have d:=rl_num h k b;have l:=((nxq_zero d).1 c).2;obtain⟨m,n0⟩:=rl_rat d l;have e:=h.q0;have ha:a.q=0:=by
  have f:=h.ey;rw[m,Int.zero_mul] at f;rcases Int.mul_eq_zero.1 f with k | k
  ·exact k
  ·exact absurd k e
 refine⟨ha,?_⟩;have i:=cv_norm (k+1) (stp_rl h (k+1) (fun j o=>b j (by omega)));rw[c,Int.mul_zero,n0,Int.zero_mul,Int.sub_zero] at i;have s:q*(cv p q 0 (k+1)).lp - p*(cv p q 0 (k+1)).lq=0:=by
  rcases Int.mul_eq_zero.1 i with k | k <;> exact k
 rw[n0];have t:=h.ex;refine Int.eq_of_mul_eq_mul_right e ?_
 grind
def fr (P Q:Int):Qn:=⟨P,0,Q,1⟩
theorem fr_cn {P Q R S e:Int} (g:1≤Q) (b:e=1∨e = -1) (h:P*S - R*Q=e):Cn (fr P Q):=by
 refine⟨⟨by show 0<Q;omega,show (1:Int)≤1 by decide,show (1:Int)<1000000 by decide,⟨fun _=>rfl,fun _=>rfl⟩,sqfree_one⟩,?_⟩
 show Int.gcd (Int.gcd Q P) 0=1
 rw[Int.gcd_zero_right];have c:(Int.gcd Q P:Int)∣Q:=Int.gcd_dvd_left ..;have d:(Int.gcd Q P:Int)∣P:=Int.gcd_dvd_right ..;have f:(Int.gcd Q P:Int)∣1:=by
  have a:(Int.gcd Q P:Int)∣e:=by
   rw[← h];exact Int.dvd_sub (Int.dvd_mul_of_dvd_left d) (Int.dvd_mul_of_dvd_right c)
  rcases b with rfl | rfl
  ·exact a
  ·exact(Int.dvd_neg).1 a
 have i:=Int.eq_one_of_dvd_one (by omega) f;omega
theorem cv_cn {g p q n:Int} {a:Qn} (h:Rl g p q n a) (k:Nat) (b:∀ j,j<k+1→(rst p q n j).2≠0):Cn (fr (cv p q n (k+1)).lp (cv p q n (k+1)).lq) :=
 fr_cn (cvq_pos (k:=k+1) (rl_tms h b) k (by omega)).1 (alt_two (k+1)) (cv_det p q n (k+1))
theorem fr_eq {a:Qn} {P Q:Int} (h:Cn a) (ha:a.q=0) (c:Cn (fr P Q)) (e:a.p*Q=P*a.r):a=fr P Q:=by
 have k:=h.ok.r;have i:0<Q:=c.ok.r;have f:a.q*(fr P Q).r=(fr P Q).q*a.r:=by
  rw[ha,Int.zero_mul];exact(Int.zero_mul _).symm
 have j:a.r=(fr P Q).r:=Int.dvd_antisymm (by omega) (Int.le_of_lt i) (dvd_of_low h.g e f) (dvd_of_low c.g e.symm f.symm);have b:a.r=Q:=j;have l:a.p=P:=by
  rw[b] at e;exact Int.eq_of_mul_eq_mul_right (by omega) e
 have m:a.d=1:=h.ok.q.1 ha
 cases a
 simp only[fr] at *
 simp_all
end
section
theorem cmp_fr {a:Qn} {P Q:Int} (h:Cn a) (c:Cn (fr P Q)):qcmp a (fr P Q)=rsg (a.p*Q - P*a.r) (a.q*Q) a.d:=by
 have o:=h.ok.r;have t:0<Q:=c.ok.r;have g:=h.ok.d0;have l:a.q*Q=0∨(a.p*Q - P*a.r)*(a.p*Q - P*a.r)≠a.q*Q*(a.q*Q)*a.d:=by
  by_cases hq:a.q=0
  ·exact Or.inl (by rw[hq,Int.zero_mul])
  ·have w:a.d≠1:=fun e=>hq (h.ok.q.2 e);exact Or.inr (irr h.ok.f (by omega) (Int.mul_ne_zero hq (by omega)))
 have x:(a.r:Rat)≠0:=cast_ne (by omega);have y:(Q:Rat)≠0:=cast_ne (by omega);have m:∀ N,xv (a.p*Q - P*a.r) (a.q*Q) a.d N=(a.r:Rat)*Q*(vl a N - vl (fr P Q) N):=fun N=>by
  unfold xv vl rx ry fr;simp only[Rat.intCast_sub,Rat.intCast_mul,Rat.intCast_zero]
  grind
 have v:(0:Rat)<(a.r:Rat)*Q:=Rat.mul_pos (Rat.intCast_pos.2 o) (Rat.intCast_pos.2 t);have e:((a.r:Rat)*Q)⁻¹*((a.r:Rat)*Q)=1:=by grind
 have n:=Rat.inv_pos.2 v;rcases rsg_val (a.p*Q - P*a.r) (a.q*Q) a.d with s | s | s
 ·have b:Lt a (fr P Q):=((rsg_min g l s).scale _ n).congr fun N=>by
   rw[m];generalize ((a.r:Rat)*Q)⁻¹=i at *;generalize (a.r:Rat)*Q=j at *
   grind
  rcases cmp_sem h c with ⟨u,k⟩|⟨u,k⟩|⟨u,k⟩
  ·exact(b.not k).elim
  ·omega
  ·rw[k] at b;exact b.irrefl.elim
 ·obtain⟨z,s2⟩:=rsg_nil s;have ha:a.q=0:=by
   rcases Int.mul_eq_zero.1 s2 with k | k
   ·exact k
   ·omega
  have:=fr_eq h ha c (by omega);rw[s];have A:=cmp_self h
  rwa [← this]
 ·have b:Lt (fr P Q) a:=((rsg_pos g l s).scale _ n).congr fun N=>by
   rw[m];generalize ((a.r:Rat)*Q)⁻¹=i at *;generalize (a.r:Rat)*Q=j at *
   grind
  rcases cmp_sem h c with ⟨u,k⟩|⟨u,k⟩|⟨u,k⟩
  ·omega
  ·exact(b.not k).elim
  ·rw[k] at b;exact b.irrefl.elim
end
end Go.Proofs.YtjahbjjekednfaaGreatDoor
