import Derived.Test.YtjahbjjekednfaaGreatDoorC1u
namespace Go.Proofs.YtjahbjjekednfaaGreatDoor
set_option maxHeartbeats 3200000
section
def sos (b other a:Int):Int:=if 0<a then b else if a<0∨b=other then other else 0
def s2 (u v k:Int):Int:=sos u.sign v.sign (u*u - v*v*k).sign
def s3 (x y m z n:Int):Int:=sos x.sign (s2 (y*m) z (m*n)) (s2 (x*x - ((y*m)*y+(z*n)*z)) (-(y*z+y*z)) (m*n))
def r3 (s t u:Int):Int:=if t<s then 1 else if s<t then -1 else s*u
theorem tri {a b c:Int} (ha:0≤a) (d:0≤b) (f:0≤c) (h:0<(a - b - c)*(a - b - c) - 4*(b*c)):b+c<a∨a+c<b∨a+b<c:=by
 by_cases g:b+c<a
 ·exact Or.inl g
 by_cases i:a+c<b
 ·exact Or.inr (Or.inl i)
 by_cases j:a+b<c
 ·exact Or.inr (Or.inr j)
 exfalso
 have e:(a - b - c)*(a - b - c) - 4*(b*c)=a*(a - b - c)+b*(b - a - c)+c*(c - a - b):=by grind
 have k:a*(a - b - c)≤0:=Int.mul_nonpos_of_nonneg_of_nonpos ha (by omega);have l:b*(b - a - c)≤0:=Int.mul_nonpos_of_nonneg_of_nonpos d (by omega);have m:c*(c - a - b)≤0:=Int.mul_nonpos_of_nonneg_of_nonpos f (by omega);omega
theorem both_signs (a j l g i f k m:Int) (n:a = -1∨a=0∨a=1) (d:j = -1∨j=1) (e:l = -1∨l=1) (o:g = -1∨g=0∨g=1) (p:i = -1∨i=0∨i=1)
  (b:k = -1∨k=1) (c:m = -1∨m=1) (q:(f = -1∧a≠0)∨(f=1∧((g=1∧i=1∧k=1∧a≠0)∨(g = -1∧i=1∧k = -1∧m=1)∨(g = -1∧i = -1∧m = -1∧(a=0→k = -1))))) :
  sos a (sos j l m) (sos g (-(j*l)) f)=r3 (rsS a j k) (-l) (rsS i (a*j) f):=by
 rcases q with ⟨rfl,h⟩|⟨rfl,h⟩
 ·rcases n with rfl | rfl | rfl
  ·rcases d with rfl | rfl <;> rcases e with rfl | rfl <;> rcases o with rfl | rfl | rfl <;> rcases p with rfl | rfl | rfl <;> rcases b with rfl | rfl <;> rcases c with rfl | rfl <;> decide
  ·exact absurd rfl h
  ·rcases d with rfl | rfl <;> rcases e with rfl | rfl <;> rcases o with rfl | rfl | rfl <;> rcases p with rfl | rfl | rfl <;> rcases b with rfl | rfl <;> rcases c with rfl | rfl <;> decide
 ·rcases h with ⟨rfl,rfl,rfl,h⟩|⟨rfl,rfl,rfl,rfl⟩|⟨rfl,rfl,rfl,h⟩
  ·rcases n with rfl | rfl | rfl
   ·rcases d with rfl | rfl <;> rcases e with rfl | rfl <;> rcases c with rfl | rfl <;> decide
   ·exact absurd rfl h
   ·rcases d with rfl | rfl <;> rcases e with rfl | rfl <;> rcases c with rfl | rfl <;> decide
  ·rcases n with rfl | rfl | rfl <;> rcases d with rfl | rfl <;> rcases e with rfl | rfl <;> decide
  ·rcases n with rfl | rfl | rfl
   ·rcases d with rfl | rfl <;> rcases e with rfl | rfl <;> rcases b with rfl | rfl <;> decide
   ·have:=h rfl;subst this;rcases d with rfl | rfl <;> rcases e with rfl | rfl <;> decide
   ·rcases d with rfl | rfl <;> rcases e with rfl | rfl <;> rcases b with rfl | rfl <;> decide
theorem irr2 {y z m n:Int} (a:SqFree m.toNat) (b:SqFree n.toNat) (j:1≤m) (k:1≤n) (l:y≠0) (o:z≠0) (c:m≠n):y*y*m≠z*z*n:=by
 intro e;have d:y.natAbs*y.natAbs*m.toNat=z.natAbs*z.natAbs*n.toNat:=by
  have:=congrArg Int.natAbs e;rw[Int.natAbs_mul,Int.natAbs_mul,Int.natAbs_mul,Int.natAbs_mul] at this;have f:m.natAbs=m.toNat:=by omega
  have g:n.natAbs=n.toNat:=by omega
  rwa [f,g] at this
 have h:IsRoot (y.natAbs*y.natAbs*m.toNat) y.natAbs m.toNat:=⟨by omega,by omega,rfl,a⟩;have i:IsRoot (y.natAbs*y.natAbs*m.toNat) z.natAbs n.toNat:=⟨by omega,by omega,d.symm,b⟩;have:=(h.unique i).2;omega
theorem s3_two {x y m z n:Int} (o:SqFree m.toNat) (K:SqFree n.toNat) (C:1<m) (Q:1<n) (p:y≠0) (D:z≠0) (q:m≠n) :
  s3 x y m z n=r3 (rsg x y m) (-z).sign (rsg ((x*x+(y*y)*m) - ((-z)*(-z))*n) (2*(x*y)) m):=by
 have L:=irr2 o K (by omega) (by omega) p D q;have M:=irr (u:=x) o C p;have hF:(x*x+(y*y)*m - z*z*n)*(x*x+(y*y)*m - z*z*n)≠4*((x*x)*(y*y*m)):=by
  by_cases hx:x=0
  ·subst hx;intro e;have:(y*y*m - z*z*n)*(y*y*m - z*z*n)=0:=by
    have d:(0*0+y*y*m - z*z*n)=y*y*m - z*z*n:=by omega
    rw[d] at e;rw[e];simp
   have:=(Int.mul_eq_zero.mp this).elim id id;omega
  ·have:=irr (u:=x*x+(y*y)*m - z*z*n) (v:=2*(x*y)) o C (by
    intro h;rcases Int.mul_eq_zero.mp h with h | h
    ·omega
    ·rcases Int.mul_eq_zero.mp h with h | h <;> contradiction)
   intro e
   apply this
   rw[e]
   grind
 have r:0≤x*x:=by rcases Int.le_total 0 x with h | h;exact Int.mul_nonneg h h;exact Int.mul_nonneg_of_nonpos_of_nonpos h h
 have s:0<y*y:=by
  rcases Int.lt_or_gt_of_ne p with h | h
  ·exact Int.mul_pos_of_neg_of_neg h h
  ·exact Int.mul_pos h h
 have t:0<z*z:=by
  rcases Int.lt_or_gt_of_ne D with h | h
  ·exact Int.mul_pos_of_neg_of_neg h h
  ·exact Int.mul_pos h h
 have N:0<y*y*m:=Int.mul_pos s (by omega);have O:0<z*z*n:=Int.mul_pos t (by omega);have g:x.sign=0↔x*x=0:=by
  rw[Int.sign_eq_zero_iff_zero];constructor
  ·intro h;rw[h];rfl
  ·intro h;exact(Int.mul_eq_zero.mp h).elim id id
 have E:s2 (y*m) z (m*n)=sos y.sign z.sign (y*y*m - z*z*n).sign:=by
  unfold s2;have d:(y*m).sign=y.sign:=by rw[Int.mul_comm];exact sign_scale m y (by omega)
  have j:(y*m)*(y*m) - z*z*(m*n)=m*(y*y*m - z*z*n):=by grind
  rw[d,j,sign_scale m _ (by omega)]
 have F:s2 (x*x - ((y*m)*y+(z*n)*z)) (-(y*z+y*z)) (m*n)=sos (x*x - y*y*m - z*z*n).sign (-(y.sign*z.sign)) ((x*x - y*y*m - z*z*n)*(x*x - y*y*m - z*z*n) - 4*((y*y*m)*(z*z*n))).sign:=by
  unfold s2;have d:x*x - ((y*m)*y+(z*n)*z)=x*x - y*y*m - z*z*n:=by grind
  have j:(-(y*z+y*z)).sign = -(y.sign*z.sign):=by
   rw[Int.sign_neg,show y*z+y*z=2*(y*z) by omega,sign_scale 2 _ (by decide),Int.sign_mul]
  have P:(-(y*z+y*z))*(-(y*z+y*z))*(m*n)=4*((y*y*m)*(z*z*n)):=by grind
  rw[d,j,P]
 have G:rsg x y m=rsS x.sign y.sign (x*x - y*y*m).sign:=rfl;have H:rsg ((x*x+(y*y)*m) - ((-z)*(-z))*n) (2*(x*y)) m=rsS (x*x+y*y*m - z*z*n).sign (x.sign*y.sign) ((x*x - y*y*m - z*z*n)*(x*x - y*y*m - z*z*n) - 4*((y*y*m)*(z*z*n))).sign:=by
  unfold rsg;have d:(x*x+(y*y)*m) - ((-z)*(-z))*n=x*x+y*y*m - z*z*n:=by rw[Int.neg_mul_neg]
  have j:(2*(x*y)).sign=x.sign*y.sign:=by rw[sign_scale 2 _ (by decide),Int.sign_mul]
  rw[d,j]
  congr 2
  grind
 have I:(-z).sign = -(z.sign):=Int.sign_neg z;unfold s3;rw[E,F,G,H,I];have w:(x*x - y*y*m - z*z*n)*(x*x - y*y*m - z*z*n) - 4*((y*y*m)*(z*z*n))≠0:=by
  intro h
  apply hF
  grind
 have k:=tri (a:=x*x) (b:=y*y*m) (c:=z*z*n) r (by omega) (by omega);have l:x*x=0→0<(x*x - y*y*m - z*z*n)*(x*x - y*y*m - z*z*n) - 4*((y*y*m)*(z*z*n)):=by
  intro h;have e:(x*x - y*y*m - z*z*n)*(x*x - y*y*m - z*z*n) - 4*((y*y*m)*(z*z*n))=(y*y*m - z*z*n)*(y*y*m - z*z*n):=by rw[h];grind
  rw[e];have A:y*y*m - z*z*n≠0:=by omega
  rcases Int.lt_or_gt_of_ne A with i | i
  ·exact Int.mul_pos_of_neg_of_neg i i
  ·exact Int.mul_pos i i
 clear E F G H I hF;generalize (x*x - y*y*m - z*z*n)*(x*x - y*y*m - z*z*n) - 4*((y*y*m)*(z*z*n))=f at *;generalize x*x=a at *;generalize y*y*m=b at *;generalize z*z*n=c at *;refine both_signs x.sign y.sign z.sign _ _ _ _ _ ?_ ?_ ?_ ?_ ?_ ?_ ?_ ?_
 ·rcases sign3 x with h | h | h <;> omega
 ·rcases sign3 y with h | h | h <;> omega
 ·rcases sign3 z with h | h | h <;> omega
 ·rcases sign3 (a - b - c) with h | h | h <;> omega
 ·rcases sign3 (a+b - c) with h | h | h <;> omega
 ·rcases sign3 (a - b) with h | h | h <;> omega
 ·rcases sign3 (b - c) with h | h | h <;> omega
 ·rcases sign3 f with h | h | h
  ·left
   refine⟨h.1,fun i=>?_⟩;have:=l (g.mp i);omega
  ·exact absurd h.2 w
  ·right
   refine⟨h.1,?_⟩;have R:=sign3 (a - b - c);have S:=sign3 (a+b - c);have T:=sign3 (a - b);have U:=sign3 (b - c);generalize (a - b - c).sign=V at *;generalize (a+b - c).sign=W at *;generalize (a - b).sign=X at *;generalize (b - c).sign=Y at *;generalize x.sign=Z at *;rcases k h.2 with J | J | J
   ·left
    refine⟨by omega,by omega,by omega,fun B=>?_⟩;have:=g.mp B;omega
   ·right;left
    exact⟨by omega,by omega,by omega,by omega⟩
   ·right;right
    refine⟨by omega,by omega,by omega,fun B=>?_⟩;have:=g.mp B;omega
theorem sos_sum (y z:Int):sos y.sign z.sign (y*y - z*z).sign=(y+z).sign:=by
 have e:y*y - z*z=(y+z)*(y - z):=by grind
 rw[e,Int.sign_mul];rcases sign3 y with ⟨a,f⟩|⟨a,f⟩|⟨a,f⟩ <;> rcases sign3 z with ⟨b,g⟩|⟨b,g⟩|⟨b,g⟩ <;> rcases sign3 (y+z) with ⟨c,h⟩|⟨c,h⟩|⟨c,h⟩ <;> rcases sign3 (y - z) with ⟨d,i⟩|⟨d,i⟩|⟨d,i⟩ <;> first | omega | (rw[a,b,c,d];decide)
theorem s2_zero (u k:Int):s2 u 0 k=u.sign:=by
 unfold s2;rw[Int.mul_zero,Int.zero_mul,Int.sub_zero,Int.sign_mul];rcases sign3 u with ⟨a,_⟩|⟨a,_⟩|⟨a,_⟩ <;> rw[a] <;> decide
theorem s2_left (v k:Int) (b:1≤k):s2 0 v k=v.sign:=by
 unfold s2;have e:(0*0 - v*v*k).sign = -(v.sign*v.sign):=by
  rw[Int.mul_zero,Int.zero_sub,Int.sign_neg,Int.mul_comm (v*v) k,sign_scale k _ (by omega),Int.sign_mul]
 rw[e];rcases sign3 v with ⟨a,_⟩|⟨a,_⟩|⟨a,_⟩ <;> rw[a] <;> decide
theorem s2_rsg {u v k:Int} (g:1≤k) (h:v=0∨u*u≠v*v*k):s2 u v k=rsg u v k:=by
 by_cases hv:v=0
 ·subst hv;rw[s2_zero];unfold rsg rsS;rcases sign3 u with ⟨a,_⟩|⟨a,_⟩|⟨a,_⟩ <;> rw[a] <;> simp
 ·by_cases hu:u=0
  ·subst hu;rw[s2_left v k g];unfold rsg rsS;simp
  ·have i:u*u≠v*v*k:=h.elim (fun h=>absurd h hv) id;unfold s2 rsg sos rsS;rcases sign3 u with ⟨a,d⟩|⟨a,d⟩|⟨a,d⟩ <;> rcases sign3 v with ⟨b,e⟩|⟨b,e⟩|⟨b,e⟩ <;> rcases sign3 (u*u - v*v*k) with ⟨c,f⟩|⟨c,f⟩|⟨c,f⟩ <;> first | omega | (rw[a,b,c];decide)
theorem s3_z {x y m:Int}:s3 x y m 0 1=s2 x y m∨m<1:=by
 by_cases hm:m<1
 ·exact Or.inr hm
 ·left
  unfold s3;have a:x*x - ((y*m)*y+(0*1)*0)=x*x - y*y*m:=by grind
  have b:-(y*0+y*0)=0:=by omega
  rw[a,b,s2_zero,s2_zero,Int.mul_comm y m,sign_scale m y (by omega)]
  rfl
theorem s3_y {x z n:Int} (a:1≤n):s3 x 0 1 z n=s2 x z n:=by
 unfold s3;have b:x*x - ((0*1)*0+(z*n)*z)=x*x - z*z*n:=by grind
 have c:-(0*z+0*z)=0:=by simp
 rw[b,c,s2_zero,Int.zero_mul,Int.one_mul,s2_left z n a]
 rfl
theorem s3_same {x y z m:Int} (f:1≤m):s3 x y m z m=s2 x (y+z) m:=by
 unfold s3;have a:0<m*m:=Int.mul_pos (by omega) (by omega);have b:s2 (y*m) z (m*m)=(y+z).sign:=by
  rw[← sos_sum];unfold s2;have c:(y*m)*(y*m) - z*z*(m*m)=(m*m)*(y*y - z*z):=by grind
  rw[c,sign_scale _ _ a,Int.mul_comm y m,sign_scale m y (by omega)]
 have d:s2 (x*x - ((y*m)*y+(z*m)*z)) (-(y*z+y*z)) (m*m)=(x*x - (y+z)*(y+z)*m).sign:=by
  have e:x*x - (y+z)*(y+z)*m=(x*x - ((y*m)*y+(z*m)*z))+m*(-(y*z+y*z)):=by grind
  rw[e,← sos_sum];unfold s2;rw[sign_scale m _ (by omega)]
  congr 2
  grind
 rw[b,d]
 rfl
theorem rsg_zero (p d a:Int):rsg p 0 d=rsg p 0 a:=by
 unfold rsg;simp
theorem rsg_reduce {p q r D:Int} (i:0<r):rsg (qreduce p q r D).p (qreduce p q r D).q (qreduce p q r D).d=rsg p q D:=by
 obtain⟨a,b,j⟩:=qreduce_back p q r D;have c:=qcom_ne p q r (by omega);have f:0<qcom p q r:=by
  have e:qcom p q r=(Int.gcd (Int.gcd r p) q:Int):=by unfold qcom;rw[if_neg (by omega)]
  omega
 have g:(qreduce p q r D).d=if (qreduce p q r D).q=0 then 1 else D:=rfl
 have h:=rsg_scale (qcom p q r) (qreduce p q r D).p (qreduce p q r D).q D f;rw[← a,← b] at h;rw[h,g];by_cases hq:(qreduce p q r D).q=0
 ·rw[if_pos hq,hq];exact rsg_zero _ _ _
 ·rw[if_neg hq]
def rord (a b:Qn):Int :=
 if a.d=1∨b.d=1∨a.d=b.d then rsg (comb 45 a b).1.p (comb 45 a b).1.q (comb 45 a b).1.d
 else r3 (rsg (a.p*b.r - b.p*a.r) (a.q*b.r) a.d) (b.q*a.r).sign
  (rsg (((a.p*b.r - b.p*a.r)*(a.p*b.r - b.p*a.r)+((a.q*b.r)*(a.q*b.r))*a.d) - ((b.q*a.r)*(b.q*a.r))*b.d) (2*((a.p*b.r - b.p*a.r)*(a.q*b.r))) a.d)
def qcmp (a b:Qn):Int:=s3 (a.p*b.r+b.p*-a.r) (a.q*b.r) a.d (b.q*-a.r) b.d
theorem qcmp_rord {a b:Qn} (ha:Qok a) (g:Qok b):qcmp a b=rord a b:=by
 have H:=ha.d0;have I:=g.d0;have v:=ha.r;have w:=g.r;have z:a.p*b.r+b.p*-a.r=a.p*b.r - b.p*a.r:=by rw[Int.mul_neg];omega
 unfold qcmp rord;by_cases h:a.d=1∨b.d=1∨a.d=b.d
 ·rw[if_pos h];have i:qroot a.d b.d≠0:=by
   intro n;have:=(qroot_zero ha g).mp n;omega
  have e:(comb 45 a b).1=qaddN a (qneg b):=by
   unfold comb qsub qadd;have:qroot a.d (qneg b).d≠0:=i;rw[if_neg (by decide),if_pos rfl,if_neg this]
  have o:0<a.r*(qneg b).r:=Int.mul_pos v w;rw[e];unfold qaddN;rw[rsg_reduce o];have A:a.p*(qneg b).r+(qneg b).p*a.r=a.p*b.r+b.p*-a.r:=by simp only[qneg];rw[Int.mul_neg,Int.neg_mul]
  have B:a.q*(qneg b).r+(qneg b).q*a.r=a.q*b.r+b.q*-a.r:=by simp only[qneg];rw[Int.mul_neg,Int.neg_mul]
  have C:qroot a.d (qneg b).d=qroot a.d b.d:=rfl;rw[A,B,C];generalize a.p*b.r+b.p*-a.r=x;have J:=rooted ha g i;have fin:∀ q D:Int,1≤D→SqFree D.toNat→(D=1→q=0)→s2 x q D=rsg x q D:=by
   intro q D l E F;by_cases j:q=0
   ·exact s2_rsg l (Or.inl j)
   ·exact s2_rsg l (Or.inr (irr E (by have:D≠1:=fun h=>j (F h);omega) j))
  rcases h with h | h | h
  ·have j:=ha.q.mpr h;have k:qroot a.d b.d=b.d:=by unfold qroot;rw[if_pos (Or.inl h)]
   rw[k,j,h,Int.zero_mul,Int.zero_add,s3_y g.d0];refine fin _ _ g.d0 g.f (fun c=>?_);rw[g.q.mpr c,Int.zero_mul]
  ·have j:=g.q.mpr h;have k:qroot a.d b.d=a.d:=by
    unfold qroot;by_cases l:a.d=1∨a.d=b.d
    ·rw[if_pos l];omega
    ·rw[if_neg l,if_pos h]
   rw[k,j,h,Int.zero_mul,Int.add_zero];rcases s3_z (x:=x) (y:=a.q*b.r) (m:=a.d) with u | u
   ·rw[u];refine fin _ _ ha.d0 ha.f (fun c=>?_);rw[ha.q.mpr c,Int.zero_mul]
   ·omega
  ·have k:qroot a.d b.d=b.d:=by unfold qroot;rw[if_pos (Or.inr h)]
   rw[k,h,s3_same g.d0];refine fin _ _ g.d0 g.f (fun c=>?_);rw[g.q.mpr c,ha.q.mpr (by omega)];simp
 ·rw[if_neg h];have s:a.q≠0:=fun c=>h (Or.inl (ha.q.mp c));have t:b.q≠0:=fun c=>h (Or.inr (Or.inl (g.q.mp c)));have G:a.q*b.r≠0:=fun c=>by rcases Int.mul_eq_zero.mp c with c | c;exact s c;omega
  have n:b.q*-a.r≠0:=fun c=>by rcases Int.mul_eq_zero.mp c with c | c;exact t c;omega
  rw[s3_two ha.f g.f (by omega) (by omega) G n (by omega),z];have k:-(b.q*-a.r)=b.q*a.r:=by rw[Int.mul_neg,Int.neg_neg]
  rw[k]
end
section
open Go.RowKit
theorem cmp3_sign (x y:Int):cmp3 x y=(x - y).sign:=by
 unfold cmp3;rcases sign3 (x - y) with ⟨a,b⟩|⟨a,b⟩|⟨a,b⟩ <;> rw[a] <;> (repeat (split <;> try omega))
theorem subtract_any (x y:Int) (u v:Value) (w:World) (C:WN w u x) (T:WN w v y) (fx:Fit x) (U:Fit y):Calls Tryz.prog 40 #[u,v] w (RetW w (x - y)):=by
 have I:Fit (-y):=by obtain⟨n,h1,h2⟩:=U;exact⟨n,h1,by rwa [Int.natAbs_neg]⟩
 obtain⟨J,i,K,c1,rfl⟩:=C.shape';obtain⟨V,o,W,c2,rfl⟩:=T.shape'
 go_enter Tryz.func40,Tryz.ntmps40
 go_wp2_with fail
 have L:Kp w _:=(Kp.alloc' (Kp.alloc' (Kp.alloc' (Below.refl w.heap.size w) (.cells #[.bool J,.slice i K c1] 38)) (.cells #[.bool V,.slice o W c2] 38)) (.cells #[.bool false,.slice none 0 0] 38));have p:Sf 2 w _:=(Sf.alloc (Sf.alloc (Sf.alloc (Sf.refl 2 w) (.cells #[.bool J,.slice i K c1] 38)) (.cells #[.bool V,.slice o W c2] 38)) (.cells #[.bool false,.slice none 0 0] 38));refine(negate_any y _ _ (T.soft p) U).mono ?_;rintro e D ⟨v1,rfl,q,c⟩;obtain⟨X,r,Y,c3,rfl⟩:=q.shape';have M:=L.trans' c;have N:=p.trans (Sf.keep c);have s:Blk D (w.heap.size) #[.bool J,.slice i K c1] 38:=Blk.keep c (Blk.at (Blk.alloc (Blk.alloc (Blk.new _ _ _) _) _) (by simp));have a:Blk D (w.heap.size+1+1) #[.bool false,.slice none 0 0] 38:=Blk.keep c (Blk.at (Blk.new _ _ _) (by simp));obtain⟨t,z,Z⟩:=s.all;obtain⟨d,f,F⟩:=a.all;replace C:=C.soft N
 go_wp2_with fail
 have B:Kp w _:=(Kp.alloc' M (.cells #[.bool X,.slice r Y c3] 38));have j:Sf 2 D _:=(Sf.alloc (Sf.refl 2 D) (.cells #[.bool X,.slice r Y c3] 38));refine(add_any x (-y) _ _ _ (C.soft j) (q.soft j) fx I).mono ?_;rintro e w2 ⟨v2,rfl,k,l⟩;obtain⟨O,m,P,c4,rfl⟩:=k.shape';have Q:=B.trans' l;have aa:=j.trans (Sf.keep l);have b:=Blk.keep l (Blk.alloc a _);obtain⟨g,G,H⟩:=b.all;have h:w.heap.size≤w.heap.size+1+1:=by (first | omega | (have:=B.size;simp only[sz] at this;omega))
 clear s t z a d f;rw[← Int.sub_eq_add_neg] at k
 go_wp2_with fail
 refine bodyPost_ret (v:=.agg #[.bool O,.slice m P c4]) (by simp[results,Tryz.results40,go_sem,g]) rfl ?_;have R:Kp w _:=(stK2 (A:=w.heap.size+1+1) (.bool O) (.slice m P c4) Q (by have:=h;omega))
 have S:Sf 2 w2 _:=(stS2 (E:=2) (.bool O) (.slice m P c4) b (by decide));exact retW_mk k S R
theorem wcompare_any (x y:Int) (u v:Value) (w:World) (f:WN w u x) (b:WN w v y):Calls Tryz.prog 52 #[u,v] w (RetV w (.int .i64 (x - y).sign)):=by
 obtain⟨l,j,m,c1,rfl⟩:=f.shape';obtain⟨n,k,o,c2,rfl⟩:=b.shape';obtain⟨g,h⟩:=f.rp;obtain⟨c,i⟩:=b.rp;have a:Kp w _:=Kp.alloc' (kp_alloc w (.cells #[.bool l,.slice j m c1] 38)) (.cells #[.bool n,.slice k o c2] 38);replace h:=h.keep a;replace i:=i.keep a;clear f b;by_cases f:x<0
 ·rw[decide_eq_true f] at g;subst g;by_cases b:y<0
  ·rw[decide_eq_true b] at c;subst c;have E:(x - y).sign=cmp3 (y.natAbs:Int) (x.natAbs:Int):=by rw[cmp3_sign];congr 1;omega
   rw[E]
   go_enter Tryz.func52,Tryz.ntmps52
   go_wp2_with fail
   refine(compareLimbs_any _ _ _ _ _ i h).mono ?_;rintro e p ⟨rfl,d⟩;generalize cmp3 (y.natAbs:Int) (x.natAbs:Int)=q at *
   go_wp2_with fail
   go_ret
   exact⟨rfl,a.trans' d⟩
  ·rw[decide_eq_false b] at c;subst c;have E:(x - y).sign = -1:=Int.sign_eq_neg_one_of_neg (by omega);rw[E]
   go_enter Tryz.func52,Tryz.ntmps52
   go_wp2_with fail
   go_ret
   exact⟨rfl,a⟩
 ·rw[decide_eq_false f] at g;subst g;by_cases b:y<0
  ·rw[decide_eq_true b] at c;subst c;have E:(x - y).sign=1:=Int.sign_eq_one_of_pos (by omega);rw[E]
   go_enter Tryz.func52,Tryz.ntmps52
   go_wp2_with fail
   go_ret
   exact⟨rfl,a⟩
  ·rw[decide_eq_false b] at c;subst c;have E:(x - y).sign=cmp3 (x.natAbs:Int) (y.natAbs:Int):=by rw[cmp3_sign];congr 1;omega
   rw[E]
   go_enter Tryz.func52,Tryz.ntmps52
   go_wp2_with fail
   refine(compareLimbs_any _ _ _ _ _ h i).mono ?_;rintro e p ⟨rfl,d⟩;generalize cmp3 (x.natAbs:Int) (y.natAbs:Int)=q at *
   go_wp2_with fail
   go_ret
   exact⟨rfl,a.trans' d⟩
end
section
open Go.RowKit
theorem signOfSum_any (a b o:Int) (w:World):Calls Tryz.prog 121 #[.int .i64 a,.int .i64 b,.int .i64 o] w (RetV w (.int .i64 (sos a b o))):=by
 by_cases d:0<o
 ·have E:sos a b o=a:=by unfold sos;rw[if_pos d]
  rw[E]
  go_enter Tryz.func121,Tryz.ntmps121
  go_wp2_with fail
  go_ret
  exact⟨rfl,Below.refl _ _⟩
 ·by_cases e:o<0
  ·have E:sos a b o=b:=by unfold sos;rw[if_neg d,if_pos (Or.inl e)]
   rw[E]
   go_enter Tryz.func121,Tryz.ntmps121
   go_wp2_with fail
   go_ret
   exact⟨rfl,Below.refl _ _⟩
  ·by_cases c:a=b
   ·have E:sos a b o=b:=by unfold sos;rw[if_neg d,if_pos (Or.inr c)]
    rw[E];have y:(a == b)=true:=by simp[c]
    clear c E
    go_enter Tryz.func121,Tryz.ntmps121
    go_wp2_with fail
    go_ret
    exact⟨rfl,Below.refl _ _⟩
   ·have E:sos a b o=0:=by unfold sos;rw[if_neg d,if_neg (fun h=>h.elim e c)]
    rw[E];have y:(a == b)=false:=by simp[c]
    clear c E
    go_enter Tryz.func121,Tryz.ntmps121
    go_wp2_with fail
    go_ret
    exact⟨rfl,Below.refl _ _⟩
theorem signOfTwo_any (x y k:Int) (m:Nat) (u v t:Value) (w:World) (f:WN w u x) (a:WN w v y) (Y:WN w t k) (hm:m≤100000000) (fx:Ft m x) (fy:Ft m y) (fk:Ft m k):Calls Tryz.prog 120 #[u,v,t] w (RetV w (.int .i64 (s2 x y k))):=by
 have HS:Hid (s2 x y k=sos x.sign y.sign (x*x - y*y*k).sign):=rfl;obtain⟨b1,p,n1,c1,rfl⟩:=f.shape';obtain⟨b2,r,n2,c2,rfl⟩:=a.shape';obtain⟨b3,s,n3,c3,rfl⟩:=Y.shape'
 go_enter Tryz.func120,Tryz.ntmps120
 go_wp2_with fail
 have aL:Kp w _:=(Kp.alloc' (Kp.alloc' (Kp.alloc' (Below.refl w.heap.size w) (.cells #[.bool b1,.slice p n1 c1] 38)) (.cells #[.bool b2,.slice r n2 c2] 38)) (.cells #[.bool b3,.slice s n3 c3] 38));have z:Sf 2 w _:=(Sf.alloc (Sf.alloc (Sf.alloc (Sf.refl 2 w) (.cells #[.bool b1,.slice p n1 c1] 38)) (.cells #[.bool b2,.slice r n2 c2] 38)) (.cells #[.bool b3,.slice s n3 c3] 38));refine(multiply_any x x _ _ _ (f.soft z) (f.soft z) (fx.fit (by omega)) (fx.fit (by omega))).mono ?_;rintro e Z ⟨v1,rfl,b,g⟩;obtain⟨b4,B,n4,c4,rfl⟩:=b.shape';have aM:=aL.trans' g;have C:=z.trans (Sf.keep g);have D:Blk Z (w.heap.size) #[.bool b1,.slice p n1 c1] 38:=Blk.keep g (Blk.at (Blk.alloc (Blk.alloc (Blk.new _ _ _) _) _) (by simp));have F:Blk Z (w.heap.size+1) #[.bool b2,.slice r n2 c2] 38:=Blk.keep g (Blk.at (Blk.alloc (Blk.new _ _ _) _) (by simp));have G:Blk Z (w.heap.size+1+1) #[.bool b3,.slice s n3 c3] 38:=Blk.keep g (Blk.at (Blk.new _ _ _) (by simp));obtain⟨aa,ac,a2⟩:=D.all;obtain⟨ad,ae,a3⟩:=F.all;obtain⟨af,ag,a4⟩:=G.all;replace f:=f.soft C;replace a:=a.soft C;replace Y:=Y.soft C
 go_wp2_with fail
 have aN:Kp w _:=(Kp.alloc' aM (.cells #[.bool b4,.slice B n4 c4] 38));have H:Sf 2 Z _:=(Sf.alloc (Sf.refl 2 Z) (.cells #[.bool b4,.slice B n4 c4] 38));refine(multiply_any y y _ _ _ (a.soft H) (a.soft H) (fy.fit (by omega)) (fy.fit (by omega))).mono ?_;rintro e w2 ⟨v2,rfl,ah,c⟩;obtain⟨b5,I,n5,c5,rfl⟩:=ah.shape';have aO:=aN.trans' c;have j:=H.trans (Sf.keep c);have J:=Blk.keep c (Blk.alloc D _);have K:=Blk.keep c (Blk.alloc F _);have ai:=Blk.keep c (Blk.alloc G _);have h:Blk w2 (Z.heap.size) #[.bool b4,.slice B n4 c4] 38:=Blk.keep c (Blk.at (Blk.new _ _ _) (by simp));obtain⟨aj,ak,a5⟩:=J.all;obtain⟨al,am,a6⟩:=K.all;obtain⟨an,ao,a7⟩:=ai.all;obtain⟨L,M,aP⟩:=h.all;replace f:=f.soft j;replace a:=a.soft j;replace Y:=Y.soft j;replace b:=b.soft j;clear D aa ac F ad ae G af ag
 go_wp2_with fail
 have kp2:Kp w _:=(Kp.alloc' aO (.cells #[.bool b5,.slice I n5 c5] 38));have sf2:Sf 2 w2 _:=(Sf.alloc (Sf.refl 2 w2) (.cells #[.bool b5,.slice I n5 c5] 38));refine(multiply_any (y*y) k _ _ _ (ah.soft sf2) (Y.soft sf2) ((fy.mul fy).fit (by omega)) (fk.fit (by omega))).mono ?_;rintro e w3 ⟨v3,rfl,ap,d⟩;obtain⟨b6,aq,n6,c6,rfl⟩:=ap.shape';have aQ:=kp2.trans' d;have N:=sf2.trans (Sf.keep d);have O:=Blk.keep d (Blk.alloc J _);have P:=Blk.keep d (Blk.alloc K _);have o:=Blk.keep d (Blk.alloc h _);have i:Blk w3 (w2.heap.size) #[.bool b5,.slice I n5 c5] 38:=Blk.keep d (Blk.at (Blk.new _ _ _) (by simp));obtain⟨ar,au,a8⟩:=O.all;obtain⟨av,aw,a9⟩:=P.all;obtain⟨Q,R,aR⟩:=o.all;obtain⟨S,T,aS⟩:=i.all;have U:w.heap.size≤w2.heap.size:=by (first | omega | (have:=kp2.size;simp only[sz] at this;omega))
 replace f:=f.soft N;replace a:=a.soft N;replace b:=b.soft N;clear J aj ak K al am ai an ao h L M
 go_wp2_with fail
 have aT:Kp w _:=(stK2 (A:=w2.heap.size) (.bool b6) (.slice aq n6 c6) aQ (by have:=U;omega))
 have V:Sf 2 w3 _:=(stS2 (E:=2) (.bool b6) (.slice aq n6 c6) i (by decide));refine(wcompare_any (x*x) (y*y*k) _ _ _ (b.soft V) (ap.soft V)).mono ?_;rintro e w4 ⟨rfl,l⟩;have aU:=aT.trans' l;have ax:=V.trans (Sf.keep l);have W:=Blk.keep l (Blk.other (Blk.other O (by omega)) (by omega));have X:=Blk.keep l (Blk.other (Blk.other P (by omega)) (by omega));obtain⟨ay,az,ba⟩:=W.all;obtain⟨aA,aB,bb⟩:=X.all;replace f:=f.soft ax;replace a:=a.soft ax;clear O ar au P av aw o Q R i S T;generalize (x*x - y*y*k).sign=so at *
 go_wp2_with fail
 have kp4:Kp w _:=aU;have sf4:Sf 2 w4 _:=(Sf.refl 2 w4);refine(sign_any x _ _ (f.soft sf4)).mono ?_;rintro e w5 ⟨rfl,n⟩;have aV:=kp4.trans' n;have aW:=sf4.trans (Sf.keep n);have aC:=Blk.keep n W;have aD:=Blk.keep n X;obtain⟨aE,aF,bc⟩:=aC.all;obtain⟨aG,aH,be⟩:=aD.all;replace a:=a.soft aW;clear W ay az X aA aB;generalize x.sign=sx at *
 go_wp2_with fail
 have aX:Kp w _:=aV;have aI:Sf 2 w5 _:=(Sf.refl 2 w5);refine(sign_any y _ _ (a.soft aI)).mono ?_;rintro e w6 ⟨rfl,aJ⟩;have aY:=aX.trans' aJ;have bf:=aI.trans (Sf.keep aJ);clear aC aE aF aD aG aH;generalize y.sign=sy at *
 go_wp2_with fail
 have aZ:Kp w _:=aY;have a0:Sf 2 w6 _:=(Sf.refl 2 w6);refine(signOfSum_any sx sy so _).mono ?_;rintro e w7 ⟨rfl,aK⟩;have a1:=aZ.trans' aK;have bg:=a0.trans (Sf.keep aK);rw[← HS.out];generalize s2 x y k=q at *
 go_wp2_with fail
 go_ret
 exact⟨rfl,a1⟩
end
end Go.Proofs.YtjahbjjekednfaaGreatDoor
