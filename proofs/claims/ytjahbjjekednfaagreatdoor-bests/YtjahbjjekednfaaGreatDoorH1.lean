import Derived.Test.YtjahbjjekednfaaGreatDoorE1
import Derived.Test.YtjahbjjekednfaaGreatDoorQ2
import Derived.Test.YtjahbjjekednfaaGreatDoorC1u
namespace Go.Proofs.YtjahbjjekednfaaGreatDoor
section
def Core (n:Nat) (s:List Int) (p:Nat) (r:Rs):Prop:=Atom s r∨∃ k t,n=k+1∧s=40 :: (t ++ [41])∧Sm k t (p+1) r
theorem fc_core {n:Nat} {s:List Int} {p:Nat} {r:Rs}:Fc n s p r↔∃ m a b,s=List.replicate m 45 ++ a∧Core n a (p+m) b∧r=negs m b:=by
 cases n with
 | zero =>
  constructor
  ·rintro⟨m,a,b,d,c,e⟩;exact⟨m,a,b,d,Or.inl c,e⟩
  ·rintro⟨m,a,b,d,c | ⟨k,t,g,_⟩,e⟩
   ·exact⟨m,a,b,d,c,e⟩
   ·omega
 | succ n =>
  constructor
  ·rintro⟨m,a,b,d,c | ⟨t,c,f⟩,e⟩
   ·exact⟨m,a,b,d,Or.inl c,e⟩
   ·exact⟨m,a,b,d,Or.inr ⟨n,t,rfl,c,f⟩,e⟩
  ·rintro⟨m,a,b,d,c | ⟨k,t,g,c,f⟩,e⟩
   ·exact⟨m,a,b,d,Or.inl c,e⟩
   ·obtain rfl:k=n:=by omega
    exact⟨m,a,b,d,Or.inr ⟨t,c,f⟩,e⟩
end
section
def Al (r a:Rs):Prop:=a.v=r.v∧a.e=r.e
theorem Al.op {c:Int} {p q:Nat} {a b g i:Rs} (h:Al a g) (k:Al b i):Al (opR c p a b) (opR c q g i):=by
 obtain⟨j,l⟩:=h;obtain⟨m,n⟩:=k;unfold opR;rw[j,l,m,n];by_cases d:a.e≠0
 ·rw[if_pos d,if_pos d];exact⟨j,l⟩
 ·rw[if_neg d,if_neg d];by_cases f:b.e≠0
  ·rw[if_pos f,if_pos f];exact⟨rfl,rfl⟩
  ·rw[if_neg f,if_neg f];exact⟨rfl,rfl⟩
theorem Al.neg {a c:Rs} (m:Nat) (h:Al a c):Al (negs m a) (negs m c):=by
 obtain⟨d,e⟩:=h;unfold negs;by_cases b:m % 2=1
 ·rw[if_pos b,if_pos b];exact⟨by simp only[d],e⟩
 ·rw[if_neg b,if_neg b];exact⟨d,e⟩
def Shf (F a:List Int→Nat→Rs→Prop):Prop:=∀ s p r q,F s p r→∃ r',a s q r'∧Al r r'
theorem chT_shf {F f:List Int→Nat→Rs→Prop} {ops:Int→Prop} (h:Shf F f):∀(m:Nat) (acc a:Rs) (p q:Nat) (s:List Int) (r:Rs),Al acc a→ChT F ops m acc p s r→∃ d,ChT f ops m a q s d∧Al r d
 | 0,acc,a,p,q,s,r,ha,e=>by
  obtain⟨rfl,rfl⟩:=e;exact⟨a,⟨rfl,rfl⟩,ha⟩
 | m+1,acc,a,p,q,s,r,ha,e=>by
  obtain⟨c,t,g,v,i,rfl,j,k⟩:=e;obtain⟨b,l,n⟩:=h _ _ _ (q+1) j;obtain⟨d,o,u⟩:=chT_shf h m _ (opR c q a b) _ (q+1+t.length) _ _ (ha.op n) k;exact⟨d,⟨c,t,g,b,i,rfl,l,o⟩,u⟩
theorem ch_shf {F b:List Int→Nat→Rs→Prop} {ops:Int→Prop} (h:Shf F b):Shf (Ch F ops) (Ch b ops):=by
 rintro s p r q ⟨m,f,c,n,rfl,d,e⟩;obtain⟨a,g,i⟩:=h _ _ _ q d;obtain⟨j,k,l⟩:=chT_shf h m _ a _ (q+f.length) _ _ i e;exact⟨j,⟨m,f,c,a,rfl,g,k⟩,l⟩
theorem fc_shf:∀(n c:Nat),n≤c→Shf (Fc n) (Fc c):=by
 intro n
 induction n with
 | zero =>
  intro c _ s p r q h;obtain⟨m,a,g,d,b,e⟩:=fc_core.1 h;rcases b with b | ⟨k,t,j,_⟩
  ·exact⟨r,fc_core.2 ⟨m,a,g,d,Or.inl b,e⟩,rfl,rfl⟩
  ·omega
 | succ n ih =>
  intro c w s p r q h;obtain⟨m,a,g,d,b,e⟩:=fc_core.1 h;rcases b with b | ⟨k,t,j,l,o⟩
  ·exact⟨r,fc_core.2 ⟨m,a,g,d,Or.inl b,e⟩,rfl,rfl⟩
  ·obtain rfl:k=n:=by omega
   obtain⟨f,rfl⟩:∃ f,c=f+1:=⟨c - 1,by omega⟩;obtain⟨i,u,v⟩:=ch_shf (ops:=addOp) (ch_shf (ops:=mulOp) (ih f (by omega))) _ _ _ (q+m+1) o;exact⟨negs m i,fc_core.2 ⟨m,a,i,d,Or.inr ⟨f,t,rfl,l,u⟩,rfl⟩,by rw[e];exact v.neg m⟩
theorem sm_shf {n a:Nat} (h:n≤a):Shf (Sm n) (Sm a):=ch_shf (ch_shf (fc_shf n a h))
def Gv (F:List Int→Nat→Rs→Prop) (s:List Int) (x:Qn × Int):Prop:=∀ p,∃ r,F s p r∧r.v=x.1∧r.e=x.2
theorem Gv.of {F a:List Int→Nat→Rs→Prop} {s:List Int} {p:Nat} {r:Rs} (b:Shf F a) (h:F s p r):Gv a s (r.v,r.e):=fun q=>by
 obtain⟨c,d,f,g⟩:=b _ _ _ q h;exact⟨c,d,f,g⟩
theorem rk_read {s:ByteArray} {r:Rs} (h:Rk s r) (a:r.e=0):Gv (Sm 8) (bl s) (r.v,0)∧s.size≤100∧plFault s 0 s.size = -1:=by
 rcases h with ⟨c,rfl⟩|⟨c,d,rfl⟩|⟨c,d,f,g,rfl⟩
 ·exact absurd a (by simp)
 ·exact absurd a (by simp)
 ·by_cases b:f.e=0
  ·have:=Gv.of (sm_shf (Nat.le_refl 8)) g;rw[b] at this;rw[if_pos b];exact⟨this,c,d⟩
  ·rw[if_neg b] at a;exact absurd a b
end
section
structure Cn (a:Qn):Prop where
 ok:Qok a
 g:Int.gcd (Int.gcd a.r a.p) a.q=1
def rx (a:Qn):Rat:=(a.p:Rat) / (a.r:Rat)
def ry (a:Qn):Rat:=(a.q:Rat) / (a.r:Rat)
theorem gcd3_mul (g r p q:Int):Int.gcd (Int.gcd (g*r) (g*p)) (g*q)=g.natAbs*Int.gcd (Int.gcd r p) q:=by
 rw[Int.gcd_mul_left];unfold Int.gcd;rw[Int.natAbs_natCast,Int.natAbs_natCast,Int.natAbs_mul,Nat.gcd_mul_left]
theorem qred_parts (P Q R D:Int) (l:R≠0):∃ g:Int,g≠0∧P=g*(qreduce P Q R D).p∧Q=g*(qreduce P Q R D).q∧R=g*(qreduce P Q R D).r∧0<(qreduce P Q R D).r ∧
  Int.gcd (Int.gcd (qreduce P Q R D).r (qreduce P Q R D).p) (qreduce P Q R D).q=1∧(qreduce P Q R D).d=if (qreduce P Q R D).q=0 then 1 else D:=by
 have m:0<Int.gcd (Int.gcd R P) Q:=by
  refine Int.gcd_pos_of_ne_zero_left _ ?_;have:=Int.gcd_pos_of_ne_zero_left P l;omega
 have i:((Int.gcd (Int.gcd R P) Q:Nat):Int)∣(Int.gcd R P:Nat):=Int.gcd_dvd_left _ _;have n:qcom P Q R∣R:=by
  unfold qcom;have:=Int.dvd_trans i (Int.gcd_dvd_left R P)
  split
  ·exact(Int.neg_dvd).2 this
  ·exact this
 have o:qcom P Q R∣P:=by
  unfold qcom;have:=Int.dvd_trans i (Int.gcd_dvd_right R P)
  split
  ·exact(Int.neg_dvd).2 this
  ·exact this
 have s:qcom P Q R∣Q:=by
  unfold qcom;have:=Int.gcd_dvd_right ((Int.gcd R P:Nat):Int) Q
  split
  ·exact(Int.neg_dvd).2 this
  ·exact this
 have c:(qcom P Q R).natAbs=Int.gcd (Int.gcd R P) Q:=by
  unfold qcom
  split
  ·rw[Int.natAbs_neg,Int.natAbs_natCast]
  ·rw[Int.natAbs_natCast]
 have t:qcom P Q R≠0:=by
  intro h;rw[h] at c;simp at c;omega
 have j:P=qcom P Q R*(qreduce P Q R D).p:=(Int.mul_tdiv_cancel' o).symm;have k:Q=qcom P Q R*(qreduce P Q R D).q:=(Int.mul_tdiv_cancel' s).symm;have b:R=qcom P Q R*(qreduce P Q R D).r:=(Int.mul_tdiv_cancel' n).symm;refine⟨qcom P Q R,t,j,k,b,?_,?_,rfl⟩
 ·by_cases h:R<0
  ·have f:qcom P Q R<0:=by
    unfold qcom;rw[if_pos h];omega
   refine Int.not_le.1 fun a=>?_;have:=Int.mul_nonneg_of_nonpos_of_nonpos (Int.le_of_lt f) a;rw[← b] at this;omega
  ·have f:0<qcom P Q R:=by
    unfold qcom;rw[if_neg h];omega
   refine Int.not_le.1 fun a=>?_;have:=Int.mul_nonpos_of_nonneg_of_nonpos (Int.le_of_lt f) a;rw[← b] at this;omega
 ·have e:=gcd3_mul (qcom P Q R) (qreduce P Q R D).r (qreduce P Q R D).p (qreduce P Q R D).q;rw[← j,← k,← b,c] at e;have:Int.gcd (Int.gcd R P) Q*1=Int.gcd (Int.gcd R P) Q*Int.gcd (Int.gcd (qreduce P Q R D).r (qreduce P Q R D).p) (qreduce P Q R D).q:=by rw[Nat.mul_one];exact e
  exact(Nat.eq_of_mul_eq_mul_left m this).symm
theorem cast_ne {n:Int} (h:n≠0):(n:Rat)≠0:=by simpa using h
theorem rx_red {P Q R D:Int} (a:R≠0):rx (qreduce P Q R D)=(P:Rat) / (R:Rat):=by
 obtain⟨g,b,c,_,d,h,_⟩:=qred_parts P Q R D a;have i:=cast_ne b;have j:((qreduce P Q R D).r:Rat)≠0:=cast_ne (by omega);have e:(P:Rat)=(g:Rat)*((qreduce P Q R D).p:Rat):=by rw[← Rat.intCast_mul,← c]
 have f:(R:Rat)=(g:Rat)*((qreduce P Q R D).r:Rat):=by rw[← Rat.intCast_mul,← d]
 unfold rx;rw[e,f]
 grind
theorem ry_red {P Q R D:Int} (a:R≠0):ry (qreduce P Q R D)=(Q:Rat) / (R:Rat):=by
 obtain⟨g,b,_,c,d,h,_⟩:=qred_parts P Q R D a;have i:=cast_ne b;have j:((qreduce P Q R D).r:Rat)≠0:=cast_ne (by omega);have e:(Q:Rat)=(g:Rat)*((qreduce P Q R D).q:Rat):=by rw[← Rat.intCast_mul,← c]
 have f:(R:Rat)=(g:Rat)*((qreduce P Q R D).r:Rat):=by rw[← Rat.intCast_mul,← d]
 unfold ry;rw[e,f]
 grind
theorem ry_zero {a:Qn} (h:0<a.r):ry a=0↔a.q=0:=by
 unfold ry;have k:(a.r:Rat)≠0:=cast_ne (by omega);constructor
 ·intro e;have:(a.q:Rat)=0:=by grind
  exact_mod_cast this
 ·intro e;rw[e]
  grind
theorem rx_zero {a:Qn} (h:0<a.r):rx a=0↔a.p=0:=by
 unfold rx;have k:(a.r:Rat)≠0:=cast_ne (by omega);constructor
 ·intro e;have:(a.p:Rat)=0:=by grind
  exact_mod_cast this
 ·intro e;rw[e]
  grind
theorem cross {a b c d:Int} (f:b≠0) (g:d≠0) (h:(a:Rat) / (b:Rat)=(c:Rat) / (d:Rat)):a*d=c*b:=by
 have i:=cast_ne f;have j:=cast_ne g;have e:(a:Rat)*(d:Rat)=c*b:=by grind
 rw[← Rat.intCast_mul,← Rat.intCast_mul] at e
 exact_mod_cast e
theorem dvd_of_low {a b:Qn} (d:Int.gcd (Int.gcd a.r a.p) a.q=1) (i:a.p*b.r=b.p*a.r) (j:a.q*b.r=b.q*a.r):a.r∣b.r:=by
 have e:=gcd3_mul b.r a.r a.p a.q;rw[d,Nat.mul_one] at e;have f:a.r∣b.r*a.r:=⟨b.r,by grind⟩;have g:a.r∣b.r*a.p:=⟨b.p,by grind⟩;have h:a.r∣b.r*a.q:=⟨b.q,by grind⟩;have c:=Int.dvd_coe_gcd (Int.dvd_coe_gcd f g) h;rw[e] at c;exact(Int.dvd_natAbs).1 c
theorem cn_ext {a b:Qn} (ha:Cn a) (f:Cn b) (j:rx a=rx b) (k:ry a=ry b) (l:a.q≠0→b.q≠0→a.d=b.d):a=b:=by
 have o:=ha.ok.r;have rb:=f.ok.r;have c:=cross (by omega) (by omega) j;have e:=cross (by omega) (by omega) k;have m:=dvd_of_low ha.g c e;have n:=dvd_of_low f.g c.symm e.symm;have i:a.r=b.r:=Int.dvd_antisymm (by omega) (by omega) m n;have s:a.p=b.p:=by rw[i] at c;exact Int.eq_of_mul_eq_mul_right (by omega) c
 have t:a.q=b.q:=by rw[i] at e;exact Int.eq_of_mul_eq_mul_right (by omega) e
 have u:a.d=b.d:=by
  by_cases h:a.q=0
  ·rw[ha.ok.q.1 h,f.ok.q.1 (by omega)]
  ·exact l h (by omega)
 cases a;cases b
 simp_all
end
section
structure InF (D:Int) (a:Qn):Prop where
 cn:Cn a
 i:a.q=0∨a.d=D
theorem inf_ext {D:Int} {a b:Qn} (ha:InF D a) (c:InF D b) (d:rx a=rx b) (e:ry a=ry b):a=b:=by
 refine cn_ext ha.cn c.cn d e fun f g=>?_;have h:=ha.i;have j:=c.i;omega
theorem qroot_inf {D:Int} {a b:Qn} (ha:InF D a) (c:InF D b):qroot a.d b.d≠0∧(a.q≠0∨b.q≠0→qroot a.d b.d=D):=by
 have e:=ha.i;have f:=c.i;have g:=ha.cn.ok.q;have h:=c.cn.ok.q;have j:=ha.cn.ok.d0;have k:=c.cn.ok.d0;unfold qroot
 split
 ·omega
 ·split <;> omega
theorem inf_red {D P Q R E:Int} (c:R≠0) (a:Qok (qreduce P Q R E)) (h:Q≠0→E=D):InF D (qreduce P Q R E):=by
 obtain⟨g,d,_,e,_,_,f,b⟩:=qred_parts P Q R E c;refine⟨⟨a,f⟩,?_⟩;by_cases hq:(qreduce P Q R E).q=0
 ·exact Or.inl hq
 ·rw[if_neg hq] at b;refine Or.inr (b.trans (h ?_));rw[e];exact Int.mul_ne_zero d hq
theorem f_add {D:Int} {a b:Qn} (ha:InF D a) (c:InF D b):qadd a b=(qaddN a b,0)∧InF D (qaddN a b)∧rx (qaddN a b)=rx a+rx b∧ry (qaddN a b)=ry a+ry b:=by
 obtain⟨g,i⟩:=qroot_inf ha c;have e:qadd a b=(qaddN a b,0):=if_neg g;have ok:=qadd_ok ha.cn.ok c.cn.ok (by rw[e]);rw[e] at ok;have k:=ha.cn.ok.r;have l:=c.cn.ok.r;have d:a.r*b.r≠0:=Int.mul_ne_zero (by omega) (by omega);have m:(a.r:Rat)≠0:=cast_ne (by omega);have n:(b.r:Rat)≠0:=cast_ne (by omega);refine⟨e,inf_red d ok fun f=>i ?_,?_,?_⟩
 ·by_cases h:a.q=0
  ·right
   intro j;rw[h,j] at f;simp at f
  ·exact Or.inl h
 ·unfold qaddN;rw[rx_red d];unfold rx;simp only[Rat.intCast_add,Rat.intCast_mul]
  grind
 ·unfold qaddN;rw[ry_red d];unfold ry;simp only[Rat.intCast_add,Rat.intCast_mul]
  grind
theorem f_mul {D:Int} {a b:Qn} (ha:InF D a) (c:InF D b):qmul a b=(qmulN a b,0)∧InF D (qmulN a b)∧rx (qmulN a b)=rx a*rx b+ry a*ry b*(D:Rat)∧ry (qmulN a b)=rx a*ry b+ry a*rx b:=by
 obtain⟨j,g⟩:=qroot_inf ha c;have e:qmul a b=(qmulN a b,0):=if_neg j;have ok:=qmul_ok ha.cn.ok c.cn.ok (by rw[e]);rw[e] at ok;have m:=ha.cn.ok.r;have n:=c.cn.ok.r;have f:a.r*b.r≠0:=Int.mul_ne_zero (by omega) (by omega);have o:(a.r:Rat)≠0:=cast_ne (by omega);have p:(b.r:Rat)≠0:=cast_ne (by omega);have k:a.q*(b.q*qroot a.d b.d)=a.q*(b.q*D):=by
  by_cases h:a.q=0
  ·rw[h];simp
  ·rw[g (Or.inl h)]
 refine⟨e,inf_red f ok fun i=>g ?_,?_,?_⟩
 ·by_cases h:a.q=0
  ·right
   intro l;rw[h,l] at i;simp at i
  ·exact Or.inl h
 ·unfold qmulN;rw[rx_red f,k];unfold rx ry;simp only[Rat.intCast_add,Rat.intCast_mul]
  grind
 ·unfold qmulN;rw[ry_red f];unfold rx ry;simp only[Rat.intCast_add,Rat.intCast_mul]
  grind
theorem f_neg {D:Int} {a:Qn} (ha:InF D a):InF D (qneg a)∧rx (qneg a) = - rx a∧ry (qneg a) = - ry a:=by
 refine⟨⟨⟨ha.cn.ok.neg,?_⟩,?_⟩,?_,?_⟩
 ·have:=ha.cn.g;unfold qneg Int.gcd at *
  simpa[Int.natAbs_neg] using this
 ·have:=ha.i;unfold qneg;simp only;omega
 ·unfold rx qneg;simp only[Rat.intCast_neg]
  grind
 ·unfold ry qneg;simp only[Rat.intCast_neg]
  grind
theorem f_inv {D:Int} {a:Qn} (ha:InF D a) (f:¬ (a.p=0∧a.q=0)):InF D (qinv a)∧rx a*rx (qinv a)+ry a*ry (qinv a)*(D:Rat)=1∧rx a*ry (qinv a)+ry a*rx (qinv a)=0:=by
 have k:=ha.cn.ok.r;have l:(a.r:Rat)≠0:=cast_ne (by omega);have b:=norm_ne ha.cn.ok f;have j:=cast_ne b;have e:a.q*(-a.q*a.d)=a.q*(-a.q*D):=by
  rcases ha.i with h | h
  ·rw[h];simp
  ·rw[h]
 have c:=j;rw[e] at c;simp only[Rat.intCast_add,Rat.intCast_mul,Rat.intCast_neg] at c;refine⟨inf_red b (qinv_ok ha.cn.ok f) fun g=>?_,?_,?_⟩
 ·rcases ha.i with h | h
  ·rw[h] at g;simp at g
  ·exact h
 ·unfold qinv;rw[rx_red b,ry_red b,e];unfold rx ry;simp only[Rat.intCast_add,Rat.intCast_mul,Rat.intCast_neg]
  grind
 ·unfold qinv;rw[rx_red b,ry_red b,e];unfold rx ry;simp only[Rat.intCast_add,Rat.intCast_mul,Rat.intCast_neg]
  grind
theorem cn_one:Cn ⟨1,0,1,1⟩:=⟨⟨by decide,by decide,by decide,by decide,sqfree_one⟩,by decide⟩
theorem inf_one (D:Int):InF D ⟨1,0,1,1⟩:=⟨cn_one,Or.inl rfl⟩
theorem inf_own {a:Qn} (h:Cn a):InF a.d a:=⟨h,Or.inr rfl⟩
theorem rx_o:rx ⟨1,0,1,1⟩=1:=by unfold rx;grind
theorem ry_o:ry ⟨1,0,1,1⟩=0:=by unfold ry;grind
end
section
def Kc (r:Rs):Prop:=r.e=0→Cn r.v
theorem one_gcd {a:Qn} (h:a.r=1):Int.gcd (Int.gcd a.r a.p) a.q=1:=by rw[h];simp[Int.gcd]
theorem comb_cn {c:Int} {a b:Qn} (ha:Cn a) (k:Cn b) (h:(comb c a b).2=0):Cn (comb c a b).1:=by
 refine⟨comb_ok ha.ok k.ok h,?_⟩;have u:=ha.ok.r;have v:=k.ok.r;have t:a.r*b.r≠0:=Int.mul_ne_zero (by omega) (by omega);have f:∀ e:Qn,e.r=b.r→(qadd a e).2=0→Int.gcd (Int.gcd (qadd a e).1.r (qadd a e).1.p) (qadd a e).1.q=1:=by
  intro e j h;unfold qadd at *
  split at h
  ·exact absurd h (by simp)
  ·rename_i l
   rw[if_neg l];obtain⟨g,_,_,_,_,_,m,_⟩:=qred_parts (a.p*e.r+e.p*a.r) (a.q*e.r+e.q*a.r) (a.r*e.r) (qroot a.d e.d) (by rw[j];exact t)
   exact m
 have i:∀ e:Qn,e.r≠0→(qmul a e).2=0→Int.gcd (Int.gcd (qmul a e).1.r (qmul a e).1.p) (qmul a e).1.q=1:=by
  intro e j h;unfold qmul at *
  split at h
  ·exact absurd h (by simp)
  ·rename_i l
   rw[if_neg l];obtain⟨g,_,_,_,_,_,m,_⟩:=qred_parts (a.p*e.p+a.q*(e.q*qroot a.d e.d)) (a.p*e.q+a.q*e.p) (a.r*e.r) (qroot a.d e.d) (Int.mul_ne_zero (by omega) j);exact m
 unfold comb at *;by_cases n:c=43
 ·rw[if_pos n] at h ⊢;exact f b rfl h
 ·rw[if_neg n] at h ⊢;by_cases o:c=45
  ·rw[if_pos o] at h ⊢;exact f (qneg b) rfl h
  ·rw[if_neg o] at h ⊢;by_cases s:c=42
   ·rw[if_pos s] at h ⊢;exact i b (by omega) h
   ·rw[if_neg s] at h ⊢;unfold qdiv at *;by_cases hz:b.p=0∧b.q=0
    ·rw[if_pos hz] at h;exact absurd h (by simp)
    ·rw[if_neg hz] at h ⊢;have:=(qinv_ok k.ok hz).r;exact i (qinv b) (by omega) h
theorem opR_kc {c:Int} {p:Nat} {a b:Rs} (ha:Kc a) (g:Kc b):Kc (opR c p a b):=by
 unfold opR Kc at *;by_cases f:a.e≠0
 ·rw[if_pos f];exact ha
 ·rw[if_neg f];by_cases d:b.e≠0
  ·rw[if_pos d];intro h;exact absurd h d
  ·rw[if_neg d];intro h;exact comb_cn (ha (by omega)) (g (by omega)) h
theorem chT_kc {F:List Int→Nat→Rs→Prop} {ops:Int→Prop} (hF:∀ t p r,F t p r→Kc r):∀(m:Nat) (acc:Rs) (p:Nat) (s:List Int) (r:Rs),Kc acc→ChT F ops m acc p s r→Kc r
 | 0,acc,p,s,r,ha,h=>by
  obtain⟨_,rfl⟩:=h;exact ha
 | m+1,acc,p,s,r,ha,h=>by
  obtain⟨c,t,d,e,_,_,a,b⟩:=h;exact chT_kc hF m _ _ _ _ (opR_kc ha (hF _ _ _ a)) b
theorem ch_kc {F:List Int→Nat→Rs→Prop} {ops:Int→Prop} (hF:∀ t p r,F t p r→Kc r):∀ t p r,Ch F ops t p r→Kc r:=by
 rintro t p r ⟨m,f,c,d,rfl,a,b⟩;exact chT_kc hF m _ _ _ _ (hF _ _ _ a) b
theorem negs_kc {r:Rs} (j:Nat) (h:Kc r):Kc (negs j r):=by
 unfold negs
 split
 ·intro e;exact(f_neg (inf_own (h e))).1.cn
 ·exact h
theorem atom_kc {s:List Int} {r:Rs} (h:Atom s r):Kc r:=by
 intro e;refine⟨(atom_ok h).q e,one_gcd ?_⟩;rcases h with ⟨_,_,_,rfl⟩|⟨t,_,_,_,_,rfl⟩
 ·rfl
 ·show (qsqrt (decN t).toNat).r=1
  unfold qsqrt
  split
  ·rfl
  ·split <;> rfl
theorem fc_kc:∀ n t p r,Fc n t p r→Kc r:=by
 intro n
 induction n with
 | zero =>
  intro t p r h;obtain⟨m,b,d,e,a,c⟩:=fc_core.1 h;rcases a with a | ⟨k,t,f,_⟩
  ·rw[c];exact negs_kc m (atom_kc a)
  ·omega
 | succ n ih =>
  intro t p r h;obtain⟨m,b,d,e,a,c⟩:=fc_core.1 h;rw[c];refine negs_kc m ?_;rcases a with a | ⟨k,t,f,i,g⟩
  ·exact atom_kc a
  ·obtain rfl:k=n:=by omega
   exact ch_kc (ch_kc ih) _ _ _ g
theorem sm_kc (n:Nat):∀ t p r,Sm n t p r→Kc r:=ch_kc (ch_kc (fc_kc n))
theorem rk_cn {s:ByteArray} {r:Rs} (h:Rk s r) (a:r.e=0):Cn r.v:=by
 obtain⟨g,_⟩:=rk_read h a;obtain⟨f,b,c,d⟩:=g 0;have:=sm_kc 8 _ _ _ b d;rw[c] at this;exact this
end
section
theorem qdiv_of {a b:Qn} (c:¬ (b.p=0∧b.q=0)):comb 47 a b=qmul a (qinv b):=by
 show qdiv a b=_
 unfold qdiv;rw[if_neg c]
end
section
theorem two_fld {a b:Qn} (ha:Cn a) (e:Cn b) (h:qroot a.d b.d≠0):∃ D,InF D a∧InF D b:=by
 have f:=ha.ok.q;have g:=e.ok.q;unfold qroot at h
 split at h
 ·rename_i c
  rcases c with c | c
  ·exact⟨b.d,⟨ha,Or.inl (f.2 c)⟩,inf_own e⟩
  ·exact⟨b.d,⟨ha,Or.inr c⟩,inf_own e⟩
 ·split at h
  ·rename_i c
   exact⟨a.d,inf_own ha,⟨e,Or.inl (g.2 c)⟩⟩
  ·omega
end
section
def isq:Nat→Nat
 | 0=>0
 | n+1=>if (isq n+1)*(isq n+1)≤n+1 then isq n+1 else isq n
theorem isq_ok:∀ n,isq n*isq n≤n∧n<(isq n+1)*(isq n+1)
 | 0=>⟨by decide,by decide⟩
 | n+1=>by
  obtain⟨a,b⟩:=isq_ok n;unfold isq;generalize isq n=k at *;have e:(k+1+1)*(k+1+1)=(k+1)*(k+1)+2*k+3:=by grind
  split
  ·omega
  ·omega
def sg (N:Nat) (d:Int):Rat:=(isq (d.toNat * (N*N)):Rat)*(N:Rat)⁻¹
theorem mul_le {a b c:Rat} (h:a≤b) (d:0≤c):a*c≤b*c:=Rat.mul_le_mul_of_nonneg_right h d
theorem sg_ok {N:Nat} {d:Int} (f:1≤N) (g:1≤d):0≤sg N d∧sg N d≤d∧sg N d*sg N d≤d∧(d:Rat)≤sg N d*sg N d+(2*d+1)*(N:Rat)⁻¹:=by
 obtain⟨j,l⟩:=isq_ok (d.toNat * (N*N));have m:isq (d.toNat * (N*N))≤d.toNat * N:=by
  refine Nat.not_lt.1 fun h=>?_;have A:=Nat.mul_lt_mul_of_lt_of_lt h h;have B:d.toNat * (N*N)≤d.toNat * N*(d.toNat * N):=by
   have e:d.toNat * N*(d.toNat * N)=d.toNat * (d.toNat * (N*N)):=by grind
   rw[e];exact Nat.le_mul_of_pos_left _ (by omega)
  omega
 unfold sg;generalize isq (d.toNat * (N*N))=k at *;have r:(0:Rat)<(N:Rat):=Rat.natCast_pos.2 (by omega);have c:(1:Rat)≤(N:Rat):=by exact_mod_cast f
 have s:=Rat.inv_pos.2 r;have e:(N:Rat)*(N:Rat)⁻¹=1:=by grind
 have t:(1:Rat)≤(d:Rat):=by exact_mod_cast g
 have b:(d:Rat)=(d.toNat:Rat):=by
  have:((d.toNat:Int):Rat)=(d:Rat):=by rw[Int.toNat_of_nonneg (by omega)]
  rw[← this];rfl
 have c1:(k:Rat)*(k:Rat)≤(d:Rat)*((N:Rat)*(N:Rat)):=by rw[b];exact_mod_cast j
 have c2:(d:Rat)*((N:Rat)*(N:Rat))≤((k:Rat)+1)*((k:Rat)+1):=by rw[b];exact_mod_cast Nat.le_of_lt l
 have c3:(k:Rat)≤(d:Rat)*(N:Rat):=by rw[b];exact_mod_cast m
 have u:(0:Rat)≤(k:Rat):=Rat.natCast_nonneg;generalize (N:Rat)⁻¹=i at *;generalize (N:Rat)=n at *;generalize (k:Rat)=q at *;generalize (d:Rat)=D at *;clear j l m f g b;have a:0≤i:=Rat.le_of_lt s;have v:D*n*i=D:=by grind
 have w:D*(n*n)*(i*i)=D:=by grind
 have o:0≤i*i:=Rat.mul_nonneg a a;have x:i≤1:=by
  have:=mul_le c a;rw[e] at this
  grind
 have y:=mul_le c3 a;have s2:=mul_le c1 o;have s3:=mul_le c2 o;have C:=mul_le x a;rw[v] at y;rw[w] at s2 s3;have z:0≤q*i:=Rat.mul_nonneg u a;have p:q*i≤D:=by grind
 have E:=mul_le p a;refine⟨z,p,?_,?_⟩
 ·grind
 ·grind
theorem near {d:Int} (a:1≤d) {ε:Rat} (b:0<ε):∃ c,∀ N,c≤N→0≤sg N d∧sg N d≤d∧sg N d*sg N d≤d∧(d:Rat)≤sg N d*sg N d+ε:=by
 refine⟨((2*(d:Rat)+1)*ε⁻¹).ceil.toNat+1,fun N s=>?_⟩;obtain⟨f,h,k,t⟩:=sg_ok (N:=N) (d:=d) (by omega) a;refine⟨f,h,k,?_⟩;have c1:(2*(d:Rat)+1)*ε⁻¹≤(N:Rat):=by
  have l:=Rat.le_ceil (x:=(2*(d:Rat)+1)*ε⁻¹);have m:(((2*(d:Rat)+1)*ε⁻¹).ceil:Rat)≤((N:Int):Rat):=Rat.intCast_le_intCast.2 (by omega);exact Rat.le_trans l m
 have o:(0:Rat)<(N:Rat):=Rat.natCast_pos.2 (by omega);have p:=Rat.inv_pos.2 o;have e:(N:Rat)*(N:Rat)⁻¹=1:=by grind
 have u:ε⁻¹*ε=1:=by grind
 generalize (N:Rat)⁻¹=i at *;generalize (N:Rat)=n at *;generalize ε⁻¹=j at *;have g:=mul_le (mul_le c1 (Rat.le_of_lt b)) (Rat.le_of_lt p);have q:(2*(d:Rat)+1)*j*ε*i=(2*(d:Rat)+1)*i:=by grind
 have r:n*ε*i=ε:=by grind
 rw[q,r] at g
 grind
def EvP (f:Nat→Rat):Prop:=∃ δ,0<δ∧∃ a,∀ N,a≤N→δ≤f N
theorem EvP.le {f g:Nat→Rat} (h:EvP f) (k:∃ a,∀ N,a≤N→f N≤g N):EvP g:=by
 obtain⟨δ,b,c,d⟩:=h;obtain⟨e,i⟩:=k;exact⟨δ,b,max c e,fun N j=>Rat.le_trans (d N (by omega)) (i N (by omega))⟩
theorem EvP.congr {f g:Nat→Rat} (h:EvP f) (k:∀ N,f N=g N):EvP g:=h.le ⟨0,fun N _=>by rw[k N];exact Rat.le_refl⟩
theorem EvP.add {f g:Nat→Rat} (h:EvP f) (k:EvP g):EvP (fun N=>f N+g N):=by
 obtain⟨δ,j,c,d⟩:=h;obtain⟨ε,l,e,i⟩:=k;refine⟨δ+ε,by grind,max c e,fun N m=>?_⟩;have a:=d N (by omega);have b:=i N (by omega)
 grind
theorem EvP.not {f:Nat→Rat} (h:EvP f) (k:EvP (fun N=>- f N)):False:=by
 obtain⟨δ,i,c,e⟩:=h;obtain⟨ε,j,d,g⟩:=k;have a:=e (max c d) (by omega);have b:=g (max c d) (by omega)
 grind
theorem EvP.scale {f:Nat→Rat} (c:Rat) (a:0<c) (h:EvP f):EvP (fun N=>c*f N):=by
 obtain⟨δ,b,d,e⟩:=h;exact⟨c*δ,Rat.mul_pos a b,d,fun N g=>Rat.mul_le_mul_of_nonneg_left (e N g) (Rat.le_of_lt a)⟩
theorem EvP.const {c:Rat} (a:0<c):EvP (fun _=>c):=⟨c,a,0,fun _ _=>Rat.le_refl⟩
theorem EvP.quot {f g:Nat→Rat} {M:Rat} (h:EvP (fun N=>f N*g N)) (k:∃ m,∀ N,m≤N→0≤g N∧g N≤M):EvP f:=by
 obtain⟨δ,n,i,o⟩:=h;obtain⟨j,p⟩:=k;have d:∀ N,i≤N→j≤N→0<M∧δ≤f N*M:=by
  intro N q s;have a:δ≤f N*g N:=o N q;obtain⟨b,c⟩:=p N s;have t:0<g N:=by
   refine Rat.not_le.1 fun u=>?_;have:g N=0:=by grind
   rw[this] at a
   grind
  have v:0≤f N:=by
   refine Rat.not_lt.1 fun w=>?_;have:=Rat.mul_pos (show 0 < - f N by grind) t
   grind
  have:=Rat.mul_le_mul_of_nonneg_left c v;exact⟨by grind,by grind⟩
 have x:=(d (max i j) (by omega) (by omega)).1;have l:=Rat.inv_pos.2 x;have e:M*M⁻¹=1:=by grind
 refine⟨δ*M⁻¹,Rat.mul_pos n l,max i j,fun N y=>?_⟩;have a:=mul_le (d N (by omega) (by omega)).2 (Rat.le_of_lt l);have r:f N*M*M⁻¹=f N:=by grind
 rw[r] at a;exact a
end
section
def xv (p q d:Int) (N:Nat):Rat:=(p:Rat)+(q:Rat)*sg N d
theorem cast_pos {n:Int} (h:0<n):(1:Rat)≤(n:Rat):=by
 have:((1:Int):Rat)≤(n:Rat):=Rat.intCast_le_intCast.2 (by omega)
 simpa using this
theorem cast_nn {n:Int} (h:0≤n):(0:Rat)≤(n:Rat):=Rat.intCast_nonneg.2 h
theorem rsg_pos {p q d:Int} (v:1≤d) (D:q=0∨p*p≠q*q*d) (h:rsg p q d=1):EvP (xv p q d):=by
 have E:=cast_pos (n:=d) (by omega);unfold rsg rsS at h;rcases sign3 p with ⟨y,l⟩|⟨y,l⟩|⟨y,l⟩ <;> rcases sign3 q with ⟨s2,m⟩|⟨s2,m⟩|⟨s2,m⟩ <;> rw[y,s2] at h
 ·simp at h
 ·simp at h
 ·have w:¬ 0<(p*p - q*q*d).sign:=by
   intro w;rw[if_neg (by decide),if_pos w] at h;omega
  have B:p*p<q*q*d:=by
   rcases sign3 (p*p - q*q*d) with ⟨s,k⟩|⟨s,k⟩|⟨s,k⟩ <;> omega
  have c1:(1:Rat)≤(q:Rat)*q*d - p*p:=by
   have:=cast_pos (n:=q*q*d - p*p) (by omega)
   simpa[Rat.intCast_sub,Rat.intCast_mul] using this
  have z:(p:Rat)≤-1:=by
   have:=cast_pos (n:=-p) (by omega);rw[Rat.intCast_neg] at this
   grind
  have x:=cast_pos m;have A:(0:Rat)<2*(q*q):=by have:=Rat.mul_pos (show (0:Rat)<q by grind) (show (0:Rat)<q by grind);grind
  obtain⟨i,f⟩:=near v (Rat.inv_pos.2 A);have e:(q:Rat)*q*(2*((q:Rat)*q))⁻¹=1 / 2:=by grind
  refine EvP.quot (g:=fun N=>(q:Rat)*sg N d - p) (M:=(q:Rat)*d - p) ?_ ⟨i,fun N h=>?_⟩
  ·refine(EvP.const (c:=1 / 2) (by grind)).le ⟨i,fun N h=>?_⟩;obtain⟨j,o,r,t⟩:=f N h;have g:=Rat.mul_le_mul_of_nonneg_left t (show (0:Rat)≤(q:Rat)*q by grind);have u:xv p q d N*((q:Rat)*sg N d - p)=(q:Rat)*q*(sg N d*sg N d) - p*p:=by unfold xv;grind
   have C:(q:Rat)*q*(sg N d*sg N d+(2*((q:Rat)*q))⁻¹)=(q:Rat)*q*(sg N d*sg N d)+1 / 2:=by grind
   rw[C] at g;show (1:Rat) / 2≤xv p q d N*((q:Rat)*sg N d - p);rw[u]
   grind
  ·obtain⟨j,o,r,t⟩:=f N h;have a:=Rat.mul_nonneg (show (0:Rat)≤q by grind) j;have b:=Rat.mul_le_mul_of_nonneg_left o (show (0:Rat)≤q by grind);exact⟨by grind,by grind⟩
 ·simp at h
 ·simp at h
 ·subst l;have x:=cast_pos m;obtain⟨i,f⟩:=near v (show (0:Rat)<1 / 2 by grind);refine EvP.quot (g:=fun N=>sg N d) (M:=d) ?_ ⟨i,fun N h=>⟨(f N h).1,(f N h).2.1⟩⟩;refine(EvP.const (c:=1 / 2) (by grind)).le ⟨i,fun N h=>?_⟩;obtain⟨j,o,r,t⟩:=f N h;have g:=mul_le x (Rat.mul_nonneg j j);have u:xv 0 q d N*sg N d=(q:Rat)*(sg N d*sg N d):=by unfold xv;grind
  show (1:Rat) / 2≤xv 0 q d N*sg N d
  rw[u]
  grind
 ·have w:0<(p*p - q*q*d).sign:=by
   refine Int.not_le.1 fun w=>?_;rw[if_neg (by decide),if_neg (by omega)] at h;omega
  have B:q*q*d<p*p:=by
   rcases sign3 (p*p - q*q*d) with ⟨s,k⟩|⟨s,k⟩|⟨s,k⟩ <;> omega
  have c1:(1:Rat)≤(p:Rat)*p - q*q*d:=by
   have:=cast_pos (n:=p*p - q*q*d) (by omega)
   simpa[Rat.intCast_sub,Rat.intCast_mul] using this
  have x:(q:Rat)≤-1:=by
   have:=cast_pos (n:=-q) (by omega);rw[Rat.intCast_neg] at this
   grind
  have z:=cast_pos l;have A:(0:Rat)≤(q:Rat)*q:=by have:=Rat.mul_nonneg (show (0:Rat)≤-q by grind) (show (0:Rat)≤-q by grind);grind
  obtain⟨i,f⟩:=near v (show (0:Rat)<1 / 2 by grind);refine EvP.quot (g:=fun N=>(p:Rat) - q*sg N d) (M:=(p:Rat) - q*d) ?_ ⟨i,fun N h=>?_⟩
  ·refine(EvP.const (c:=1) (by grind)).le ⟨i,fun N h=>?_⟩;obtain⟨j,o,r,t⟩:=f N h;have g:=Rat.mul_le_mul_of_nonneg_left r A;have u:xv p q d N*((p:Rat) - q*sg N d)=(p:Rat)*p - (q:Rat)*q*(sg N d*sg N d):=by unfold xv;grind
   show (1:Rat)≤xv p q d N*((p:Rat) - q*sg N d)
   rw[u]
   grind
  ·obtain⟨j,o,r,t⟩:=f N h;have a:=Rat.mul_nonneg (show (0:Rat)≤-q by grind) j;have b:=Rat.mul_le_mul_of_nonneg_left o (show (0:Rat)≤-q by grind);exact⟨by grind,by grind⟩
 ·subst m;have z:=cast_pos l;refine(EvP.const (c:=1) (by grind)).le ⟨0,fun N h=>?_⟩;unfold xv;simp only[Rat.intCast_zero]
  grind
 ·have z:=cast_pos l;have x:=cast_pos m;obtain⟨i,f⟩:=near v (show (0:Rat)<1 / 2 by grind);refine(EvP.const (c:=1) (by grind)).le ⟨i,fun N h=>?_⟩;have a:=Rat.mul_nonneg (show (0:Rat)≤q by grind) (f N h).1;unfold xv
  grind
theorem rsg_neg {p q d:Int} (g:q=0∨p*p≠q*q*d):rsg (-p) (-q) d = - rsg p q d:=by
 unfold rsg rsS;have e:(-p)*(-p) - (-q)*(-q)*d=p*p - q*q*d:=by grind
 rw[e,Int.sign_neg,Int.sign_neg];rcases sign3 p with ⟨a,b⟩|⟨a,b⟩|⟨a,b⟩ <;> rcases sign3 q with ⟨s2,c⟩|⟨s2,c⟩|⟨s2,c⟩ <;> rcases sign3 (p*p - q*q*d) with ⟨s3,f⟩|⟨s3,f⟩|⟨s3,f⟩ <;> first | omega | (rw[a,s2,s3];decide)
theorem rsg_val (p q d:Int):rsg p q d = -1∨rsg p q d=0∨rsg p q d=1:=by
 unfold rsg rsS;rcases sign3 p with ⟨a,b⟩|⟨a,b⟩|⟨a,b⟩ <;> rcases sign3 q with ⟨s2,c⟩|⟨s2,c⟩|⟨s2,c⟩ <;> rcases sign3 (p*p - q*q*d) with ⟨s3,e⟩|⟨s3,e⟩|⟨s3,e⟩ <;> rw[a,s2,s3] <;> decide
theorem rsg_nil {p q d:Int} (h:rsg p q d=0):p=0∧q=0:=by
 unfold rsg rsS at h;rcases sign3 p with ⟨a,b⟩|⟨a,b⟩|⟨a,b⟩ <;> rcases sign3 q with ⟨s2,c⟩|⟨s2,c⟩|⟨s2,c⟩ <;> rcases sign3 (p*p - q*q*d) with ⟨s3,e⟩|⟨s3,e⟩|⟨s3,e⟩ <;> rw[a,s2,s3] at h <;> first | exact⟨b,c⟩ | exact absurd h (by decide)
theorem rsg_min {p q d:Int} (b:1≤d) (a:q=0∨p*p≠q*q*d) (h:rsg p q d = -1):EvP (fun N=>- xv p q d N):=by
 have:=rsg_pos (p:=-p) (q:=-q) b (by rcases a with h | h;exact Or.inl (by omega);exact Or.inr (by rw[Int.neg_mul_neg,Int.neg_mul_neg];exact h)) (by rw[rsg_neg a,h];rfl)
 refine this.congr fun N=>?_;unfold xv;simp only[Rat.intCast_neg]
 grind
end
section
def vl (a:Qn) (N:Nat):Rat:=rx a+ry a*sg N a.d
end
end Go.Proofs.YtjahbjjekednfaaGreatDoor
