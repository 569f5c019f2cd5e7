import Derived.Test.YtjahbjjekednfaaGreatDoorBn
namespace Go.Proofs.YtjahbjjekednfaaGreatDoor
section
def ab (x:Rat):Rat:=if 0≤x then x else -x
theorem ab_p {x:Rat} (h:0≤x):ab x=x:=if_pos h
theorem ab_n {x:Rat} (h:x≤0):ab x = -x:=by
 unfold ab
 split
 ·grind
 ·rfl
def Nr (a:Qn) (P B T K:Int):Prop :=
 EvP (fun N=>ab (vl a N - (T:Rat) / (K:Rat)) - ab (vl a N - (P:Rat) / (B:Rat))) ∨
 ((∃ b,∀ N,b≤N→ab (vl a N - (T:Rat) / (K:Rat))=ab (vl a N - (P:Rat) / (B:Rat)))∧(B<K∨(B=K∧P≤T)))
theorem fr_mult {P B T K:Int} (h:Cn (fr P B)) (i:1≤K) (e:T*B=P*K):B<K∨(B=K∧P=T):=by
 have j:0<B:=h.ok.r;have d:B∣K:=dvd_of_low (a:=fr P B) (b:=fr T K) h.g (show P*K=T*B from e.symm) (show (0:Int)*K=0*B by rw[Int.zero_mul,Int.zero_mul]);have k:=Int.le_of_dvd (by omega) d;by_cases c:B<K
 ·exact Or.inl c
 ·have f:B=K:=by omega
  subst f;exact Or.inr ⟨rfl,(Int.eq_of_mul_eq_mul_right (by omega) e).symm⟩
theorem fr_sub {p q t k:Int} (a:0<q) (b:0<k):(p:Rat) / q - (t:Rat) / k=((p*k - t*q:Int):Rat)*((q:Rat)*k)⁻¹:=by
 have c:(q:Rat)≠0:=cast_ne (by omega);have d:(k:Rat)≠0:=cast_ne (by omega);simp only[Rat.intCast_sub,Rat.intCast_mul]
 grind
theorem fr_inv {q k:Int} (a:0<q) (b:0<k):(0:Rat)<((q:Rat)*k)⁻¹:=Rat.inv_pos.2 (Rat.mul_pos (Rat.intCast_pos.2 a) (Rat.intCast_pos.2 b))
theorem fr_lt {p q t k:Int} (a:0<q) (b:0<k) (h:t*q<p*k):(t:Rat) / k<(p:Rat) / q:=by
 have e:=fr_sub (p:=p) (t:=t) a b;have:=Rat.mul_pos (Rat.intCast_pos.2 (show 0<p*k - t*q by omega)) (fr_inv a b);rw[← e] at this
 grind
theorem fr_same {p q t k:Int} (a:0<q) (b:0<k) (h:t*q=p*k):(t:Rat) / k=(p:Rat) / q:=by
 have e:=fr_sub (p:=p) (t:=t) a b;rw[show p*k - t*q=0 by omega,Rat.intCast_zero] at e
 grind
theorem ev_at {f:Nat→Rat} (h:EvP f):∃ a,∀ N,a≤N→0<f N:=by
 obtain⟨δ,d,a,b⟩:=h;exact⟨a,fun N c=>by have:=b N c;grind⟩
theorem adj {e a f b n T K:Int} (g:1≤a) (h:1≤b) (i:f*a - e*b=1) (k:n<a+b) (l:K≤n):T*a≤e*K∨f*K≤T*b:=by
 by_cases c:T*a≤e*K
 ·exact Or.inl c
 ·refine Or.inr (Int.not_lt.1 fun d=>?_);have m:a*1≤a*(f*K - T*b):=Int.mul_le_mul_of_nonneg_left (by omega) (by omega);have o:b*1≤b*(T*a - e*K):=Int.mul_le_mul_of_nonneg_left (by omega) (by omega);have j:a*(f*K - T*b)+b*(T*a - e*K)=K*(f*a - e*b):=by grind
  rw[i] at j;omega
theorem near_lo {a:Qn} {g b f d n T K:Int} (c1:Cn (fr g b)) (c2:Cn (fr f d)) (A:f*b - g*d=1) (E:n<b+d) (l:1≤K) (F:K≤n)
 (G:EvP (fun N=>vl a N - (g:Rat) / b)) (H:EvP (fun N=>(f:Rat) / d - vl a N))
 (j:EvP (fun N=>((g:Rat) / b+(f:Rat) / d) / 2 - vl a N)∨((∀ N,vl a N=((g:Rat) / b+(f:Rat) / d) / 2)∧b≤d)):Nr a g b T K:=by
 unfold Nr;have m:0<b:=c1.ok.r;have h:0<d:=c2.ok.r;obtain⟨o,s⟩:=ev_at G;obtain⟨w,y⟩:=ev_at H;rcases adj (T:=T) (by omega) (by omega) A E F with hT | hT
 ·by_cases e:T*b=g*K
  ·have er:=fr_same m (by omega) e;refine Or.inr ⟨⟨0,fun N _=>by rw[er]⟩,?_⟩;rcases fr_mult c1 l e with k | ⟨z,B⟩
   ·exact Or.inl k
   ·exact Or.inr ⟨z,by omega⟩
  ·have er:=fr_lt m (show 0<K by omega) (show T*b<g*K by omega);generalize (T:Rat) / (K:Rat)=ρ at *;generalize (g:Rat) / (b:Rat)=i at *;refine Or.inl ((EvP.const (c:=i - ρ) (by grind)).le ⟨o,fun N u=>?_⟩);have:=s N u;rw[ab_p (x:=vl a N - ρ) (by grind),ab_p (x:=vl a N - i) (by grind)]
   grind
 ·have er:(f:Rat) / d≤(T:Rat) / K:=by
   by_cases e:T*d=f*K
   ·rw[fr_same h (by omega) e];exact Rat.le_refl
   ·exact Rat.le_of_lt (fr_lt (p:=T) (q:=K) (t:=f) (k:=d) (by omega) h (by omega))
  rcases j with j | ⟨j,M⟩
  ·generalize (T:Rat) / (K:Rat)=ρ at *;generalize (g:Rat) / (b:Rat)=i at *;generalize (f:Rat) / (d:Rat)=v at *;refine Or.inl ((j.scale 2 (by decide)).le ⟨max o w,fun N u=>?_⟩);have:=s N (by omega);have:=y N (by omega);rw[ab_n (x:=vl a N - ρ) (by grind),ab_p (x:=vl a N - i) (by grind)]
   grind
  ·by_cases e:T*d=f*K
   ·have C:=fr_same h (show 0<K by omega) e;refine Or.inr ⟨⟨max o w,fun N u=>?_⟩,?_⟩
    ·have I:=s N (by omega);have J:=y N (by omega);have L:=j N;rw[C];generalize (g:Rat) / (b:Rat)=i at *;generalize (f:Rat) / (d:Rat)=v at *;rw[ab_n (x:=vl a N - v) (by grind),ab_p (x:=vl a N - i) (by grind)]
     grind
    ·rcases fr_mult c2 l e with k | ⟨z,B⟩
     ·exact Or.inl (by omega)
     ·by_cases c:b<K
      ·exact Or.inl c
      ·have D:b=K:=by omega
       refine Or.inr ⟨D,?_⟩;rw[D,z,← Int.sub_mul] at A;rw[← B];refine Int.not_lt.1 fun O=>?_;have:=Int.mul_nonpos_of_nonpos_of_nonneg (show f - g≤0 by omega) (show 0≤K by omega);omega
   ·have C:=fr_lt (p:=T) (q:=K) (t:=f) (k:=d) (by omega) h (by omega);generalize (T:Rat) / (K:Rat)=ρ at *;generalize (g:Rat) / (b:Rat)=i at *;generalize (f:Rat) / (d:Rat)=v at *;refine Or.inl ((EvP.const (c:=ρ - v) (by grind)).le ⟨max o w,fun N u=>?_⟩);have I:=s N (by omega);have J:=y N (by omega);have L:=j N;rw[ab_n (x:=vl a N - ρ) (by grind),ab_p (x:=vl a N - i) (by grind)]
    grind
theorem near_hi {a:Qn} {f b g d n T K:Int} (c1:Cn (fr f b)) (c2:Cn (fr g d)) (B:g*b - f*d=1) (C:n<b+d) (l:1≤K) (D:K≤n)
 (E:EvP (fun N=>vl a N - (f:Rat) / b)) (F:EvP (fun N=>(g:Rat) / d - vl a N))
 (j:EvP (fun N=>vl a N - ((f:Rat) / b+(g:Rat) / d) / 2)∨((∀ N,vl a N=((f:Rat) / b+(g:Rat) / d) / 2)∧d<b)):Nr a g d T K:=by
 unfold Nr;have h:0<b:=c1.ok.r;have m:0<d:=c2.ok.r;obtain⟨w,y⟩:=ev_at E;obtain⟨o,s⟩:=ev_at F;rcases adj (T:=T) (by omega) (by omega) B C D with hT | hT
 ·have er:(T:Rat) / K≤(f:Rat) / b:=by
   by_cases e:T*b=f*K
   ·rw[fr_same h (by omega) e];exact Rat.le_refl
   ·exact Rat.le_of_lt (fr_lt h (by omega) (by omega))
  rcases j with j | ⟨j,L⟩
  ·generalize (T:Rat) / (K:Rat)=ρ at *;generalize (f:Rat) / (b:Rat)=u at *;generalize (g:Rat) / (d:Rat)=i at *;refine Or.inl ((j.scale 2 (by decide)).le ⟨max w o,fun N v=>?_⟩);have:=y N (by omega);have:=s N (by omega);rw[ab_p (x:=vl a N - ρ) (by grind),ab_n (x:=vl a N - i) (by grind)]
   grind
  ·by_cases e:T*b=f*K
   ·have z:=fr_same h (show 0<K by omega) e;refine Or.inr ⟨⟨max w o,fun N v=>?_⟩,?_⟩
    ·have G:=y N (by omega);have H:=s N (by omega);have I:=j N;rw[z];generalize (f:Rat) / (b:Rat)=u at *;generalize (g:Rat) / (d:Rat)=i at *;rw[ab_p (x:=vl a N - u) (by grind),ab_n (x:=vl a N - i) (by grind)]
     grind
    ·rcases fr_mult c1 l e with k | ⟨A,J⟩ <;> exact Or.inl (by omega)
   ·have z:=fr_lt h (show 0<K by omega) (show T*b<f*K by omega);generalize (T:Rat) / (K:Rat)=ρ at *;generalize (f:Rat) / (b:Rat)=u at *;generalize (g:Rat) / (d:Rat)=i at *;refine Or.inl ((EvP.const (c:=u - ρ) (by grind)).le ⟨max w o,fun N v=>?_⟩);have G:=y N (by omega);have H:=s N (by omega);have I:=j N;rw[ab_p (x:=vl a N - ρ) (by grind),ab_n (x:=vl a N - i) (by grind)]
    grind
 ·by_cases e:T*d=g*K
  ·have er:=fr_same m (by omega) e;refine Or.inr ⟨⟨0,fun N _=>by rw[er]⟩,?_⟩;rcases fr_mult c2 l e with k | ⟨A,J⟩
   ·exact Or.inl k
   ·exact Or.inr ⟨A,by omega⟩
  ·have er:=fr_lt (p:=T) (q:=K) (t:=g) (k:=d) (by omega) m (by omega);generalize (T:Rat) / (K:Rat)=ρ at *;generalize (g:Rat) / (d:Rat)=i at *;refine Or.inl ((EvP.const (c:=ρ - i) (by grind)).le ⟨o,fun N v=>?_⟩);have:=s N v;rw[ab_n (x:=vl a N - ρ) (by grind),ab_n (x:=vl a N - i) (by grind)]
   grind
theorem vl_fr (P Q:Int) (N:Nat):vl (fr P Q) N=(P:Rat) / (Q:Rat):=by
 unfold vl rx ry fr;simp only[Rat.intCast_zero]
 grind
theorem md_cn {b lq op a:Int} (c:1≤lq) (d:1≤a):InF 1 (md b lq op a):=by
 have e:=Int.mul_pos (show 0<lq by omega) (show 0<a by omega);exact inf_red (by omega) (qreduce_ok (by omega) (by decide) (by decide) sqfree_one (fun _=>rfl)) (fun h=>absurd rfl h)
theorem md_vl {b lq op a:Int} (c:1≤lq) (d:1≤a) (N:Nat):vl (md b lq op a) N=((b:Rat) / lq+(op:Rat) / a) / 2:=by
 have e:=Int.mul_pos (show 0<lq by omega) (show 0<a by omega);have f:(lq:Rat)≠0:=cast_ne (by omega);have g:(a:Rat)≠0:=cast_ne (by omega);rw[vl_in (md_cn c d)];unfold md;rw[rx_red (by omega),ry_red (by omega)];simp only[Rat.intCast_add,Rat.intCast_mul,Rat.intCast_zero]
 grind
end
section
theorem cmp_ev {a:Qn} {P Q:Int} (h:Cn a) (b:Cn (fr P Q)):(qcmp a (fr P Q)=1→EvP (fun N=>vl a N - (P:Rat) / Q))∧(qcmp a (fr P Q) = -1→EvP (fun N=>(P:Rat) / Q - vl a N)):=by
 rcases cmp_sem h b with ⟨o,k⟩|⟨o,k⟩|⟨o,k⟩
 ·exact⟨fun _=>EvP.congr k fun N=>by rw[vl_fr],fun e=>by omega⟩
 ·exact⟨fun e=>by omega,fun _=>EvP.congr k fun N=>by rw[vl_fr]⟩
 ·exact⟨fun e=>by omega,fun e=>by omega⟩
def Bst (a:Qn) (n P B:Int):Prop:=1≤B∧B≤n∧Cn (fr P B)∧∀ T K:Int,1≤K→K≤n→Nr a P B T K
theorem nq_ok {a:Qn} (h:Cn a) {f b g d n:Int} (c1:Cn (fr f b)) (c2:Cn (fr g d)) (s:g*b - f*d=1) (t:n<b+d) (y:b≤n) (z:d≤n)
 (u:EvP (fun N=>vl a N - (f:Rat) / b)) (v:EvP (fun N=>(g:Rat) / d - vl a N)) {M:Qn} (A:Cn M) (m:∀ N,vl M N=((f:Rat) / b+(g:Rat) / d) / 2) {r:Int × Int} (i:r=nq (qcmp a M) (f,b) (g,d)):Bst a n r.1 r.2:=by
 have B:0<b:=c1.ok.r;have C:0<d:=c2.ok.r;have w:r=(f,b)→(EvP (fun N=>((f:Rat) / b+(g:Rat) / d) / 2 - vl a N)∨((∀ N,vl a N=((f:Rat) / b+(g:Rat) / d) / 2)∧b≤d))→Bst a n r.1 r.2:=fun e j=>by
  rw[e];exact⟨by show 1≤b;omega,y,c1,fun T K p q=>near_lo c1 c2 s t p q u v j⟩
 have x:r=(g,d)→(EvP (fun N=>vl a N - ((f:Rat) / b+(g:Rat) / d) / 2)∨((∀ N,vl a N=((f:Rat) / b+(g:Rat) / d) / 2)∧d<b))→Bst a n r.1 r.2:=fun e j=>by
  rw[e];exact⟨by show 1≤d;omega,z,c2,fun T K p q=>near_hi c1 c2 s t p q u v j⟩
 unfold nq at i;rcases cmp_sem h A with ⟨o,k⟩|⟨o,k⟩|⟨o,k⟩
 ·rw[o,show (if (1:Int)=0 then ((f,b).2 - (g,d).2).sign else 1)=1 from if_neg (by decide),if_pos (by decide)] at i;exact x i (Or.inl (EvP.congr k fun N=>by rw[m]))
 ·rw[o,show (if (-1:Int)=0 then ((f,b).2 - (g,d).2).sign else -1) = -1 from if_neg (by decide),if_neg (by decide)] at i;exact w i (Or.inl (EvP.congr k fun N=>by rw[m]))
 ·rw[o,if_pos rfl] at i;have j:∀ N,vl a N=((f:Rat) / b+(g:Rat) / d) / 2:=fun N=>by rw[k,m]
  by_cases c:0<(b - d).sign
  ·rw[if_pos c] at i;refine x i (Or.inr ⟨j,?_⟩);rcases sign3 (b - d) with ⟨l,s2⟩|⟨l,s2⟩|⟨l,s2⟩ <;> omega
  ·rw[if_neg c] at i;refine w i (Or.inr ⟨j,?_⟩);rcases sign3 (b - d) with ⟨l,s2⟩|⟨l,s2⟩|⟨l,s2⟩ <;> omega
theorem bst_ok {a:Qn} (h:Cn a) {n:Int} (X:1≤n) {J:Nat} (u:BAt a n J):Bst a n (bst a n J).1 (bst a n J).2:=by
 have v:=rl_start h;have hp:=u.pos h X;obtain⟨i,rfl⟩:∃ i,J=i+1:=⟨J - 1,by omega⟩;have on:∀ j,j<i+1→(rst (p0 a) (q0 a) (n0 a) j).2≠0:=fun j w=>(u.on j w).1;have z:=(cvq_pos (u.tms h) i (by omega)).1;have G:=(u.lq h X (i+1) (Nat.le_refl _)).2;have g:=cv_cn v i on;by_cases hz:(rs a (i+1)).2=0
 ·have e:bst a n (i+1)=lst' a (i+1):=if_pos hz;rw[e];obtain⟨H,I⟩:=cv_end v i (fun j w=>on j (by omega)) hz;have ea:=fr_eq h H g I;refine⟨z,G,g,fun T K k0 k1=>?_⟩;have Y:∀ N,vl a N=((cv (p0 a) (q0 a) (n0 a) (i+1)).lp:Rat) / ((cv (p0 a) (q0 a) (n0 a) (i+1)).lq:Rat):=fun N=>(congrArg (fun b=>vl b N) ea).trans (vl_fr _ _ _);show Nr a (cv (p0 a) (q0 a) (n0 a) (i+1)).lp (cv (p0 a) (q0 a) (n0 a) (i+1)).lq T K;generalize (cv (p0 a) (q0 a) (n0 a) (i+1)).lp=l at *;generalize (cv (p0 a) (q0 a) (n0 a) (i+1)).lq=lq at *;unfold Nr;rcases Int.lt_trichotomy (T*lq) (l*K) with c | c | c
  ·have er:=fr_lt (show 0<lq by omega) (show 0<K by omega) c;generalize (T:Rat) / (K:Rat)=ρ at *;generalize (l:Rat) / (lq:Rat)=x at *;refine Or.inl ((EvP.const (c:=x - ρ) (by grind)).le ⟨0,fun N _=>?_⟩);rw[Y N,ab_p (x:=x - ρ) (by grind),ab_p (x:=x - x) (by grind)]
   grind
  ·refine Or.inr ⟨⟨0,fun N _=>by rw[fr_same (show 0<lq by omega) (show 0<K by omega) c]⟩,?_⟩;rcases fr_mult g k0 c with k | ⟨k,k'⟩
   ·exact Or.inl k
   ·exact Or.inr ⟨k,by omega⟩
  ·have er:=fr_lt (p:=T) (q:=K) (t:=l) (k:=lq) (by omega) (by omega) c;generalize (T:Rat) / (K:Rat)=ρ at *;generalize (l:Rat) / (lq:Rat)=x at *;refine Or.inl ((EvP.const (c:=ρ - x) (by grind)).le ⟨0,fun N _=>?_⟩);rw[Y N,ab_n (x:=x - ρ) (by grind),ab_p (x:=x - x) (by grind)]
   grind
 ·have aa:n<(cv (p0 a) (q0 a) (n0 a) (i+2)).lq:=Int.not_le.1 fun k=>u.stop ⟨hz,k⟩;have f:∀ j,j≤i+1→(rst (p0 a) (q0 a) (n0 a) j).2≠0:=fun j w=>by
   by_cases c:j<i+1
   ·exact on j c
   ·rw[show j=i+1 by omega];exact hz
  have Z:=oth_det a n (i+1);have sL:=cv_side v i f;rw[← cmp_fr h g] at sL;have aL:=alt_succ i;have E:=cv_cn v (i+1) (fun j w=>f j (by omega));have lC:1≤(cv (p0 a) (q0 a) (n0 a) (i+2)).lq:=E.ok.r;have F:a=fr (cv (p0 a) (q0 a) (n0 a) (i+2)).lp (cv (p0 a) (q0 a) (n0 a) (i+2)).lq∨qcmp a (fr (cv (p0 a) (q0 a) (n0 a) (i+2)).lp (cv (p0 a) (q0 a) (n0 a) (i+2)).lq)=alt (i+1):=by
   by_cases A:(rst (p0 a) (q0 a) (n0 a) (i+1+1)).2=0
   ·obtain⟨H,I⟩:=cv_end v (i+1) f A;exact Or.inl (fr_eq h H E I)
   ·have:=cv_side v (i+1) (fun j w=>by
     by_cases c:j≤i+1
     ·exact f j c
     ·rw[show j=i+1+1 by omega];exact A)
    rw[← cmp_fr h E] at this;exact Or.inr this
  have B:=cv_det (p0 a) (q0 a) (n0 a) (i+1);obtain⟨t1,t2⟩:=fl_pos (x:=n - (cv (p0 a) (q0 a) (n0 a) (i+1)).aq) (y:=(cv (p0 a) (q0 a) (n0 a) (i+1)).lq) (by omega);have ac:0≤(cv (p0 a) (q0 a) (n0 a) (i+1)).aq:=(cvq_pos (u.tms h) i (by omega)).2.1;have L:(cv (p0 a) (q0 a) (n0 a) (i+2)).lp=tm (p0 a) (q0 a) (n0 a) (i+1)*(cv (p0 a) (q0 a) (n0 a) (i+1)).lp+(cv (p0 a) (q0 a) (n0 a) (i+1)).ap:=rfl;have M:(cv (p0 a) (q0 a) (n0 a) (i+2)).lq=tm (p0 a) (q0 a) (n0 a) (i+1)*(cv (p0 a) (q0 a) (n0 a) (i+1)).lq+(cv (p0 a) (q0 a) (n0 a) (i+1)).aq:=rfl;have eB:bst a n (i+1)=if alt (i+1)=1 then nq (qcmp a (md (lst' a (i+1)).1 (lst' a (i+1)).2 (oth a n (i+1)).1 (oth a n (i+1)).2)) (oth a n (i+1)) (lst' a (i+1)) else nq (qcmp a (md (lst' a (i+1)).1 (lst' a (i+1)).2 (oth a n (i+1)).1 (oth a n (i+1)).2)) (lst' a (i+1)) (oth a n (i+1)):=if_neg hz
  rw[eB];clear eB;unfold oth lst' at *;simp only at *;generalize fl (n - (cv (p0 a) (q0 a) (n0 a) (i+1)).aq) (cv (p0 a) (q0 a) (n0 a) (i+1)).lq=t at *;generalize (cv (p0 a) (q0 a) (n0 a) (i+2)).lp=m at *;generalize (cv (p0 a) (q0 a) (n0 a) (i+2)).lq=o at *;generalize tm (p0 a) (q0 a) (n0 a) (i+1)=tt at *;generalize (cv (p0 a) (q0 a) (n0 a) (i+1)).lp=l at *;generalize (cv (p0 a) (q0 a) (n0 a) (i+1)).lq=lq at *;generalize (cv (p0 a) (q0 a) (n0 a) (i+1)).ap=ap at *;generalize (cv (p0 a) (q0 a) (n0 a) (i+1)).aq=aq at *;generalize hop:t*l+ap=op at *;generalize hoq:t*lq+aq=d at *;have ad:t<tt:=by
   refine Int.not_le.1 fun k=>?_;have:=Int.mul_le_mul_of_nonneg_right k (show 0≤lq by omega);omega
  have C:1≤d:=by omega
  have o2:d≤n:=by omega
  have D:m*d - op*o=(tt - t)*alt (i+1):=by
   rw[← B,L,M,← hop,← hoq]
   grind
  have cO:Cn (fr op d):=fr_cn (P:=op) (Q:=d) (R:=l) (S:=lq) (e:=- alt (i+1)) C (by rcases alt_two (i+1) with s | s <;> omega) (by omega)
  obtain⟨O,U⟩:=cmp_ev h g;obtain⟨V,W⟩:=cmp_ev h E;have vC:a=fr m o→∀ N,vl a N=(m:Rat) / o:=fun e N=>(congrArg (fun b=>vl b N) e).trans (vl_fr _ _ _);rcases alt_two (i+1) with s | s
  ·rw[if_pos s];rw[s] at Z D F;have er:=fr_lt (p:=m) (q:=o) (t:=op) (k:=d) (by omega) (by omega) (by omega);have hl:EvP (fun N=>vl a N - (op:Rat) / d):=by
    rcases F with e | e
    ·exact(EvP.const (c:=(m:Rat) / o - (op:Rat) / d) (by grind)).congr fun N=>by rw[vC e N]
    ·exact(V e).le ⟨0,fun N _=>by grind⟩
   refine nq_ok h cO g (by omega) (by omega) o2 G hl (U (by omega)) (md_cn z C).cn (fun N=>?_) rfl;rw[md_vl z C]
   grind
  ·rw[if_neg (by omega)];rw[s] at Z D F;have er:=fr_lt (p:=op) (q:=d) (t:=m) (k:=o) (by omega) (by omega) (by omega);have hh:EvP (fun N=>(op:Rat) / d - vl a N):=by
    rcases F with e | e
    ·exact(EvP.const (c:=(op:Rat) / d - (m:Rat) / o) (by grind)).congr fun N=>by rw[vC e N]
    ·exact(W e).le ⟨0,fun N _=>by grind⟩
   exact nq_ok h g cO (by omega) (by omega) G o2 (O (by omega)) hh (md_cn z C).cn (fun N=>md_vl z C N) rfl
end
end Go.Proofs.YtjahbjjekednfaaGreatDoor
