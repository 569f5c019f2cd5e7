import Derived.Test.YtjahbjjekednfaaGreatDoorF1
import Derived.Test.YtjahbjjekednfaaGreatDoorH1
namespace Go.Proofs.YtjahbjjekednfaaGreatDoor
section
def ovr (a:Qn) (t:Int):Int:=rsg (a.p - t*a.r) a.q a.d
theorem ovr_irr {a:Qn} (h:Cn a) (t:Int):a.q=0∨(a.p - t*a.r)*(a.p - t*a.r)≠a.q*a.q*a.d:=by
 by_cases hq:a.q=0
 ·exact Or.inl hq
 ·have b:a.d≠1:=fun e=>hq (h.ok.q.2 e);have c:=h.ok.d0;exact Or.inr (irr h.ok.f (by omega) hq)
theorem ovr_vl {a:Qn} (h:0<a.r) (t:Int) (N:Nat):xv (a.p - t*a.r) a.q a.d N=(a.r:Rat)*(vl a N - t):=by
 have k:(a.r:Rat)≠0:=cast_ne (by omega);unfold xv vl rx ry;simp only[Rat.intCast_sub,Rat.intCast_mul]
 grind
theorem ovr_min {a:Qn} (h:Cn a) {t:Int} (k:ovr a t<0):EvP (fun N=>(t:Rat) - vl a N):=by
 have b:=h.ok.d0;have c:(0:Rat)<(a.r:Rat):=Rat.intCast_pos.2 h.ok.r;have e:(a.r:Rat)⁻¹*(a.r:Rat)=1:=by grind
 have f:ovr a t = -1:=by
  have:=rsg_val (a.p - t*a.r) a.q a.d;unfold ovr at *;omega
 refine((rsg_min b (ovr_irr h t) f).scale _ (Rat.inv_pos.2 c)).congr fun N=>?_;rw[ovr_vl h.ok.r];generalize (a.r:Rat)⁻¹=i at *
 grind
theorem ovr_lt {a:Qn} (h:Cn a) {t g:Int} (l:ovr a (t+1)<0) (m:0≤ovr a g):g≤t:=by
 refine Int.not_lt.1 fun n=>?_;have k:=ovr_min h l;have o:=h.ok.d0;have s:(0:Rat)<(a.r:Rat):=Rat.intCast_pos.2 h.ok.r;have e:(a.r:Rat)⁻¹*(a.r:Rat)=1:=by grind
 have y:((t+1:Int):Rat)≤(g:Rat):=Rat.intCast_le_intCast.2 (by omega);rcases rsg_val (a.p - g*a.r) a.q a.d with hv | hv | hv
 ·unfold ovr at m;omega
 ·obtain⟨u,v⟩:=rsg_nil hv;obtain⟨δ,z,j,w⟩:=k;have b:=w j (Nat.le_refl _);have c:=ovr_vl h.ok.r g j;rw[u,v] at c;have c2:xv 0 0 a.d j=0:=by unfold xv;grind
  rw[c2] at c;have c3:vl a j - (g:Rat)=0:=by grind
  grind
 ·have x:=((rsg_pos o (ovr_irr h g) hv).scale _ (Rat.inv_pos.2 s));refine EvP.not (f:=fun N=>((t+1:Int):Rat) - vl a N) k (x.le ⟨0,fun N _=>?_⟩);rw[ovr_vl h.ok.r];have:(a.r:Rat)⁻¹*((a.r:Rat)*(vl a N - g))=vl a N - g:=by
   generalize (a.r:Rat)⁻¹=i at *
   grind
  rw[this]
  grind
structure Rl (g p q n:Int) (a:Qn):Prop where
 cn:Cn a
 q0:q≠0
 g0:0≤g
 en:n=g*g*a.d
 ex:a.p*q=p*a.r
 ey:a.q*q=g*a.r
 dv:q∣n - p*p
theorem Rl.nn {g p q n:Int} {a:Qn} (h:Rl g p q n a):0≤n:=by
 rw[h.en];exact Int.mul_nonneg (sq_nonneg' g) (by have:=h.cn.ok.d0;omega)
theorem rsg_flip {p q d:Int} {k:Int} (b:k≠0) (a:q=0∨p*p≠q*q*d):rsg (k*p) (k*q) d=if 0<k then rsg p q d else - rsg p q d:=by
 by_cases h:0<k
 ·rw[if_pos h,rsg_scale k p q d h]
 ·rw[if_neg h,← rsg_neg a,← rsg_scale (-k) (-p) (-q) d (by omega),Int.neg_mul_neg,Int.neg_mul_neg]
theorem ovr_rl {g p q n:Int} {a:Qn} (h:Rl g p q n a) (t:Int):ovr a t=if 0<q then rsg (p - t*q) g a.d else rsg (-(p - t*q)) (-g) a.d:=by
 have b:=h.cn.ok.r;have c:=h.q0;have e:0<q*q:=by
  have:=sq_nonneg' q;have:q*q≠0:=Int.mul_ne_zero c c;omega
 have f:q*q*(a.p - t*a.r)=(q*a.r)*(p - t*q):=by have:=h.ex;grind
 have i:q*q*a.q=(q*a.r)*g:=by have:=h.ey;grind
 unfold ovr;rw[← rsg_scale (q*q) _ _ _ e,f,i];by_cases hp:0<q
 ·rw[if_pos hp,rsg_scale _ _ _ _ (Int.mul_pos hp b)]
 ·rw[if_neg hp];have:q*a.r*(p - t*q)=(-q*a.r)*(-(p - t*q)):=by grind
  rw[this,show q*a.r*g=(-q*a.r)*(-g) by grind,rsg_scale _ _ _ _ (Int.mul_pos (by omega) b)]
theorem rsg_ge {x g d:Int} (k:0≤g) (h:0≤x∨x*x≤g*g*d):0≤rsg x g d:=by
 have i:x<0→0<x*x:=fun a=>Int.mul_pos_of_neg_of_neg a a;have j:g=0→g*g*d=0:=fun e=>by rw[e];simp
 unfold rsg rsS;rcases sign3 x with ⟨b,a⟩|⟨b,a⟩|⟨b,a⟩ <;> rcases sign3 g with ⟨s2,c⟩|⟨s2,c⟩|⟨s2,c⟩ <;> rcases sign3 (x*x - g*g*d) with ⟨s3,f⟩|⟨s3,f⟩|⟨s3,f⟩ <;> first | omega | (rw[b,s2,s3];decide) | (have:=i a;have:=j c;omega)
theorem rsg_lt {x g d:Int} (f:x<0) (i:0≤g) (h:g*g*d<x*x):rsg x g d<0:=by
 unfold rsg rsS;rcases sign3 x with ⟨a,b⟩|⟨a,b⟩|⟨a,b⟩ <;> rcases sign3 g with ⟨s2,c⟩|⟨s2,c⟩|⟨s2,c⟩ <;> rcases sign3 (x*x - g*g*d) with ⟨s3,e⟩|⟨s3,e⟩|⟨s3,e⟩ <;> first | omega | (rw[a,s2,s3];decide)
theorem rsg_le {x g d:Int} (f:0<g) (h:x≤0∨x*x≤g*g*d) (i:x*x≠g*g*d):rsg x (-g) d<0:=by
 unfold rsg rsS;rw[Int.neg_mul_neg];rcases sign3 x with ⟨a,b⟩|⟨a,b⟩|⟨a,b⟩ <;> rcases sign3 (-g) with ⟨s2,c⟩|⟨s2,c⟩|⟨s2,c⟩ <;> rcases sign3 (x*x - g*g*d) with ⟨s3,e⟩|⟨s3,e⟩|⟨s3,e⟩ <;> first | omega | (rw[a,s2,s3];decide)
theorem rsg_gt {x g d:Int} (f:0<x) (i:0≤g) (h:g*g*d<x*x):0<rsg x (-g) d:=by
 unfold rsg rsS;rw[Int.neg_mul_neg];rcases sign3 x with ⟨a,b⟩|⟨a,b⟩|⟨a,b⟩ <;> rcases sign3 (-g) with ⟨s2,c⟩|⟨s2,c⟩|⟨s2,c⟩ <;> rcases sign3 (x*x - g*g*d) with ⟨s3,e⟩|⟨s3,e⟩|⟨s3,e⟩ <;> first | omega | (rw[a,s2,s3];decide)
theorem sq_mono {a b:Int} (c:0≤a) (h:a≤b):a*a≤b*b:=Int.mul_le_mul h h c (by omega)
theorem trm_floor {g p q n:Int} {a:Qn} (h:Rl g p q n a):0≤ovr a (trm p q n)∧ovr a (trm p q n+1)<0:=by
 have s:=h.nn;have H:=h.q0;have c:=h.en;obtain⟨I,J⟩:=isq_int s;obtain⟨t,u,v⟩:=nxp_at (p:=p) (q:=q) (n:=n);have w:p - trm p q n*q = - nxp p q n:=by unfold nxp;omega
 have y:p - (trm p q n+1)*q = - (nxp p q n+q):=by unfold nxp;rw[Int.add_mul,Int.one_mul];omega
 rw[ovr_rl h,ovr_rl h,w,y];generalize nxp p q n=x at *;have A:0≤((isq n.toNat:Nat):Int):=by omega
 generalize ((isq n.toNat:Nat):Int)=S at *;have j:=h.g0;have K:=h.cn.ok.d0;have B:g=0→n=0:=fun e=>by rw[c,e];simp
 have C:n=0→g=0:=fun e=>by
  rw[c] at e;rcases Int.mul_eq_zero.1 e with e | e
  ·rcases Int.mul_eq_zero.1 e with e | e <;> exact e
  ·omega
 by_cases hp:0<q
 ·obtain⟨k,l⟩:=t hp;rw[if_pos hp,if_pos hp];constructor
  ·refine rsg_ge j ?_;by_cases hx:0<x
   ·right
    have:=sq_mono (Int.le_of_lt hx) l;rw[Int.neg_mul_neg,← c];omega
   ·left;omega
  ·refine rsg_lt (by omega) j ?_;have:=sq_mono (show 0≤S+1 by omega) (show S+1≤x+q by omega);rw[Int.neg_mul_neg,← c];omega
 ·rw[if_neg hp,if_neg hp,Int.neg_neg,Int.neg_neg];by_cases i:0<n
  ·obtain⟨k,l⟩:=u (by omega) i;have b:0<g:=by
    rcases Int.lt_or_eq_of_le j with e | e
    ·exact e
    ·have:=B e.symm;omega
   constructor
   ·refine Int.le_of_lt (rsg_gt (by omega) j ?_);have:=sq_mono (show 0≤S+1 by omega) k;rw[← c];omega
   ·have D:∀ z:Int,z*z≠g*g*a.d:=by
     intro z;have m:a.q≠0:=fun e=>by
      have E:=h.ey;rw[e,Int.zero_mul] at E;have:=Int.mul_pos b h.cn.ok.r;omega
     have F:a.d≠1:=fun e=>m (h.cn.ok.q.2 e);exact irr h.cn.ok.f (by omega) (by omega)
    refine rsg_le b ?_ (D _);by_cases hx:0<x+q
    ·right
     have:=sq_mono (Int.le_of_lt hx) (show x+q≤S by omega);rw[← c];omega
    ·left;omega
  ·obtain⟨k,l⟩:=v (by omega) i;have o:n=0:=by omega
   have b:=C o;have G:S=0:=by
    rcases Int.lt_or_eq_of_le A with e | e
    ·have:=Int.mul_pos e e;omega
    ·exact e.symm
   subst b;constructor
   ·rw[Int.neg_zero];exact rsg_ge (Int.le_refl 0) (Or.inl (by omega))
   ·rw[Int.neg_zero];refine rsg_lt (by omega) (Int.le_refl 0) ?_;have:=Int.mul_pos_of_neg_of_neg (show x+q<0 by omega) (show x+q<0 by omega)
    simpa using this
theorem rl_left {g p q n:Int} {a:Qn} (h:Rl g p q n a) (t:Int):(a.p - t*a.r)*q = -(t*q - p)*a.r:=by
 have:=h.ex
 grind
theorem nxq_dv {g p q n:Int} {a:Qn} (h:Rl g p q n a):q∣n - nxp p q n*nxp p q n:=by
 obtain⟨k,b⟩:=h.dv;refine⟨k - trm p q n*(trm p q n*q - 2*p),?_⟩;unfold nxp
 grind
theorem nxq_mul {g p q n:Int} {a:Qn} (h:Rl g p q n a):q*nxq p q n=n - nxp p q n*nxp p q n:=Int.mul_tdiv_cancel' (nxq_dv h)
theorem nxq_zero {g p q n:Int} {a:Qn} (h:Rl g p q n a):nxq p q n=0↔a.p - trm p q n*a.r=0∧a.q=0:=by
 have s:=nxq_mul h;have o:=h.q0;have C:=h.cn.ok.r;have i:=rl_left h (trm p q n);have t:nxp p q n=trm p q n*q - p:=rfl;rw[← t] at i;have v:=h.en;generalize trm p q n=w at *;clear t;generalize nxp p q n=x at *;generalize nxq p q n=y at *;constructor
 ·intro e;rw[e,Int.mul_zero] at s;have j:a.q=0:=by
   refine Classical.byContradiction fun k=>?_;have z:a.d≠1:=fun e=>k (h.cn.ok.q.2 e);have D:=h.cn.ok.d0;have l:g≠0:=fun e=>by
    have b:=h.ey;rw[e,Int.zero_mul] at b;rcases Int.mul_eq_zero.1 b with e | e
    ·exact k e
    ·exact o e
   exact irr (u:=x) h.cn.ok.f (by omega) l (by omega)
  have l:g=0:=by
   have b:=h.ey;rw[j,Int.zero_mul] at b;rcases Int.mul_eq_zero.1 b.symm with e | e
   ·exact e
   ·omega
  have m:n=0:=by rw[v,l];simp
  have c:x=0:=by
   have:x*x=0:=by omega
   rcases Int.mul_eq_zero.1 this with e | e <;> exact e
  rw[c] at i;have:(a.p - w*a.r)*q=0:=by rw[i];simp
  rcases Int.mul_eq_zero.1 this with e | e
  ·exact⟨e,j⟩
  ·exact absurd e o
 ·rintro⟨A,B⟩;have l:g=0:=by
   have b:=h.ey;rw[B,Int.zero_mul] at b;rcases Int.mul_eq_zero.1 b.symm with e | e
   ·exact e
   ·omega
  rw[A,Int.zero_mul] at i;have c:x=0:=by
   rcases Int.mul_eq_zero.1 i.symm with e | e
   ·omega
   ·omega
  have m:n=0:=by rw[v,l];simp
  rw[c,m] at s;rcases Int.mul_eq_zero.1 (show q*y=0 by omega) with e | e
  ·exact absurd e o
  ·exact e
end
section
def les (a:Qn) (t:Int):Qn:=⟨a.p - t*a.r,a.q,a.r,a.d⟩
theorem les_cn {a:Qn} (h:Cn a) (t:Int):Cn (les a t):=by
 refine⟨⟨h.ok.r,h.ok.d0,h.ok.d1,h.ok.q,h.ok.f⟩,?_⟩;have e:Int.gcd a.r (a.p - t*a.r)=Int.gcd a.r a.p:=by
  apply Nat.dvd_antisymm
  ·refine Int.dvd_gcd (Int.gcd_dvd_left _ _) ?_;have b:=Int.gcd_dvd_left a.r (a.p - t*a.r);have c:=Int.gcd_dvd_right a.r (a.p - t*a.r);have d:=Int.dvd_add c (Int.dvd_trans b (Int.dvd_mul_left t a.r))
   rwa [Int.sub_add_cancel] at d
  ·refine Int.dvd_gcd (Int.gcd_dvd_left _ _) ?_;exact Int.dvd_sub (Int.gcd_dvd_right _ _) (Int.dvd_trans (Int.gcd_dvd_left _ _) (Int.dvd_mul_left t a.r))
 show Int.gcd (Int.gcd a.r (a.p - t*a.r)) a.q=1
 rw[e];exact h.g
def nxa (a:Qn) (t:Int):Qn:=(comb 47 ⟨1,0,1,1⟩ (les a t)).1
theorem nxa_ok {a:Qn} (h:Cn a) {t:Int} (c:¬ (a.p - t*a.r=0∧a.q=0)):comb 47 ⟨1,0,1,1⟩ (les a t)=(nxa a t,0)∧InF a.d (nxa a t)∧rx (les a t)*rx (nxa a t)+ry (les a t)*ry (nxa a t)*(a.d:Rat)=1∧rx (les a t)*ry (nxa a t)+ry (les a t)*rx (nxa a t)=0:=by
 have i:InF a.d (les a t):=inf_own (les_cn h t);obtain⟨j,k,l⟩:=f_inv i c;obtain⟨m,n,o,s⟩:=f_mul (inf_one a.d) j;have e:comb 47 ⟨1,0,1,1⟩ (les a t)=(qmulN ⟨1,0,1,1⟩ (qinv (les a t)),0):=by rw[qdiv_of c,m]
 have b:nxa a t=qmulN ⟨1,0,1,1⟩ (qinv (les a t)):=by unfold nxa;rw[e]
 have f:rx (nxa a t)=rx (qinv (les a t)):=by rw[b,o,rx_o,ry_o];grind
 have g:ry (nxa a t)=ry (qinv (les a t)):=by rw[b,s,rx_o,ry_o];grind
 refine⟨by rw[b];exact e,by rw[b];exact n,by rw[f,g];exact k,by rw[f,g];exact l⟩
theorem rat_of {a b c d:Int} (e:b≠0) (f:d≠0) (h:a*d=c*b):(a:Rat) / (b:Rat)=(c:Rat) / (d:Rat):=by
 have g:=cast_ne e;have i:=cast_ne f;have j:(a:Rat)*(d:Rat)=(c:Rat)*(b:Rat):=by rw[← Rat.intCast_mul,← Rat.intCast_mul,h]
 grind
theorem rl_next {g p q n:Int} {a:Qn} (h:Rl g p q n a) (l:¬ (a.p - trm p q n*a.r=0∧a.q=0)):Rl g (nxp p q n) (nxq p q n) n (nxa a (trm p q n)):=by
 obtain⟨_,c,m,o⟩:=nxa_ok h.cn l;have s:=nxq_mul h;have f:=h.q0;have C:=h.cn.ok.r;have u:=rl_left h (trm p q n);have j:nxp p q n=trm p q n*q - p:=rfl;rw[← j] at u;have b:nxq p q n≠0:=fun e=>l ((nxq_zero h).1 e);have k:=h.en;have v:=c.cn.ok.r;have X:rx (les a (trm p q n))=((-nxp p q n:Int):Rat) / (q:Rat):=rat_of (by show a.r≠0;omega) f u
 have Y:ry (les a (trm p q n))=(g:Rat) / (q:Rat):=rat_of (by show a.r≠0;omega) f h.ey
 rw[X,Y] at m o;generalize trm p q n=t at *;generalize nxp p q n=x at *;generalize nxq p q n=y at *;have D:=cast_ne f;have E:=cast_ne b;have F:=cast_ne (show (nxa a t).r≠0 by omega);have G:(q:Rat)*y=g*g*a.d - x*x:=by
  have:((q*y:Int):Rat)=((g*g*a.d - x*x:Int):Rat):=by rw[s,k]
  simpa[Rat.intCast_sub,Rat.intCast_mul] using this
 rw[Rat.intCast_neg] at m o;have w:-(x:Rat)*rx (nxa a t)+g*ry (nxa a t)*a.d=q:=by grind
 have z:-(x:Rat)*ry (nxa a t)+g*rx (nxa a t)=0:=by grind
 have A:rx (nxa a t)*y=x:=by
  have:q*(rx (nxa a t)*y)=q*(x:Rat):=by grind
  grind
 have B:ry (nxa a t)*y=g:=by
  have:q*(ry (nxa a t)*y)=q*(g:Rat):=by grind
  grind
 have c1:(nxa a t).p*y=x*(nxa a t).r:=by
  have:((nxa a t).p:Rat)*y=x*(nxa a t).r:=by
   unfold rx at A
   grind
  rw[← Rat.intCast_mul,← Rat.intCast_mul] at this
  exact_mod_cast this
 have c2:(nxa a t).q*y=g*(nxa a t).r:=by
  have:((nxa a t).q:Rat)*y=g*(nxa a t).r:=by
   unfold ry at B
   grind
  rw[← Rat.intCast_mul,← Rat.intCast_mul] at this
  exact_mod_cast this
 refine⟨c.cn,b,h.g0,?_,c1,c2,⟨q,by rw[← s,Int.mul_comm]⟩⟩;rcases c.i with e | e
 ·have:g=0:=by
   rw[e,Int.zero_mul] at c2;rcases Int.mul_eq_zero.1 c2.symm with e | e
   ·exact e
   ·omega
  rw[k,this];simp
 ·rw[k,e]
theorem rl_of {a:Qn} (h:Cn a):Rl (a.q.natAbs*a.r) ((if a.q<0 then -a.p else a.p)*a.r) ((if a.q<0 then -a.r else a.r)*a.r) (a.q*a.r*(a.q*a.r)*a.d) a:=by
 have c:=h.ok.r;have b:(a.q.natAbs:Int)=if a.q<0 then -a.q else a.q:=by split <;> omega
 refine⟨h,?_,Int.mul_nonneg (by omega) (by omega),?_,?_,?_,?_⟩
 ·refine Int.mul_ne_zero ?_ (by omega)
  split <;> omega
 ·rw[b]
  split <;> grind
 ·split <;> grind
 ·rw[b]
  split <;> grind
 ·split
  ·exact⟨a.p*a.p - a.q*a.q*a.d,by grind⟩
  ·exact⟨a.q*a.q*a.d - a.p*a.p,by grind⟩
end
section
theorem rl_size {g p q n:Int} {a:Qn} (h:Rl g p q n a):a.r.natAbs≤q.natAbs∧a.p.natAbs≤p.natAbs∧a.q.natAbs≤g.natAbs:=by
 have s:=h.cn.ok.r;have d:=h.q0;have f:a.r∣q:=by
  have i:a.r.natAbs∣q.natAbs*a.p.natAbs:=by
   rw[← Int.natAbs_mul];exact Int.natAbs_dvd_natAbs.2 ⟨p,by rw[Int.mul_comm,h.ex,Int.mul_comm]⟩
  have j:a.r.natAbs∣q.natAbs*a.q.natAbs:=by
   rw[← Int.natAbs_mul];exact Int.natAbs_dvd_natAbs.2 ⟨g,by rw[Int.mul_comm,h.ey,Int.mul_comm]⟩
  have c:a.r.natAbs∣q.natAbs*Nat.gcd (Nat.gcd a.r.natAbs a.p.natAbs) a.q.natAbs:=by
   rw[← Nat.gcd_mul_left,← Nat.gcd_mul_left];exact Nat.dvd_gcd (Nat.dvd_gcd (Nat.dvd_mul_left _ _) i) j
  have l:Nat.gcd (Nat.gcd a.r.natAbs a.p.natAbs) a.q.natAbs=1:=h.cn.g;rw[l,Nat.mul_one] at c;exact Int.natAbs_dvd_natAbs.1 c
 obtain⟨k,b⟩:=f;have m:k≠0:=fun e=>d (by rw[b,e,Int.mul_zero]);have o:1≤k.natAbs:=by omega
 have le:∀ x y:Int,x*k=y→x.natAbs≤y.natAbs:=fun x y e=>by
  rw[← e,Int.natAbs_mul];exact Nat.le_mul_of_pos_right _ (by omega)
 refine⟨le _ _ b.symm,le _ _ ?_,le _ _ ?_⟩
 ·have e:=h.ex;rw[b] at e;have:a.r*(a.p*k)=a.r*p:=by grind
  exact Int.eq_of_mul_eq_mul_left (by omega) this
 ·have e:=h.ey;rw[b] at e;have:a.r*(a.q*k)=a.r*g:=by grind
  exact Int.eq_of_mul_eq_mul_left (by omega) this
def num (a:Qn) (p q n:Int):Nat→Qn
 | 0=>a
 | i+1=>nxa (num a p q n i) (trm (rst p q n i).1 (rst p q n i).2 n)
def tm (p q n:Int) (i:Nat):Int:=trm (rst p q n i).1 (rst p q n i).2 n
theorem rl_num {g p q n:Int} {a:Qn} (h:Rl g p q n a):∀ i,(∀ j,j≤i→(rst p q n j).2≠0)→Rl g (rst p q n i).1 (rst p q n i).2 n (num a p q n i)
 | 0,_=>h
 | i+1,hq=>by
  have b:=rl_num h i (fun j d=>hq j (by omega));refine rl_next b fun c=>?_;exact hq (i+1) (Nat.le_refl _) ((nxq_zero b).2 c)
structure Exq (p q n:Int) (N K:Nat):Prop where
 le:K≤N
 on:∀ i,i<K→(rst p q n i).2≠0
 stop:K=N∨(rst p q n K).2=0
theorem Exq.uni {p q n:Int} {N K a:Nat} (h:Exq p q n N K) (b:Exq p q n N a):K=a:=by
 rcases Nat.lt_trichotomy K a with e | e | e
 ·have:=b.on K e;rcases h.stop with s | s
  ·have:=b.le;omega
  ·exact absurd s this
 ·exact e
 ·have:=h.on a e;rcases b.stop with s | s
  ·have:=h.le;omega
  ·exact absurd s this
def tms (p q n:Int) (K:Nat):List Int:=(List.range K).map (tm p q n)
theorem rl_iff {g p q n:Int} {a:Qn} (h:Rl g p q n a) (x:Int):0≤ovr a x↔x≤trm p q n:=by
 obtain⟨c,d⟩:=trm_floor h;constructor
 ·intro b;exact ovr_lt h.cn d b
 ·intro b;refine Int.not_lt.1 fun f=>?_;have e:x - 1+1=x:=by omega
  have:=ovr_lt h.cn (t:=x - 1) (by rw[e];exact f) c
  omega
end
section
theorem rk_size {s:ByteArray} {r:Rs} (h:Rk s r) (a:r.e=0):QF 1100000 r.v:=by
 rcases h with ⟨_,rfl⟩|⟨_,_,rfl⟩|⟨c,_,d,g,rfl⟩
 ·exact absurd a (by simp)
 ·exact absurd a (by simp)
 ·have c:0<2 ^ 8:=by decide
  have i:=(ch_ok (k:=1) (C:=2*(20*2 ^ 8)) (by decide) (by decide) (pd_ok 8) add_cost g).mono (n:=1100000) (by rw[bl_len];omega)
  by_cases b:d.e=0
  ·rw[if_pos b];exact i.f
  ·rw[if_neg b] at a;exact absurd a b
def p0 (a:Qn):Int:=(if a.q<0 then -a.p else a.p)*a.r
def q0 (a:Qn):Int:=(if a.q<0 then -a.r else a.r)*a.r
def n0 (a:Qn):Int:=a.q*a.r*(a.q*a.r)*a.d
theorem rl_start {a:Qn} (h:Cn a):Rl (a.q.natAbs*a.r) (p0 a) (q0 a) (n0 a) a:=rl_of h
def rs (a:Qn) (i:Nat):Int × Int:=rst (p0 a) (q0 a) (n0 a) i
theorem sq_lt_pow {x k m:Nat} (h:x*x≤k) (b:k<10 ^ (2*m)):x<10 ^ m:=by
 refine Nat.lt_of_not_le fun a=>?_;have:=Nat.mul_le_mul a a;rw[← Nat.pow_add,show m+m=2*m by omega] at this;omega
theorem ft_isq {n:Int} {m:Nat} (a:0≤n) (h:Ft (2*m) n):Ft m ((isq n.toNat:Nat):Int):=by
 have b:=(isq_ok n.toNat).1;unfold Ft at *;refine sq_lt_pow (k:=n.natAbs) ?_ h;simp only[Int.natAbs_natCast];omega
theorem p0_ft {a:Qn} {m:Nat} (f:QF m a):Ft (m+m) (p0 a):=by
 unfold p0;refine Ft.mul ?_ f.2.2
 split
 ·exact f.1.neg
 ·exact f.1
theorem q0_ft {a:Qn} {m:Nat} (f:QF m a):Ft (m+m) (q0 a):=by
 unfold q0;refine Ft.mul ?_ f.2.2
 split
 ·exact f.2.2.neg
 ·exact f.2.2
theorem n0_ft {a:Qn} {m:Nat} (f:QF m a) (b:0≤a.d) (c:a.d≤1000000):Ft (m+m+(m+m)+7) (n0 a):=by
 unfold n0;exact Ft.mul (Ft.mul (f.2.1.mul f.2.2) (f.2.1.mul f.2.2)) (by unfold Ft;omega)
theorem n0_nn {a:Qn} (h:Cn a):0≤n0 a:=(rl_start h).nn
theorem grow {m c S P Q x:Nat} (a:m+8≤c) (b:P<10 ^ m) (d:Q<10 ^ m) (e:S<10 ^ m) (f:x≤P+Q+(4*S+4)*1000000):x<10 ^ c:=by
 have g:10 ^ m*100000000≤10 ^ c:=by
  have:10 ^ m*10 ^ 8≤10 ^ c:=by
   rw[← Nat.pow_add];exact Nat.pow_le_pow_right (by decide) a
  exact this
 generalize 10 ^ m=A at *;generalize 10 ^ c=C at *;omega
structure Sz (a:Qn) (i:Nat):Prop where
 p:Ft 2300000 (rs a i).1
 q:Ft 2300000 (rs a i).2
 n:Ft 4500000 (n0 a)
 r:Ft 2300000 ((isq (n0 a).toNat:Nat):Int)
theorem sz_of {a:Qn} {m c k:Nat} (h:Cn a) (f:QF m a) (b:m+m+4+8≤c) (r:m+m+(m+m)+7≤k) {i:Nat} (s:i≤1000000) (t:∀ j,j<i→(rs a j).2≠0) :
  Ft c (rs a i).1∧Ft c (rs a i).2∧Ft k (n0 a)∧Ft c ((isq (n0 a).toNat:Nat):Int):=by
 have u:=h.ok.d0;have v:=h.ok.d1;have d:Ft (m+m+4) (p0 a):=(p0_ft f).mono (by omega);have e:Ft (m+m+4) (q0 a):=(q0_ft f).mono (by omega);have g:=n0_ft f (by omega) (by omega);have l:Ft (m+m+4) ((isq (n0 a).toNat:Nat):Int):=ft_isq (n0_nn h) (g.mono (by omega));obtain⟨w,x⟩:=rst_bd (p:=p0 a) (q:=q0 a) (n:=n0 a) (n0_nn h) i t;have y:(4*isq (n0 a).toNat+4)*i≤(4*isq (n0 a).toNat+4)*1000000:=Nat.mul_le_mul_left _ s;have o:isq (n0 a).toNat<10 ^ (m+m+4):=by
  have:=l;unfold Ft at this
  simpa using this
 refine⟨?_,?_,g.mono r,l.mono (by omega)⟩
 ·exact grow (P:=(p0 a).natAbs) (Q:=(q0 a).natAbs) b d e o (Nat.le_trans x (by omega))
 ·exact grow (P:=0) (Q:=(q0 a).natAbs) b (Nat.lt_of_le_of_lt (Nat.zero_le _) d) e o (Nat.le_trans w (by omega))
theorem sz_all {a:Qn} (h:Cn a) (f:QF 1100000 a) {i:Nat} (b:i≤1000000) (d:∀ j,j<i→(rs a j).2≠0):Sz a i:=by
 obtain⟨e,g,l,m⟩:=sz_of (c:=2300000) (k:=4500000) h f (by decide) (by decide) b d;exact⟨e,g,l,m⟩
theorem sz_num {a:Qn} (h:Cn a) (f:QF 1100000 a) {i:Nat} (d:i≤1000000) (c:∀ j,j≤i→(rs a j).2≠0):QF 2400000 (num a (p0 a) (q0 a) (n0 a) i)∧Ft 2400000 (tm (p0 a) (q0 a) (n0 a) i):=by
 have b:=sz_all h f d (fun j l=>c j (by omega));have e:=rl_num (rl_start h) i c;obtain⟨g,s2,s3⟩:=rl_size e;have k:Ft 2300000 ((a.q.natAbs:Int)*a.r):=((f.2.1.abs).mul f.2.2).mono (by decide);refine⟨⟨(b.p.le s2).mono (by decide),(k.le s3).mono (by decide),(b.q.le g).mono (by decide)⟩,?_⟩;exact(trm_ft b.p b.q b.r (c i (Nat.le_refl _))).mono (by decide)
end
section
end
section
def bnd (a:Qn):Int:=a.p.natAbs+a.q.natAbs*a.d+1
theorem rsg_big {x q d:Int} (f:0<x) (h:q*q*d<x*x):0<rsg x q d:=by
 unfold rsg rsS;rcases sign3 x with ⟨a,b⟩|⟨a,b⟩|⟨a,b⟩ <;> rcases sign3 q with ⟨s2,c⟩|⟨s2,c⟩|⟨s2,c⟩ <;> rcases sign3 (x*x - q*q*d) with ⟨s3,e⟩|⟨s3,e⟩|⟨s3,e⟩ <;> first | omega | (rw[a,s2,s3];decide)
theorem rsg_low {x q d:Int} (f:x<0) (h:q*q*d<x*x):rsg x q d<0:=by
 unfold rsg rsS;rcases sign3 x with ⟨a,b⟩|⟨a,b⟩|⟨a,b⟩ <;> rcases sign3 q with ⟨s2,c⟩|⟨s2,c⟩|⟨s2,c⟩ <;> rcases sign3 (x*x - q*q*d) with ⟨s3,e⟩|⟨s3,e⟩|⟨s3,e⟩ <;> first | omega | (rw[a,s2,s3];decide)
theorem big_sq {q d x:Int} (c:1≤d) (h:q.natAbs*d+1≤x):q*q*d<x*x:=by
 have e:q*q=(q.natAbs:Int)*q.natAbs:=by
  rcases Int.natAbs_eq q with h | h
  ·rw[← h]
  ·have:(q.natAbs:Int) = -q:=by omega
   rw[this,Int.neg_mul_neg]
 rw[e];generalize hk:(q.natAbs:Int)=k at *;have a:0≤k:=by omega
 have g:0≤k*d:=Int.mul_nonneg a (by omega);have i:=sq_mono (show 0≤k*d+1 by omega) h;have j:k*k*d≤k*d*(k*d):=by
  have f:k*d*(k*d)=k*k*d*d:=by grind
  have b:0≤k*k*d:=Int.mul_nonneg (Int.mul_nonneg a a) (by omega);have:=Int.mul_le_mul_of_nonneg_left c b;rw[f];omega
 have b:(k*d+1)*(k*d+1)=k*d*(k*d)+2*(k*d)+1:=by grind
 omega
theorem ovr_low {a:Qn} (h:Cn a) {t:Int} (b:t≤- bnd a):0≤ovr a t:=by
 have f:=h.ok.r;have c:=h.ok.d0;unfold bnd at b;have g:0≤(a.q.natAbs:Int)*a.d:=Int.mul_nonneg (by omega) (by omega);have e:a.q.natAbs*a.d+1≤a.p - t*a.r:=by
  have:=Int.mul_le_mul_of_nonneg_left (show 1≤a.r by omega) (show 0≤-t by omega);rw[Int.mul_one,Int.neg_mul] at this;omega
 exact Int.le_of_lt (rsg_big (by omega) (big_sq c e))
theorem ovr_high {a:Qn} (h:Cn a) {t:Int} (c:bnd a≤t):ovr a t<0:=by
 have g:=h.ok.r;have e:=h.ok.d0;unfold bnd at c;have i:0≤(a.q.natAbs:Int)*a.d:=Int.mul_nonneg (by omega) (by omega);have f:a.q.natAbs*a.d+1≤-(a.p - t*a.r):=by
  have:=Int.mul_le_mul_of_nonneg_left (show 1≤a.r by omega) (show 0≤t by omega);rw[Int.mul_one] at this;omega
 have b:=big_sq e f;rw[Int.neg_mul_neg] at b;exact rsg_low (by omega) b
theorem bnd_ft {a:Qn} {m:Nat} (h:QF m a) (e:0≤a.d) (f:a.d≤1000000):Ft (m+7+1+1) (bnd a):=by
 have b:Ft 7 a.d:=by unfold Ft;omega
 have f1:Ft m (a.p.natAbs:Int):=h.1.abs;have f2:Ft m (a.q.natAbs:Int):=h.2.1.abs;unfold bnd;have c:=Ft.add (f1.mono (show m≤m+7 by omega)) (f2.mul b);exact Ft.add c (by unfold Ft;exact Nat.one_lt_pow (by omega) (by decide))
end
end Go.Proofs.YtjahbjjekednfaaGreatDoor
