import Derived.Test.YtjahbjjekednfaaGreatDoorBm
import Derived.Test.YtjahbjjekednfaaGreatDoorRg
import Derived.Test.YtjahbjjekednfaaGreatDoorF8
namespace Go.Proofs.YtjahbjjekednfaaGreatDoor
section
def Dg (a:Qn) (p k:Int) (N:Nat):Rat:=ab (vl a N - (p:Rat) / (k:Rat))
theorem no_sq {a:Qn} (h:Cn a) {X Y:Int} (b:a.q=0→Y=0):Y=0∨X*X≠Y*Y*a.d:=by
 by_cases e:Y=0
 ·exact Or.inl e
 ·have c:a.q≠0:=fun k=>e (b k);have g:a.d≠1:=fun k=>c (h.ok.q.2 k);have i:=h.ok.d0;exact Or.inr (irr h.ok.f (by omega) e)
theorem gp_d (a:Qn) (p k:Int):(gpN a p k).d=a.d∧(gpN a p k).r=a.r*k∧(a.q=0→(gpN a p k).q=0):=by
 unfold gpN
 split
 ·exact⟨rfl,rfl,fun h=>by show -(a.q*k)=0;rw[h];simp⟩
 ·exact⟨rfl,rfl,fun h=>by show a.q*k=0;rw[h];simp⟩
theorem gp_vl {a:Qn} (h:Cn a) {p k:Int} (v:0<k):∃ b,∀ N,b≤N→xv (gpN a p k).p (gpN a p k).q a.d N=((gpN a p k).r:Rat)*Dg a p k N:=by
 have w:=h.ok.r;have o:=h.ok.d0;have z:(a.r:Rat)≠0:=cast_ne (by omega);have A:(k:Rat)≠0:=cast_ne (by omega);have t:(0:Rat)<(a.r:Rat)*k:=Rat.mul_pos (Rat.intCast_pos.2 w) (Rat.intCast_pos.2 v);have j:∀ N,xv (a.p*k - p*a.r) (a.q*k) a.d N=(a.r:Rat)*k*(vl a N - (p:Rat) / k):=fun N=>by
  unfold xv vl rx ry;simp only[Rat.intCast_sub,Rat.intCast_mul]
  grind
 have u:=no_sq h (X:=a.p*k - p*a.r) (Y:=a.q*k) (fun e=>by rw[e];simp)
 rw[(gp_d a p k).2.1,Rat.intCast_mul];unfold Dg;rcases rsg_val (a.p*k - p*a.r) (a.q*k) a.d with s | s | s
 ·have e:gpN a p k=⟨-(a.p*k - p*a.r),-(a.q*k),a.r*k,a.d⟩:=if_pos (by omega);obtain⟨b,l⟩:=ev_at (rsg_min o u s);refine⟨b,fun N m=>?_⟩;have f:=l N m;have i:xv (gpN a p k).p (gpN a p k).q a.d N = - xv (a.p*k - p*a.r) (a.q*k) a.d N:=by
   rw[e];unfold xv;simp only[Rat.intCast_neg]
   grind
  rw[i];rw[j] at f ⊢;have g:vl a N - (p:Rat) / k≤0:=Rat.not_lt.1 fun c=>by
   have:=Rat.mul_pos t c
   grind
  rw[ab_n g]
  grind
 ·have e:gpN a p k=⟨a.p*k - p*a.r,a.q*k,a.r*k,a.d⟩:=if_neg (by omega);obtain⟨x,y⟩:=rsg_nil s;refine⟨0,fun N _=>?_⟩;have f:=j N;have i:xv (a.p*k - p*a.r) (a.q*k) a.d N=0:=by
   rw[x,y];unfold xv;simp only[Rat.intCast_zero]
   grind
  rw[i] at f;have g:vl a N - (p:Rat) / k=0:=by grind
  have n:xv (gpN a p k).p (gpN a p k).q a.d N=xv (a.p*k - p*a.r) (a.q*k) a.d N:=by rw[e]
  rw[n,i,g,ab_p Rat.le_refl]
  grind
 ·have e:gpN a p k=⟨a.p*k - p*a.r,a.q*k,a.r*k,a.d⟩:=if_neg (by omega);obtain⟨b,l⟩:=ev_at (rsg_pos o u s);refine⟨b,fun N m=>?_⟩;have f:=l N m;have n:xv (gpN a p k).p (gpN a p k).q a.d N=xv (a.p*k - p*a.r) (a.q*k) a.d N:=by rw[e]
  rw[n];rw[j] at f ⊢;have g:0≤vl a N - (p:Rat) / k:=Rat.not_lt.1 fun c=>by
   have:(a.r:Rat)*k*(vl a N - (p:Rat) / k)≤0:=by
    have:=Rat.mul_pos t (show 0 < -(vl a N - (p:Rat) / k) by grind)
    grind
   grind
  rw[ab_p g]
theorem nr_rsg {a:Qn} (h:Cn a) {p k P Q o:Int} (l:0<k) (m:0<Q) (L:o=rsg ((gpN a p k).p*(gpN a P Q).r - (gpN a P Q).p*(gpN a p k).r) ((gpN a p k).q*(gpN a P Q).r - (gpN a P Q).q*(gpN a p k).r) a.d) :
 (o<0→EvP (fun N=>Dg a P Q N - Dg a p k N))∧(¬ o<0→EvP (fun N=>Dg a p k N - Dg a P Q N)∨∃ w,∀ N,w≤N→Dg a p k N=Dg a P Q N):=by
 have n:=h.ok.r;have t:=h.ok.d0;obtain⟨f,x⟩:=gp_vl h (p:=p) l;obtain⟨g,y⟩:=gp_vl h (p:=P) m;have z:=(gp_d a p k).2.2;have A:=(gp_d a P Q).2.2;have B:0<(gpN a p k).r:=by rw[(gp_d a p k).2.1];exact Int.mul_pos n l
 have C:0<(gpN a P Q).r:=by rw[(gp_d a P Q).2.1];exact Int.mul_pos n m
 generalize gpN a p k=G at *;generalize gpN a P Q=H at *;have D:(0:Rat)<(G.r:Rat)*H.r:=Rat.mul_pos (Rat.intCast_pos.2 B) (Rat.intCast_pos.2 C);have u:=Rat.inv_pos.2 D;have M:((G.r:Rat)*H.r)⁻¹*((G.r:Rat)*H.r)=1:=by grind
 have j:∀ N,max f g≤N→((G.r:Rat)*H.r)⁻¹*xv (G.p*H.r - H.p*G.r) (G.q*H.r - H.q*G.r) a.d N=Dg a p k N - Dg a P Q N:=fun N b=>by
  have E:=x N (by omega);have F:=y N (by omega);have I:xv (G.p*H.r - H.p*G.r) (G.q*H.r - H.q*G.r) a.d N=(H.r:Rat)*xv G.p G.q a.d N - (G.r:Rat)*xv H.p H.q a.d N:=by
   unfold xv;simp only[Rat.intCast_sub,Rat.intCast_mul]
   grind
  rw[I,E,F];generalize ((G.r:Rat)*H.r)⁻¹=i at *
  grind
 have v:=no_sq h (X:=G.p*H.r - H.p*G.r) (Y:=G.q*H.r - H.q*G.r) (fun e=>by rw[z e,A e];simp)
 rcases rsg_val (G.p*H.r - H.p*G.r) (G.q*H.r - H.q*G.r) a.d with s | s | s
 ·refine⟨fun _=>((rsg_min t v s).scale _ u).le ⟨max f g,fun N b=>?_⟩,fun c=>by omega⟩;have:=j N b;generalize ((G.r:Rat)*H.r)⁻¹=i at *
  grind
 ·refine⟨fun c=>by omega,fun _=>Or.inr ⟨max f g,fun N b=>?_⟩⟩;obtain⟨J,K⟩:=rsg_nil s;have:=j N b;rw[J,K] at this;unfold xv at this;simp only[Rat.intCast_zero] at this
  grind
 ·refine⟨fun c=>by omega,fun _=>Or.inl (((rsg_pos t v s).scale _ u).le ⟨max f g,fun N b=>?_⟩)⟩;have:=j N b;generalize ((G.r:Rat)*H.r)⁻¹=i at *
  grind
theorem Bst.uni {a:Qn} {n P B e f:Int} (h:Bst a n P B) (k:Bst a n e f):P=e∧B=f:=by
 obtain⟨l,m,_,o⟩:=h;obtain⟨c1,c2,_,c4⟩:=k;have c:=o e f c1 c2;have b:=c4 P B l m;unfold Nr at c b;rcases c with c | ⟨⟨i,c⟩,p⟩
 ·exfalso
  rcases b with b | ⟨⟨j,b⟩,_⟩
  ·exact EvP.not c (b.congr fun N=>by grind)
  ·obtain⟨d,g⟩:=ev_at c;have:=g (max j d) (by omega);rw[b (max j d) (by omega)] at this
   grind
 ·rcases b with b | ⟨_,q⟩
  ·exfalso
   obtain⟨d,g⟩:=ev_at b;have:=g (max i d) (by omega);rw[c (max i d) (by omega)] at this
   grind
  ·omega
end
section
def Flo (a:Qn) (k F:Int):Prop:=∀ x,0≤rsg (a.p*k - x*a.r) (a.q*k) a.d↔x≤F
def Lq (a:Qn) (P Q p k:Int):Prop:=EvP (fun N=>Dg a p k N - Dg a P Q N)∨∃ b,∀ N,b≤N→Dg a p k N=Dg a P Q N
def Ahd (x y u v:Int):Prop:=x<u∨(x=u∧y<v)
def Srch (a:Qn) (F:Int→Int) (P Q k j:Int):Prop :=
 (k=1∧j=0∧Q=0)∨(1≤Q∧∃ i,(i=0∨i=1)∧P=F Q+i∧Ahd Q i k j∧∀ k' j',1≤k'→(j'=0∨j'=1)→Ahd k' j' k j→(Ahd k' j' Q i→EvP (fun N=>Dg a (F k'+j') k' N - Dg a P Q N))∧Lq a P Q (F k'+j') k')
theorem Srch.first (a:Qn) (F:Int→Int):Srch a F 0 0 1 0:=Or.inl ⟨rfl,rfl,rfl⟩
theorem Lq.refl (a:Qn) (p k:Int):Lq a p k p k:=Or.inr ⟨0,fun _ _=>rfl⟩
theorem ev_trans {f g h:Nat→Rat} (c:EvP (fun N=>f N - g N)) (a:EvP (fun N=>g N - h N)∨∃ b,∀ N,b≤N→g N=h N):EvP (fun N=>f N - h N):=by
 rcases a with a | ⟨b,a⟩
 ·exact(EvP.add c a).congr fun N=>by grind
 ·exact c.le ⟨b,fun N d=>by rw[a N d];exact Rat.le_refl⟩
theorem ev_trans' {f g h:Nat→Rat} (a:EvP (fun N=>f N - g N)∨∃ b,∀ N,b≤N→f N=g N) (c:EvP (fun N=>g N - h N)):EvP (fun N=>f N - h N):=by
 rcases a with a | ⟨b,a⟩
 ·exact(EvP.add a c).congr fun N=>by grind
 ·exact c.le ⟨b,fun N d=>by rw[a N d];exact Rat.le_refl⟩
theorem Srch.take {a:Qn} {F:Int→Int} {P Q k j:Int} (h:Srch a F P Q k j) (g:1≤k) (l:j=0∨j=1) (d:Q=0∨EvP (fun N=>Dg a P Q N - Dg a (F k+j) k N)):Srch a F (F k+j) k k (j+1):=by
 refine Or.inr ⟨g,j,l,rfl,Or.inr ⟨rfl,by omega⟩,fun e f m n p=>?_⟩;have b:Ahd e f k j∨(e=k∧f=j):=by unfold Ahd at *;omega
 rcases b with b | ⟨rfl,rfl⟩
 ·rcases h with ⟨rfl,rfl,_⟩|⟨q,i,_,_,_,o⟩
  ·exfalso
   unfold Ahd at b;omega
  ·rcases d with d | d
   ·omega
   ·have:=ev_trans' (o e f m n b).2 d;exact⟨fun _=>this,Or.inl this⟩
 ·refine⟨fun c=>?_,Lq.refl _ _ _⟩;unfold Ahd at c;omega
theorem Srch.pass {a:Qn} {F:Int→Int} {P Q k j:Int} (h:Srch a F P Q k j) (g:Q≠0) (l:Lq a P Q (F k+j) k):Srch a F P Q k (j+1):=by
 rcases h with ⟨_,_,e⟩|⟨m,i,n,o,s,p⟩
 ·exact absurd e g
 ·refine Or.inr ⟨m,i,n,o,by unfold Ahd at *;omega,fun d f q r t=>?_⟩
  have b:Ahd d f k j∨(d=k∧f=j):=by unfold Ahd at *;omega
  rcases b with b | ⟨rfl,rfl⟩
  ·exact p d f q r b
  ·refine⟨fun c=>?_,l⟩;exfalso;unfold Ahd at *;omega
theorem Srch.next {a:Qn} {F:Int→Int} {P Q k:Int} (h:Srch a F P Q k 2):Srch a F P Q (k+1) 0:=by
 rcases h with ⟨_,e,_⟩|⟨b,i,c,d,n,f⟩
 ·omega
 ·refine Or.inr ⟨b,i,c,d,by unfold Ahd at *;omega,fun g j l m o=>f g j l m ?_⟩
  unfold Ahd at *;omega
theorem flo_side {a:Qn} (h:Cn a) {k F T:Int} (y:1≤k) (hF:Flo a k F):(T≤F→∃ b,∀ N,b≤N→Dg a T k N=vl a N - (T:Rat) / (k:Rat))∧(F<T→∃ b,∀ N,b≤N→Dg a T k N=(T:Rat) / (k:Rat) - vl a N):=by
 have u:=h.ok.r;have n:=h.ok.d0;have z:(a.r:Rat)≠0:=cast_ne (by omega);have A:(k:Rat)≠0:=cast_ne (by omega);have o:(0:Rat)<(a.r:Rat)*k:=Rat.mul_pos (Rat.intCast_pos.2 u) (Rat.intCast_pos.2 (by omega));have j:∀ N,xv (a.p*k - T*a.r) (a.q*k) a.d N=(a.r:Rat)*k*(vl a N - (T:Rat) / k):=fun N=>by
  unfold xv vl rx ry;simp only[Rat.intCast_sub,Rat.intCast_mul]
  grind
 have t:=no_sq h (X:=a.p*k - T*a.r) (Y:=a.q*k) (fun e=>by rw[e];simp)
 have f:=hF T;unfold Dg;rcases rsg_val (a.p*k - T*a.r) (a.q*k) a.d with s | s | s
 ·refine⟨fun c=>by have:=f.2 c;omega,fun _=>?_⟩
  obtain⟨b,l⟩:=ev_at (rsg_min n t s);refine⟨b,fun N m=>?_⟩;have g:=l N m;rw[j] at g;have i:vl a N - (T:Rat) / k≤0:=Rat.not_lt.1 fun c=>by
   have:=Rat.mul_pos o c
   grind
  rw[ab_n i]
  grind
 ·refine⟨fun _=>⟨0,fun N _=>?_⟩,fun c=>by have:=f.1 (by omega);omega⟩
  obtain⟨v,w⟩:=rsg_nil s;have g:=j N;have x:xv (a.p*k - T*a.r) (a.q*k) a.d N=0:=by
   rw[v,w];unfold xv;simp only[Rat.intCast_zero]
   grind
  rw[x] at g;have i:vl a N - (T:Rat) / k=0:=by grind
  rw[ab_p (by grind)]
 ·refine⟨fun _=>?_,fun c=>by have:=f.1 (by omega);omega⟩
  obtain⟨b,l⟩:=ev_at (rsg_pos n t s);refine⟨b,fun N m=>?_⟩;have g:=l N m;rw[j] at g;have i:0≤vl a N - (T:Rat) / k:=Rat.not_lt.1 fun c=>by
   have:=Rat.mul_pos o (show 0 < -(vl a N - (T:Rat) / k) by grind)
   grind
  rw[ab_p i]
theorem flo_far {a:Qn} (h:Cn a) {k F T:Int} (b:1≤k) (hF:Flo a k F):∃ j,(j=0∨j=1)∧(T=F+j∨EvP (fun N=>Dg a T k N - Dg a (F+j) k N)):=by
 have l:(0:Rat)<(k:Rat):=Rat.intCast_pos.2 (by omega);by_cases c:T≤F
 ·refine⟨0,Or.inl rfl,?_⟩;rw[Int.add_zero];by_cases e:T=F
  ·exact Or.inl e
  ·obtain⟨d,f⟩:=(flo_side h (T:=T) b hF).1 c;obtain⟨g,i⟩:=(flo_side h (T:=F) b hF).1 (Int.le_refl _);have m:=fr_lt (p:=F) (q:=k) (t:=T) (k:=k) (by omega) (by omega) (Int.mul_lt_mul_of_pos_right (show T<F by omega) (by omega));refine Or.inr ((EvP.const (c:=(F:Rat) / k - (T:Rat) / k) (by grind)).le ⟨max d g,fun N n=>?_⟩);rw[f N (by omega),i N (by omega)]
   grind
 ·refine⟨1,Or.inr rfl,?_⟩;by_cases e:T=F+1
  ·exact Or.inl e
  ·obtain⟨d,f⟩:=(flo_side h (T:=T) b hF).2 (by omega);obtain⟨g,i⟩:=(flo_side h (T:=F+1) b hF).2 (by omega);have m:=fr_lt (p:=T) (q:=k) (t:=F+1) (k:=k) (by omega) (by omega) (Int.mul_lt_mul_of_pos_right (show F+1<T by omega) (by omega));refine Or.inr ((EvP.const (c:=(T:Rat) / k - ((F+1:Int):Rat) / k) (by grind)).le ⟨max d g,fun N n=>?_⟩);rw[f N (by omega),i N (by omega)]
   grind
theorem Srch.best {a:Qn} (h:Cn a) {F:Int→Int} {P Q n:Int} (M:1≤n) (hF:∀ k,1≤k→k≤n→Flo a k (F k)) (v:Srch a F P Q (n+1) 0):Bst a n P Q:=by
 rcases v with ⟨e,_,_⟩|⟨w,i,N,O,x,y⟩
 ·omega
 ·have z:Q≤n:=by unfold Ahd at x;omega
  have u:∀ T K:Int,1≤K→K≤n→Nr a P Q T K:=fun T K l A=>by
   obtain⟨j,B,m⟩:=flo_far h (T:=T) l (hF K l A);obtain⟨C,f⟩:=y K j l B (by unfold Ahd;omega)
   rcases m with rfl | m
   ·by_cases c:Ahd K j Q i
    ·exact Or.inl (C c)
    ·rcases f with f | f
     ·exact Or.inl f
     ·refine Or.inr ⟨f,?_⟩;by_cases e:Q<K
      ·exact Or.inl e
      ·have D:Q=K:=by unfold Ahd at c;omega
       subst D;refine Or.inr ⟨rfl,?_⟩;unfold Ahd at c;omega
   ·exact Or.inl (ev_trans m f)
  refine⟨w,z,?_,u⟩;have E:(0:Int)<(Int.gcd P Q:Int):=by
   have:Int.gcd P Q≠0:=fun k=>by have:=(Int.gcd_eq_zero_iff.1 k).2;omega
   omega
  obtain⟨o,G⟩:=Int.gcd_dvd_left P Q;obtain⟨b,H⟩:=Int.gcd_dvd_right P Q;generalize hgg:Int.gcd P Q=g at *;have r:1≤b:=by
   refine Int.not_lt.1 fun c=>?_;have:=Int.mul_nonpos_of_nonneg_of_nonpos (show 0≤(g:Int) by omega) (show b≤0 by omega);omega
  have I:1*b≤(g:Int)*b:=Int.mul_le_mul_of_nonneg_right (by omega) (by omega);have d:(o:Rat) / (b:Rat)=(P:Rat) / (Q:Rat):=fr_same (p:=P) (q:=Q) (t:=o) (k:=b) (by omega) (by omega) (by rw[G,H];grind)
  have s:g=1:=by
   rcases u o b r (by omega) with k | ⟨_,k⟩
   ·exfalso
    obtain⟨J,L⟩:=ev_at k;have:=L J (Nat.le_refl _);rw[d] at this
    grind
   ·have e:Q=b:=by omega
    have:(g:Int)*b=1*b:=by omega
    have:=Int.eq_of_mul_eq_mul_right (by omega) this;omega
  refine⟨⟨by show 0<Q;omega,show (1:Int)≤1 by decide,show (1:Int)<1000000 by decide,⟨fun _=>rfl,fun _=>rfl⟩,sqfree_one⟩,?_⟩
  show Int.gcd (Int.gcd Q P) 0=1
  rw[Int.gcd_zero_right,Int.natAbs_natCast,Int.gcd_comm,hgg];exact s
end
section
theorem rsg_nought (X d e:Int):rsg X 0 d=rsg X 0 e:=by
 unfold rsg;simp only[Int.mul_zero,Int.zero_mul]
theorem flo_ex {a:Qn} (h:Cn a) (f:QF 1100000 a) {k:Int} (A:1≤k) (B:k≤1000):∃ F,Flo a k F∧Ft 1100020 F:=by
 have C:=h.ok.r;have E:=h.ok.d0;have G:=h.ok.d1;have m:Ft 4 k:=by unfold Ft;omega
 have ok:Qok (qreduce (a.p*k) (a.q*k) a.r a.d):=qreduce_ok (by omega) h.ok.d0 h.ok.d1 h.ok.f (fun e=>by rw[h.ok.q.2 e];simp)
 have j:Cn (qreduce (a.p*k) (a.q*k) a.r a.d):=(inf_red (D:=a.d) (by omega) ok (fun _=>rfl)).cn;have n:QF 1100004 (qreduce (a.p*k) (a.q*k) a.r a.d):=QF.reduce ((f.1.mul m).mono (by decide)) ((f.2.1.mul m).mono (by decide)) (f.2.2.mono (by decide));obtain⟨g,H,o,s,t,u,_,v⟩:=qred_parts (a.p*k) (a.q*k) a.r a.d (by omega);have w:=bnd_ft n (by have:=ok.d0;omega) (by have:=ok.d1;omega)
 generalize qreduce (a.p*k) (a.q*k) a.r a.d=b at *;have y:0<g:=by
  refine Int.not_le.1 fun c=>?_;have:=Int.mul_nonpos_of_nonpos_of_nonneg c (Int.le_of_lt u);omega
 have i:∀ x,rsg (a.p*k - x*a.r) (a.q*k) a.d=ovr b x:=fun x=>by
  rw[o,s,t,show g*b.p - x*(g*b.r)=g*(b.p - x*b.r) by grind,rsg_scale _ _ _ _ y];unfold ovr;rw[v];by_cases z:b.q=0
  ·rw[z,if_pos rfl];exact rsg_nought _ _ _
  ·rw[if_neg z]
 have l:=fun x=>rl_iff (rl_start j) x;refine⟨trm (p0 b) (q0 b) (n0 b),fun x=>by rw[i];exact l x,?_⟩
 have I:=(l (- bnd b)).1 (ovr_low j (Int.le_refl _));have J:¬ bnd b≤trm (p0 b) (q0 b) (n0 b):=fun c=>by
  have:=(l (bnd b)).2 c;have:=ovr_high j (Int.le_refl (bnd b));omega
 exact(w.mono (show 1100004+7+1+1≤1100020 by decide)).le (by omega)
theorem flo_fun {a:Qn} (h:Cn a) (f:QF 1100000 a):∃ F:Int→Int,∀ k,1≤k→k≤1000→Flo a k (F k)∧Ft 1100020 (F k):=by
 refine⟨fun k=>if c:1≤k∧k≤1000 then Classical.choose (flo_ex h f c.1 c.2) else 0,fun k b d=>?_⟩;have e:(if c:1≤k∧k≤1000 then Classical.choose (flo_ex h f c.1 c.2) else 0)=Classical.choose (flo_ex h f b d):=dif_pos ⟨b,d⟩;simp only[e];exact Classical.choose_spec (flo_ex h f b d)
end
end Go.Proofs.YtjahbjjekednfaaGreatDoor
