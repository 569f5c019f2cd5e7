import Derived.Test.YtjahbjjekednfaaGreatDoorX1
import Derived.Test.YtjahbjjekednfaaGreatDoorP1
import Derived.Test.YtjahbjjekednfaaGreatDoorMath6
namespace Go.Proofs.YtjahbjjekednfaaGreatDoor
section
structure Rs where
 v:Qn
 e:Int
 k:Int
def comb (c:Int) (a b:Qn):Qn × Int:=if c=43 then qadd a b else if c=45 then qsub a b else if c=42 then qmul a b else qdiv a b
def opR (c:Int) (p:Nat) (a b:Rs):Rs :=
 if a.e≠0 then a else if b.e≠0 then ⟨a.v,b.e,b.k⟩ else ⟨(comb c a.v b.v).1,(comb c a.v b.v).2,if (comb c a.v b.v).2=0 then 0 else p⟩
def negs (m:Nat) (a:Rs):Rs:=if m % 2=1 then ⟨qneg a.v,a.e,a.k⟩ else a
def decN (s:List Int):Int:=s.foldl (fun n c=>n*10+(c - 48)) 0
def Digs (s:List Int):Prop:=∀ c ∈ s,isDig c=true
def Atom (s:List Int) (r:Rs):Prop :=
 (s≠[]∧s.length≤18∧Digs s∧r=⟨⟨decN s,0,1,1⟩,0,0⟩) ∨
 (∃ t,s=114 :: t∧t≠[]∧t.length≤6∧Digs t∧r=⟨qsqrt (decN t).toNat,0,0⟩)
def ChT (F:List Int→Nat→Rs→Prop) (ops:Int→Prop):Nat→Rs→Nat→List Int→Rs→Prop
 | 0,acc,_,s,r=>s=[]∧r=acc
 | m+1,acc,p,s,r=>∃ c t s' rt,ops c∧s=c :: (t ++ s')∧F t (p+1) rt∧ChT F ops m (opR c p acc rt) (p+1+t.length) s' r
def Ch (F:List Int→Nat→Rs→Prop) (ops:Int→Prop) (s:List Int) (p:Nat) (r:Rs):Prop :=
 ∃ m f s' rf,s=f ++ s'∧F f p rf∧ChT F ops m rf (p+f.length) s' r
def mulOp (c:Int):Prop:=c=42∨c=47
def addOp (c:Int):Prop:=c=43∨c=45
def Fc:Nat→List Int→Nat→Rs→Prop
 | 0=>fun s _ r=>∃ m core a,s=List.replicate m 45 ++ core∧Atom core a∧r=negs m a
 | n+1=>fun s p r=>∃ m core a,s=List.replicate m 45 ++ core ∧
   (Atom core a∨∃ t,core=40 :: (t ++ [41])∧Ch (Ch (Fc n) mulOp) addOp t (p+m+1) a)∧r=negs m a
def Pd (n:Nat):List Int→Nat→Rs→Prop:=Ch (Fc n) mulOp
def Sm (n:Nat):List Int→Nat→Rs→Prop:=Ch (Pd n) addOp
theorem negs_succ (m:Nat) (a:Rs):negs (m+1) a=⟨qneg (negs m a).v,a.e,a.k⟩:=by
 have b:∀ x:Qn,qneg (qneg x)=x:=by intro x;simp[qneg]
 unfold negs;by_cases h:m % 2=1
 ·rw[if_neg (by omega),if_pos h];simp only[b]
 ·rw[if_pos (by omega),if_neg h]
theorem Fc.atom {n:Nat} {s:List Int} {p:Nat} {r:Rs} (h:Atom s r):Fc n s p r:=by
 cases n with
 | zero=>exact⟨0,s,r,rfl,h,rfl⟩
 | succ n=>exact⟨0,s,r,rfl,Or.inl h,rfl⟩
theorem Fc.minus {n:Nat} {s:List Int} {p:Nat} {r:Rs} (h:Fc n s (p+1) r):∃ r',Fc n (45 :: s) p r':=by
 cases n with
 | zero =>
  obtain⟨m,a,b,c,d,e⟩:=h;exact⟨_,m+1,a,b,by rw[c];rfl,d,rfl⟩
 | succ n =>
  obtain⟨m,a,b,c,d,e⟩:=h;refine⟨_,m+1,a,b,by rw[c];rfl,?_,rfl⟩
  rw[show p+(m+1)+1=p+1+m+1 by omega];exact d
def pRun:Pl→List Int→Option Pl
 | a,[]=>some a
 | a,c :: l=>if (plStep a c).2=true then pRun (plStep a c).1 l else none
def Hd (P:Int→Prop) (l:List Int):Prop:=∀ c l',l=c :: l'→¬ P c
def isD (c:Int):Prop:=isDig c=true
theorem digs_run {d:Int} {z:Pl}:∀(l:List Int) (a:Int),pRun ⟨2,a,d⟩ l=some z→0≤a →
  ∃ b rest,l=b ++ rest∧Digs b∧(b.length:Int)≤a∧pRun ⟨2,a - b.length,d⟩ rest=some z∧Hd isD rest
 | [],a,h,f=>⟨[],[],rfl,by simp[Digs],by simpa using f,by simpa using h,by simp[Hd]⟩
 | c :: l,a,h,f=>by
  by_cases hd:isDig c=true
  ·unfold pRun at h
   split at h
   ·rename_i i
    have j:plStep ⟨2,a,d⟩ c=(⟨2,a - 1,d⟩,decide (0<a)):=by unfold plStep;rw[if_pos hd]
    rw[j] at h i;simp only[decide_eq_true_eq] at i;obtain⟨b,rest,k,m,p,n,o⟩:=digs_run l (a - 1) h (by omega);refine⟨c :: b,rest,by rw[k];rfl,?_,by simp only[List.length_cons];omega,?_,o⟩
    ·intro x g;rcases List.mem_cons.mp g with rfl | g
     ·exact hd
     ·exact m x g
    ·rw[← n]
     congr 2
     simp only[List.length_cons];omega
   ·cases h
  ·exact⟨[],c :: l,rfl,by simp[Digs],by simpa using f,by simpa using h,fun x q e=>by cases e;exact hd⟩
def Ends (a:Pl) (l:List Int):Prop:=∃ z,pRun a l=some z∧z.k=2∧z.d≤0
theorem Ends.step {a:Pl} {c:Int} {l:List Int} (h:Ends a (c :: l)):(plStep a c).2=true∧Ends (plStep a c).1 l:=by
 obtain⟨z,b,d,e⟩:=h;unfold pRun at b
 split at b
 ·rename_i f
  exact⟨f,z,b,d,e⟩
 ·cases b
theorem Ends.digs {d a:Int} {l:List Int} (h:Ends ⟨2,a,d⟩ l) (c:0≤a) :
  ∃ b rest r',l=b ++ rest∧Digs b∧(b.length:Int)≤a∧0≤r'∧Ends ⟨2,r',d⟩ rest∧Hd isD rest:=by
 obtain⟨z,e,f,g⟩:=h;obtain⟨b,rest,i,j,k,m,n⟩:=digs_run l a e c;exact⟨b,rest,_,i,j,k,by omega,⟨z,m,f,g⟩,n⟩
def Reads (F:List Int→Nat→Rs→Prop) (P:Int→Prop) (d:Int) (p:Nat) (l:List Int):Prop :=
 ∃ f rest r room,l=f ++ rest∧F f p r∧f≠[]∧0≤room∧Ends ⟨2,room,d⟩ rest∧Hd P rest
theorem digs_cons {c:Int} {b:List Int} (h:isDig c=true) (d:Digs b):Digs (c :: b):=by
 intro x a;rcases List.mem_cons.mp a with rfl | a
 ·exact h
 ·exact d x a
theorem chain_reads {F:List Int→Nat→Rs→Prop} {P ops:Int→Prop} {d:Int} (g:∀ c,ops c→c=43∨c=45∨c=42∨c=47) (y:∀ c,isDig c=true→P c) (i:∀ c,ops c∨¬ ops c)
  : ∀(N:Nat),(∀ l p,l.length<N→Ends ⟨0,18,d⟩ l→Reads F P d p l)→∀(l:List Int) (p:Nat) (acc:Rs) (a:Int),l.length≤N→0≤a→Ends ⟨2,a,d⟩ l→Hd P l →
   ∃ m j rest r room',l=j ++ rest∧ChT F ops m acc p j r∧0≤room'∧Ends ⟨2,room',d⟩ rest∧Hd (fun c=>P c∨ops c) rest:=by
 intro N
 induction N with
 | zero =>
  intro _ l p acc a n k h o;have:l=[]:=List.eq_nil_of_length_eq_zero (by omega);subst this;exact⟨0,[],[],acc,a,rfl,⟨rfl,rfl⟩,k,h,by simp[Hd]⟩
 | succ N ih =>
  intro hF l p acc a n k h o
  cases l with
  | nil=>exact⟨0,[],[],acc,a,rfl,⟨rfl,rfl⟩,k,h,by simp[Hd]⟩
  | cons c l =>
   rcases i c with hc | hc
   ·have q:¬ isDig c=true:=fun z=>o c l rfl (y c z);have A:plStep ⟨2,a,d⟩ c=(⟨0,18,d⟩,true):=by
     unfold plStep goOnP;rw[if_neg q,if_neg (by simp),if_pos rfl,if_pos (g c hc)]
    have u:=h.step.2;rw[A] at u;simp only[List.length_cons] at n;obtain⟨f,rest,r,B,v,C,D,E,G,H⟩:=hF l (p+1) (by omega) u;have w:0<f.length:=List.length_pos_iff.mpr D;have I:l.length=f.length+rest.length:=by rw[v,List.length_append]
    obtain⟨m,j,b,J,s,K,L,M,O,Q⟩:=ih (fun l p n h=>hF l p (by omega) h) rest (p+1+f.length) (opR c p acc r) B (by omega) E G H;refine⟨m+1,c :: (f ++ j),b,J,s,by rw[v,K];simp,⟨c,f,j,r,hc,rfl,C,L⟩,M,O,Q⟩
   ·refine⟨0,[],c :: l,acc,a,rfl,⟨rfl,rfl⟩,k,h,?_⟩;intro x R e
    cases e
    rintro (t | t)
    ·exact o c l rfl t
    ·exact hc t
theorem chain_all {F:List Int→Nat→Rs→Prop} {P ops:Int→Prop} {d:Int} (b:∀ c,ops c→c=43∨c=45∨c=42∨c=47) (k:∀ c,isDig c=true→P c) (e:∀ c,ops c∨¬ ops c)
  {N:Nat} (hF:∀ l p,l.length<N→Ends ⟨0,18,d⟩ l→Reads F P d p l):∀ l p,l.length<N→Ends ⟨0,18,d⟩ l→Reads (Ch F ops) (fun c=>P c∨ops c) d p l:=by
 intro l p n h;obtain⟨f,rest,r,o,i,q,s,t,u,v⟩:=hF l p n h;have w:l.length=f.length+rest.length:=by rw[i,List.length_append]
 obtain⟨m,j,a,x,g,y,z,A,B,C⟩:=chain_reads b k e N hF rest (p+f.length) r o (by omega) t u v;refine⟨f ++ j,a,x,g,by rw[i,y];simp,⟨m,f,j,r,rfl,q,z⟩,?_,A,B,C⟩
 intro D;exact s (List.append_eq_nil_iff.mp D).1
theorem sum_reads {n:Nat} {d:Int} {N:Nat} (hF:∀ l p,l.length<N→Ends ⟨0,18,d⟩ l→Reads (Fc n) isD d p l) :
  ∀ l p,l.length<N→Ends ⟨0,18,d⟩ l→Reads (Sm n) (fun c=>(isD c∨mulOp c)∨addOp c) d p l:=by
 refine chain_all ?_ ?_ ?_ (chain_all ?_ ?_ ?_ hF)
 ·intro c h;unfold addOp at h;omega
 ·intro c h;exact Or.inl h
 ·intro c;unfold addOp;omega
 ·intro c h;unfold mulOp at h;omega
 ·intro c h;exact h
 ·intro c;unfold mulOp;omega
theorem fac_reads:∀(N:Nat) (l:List Int) (p n:Nat) (d:Int),l.length<N→0≤d→(n:Int)+d=8→Ends ⟨0,18,d⟩ l→Reads (Fc n) isD d p l:=by
 intro N
 induction N with
 | zero=>intro l p n d w;omega
 | succ N ih =>
  intro l p n d w C M h
  cases l with
  | nil =>
   obtain⟨z,a,g,_⟩:=h;simp only[pRun,Option.some.injEq] at a;subst a;simp at g
  | cons c l =>
   simp only[List.length_cons] at w;obtain⟨i,a⟩:=h.step;by_cases hd:isDig c=true
   ·have D:plStep ⟨0,18,d⟩ c=(⟨2,17,d⟩,true):=by unfold plStep;rw[if_pos hd];rfl
    rw[D] at a;obtain⟨o,rest,j,q,x,K,s,t,u⟩:=a.digs (by decide);refine⟨c :: o,rest,_,j,by rw[q];rfl,Fc.atom (Or.inl ⟨by simp,by simp only[List.length_cons];omega,digs_cons hd x,rfl⟩),by simp,s,t,u⟩
   ·have D:plStep ⟨0,18,d⟩ c=beginF ⟨0,18,d⟩ c:=by unfold plStep;rw[if_neg hd,if_pos rfl]
    rw[D] at a i;unfold beginF at a i;by_cases c1:c=114
    ·rw[if_pos c1] at a
     cases l with
     | nil =>
      obtain⟨z,a,g,_⟩:=a;simp only[pRun,Option.some.injEq] at a;subst a;simp at g
     | cons c' l =>
      obtain⟨e,g⟩:=a.step;by_cases k:isDig c'=true
      ·have b:plStep ⟨1,6,d⟩ c'=(⟨2,5,d⟩,true):=by unfold plStep;rw[if_pos k];rfl
       simp only[b] at g;obtain⟨o,rest,j,q,x,K,s,t,u⟩:=g.digs (by decide);refine⟨c :: c' :: o,rest,_,j,by rw[q];rfl,Fc.atom (Or.inr ⟨c' :: o,by rw[c1],by simp,by simp only[List.length_cons];omega,digs_cons k x,rfl⟩),by simp,s,t,u⟩
      ·have b:plStep ⟨1,6,d⟩ c'=(⟨1,6,d⟩,false):=by unfold plStep;rw[if_neg k,if_neg (by simp),if_neg (by simp)]
       simp only[b] at e;exact absurd e (by simp)
    ·rw[if_neg c1] at a i;by_cases c2:c=45
     ·rw[if_pos c2] at a;obtain⟨f,rest,r,y,E,F,O,L,A,G⟩:=ih l (p+1) n d (by omega) C M a;obtain⟨j,H⟩:=Fc.minus F;exact⟨c :: f,rest,j,y,by rw[E];rfl,by rw[c2];exact H,by simp,L,A,G⟩
     ·rw[if_neg c2] at a i;by_cases c3:c=40
      ·rw[if_pos c3] at a i;simp only[decide_eq_true_eq] at i;obtain⟨B,rfl⟩:∃ B,n=B+1:=⟨n - 1,by omega⟩;have hF:∀ l p,l.length<N→Ends ⟨0,18,d+1⟩ l→Reads (Fc B) isD (d+1) p l:=fun l p w h=>ih l p B (d+1) w (by omega) (by omega) h;obtain⟨f,rest,r,y,E,F,O,L,A,G⟩:=sum_reads hF l (p+0+1) (by omega) a
       cases rest with
       | nil =>
        obtain⟨z,a,g,P⟩:=A;simp only[pRun,Option.some.injEq] at a;subst a;simp only at P;omega
       | cons c' rest =>
        have v:=G c' rest rfl;obtain⟨e,g⟩:=A.step;have Q:¬ isDig c'=true:=fun h=>v (Or.inl (Or.inl h));have R:¬ (c'=43∨c'=45∨c'=42∨c'=47):=by
         rintro (h | h | h | h)
         ·exact v (Or.inr (Or.inl h))
         ·exact v (Or.inr (Or.inr h))
         ·exact v (Or.inl (Or.inr (Or.inl h)))
         ·exact v (Or.inl (Or.inr (Or.inr h)))
        have b:plStep ⟨2,y,d+1⟩ c'=if c'=41 then (⟨2,0,d⟩,true) else (⟨2,y,d+1⟩,false):=by
         unfold plStep goOnP;rw[if_neg Q,if_neg (by simp),if_pos rfl,if_neg R];simp only[show d+1 - 1=d by omega,show (decide (0<d+1))=true by simp;omega]
        by_cases I:c'=41
        ·rw[if_pos I] at b;rw[b] at g;obtain⟨o,m,j,q,x,K,s,t,u⟩:=g.digs (by decide);have J:o=[]:=List.eq_nil_of_length_eq_zero (by omega);subst J;refine⟨c :: (f ++ [c']),m,r,j,by rw[E,q];simp,?_,by simp,s,t,u⟩
         exact⟨0,_,r,rfl,Or.inr ⟨f,by rw[c3,I],F⟩,rfl⟩
        ·rw[if_neg I] at b;rw[b] at e;exact absurd e (by simp)
      ·rw[if_neg c3] at i;exact absurd i (by simp)
theorem text_reads {l:List Int} (h:Ends ⟨0,18,0⟩ l):∃ r,Sm 8 l 0 r:=by
 have hF:∀ a p,a.length<l.length+1→Ends ⟨0,18,0⟩ a→Reads (Fc 8) isD 0 p a:=fun a p e h=>fac_reads _ a p 8 0 e (by decide) (by decide) h;obtain⟨f,rest,r,g,i,j,q,s,k,m⟩:=sum_reads hF l 0 (by omega) h
 cases rest with
 | nil=>exact⟨r,by rw[i,List.append_nil];exact j⟩
 | cons c' rest =>
  have b:=m c' rest rfl;obtain⟨c,t⟩:=k.step;have n:¬ isDig c'=true:=fun h=>b (Or.inl (Or.inl h));have o:¬ (c'=43∨c'=45∨c'=42∨c'=47):=by
   rintro (h | h | h | h)
   ·exact b (Or.inr (Or.inl h))
   ·exact b (Or.inr (Or.inr h))
   ·exact b (Or.inl (Or.inr (Or.inl h)))
   ·exact b (Or.inl (Or.inr (Or.inr h)))
  have d:(plStep ⟨2,g,0⟩ c').2=false:=by
   unfold plStep goOnP;rw[if_neg n,if_neg (by simp),if_pos rfl,if_neg o]
   split <;> simp
  rw[d] at c;exact absurd c (by simp)
end
section
structure Qok (a:Qn):Prop where
 r:0<a.r
 d0:1≤a.d
 d1:a.d<1000000
 q:a.q=0↔a.d=1
 f:SqFree a.d.toNat
theorem sqfree_one:SqFree 1:=by
 intro k a h;have b:=Nat.le_of_dvd (by decide) h;have c:=Nat.mul_le_mul a a;omega
theorem Qok.int (n:Int):Qok ⟨n,0,1,1⟩:=⟨by simp,by simp,by simp,by simp,sqfree_one⟩
theorem Qok.neg {a:Qn} (h:Qok a):Qok (qneg a):=⟨h.r,h.d0,h.d1,by have:=h.q;simp only[qneg];omega,h.f⟩
theorem Qok.qd {a:Qn} (h:Qok a):QD a:=⟨by have:=h.d0;omega,by have:=h.d1;omega⟩
structure Rooted (a b:Qn) (D:Int):Prop where
 d0:1≤D
 d1:D<1000000
 f:SqFree D.toNat
 o:D=1→a.q=0∧b.q=0
 a:a.d=1∨a.d=D
 b:b.d=1∨b.d=D
theorem rooted {a b:Qn} (ha:Qok a) (c:Qok b) (h:qroot a.d b.d≠0):Rooted a b (qroot a.d b.d):=by
 have l:=ha.d0;have m:=ha.d1;have i:=ha.q;have n:=c.d0;have o:=c.d1;have j:=c.q;unfold qroot at *;by_cases k:a.d=1∨a.d=b.d
 ·rw[if_pos k];exact⟨n,o,c.f,fun e=>⟨i.mpr (by omega),j.mpr e⟩,by omega,Or.inr rfl⟩
 ·rw[if_neg k] at h ⊢;by_cases g:b.d=1
  ·rw[if_pos g];exact⟨l,m,ha.f,fun e=>⟨i.mpr e,j.mpr g⟩,Or.inr rfl,Or.inl g⟩
  ·rw[if_neg g] at h;exact absurd rfl h
theorem qroot_zero {a b:Qn} (ha:Qok a) (c:Qok b):qroot a.d b.d=0↔1<a.d∧1<b.d∧a.d≠b.d:=by
 have e:=ha.d0;have f:=c.d0;unfold qroot
 split
 ·omega
 ·split <;> omega
theorem qroot_eq {a b:Qn} (ha:Qok a) (h:qroot a.d b.d≠0):qroot a.d b.d=if 1<a.d then a.d else b.d:=by
 have f:=ha.d0;unfold qroot at *;by_cases c:a.d=1∨a.d=b.d
 ·rw[if_pos c]
  split <;> omega
 ·rw[if_neg c] at h ⊢;by_cases e:b.d=1
  ·rw[if_pos e,if_pos (by omega)]
  ·rw[if_neg e] at h;exact absurd rfl h
theorem qreduce_ok {p q r D:Int} (e:r≠0) (k:1≤D) (l:D<1000000) (f:SqFree D.toNat) (i:D=1→q=0):Qok (qreduce p q r D):=by
 have b:=(qreduce_back p q r D).2.1;have g:=qcom_ne p q r e;have a:(qreduce p q r D).d=if (qreduce p q r D).q=0 then 1 else D:=rfl
 have j:(qreduce p q r D).q=0↔q=0:=by
  constructor
  ·intro h;rw[b,h,Int.mul_zero]
  ·intro h;rw[h] at b;rcases Int.mul_eq_zero.mp b.symm with c | c
   ·rw[h] at g;exact absurd c g
   ·rw[h];exact c
 refine⟨qreduce_pos p q r D e,?_,?_,?_,?_⟩
 ·rw[a];split <;> omega
 ·rw[a];split <;> omega
 ·rw[a];constructor
  ·intro h;rw[if_pos h]
  ·intro h
   split at h
   ·assumption
   ·exact j.mpr (i h)
 ·rw[a]
  split
  ·exact sqfree_one
  ·exact f
theorem norm_ne {a:Qn} (h:Qok a) (l:¬ (a.p=0∧a.q=0)):a.p*a.p+a.q*(-a.q*a.d)≠0:=by
 intro g;by_cases hq:a.q=0
 ·rw[hq] at g;simp only[Int.zero_mul,Int.add_zero] at g;exact l ⟨(Int.mul_eq_zero.mp g).elim id id,hq⟩
 ·have r:a.d≠1:=fun e=>hq (h.q.mpr e);have s:=h.d0;have m:a.p*a.p=a.q*a.q*a.d:=by
   have:a.q*(-a.q*a.d) = -(a.q*a.q*a.d):=by rw[Int.neg_mul,Int.mul_neg,Int.mul_assoc]
   omega
  have k:a.p.natAbs*a.p.natAbs=a.q.natAbs*a.q.natAbs*a.d.toNat:=by
   have:=congrArg Int.natAbs m;rw[Int.natAbs_mul,Int.natAbs_mul,Int.natAbs_mul] at this;rw[this]
   congr 1
   omega
  have b:0<a.q.natAbs:=by omega
  have c:0<a.d.toNat:=by omega
  have i:0<a.p.natAbs:=by
   rcases Nat.eq_zero_or_pos a.p.natAbs with j | j
   ·rw[j] at k;have:=Nat.mul_pos (Nat.mul_pos b b) c;omega
   ·exact j
  have n:IsRoot (a.p.natAbs*a.p.natAbs) a.p.natAbs 1:=⟨i,by decide,by omega,sqfree_one⟩;have o:IsRoot (a.p.natAbs*a.p.natAbs) a.q.natAbs a.d.toNat:=⟨b,c,k.symm,h.f⟩;have:=(n.unique o).2;omega
theorem mul_ne {x y:Int} (a:0<x) (b:0<y):x*y≠0:=by
 have:=Int.mul_pos a b;omega
theorem qaddN_ok {a b:Qn} (ha:Qok a) (g:Qok b) (h:qroot a.d b.d≠0):Qok (qaddN a b):=by
 have c:=rooted ha g h;refine qreduce_ok (mul_ne ha.r g.r) c.d0 c.d1 c.f ?_;intro e;obtain⟨i,j⟩:=c.o e;rw[i,j];simp
theorem qmulN_ok {a b:Qn} (ha:Qok a) (g:Qok b) (h:qroot a.d b.d≠0):Qok (qmulN a b):=by
 have c:=rooted ha g h;refine qreduce_ok (mul_ne ha.r g.r) c.d0 c.d1 c.f ?_;intro e;obtain⟨i,j⟩:=c.o e;rw[i,j];simp
theorem qinv_ok {a:Qn} (ha:Qok a) (b:¬ (a.p=0∧a.q=0)):Qok (qinv a):=by
 refine qreduce_ok (norm_ne ha b) ha.d0 ha.d1 ha.f ?_;intro e;rw[ha.q.mpr e];simp
theorem qadd_ok {a b:Qn} (ha:Qok a) (d:Qok b) (h:(qadd a b).2=0):Qok (qadd a b).1:=by
 unfold qadd at *
 split at h
 ·exact absurd h (by decide)
 ·rename_i c;rw[if_neg c];exact qaddN_ok ha d c
theorem qmul_ok {a b:Qn} (ha:Qok a) (d:Qok b) (h:(qmul a b).2=0):Qok (qmul a b).1:=by
 unfold qmul at *
 split at h
 ·exact absurd h (by decide)
 ·rename_i c;rw[if_neg c];exact qmulN_ok ha d c
theorem qdiv_ok {a b:Qn} (ha:Qok a) (d:Qok b) (h:(qdiv a b).2=0):Qok (qdiv a b).1:=by
 unfold qdiv at *
 split at h
 ·exact absurd h (by decide)
 ·rename_i c;rw[if_neg c];exact qmul_ok ha (qinv_ok d c) h
theorem comb_ok {c:Int} {a b:Qn} (ha:Qok a) (d:Qok b) (h:(comb c a b).2=0):Qok (comb c a b).1:=by
 unfold comb at *
 split at h
 ·rename_i e;rw[if_pos e];exact qadd_ok ha d h
 ·rename_i e;rw[if_neg e]
  split at h
  ·rename_i e;rw[if_pos e];exact qadd_ok ha d.neg h
  ·rename_i e;rw[if_neg e]
   split at h
   ·rename_i e;rw[if_pos e];exact qmul_ok ha d h
   ·rename_i e;rw[if_neg e];exact qdiv_ok ha d h
theorem qzero_qf (m:Nat):QF m qzero:=⟨Ft.zero m,Ft.zero m,Ft.zero m⟩
theorem qzero_qd:QD qzero:=⟨by decide,by decide⟩
theorem QF.mono {m n:Nat} {a:Qn} (h:QF m a) (b:m≤n):QF n a:=⟨h.1.mono b,h.2.1.mono b,h.2.2.mono b⟩
theorem qroot_bd {a b:Qn} (ha:QD a) (c:QD b):0≤qroot a.d b.d∧qroot a.d b.d≤1000000:=by
 have:=ha.1;have:=ha.2;have:=c.1;have:=c.2;unfold qroot
 split
 ·omega
 ·split <;> omega
theorem QD.red {p q r D:Int} (h:0≤D∧D≤1000000):QD (qreduce p q r D):=by
 unfold QD qreduce;simp only
 split <;> omega
theorem qadd_sz {a b:Qn} {m n:Nat} (ha:QF m a) (c:QF n b):QF (m+n+1) (qadd a b).1:=by
 unfold qadd
 split
 ·exact qzero_qf _
 ·refine QF.reduce (Ft.add (ha.1.mul c.2.2) ((c.1.mul ha.2.2).mono (by omega))) (Ft.add (ha.2.1.mul c.2.2) ((c.2.1.mul ha.2.2).mono (by omega))) ((ha.2.2.mul c.2.2).mono (by omega))
theorem qmul_sz {a b:Qn} {m n:Nat} (ha:QF m a) (c:QF n b) (e:QD a) (f:QD b):QF (m+n+8) (qmul a b).1:=by
 unfold qmul
 split
 ·exact qzero_qf _
 ·have h:=qroot_bd e f;have g:Ft (n+7) (b.q*qroot a.d b.d):=c.2.1.mul (by unfold Ft;omega)
  refine QF.reduce ((Ft.add ((ha.1.mul c.1).mono (show m+n≤m+(n+7) by omega)) (ha.2.1.mul g)).mono (by omega)) ((Ft.add (ha.1.mul c.2.1) ((ha.2.1.mul c.1).mono (by omega))).mono (by omega)) ((ha.2.2.mul c.2.2).mono (by omega))
theorem qdiv_sz {a b:Qn} {m n:Nat} (ha:QF m a) (d:QF n b) (e:QD a) (c:QD b):QF (m+2*n+16) (qdiv a b).1:=by
 unfold qdiv
 split
 ·exact qzero_qf _
 ·exact(qmul_sz ha (d.inv c) e c.inv).mono (by omega)
theorem qadd_qd {a b:Qn} (c:QD a) (d:QD b):QD (qadd a b).1:=by
 unfold qadd
 split
 ·exact qzero_qd
 ·exact QD.red (qroot_bd c d)
theorem qmul_qd {a b:Qn} (c:QD a) (d:QD b):QD (qmul a b).1:=by
 unfold qmul
 split
 ·exact qzero_qd
 ·exact QD.red (qroot_bd c d)
theorem comb_qd {c:Int} {a b:Qn} (d:QD a) (e:QD b):QD (comb c a b).1:=by
 unfold comb
 split
 ·exact qadd_qd d e
 ·split
  ·exact qadd_qd d e.neg
  ·split
   ·exact qmul_qd d e
   ·unfold qdiv
    split
    ·exact qzero_qd
    ·exact qmul_qd d e.inv
theorem comb_sz {c:Int} {a b:Qn} {m n:Nat} (ha:QF m a) (d:QF n b) (e:QD a) (f:QD b):QF (m+2*n+20) (comb c a b).1:=by
 unfold comb
 split
 ·exact(qadd_sz ha d).mono (by omega)
 ·split
  ·exact(qadd_sz ha d.neg).mono (by omega)
  ·split
   ·exact(qmul_sz ha d e f).mono (by omega)
   ·exact(qdiv_sz ha d e f).mono (by omega)
theorem comb_sz1 {c:Int} (e:addOp c) {a b:Qn} {m n:Nat} (ha:QF m a) (d:QF n b):QF (m+n+20) (comb c a b).1:=by
 unfold comb;rcases e with h | h
 ·rw[if_pos h];exact(qadd_sz ha d).mono (by omega)
 ·rw[if_neg (by omega),if_pos h];exact(qadd_sz ha d.neg).mono (by omega)
structure RsOk (m:Nat) (r:Rs):Prop where
 f:QF m r.v
 d:QD r.v
 q:r.e=0→Qok r.v
 k:r.e=0→r.k=0
theorem RsOk.mono {m n:Nat} {r:Rs} (h:RsOk m r) (a:m≤n):RsOk n r:=⟨h.f.mono a,h.d,h.q,h.k⟩
theorem opR_ok {c:Int} {p m n k:Nat} {a b:Rs} (ha:RsOk m a) (i:RsOk n b) (l:QF (m+k*n+20) (comb c a.v b.v).1):RsOk (m+k*n+20) (opR c p a b):=by
 unfold opR
 split
 ·exact ha.mono (by omega)
 ·rename_i j
  have j:a.e=0:=by omega
  split
  ·rename_i g
   exact⟨ha.f.mono (by omega),ha.d,fun h=>absurd h g,fun h=>absurd h g⟩
  ·rename_i g
   exact⟨l,comb_qd ha.d i.d,fun h=>comb_ok (ha.q j) (i.q (by omega)) h,fun h=>by simp only at h ⊢;rw[if_pos h]⟩
theorem negs_ok {m:Nat} {r:Rs} (j:Nat) (h:RsOk m r):RsOk m (negs j r):=by
 unfold negs
 split
 ·exact⟨h.f.neg,h.d.neg,fun e=>(h.q e).neg,h.k⟩
 ·exact h
theorem chT_ok {F:List Int→Nat→Rs→Prop} {ops:Int→Prop} {k C:Nat} (l:1≤k) (o:20≤C) (hF:∀ t p r,F t p r→RsOk (C*t.length) r)
  (e:∀ c a b m n,ops c→QF m a→QF n b→QD a→QD b→QF (m+k*n+20) (comb c a b).1) :
  ∀(j M:Nat) (acc:Rs) (p:Nat) (s:List Int) (r:Rs),RsOk M acc→ChT F ops j acc p s r→RsOk (M+k*C*s.length) r
 | 0,M,acc,p,s,r,ha,h=>by
  obtain⟨rfl,rfl⟩:=h
  simpa using ha
 | j+1,M,acc,p,s,r,ha,h=>by
  obtain⟨c,t,g,q,u,rfl,v,w⟩:=h;have i:=hF t _ q v;have x:=chT_ok l o hF e j _ _ _ g r (opR_ok (k:=k) (p:=p) ha i (e c _ _ _ _ u ha.f i.f ha.d i.d)) w;refine x.mono ?_;simp only[List.length_cons,List.length_append];have y:k*C*(t.length+g.length+1)=k*(C*t.length)+k*C*g.length+k*C:=by
   rw[Nat.mul_add,Nat.mul_add,Nat.mul_one,Nat.mul_assoc]
  have z:C≤k*C:=Nat.le_mul_of_pos_left C l;omega
theorem ch_ok {F:List Int→Nat→Rs→Prop} {ops:Int→Prop} {k C:Nat} (e:1≤k) (g:20≤C) (hF:∀ t p r,F t p r→RsOk (C*t.length) r)
  (d:∀ c a b m n,ops c→QF m a→QF n b→QD a→QD b→QF (m+k*n+20) (comb c a b).1) {s:List Int} {p:Nat} {r:Rs} (h:Ch F ops s p r):RsOk (k*C*s.length) r:=by
 obtain⟨m,f,i,j,rfl,l,o⟩:=h;refine(chT_ok e g hF d m _ _ _ i r (hF f _ j l) o).mono ?_;have q:C≤k*C:=Nat.le_mul_of_pos_left C e;have u:=Nat.mul_le_mul_right f.length q;rw[List.length_append,Nat.mul_add];omega
theorem mul_cost (c:Int) (a b:Qn) (m n:Nat) (_:mulOp c) (ha:QF m a) (d:QF n b) (e:QD a) (f:QD b):QF (m+2*n+20) (comb c a b).1:=comb_sz ha d e f
theorem add_cost (c:Int) (a b:Qn) (m n:Nat) (h:addOp c) (ha:QF m a) (d:QF n b) (_:QD a) (_:QD b):QF (m+1*n+20) (comb c a b).1:=by
 rw[Nat.one_mul];exact comb_sz1 h ha d
theorem decN_from (s:List Int):∀(n:Int) (j:Nat),Digs s→0≤n→n<10 ^ j→0≤s.foldl (fun n c=>n*10+(c - 48)) n∧s.foldl (fun n c=>n*10+(c - 48)) n<10 ^ (j+s.length):=by
 induction s with
 | nil=>intro n j _ a b;exact⟨a,b⟩
 | cons c s ih =>
  intro n j d a b;have e:isDig c=true:=d c (List.mem_cons_self ..);unfold isDig at e;simp only[Bool.and_eq_true,decide_eq_true_eq] at e;have f:=ih (n*10+(c - 48)) (j+1) (fun x g=>d x (List.mem_cons_of_mem _ g)) (by omega) (by rw[Int.pow_succ];omega)
  simp only[List.foldl_cons,List.length_cons];rw[show j+(s.length+1)=j+1+s.length by omega];exact f
theorem decN_bd {s:List Int} (h:Digs s):0≤decN s∧decN s<10 ^ s.length:=by
 have:=decN_from s 0 0 h (by decide) (by decide)
 rwa [Nat.zero_add] at this
theorem qsqrt_ok {n:Nat} (d:n<1000000):Qok (qsqrt n)∧QF 20 (qsqrt n):=by
 have f1:Ft 20 1:=by unfold Ft;decide
 unfold qsqrt
 split
 ·exact⟨Qok.int 0,Ft.zero _,Ft.zero _,f1⟩
 ·rename_i i
  have b:=sqf_root (show 0<n by omega) d;have e:sqf n 1000*sqf n 1000≤n:=Nat.le_of_dvd (by omega) (sqf_dvd n 1000);have g:=b.op;have j:=b.sp;have h:n / (sqf n 1000*sqf n 1000)≤n:=Nat.div_le_self _ _;have k:sqf n 1000≤sqf n 1000*sqf n 1000:=Nat.le_mul_of_pos_left _ g;have c:Ft 20 (sqf n 1000:Int):=by unfold Ft;simp only[Int.natAbs_natCast];omega
  have a:=b.free
  split
  ·exact⟨Qok.int _,c,Ft.zero _,f1⟩
  ·rename_i l
   generalize n / (sqf n 1000*sqf n 1000)=s at *;generalize sqf n 1000=f at *;refine⟨⟨by simp,by simp only;omega,by simp only;omega,by simp only;omega,?_⟩,Ft.zero _,c,f1⟩
   simpa using a
theorem atom_ok {s:List Int} {r:Rs} (h:Atom s r):RsOk (20*s.length) r:=by
 have f1:Ft 20 1:=by unfold Ft;decide
 rcases h with ⟨b,c,a,rfl⟩|⟨t,rfl,b,c,a,rfl⟩
 ·have k:0<s.length:=List.length_pos_iff.mpr b;obtain⟨g,d⟩:=decN_bd a;refine⟨⟨?_,Ft.zero _,f1.mono (by omega)⟩,(Qok.int _).qd,fun _=>Qok.int _,fun _=>rfl⟩;have:Ft s.length (decN s):=by
   unfold Ft;have e:((decN s).natAbs:Int)=decN s:=by omega
   have:((decN s).natAbs:Int)<((10 ^ s.length:Nat):Int):=by rw[e];push_cast;exact d
   omega
  exact this.mono (by omega)
 ·obtain⟨g,d⟩:=decN_bd a;have:(10:Int) ^ t.length≤10 ^ 6:=by exact_mod_cast Nat.pow_le_pow_right (show 0<10 by decide) c
  have i:(decN t).toNat<1000000:=by omega
  obtain⟨f,j⟩:=qsqrt_ok i;exact⟨j.mono (by simp only[List.length_cons];omega),f.qd,fun _=>f,fun _=>rfl⟩
theorem fc_ok:∀(n:Nat) (s:List Int) (p:Nat) (r:Rs),Fc n s p r→RsOk (20*2 ^ n*s.length) r
 | 0,s,p,r,h=>by
  obtain⟨m,a,d,rfl,b,rfl⟩:=h;refine(negs_ok m (atom_ok b)).mono ?_;rw[List.length_append];omega
 | n+1,s,p,r,h=>by
  obtain⟨m,a,d,rfl,b,rfl⟩:=h;refine negs_ok m ?_;have i:0<2 ^ n:=Nat.pow_pos (by decide);have e:20*2 ^ (n+1)=1*(2*(20*2 ^ n)):=by rw[Nat.pow_succ];omega
  have c:20≤20*2 ^ n:=by omega
  have f:=fc_ok n;rw[e,List.length_append];generalize 20*2 ^ n=C at *;rcases b with b | ⟨t,rfl,b⟩
  ·refine(atom_ok b).mono ?_;have:=Nat.mul_le_mul (show 20≤1*(2*C) by omega) (show a.length≤(List.replicate m (45:Int)).length+a.length by omega);omega
  ·refine(ch_ok (by decide) (show 20≤2*C by omega) (fun t p r g=>ch_ok (by decide) c f mul_cost g) add_cost b).mono ?_;exact Nat.mul_le_mul_left _ (by simp only[List.length_cons,List.length_append];omega)
end
section
def passB (a b:Int):List Int→Int→Int→Option Int
 | [],_,op=>some op
 | c :: l,prev,op=>match passB a b l c op with
  | none=>none
  | some o=>if c=41 then some (o+1) else if c=40 then some (o - 1) else if o=0∧(c=a∨c=b)∧(isDig prev=true∨prev=41) then none else some o
def endC (a:Int):List Int→Int
 | []=>a
 | c :: l=>endC c l
def Closed (c:Int):Prop:=isDig c=true∨c=41
theorem passB_append (a b:Int):∀(l m:List Int) (d op:Int),passB a b (l ++ m) d op=(passB a b m (endC d l) op).bind (fun o=>passB a b l d o)
 | [],m,d,op=>by simp[passB,endC]
 | c :: l,m,d,op=>by
  simp only[List.cons_append,passB,endC];rw[passB_append a b l m c op]
  cases passB a b m (endC c l) op <;> rfl
theorem endC_append (a:Int):∀(l m:List Int),endC a (l ++ m)=endC (endC a l) m
 | [],_=>rfl
 | c :: l,m=>endC_append c l m
theorem digs_end:∀(s:List Int) (a:Int),Digs s→s≠[]→isDig (endC a s)=true
 | [],_,_,h=>absurd rfl h
 | [c],_,h,_=>h c (List.mem_cons_self ..)
 | c :: d :: l,_,h,_=>digs_end (d :: l) c (fun x b=>h x (List.mem_cons_of_mem _ b)) (by simp)
def isOps (a b:Int):Prop:=(a=43∧b=45)∨(a=42∧b=47)
theorem pass_digs {a b:Int} (e:isOps a b):∀(s:List Int) (d op:Int),Digs s→passB a b s d op=some op
 | [],_,_,_=>rfl
 | c :: l,d,op,h=>by
  have f:=h c (List.mem_cons_self ..);unfold isDig at f;simp only[Bool.and_eq_true,decide_eq_true_eq] at f;unfold isOps at e;simp only[passB];rw[pass_digs e l c op (fun x g=>h x (List.mem_cons_of_mem _ g))];simp only;rw[if_neg (by omega),if_neg (by omega),if_neg (by rintro⟨_,i,_⟩;omega)]
def PassIn (t:List Int):Prop:=∀ a b prev op,isOps a b→1≤op→passB a b t prev op=some op
def PassAt (a b:Int) (t:List Int):Prop:=∀ prev,¬ Closed prev→passB a b t prev 0=some 0
def Ends' (t:List Int):Prop:=∀ prev,Closed (endC prev t)
theorem pass_sign {a b c op d:Int} (l:List Int) (h:passB a b l c op=some op) (e:c≠41∧c≠40) (g:1≤op∨(op=0∧(¬ Closed d∨(c≠a∧c≠b)))):passB a b (c :: l) d op=some op:=by
 simp only[passB,h];rw[if_neg e.1,if_neg e.2,if_neg];rintro⟨k,m,i⟩;rcases g with j | ⟨j,f | f⟩
 ·omega
 ·exact f i
 ·omega
theorem not_closed {c:Int} (h:c=43∨c=45∨c=42∨c=47∨c=40):¬ Closed c:=by
 intro a;unfold Closed isDig at a;simp only[Bool.and_eq_true,decide_eq_true_eq] at a;omega
theorem atom_pass {t:List Int} {r:Rs} (h:Atom t r):PassIn t∧(∀ a b,isOps a b→PassAt a b t)∧Ends' t:=by
 have f:∀ a b c op,isOps a b→passB a b t c op=some op:=by
  intro a b c op d;rcases h with ⟨_,_,e,_⟩|⟨i,rfl,_,_,e,_⟩
  ·exact pass_digs d t c op e
  ·simp only[passB,pass_digs d i 114 op e];unfold isOps at d;rw[if_neg (by decide),if_neg (by decide),if_neg (by rintro⟨_,g,_⟩;omega)]
 refine⟨fun a b c op d _=>f a b c op d,fun a b d c _=>f a b c 0 d,fun c=>Or.inl ?_⟩;rcases h with ⟨g,_,e,_⟩|⟨i,rfl,g,_,e,_⟩
 ·exact digs_end t c e g
 ·exact digs_end i 114 e g
theorem minus_pass {c:List Int}:∀(m:Nat),PassIn c∧(∀ a b,isOps a b→PassAt a b c)∧Ends' c→PassIn (List.replicate m 45 ++ c)∧(∀ a b,isOps a b→PassAt a b (List.replicate m 45 ++ c))∧Ends' (List.replicate m 45 ++ c)
 | 0,h=>h
 | m+1,h=>by
  obtain⟨g,i,j⟩:=minus_pass m h;rw[List.replicate_succ,List.cons_append];refine⟨fun a b d op e f=>pass_sign _ (g a b 45 op e f) (by decide) (Or.inl f),fun a b e d k=>?_,fun d=>j 45⟩;exact pass_sign _ (i a b e 45 (not_closed (by decide))) (by decide) (Or.inr ⟨rfl,Or.inl k⟩)
theorem paren_pass {t:List Int} (h:PassIn t):PassIn (40 :: (t ++ [41]))∧(∀ a b,isOps a b→PassAt a b (40 :: (t ++ [41])))∧Ends' (40 :: (t ++ [41])):=by
 have e:∀ a b c op,isOps a b→0≤op→passB a b (40 :: (t ++ [41])) c op=some op:=by
  intro a b c op d f;have g:passB a b [41] (endC 40 t) op=some (op+1):=by simp[passB]
  have i:passB a b (t ++ [41]) 40 op=some (op+1):=by
   rw[passB_append,g];exact h a b 40 (op+1) d (by omega)
  simp only[passB,i];rw[if_neg (by decide),if_pos (by trivial),Int.add_sub_cancel]
 refine⟨fun a b c op d f=>e a b c op d (by omega),fun a b d c _=>e a b c 0 d (by decide),fun c=>Or.inr ?_⟩;show endC 40 (t ++ [41])=41;rw[endC_append];rfl
theorem chT_pass {F:List Int→Nat→Rs→Prop} {ops:Int→Prop} (e:∀ c,ops c→c=43∨c=45∨c=42∨c=47) (hF:∀ t p r,F t p r→PassIn t∧Ends' t) :
  ∀(k:Nat) (acc:Rs) (p:Nat) (s:List Int) (r:Rs),ChT F ops k acc p s r→PassIn s∧(∀ d,Closed d→Closed (endC d s))
 | 0,acc,p,s,r,h=>by
  obtain⟨rfl,_⟩:=h;exact⟨fun _ _ _ _ _ _=>rfl,fun _ h=>h⟩
 | k+1,acc,p,s,r,h=>by
  obtain⟨c,t,i,j,l,rfl,m,n⟩:=h;obtain⟨o,q⟩:=chT_pass e hF k _ _ i r n;obtain⟨u,v⟩:=hF t _ j m;have w:=e c l;refine⟨fun a b d op f g=>pass_sign _ ?_ (by omega) (Or.inl g),fun d _=>?_⟩
  ·rw[passB_append,o a b _ op f g];exact u a b c op f g
  ·show Closed (endC c (t ++ i))
   rw[endC_append];exact q _ (v c)
theorem ch_pass {F:List Int→Nat→Rs→Prop} {ops:Int→Prop} (e:∀ c,ops c→c=43∨c=45∨c=42∨c=47) (hF:∀ t p r,F t p r→PassIn t∧Ends' t) (t:List Int) (p:Nat) (r:Rs) (h:Ch F ops t p r):PassIn t∧Ends' t:=by
 obtain⟨m,f,j,k,rfl,l,n⟩:=h;obtain⟨o,q⟩:=chT_pass e hF m _ _ j r n;obtain⟨s,u⟩:=hF f _ k l;refine⟨fun a b d op g i=>?_,fun d=>?_⟩
 ·rw[passB_append,o a b _ op g i];exact s a b d op g i
 ·rw[endC_append];exact q _ (u d)
theorem mul_four (c:Int) (h:mulOp c):c=43∨c=45∨c=42∨c=47:=by unfold mulOp at h;omega
theorem add_four (c:Int) (h:addOp c):c=43∨c=45∨c=42∨c=47:=by unfold addOp at h;omega
theorem fc_pass:∀(n:Nat) (t:List Int) (p:Nat) (r:Rs),Fc n t p r→PassIn t∧(∀ a b,isOps a b→PassAt a b t)∧Ends' t
 | 0,t,p,r,h=>by
  obtain⟨m,d,g,rfl,c,_⟩:=h;exact minus_pass m (atom_pass c)
 | n+1,t,p,r,h=>by
  obtain⟨m,d,g,rfl,c,_⟩:=h;refine minus_pass m ?_;rcases c with c | ⟨i,rfl,c⟩
  ·exact atom_pass c
  ·have f:=fc_pass n;refine paren_pass (ch_pass add_four (fun t p r e=>ch_pass mul_four (fun t p r e=>⟨(f t p r e).1,(f t p r e).2.2⟩) t p r e) i _ _ c).1
theorem pd_pass (n:Nat) (t:List Int) (p:Nat) (r:Rs) (h:Pd n t p r):PassIn t∧Ends' t:=ch_pass mul_four (fun t p r a=>⟨(fc_pass n t p r a).1,(fc_pass n t p r a).2.2⟩) t p r h
theorem sm_pass (n:Nat) (t:List Int) (p:Nat) (r:Rs) (h:Sm n t p r):PassIn t∧Ends' t:=ch_pass add_four (pd_pass n) t p r h
theorem pd_at (n:Nat) (t:List Int) (p:Nat) (r:Rs) (h:Pd n t p r):PassAt 43 45 t:=by
 obtain⟨m,f,d,i,rfl,j,e⟩:=h;have b:isOps 43 45:=Or.inl ⟨rfl,rfl⟩;have g:∀(k:Nat) (acc:Rs) (p:Nat) (s:List Int) (r:Rs),ChT (Fc n) mulOp k acc p s r→∀ a,passB 43 45 s a 0=some 0:=by
  intro k
  induction k with
  | zero=>intro acc p s r h a;obtain⟨rfl,_⟩:=h;rfl
  | succ k ih =>
   intro acc p s r h a;obtain⟨c,t,d,l,o,rfl,e,q⟩:=h;have v:c=42∨c=47:=o;refine pass_sign _ ?_ (by omega) (Or.inr ⟨rfl,Or.inr (by omega)⟩);rw[passB_append,ih _ _ d r q];exact(fc_pass n t _ l e).2.1 43 45 b c (not_closed (by omega))
 intro a u;rw[passB_append,g m i _ d r e];exact(fc_pass n f _ i j).2.1 43 45 b a u
theorem chT_snoc {F:List Int→Nat→Rs→Prop} {ops:Int→Prop} {c:Int} {t:List Int} {d:Rs} (f:ops c):∀(k:Nat) (acc:Rs) (p:Nat) (s:List Int) (r:Rs),ChT F ops k acc p s r→F t (p+s.length+1) d→ChT F ops (k+1) acc p (s ++ c :: t) (opR c (p+s.length) r d)
 | 0,acc,p,s,r,h,ht=>by
  obtain⟨rfl,rfl⟩:=h;exact⟨c,t,[],d,f,by simp,ht,rfl,rfl⟩
 | k+1,acc,p,s,r,h,ht=>by
  obtain⟨g,b,a,e,i,rfl,j,l⟩:=h;refine⟨g,b,a ++ c :: t,e,i,by simp,j,?_⟩;simp only[List.length_cons,List.length_append] at ht ⊢;have:=chT_snoc f k _ _ a r l (by rw[show p+1+b.length+a.length+1=p+(b.length+a.length+1)+1 by omega];exact ht)
  rwa [show p+1+b.length+a.length=p+(b.length+a.length+1) by omega] at this
def LeftF (F:List Int→Nat→Rs→Prop) (ops:Int→Prop) (s:List Int) (p:Nat) (r:Rs):Prop :=
 F s p r∨∃ a c t b rt,s=a ++ c :: t∧ops c∧Ch F ops a p b∧F t (p+a.length+1) rt∧r=opR c (p+a.length) b rt
theorem ch_left {F:List Int→Nat→Rs→Prop} {ops:Int→Prop} {p:Nat}:∀(k:Nat) (a:List Int) (acc:Rs) (s:List Int) (r:Rs),Ch F ops a p acc→LeftF F ops a p acc→ChT F ops k acc (p+a.length) s r→LeftF F ops (a ++ s) p r
 | 0,a,acc,s,r,_,w,h=>by
  obtain⟨rfl,rfl⟩:=h
  rwa [List.append_nil]
 | k+1,a,acc,s,r,j,_,h=>by
  obtain⟨c,t,o,g,l,rfl,i,q⟩:=h;have e:Ch F ops (a ++ c :: t) p (opR c (p+a.length) acc g):=by
   obtain⟨m,f,d,n,rfl,u,v⟩:=j;refine⟨m+1,f,d ++ c :: t,n,by simp,u,?_⟩;have:=chT_snoc l m n (p+f.length) d acc v (by rw[List.length_append] at i;rw[show p+f.length+d.length+1=p+(f.length+d.length)+1 by omega];exact i)
   rwa [List.length_append,show p+(f.length+d.length)=p+f.length+d.length by omega]
  have b:LeftF F ops (a ++ c :: t) p (opR c (p+a.length) acc g):=Or.inr ⟨a,c,t,acc,g,rfl,l,j,i,rfl⟩;have:=ch_left k (a ++ c :: t) _ o r e b (by
   rw[List.length_append,List.length_cons,show p+(a.length+(t.length+1))=p+a.length+1+t.length by omega];exact q)
  rwa [List.append_assoc,List.cons_append] at this
theorem ch_leftF {F:List Int→Nat→Rs→Prop} {ops:Int→Prop} {s:List Int} {p:Nat} {r:Rs} (h:Ch F ops s p r):LeftF F ops s p r:=by
 obtain⟨m,f,c,a,rfl,b,d⟩:=h;exact ch_left m f a c r ⟨0,f,[],a,by simp,b,rfl,rfl⟩ (Or.inl b) d
def lst (l:List Int) (a b:Int):Nat→Int→Int
 | 0,_=>-1
 | i+1,op=>if at0 l (i+1)=41 then lst l a b i (op+1) else if at0 l (i+1)=40 then lst l a b i (op - 1)
  else if op=0∧(at0 l (i+1)=a∨at0 l (i+1)=b)∧(isDig (at0 l i)=true∨at0 l i=41) then ((i+1:Nat):Int) else lst l a b i op
theorem at0_end2:∀(h:Int) (a b:List Int),at0 (h :: (a ++ b)) a.length=endC h a
 | h,[],b=>by simp[at0,endC]
 | h,c :: a,b=>by
  have:=at0_end2 c a b
  simpa[at0,endC] using this
theorem lst_pass {a b:Int} (h:Int) (l:List Int):∀(f d:List Int) (op o:Int),l=d ++ f→passB a b f (endC h d) op=some o→lst (h :: l) a b l.length op=lst (h :: l) a b d.length o
 | [],d,op,o,e,hp=>by
  simp only[passB,Option.some.injEq] at hp;rw[e,List.append_nil,hp]
 | c :: f,d,op,o,e,hp=>by
  simp only[passB] at hp
  cases g:passB a b f c op with
  | none=>rw[g] at hp;cases hp
  | some m =>
   rw[g] at hp;simp only at hp;have n:=lst_pass (a:=a) (b:=b) h l f (d ++ [c]) op m (by rw[e];simp) (by rw[endC_append];exact g)
   rw[n,List.length_append,List.length_singleton];have p:at0 (h :: l) (d.length+1)=c:=by rw[e];unfold at0;simp
   have i:at0 (h :: l) d.length=endC h d:=by rw[e];exact at0_end2 h d (c :: f)
   show (if at0 (h :: l) (d.length+1)=41 then _ else _)=_
   rw[p,i]
   split at hp
   ·rename_i j;rw[if_pos j];cases hp;rfl
   ·rename_i j;rw[if_neg j]
    split at hp
    ·rename_i k;rw[if_pos k];cases hp;rfl
    ·rename_i k;rw[if_neg k]
     split at hp
     ·cases hp
     ·rename_i q;rw[if_neg q];cases hp;rfl
theorem lst_none {a b:Int} {t:List Int} (h:PassAt a b t) (f:t≠[]):lst t a b (t.length - 1) 0 = -1:=by
 cases t with
 | nil=>exact absurd rfl f
 | cons c l =>
  have d:=h 43 (not_closed (by decide));simp only[passB] at d
  cases e:passB a b l c 0 with
  | none=>rw[e] at d;cases d
  | some o =>
   rw[List.length_cons,Nat.add_sub_cancel,lst_pass c l l [] 0 o rfl e]
   rfl
theorem lst_some {a b c:Int} {f t:List Int} (h:PassAt a b t) (l:c=a∨c=b) (g:¬ Closed c) (k:c≠41∧c≠40) (m:f≠[]) (n:Ends' f):lst (f ++ c :: t) a b ((f ++ c :: t).length - 1) 0=f.length:=by
 cases f with
 | nil=>exact absurd rfl m
 | cons d s2 =>
  have o:=h c g;have e:(d :: s2 ++ c :: t).length - 1=(s2 ++ c :: t).length:=by simp
  rw[e,List.cons_append,lst_pass d (s2 ++ c :: t) t (s2 ++ [c]) 0 0 (by simp) (by rw[endC_append];exact o),List.length_append,List.length_singleton]
  have i:at0 (d :: (s2 ++ c :: t)) (s2.length+1)=c:=by unfold at0;simp
  have j:at0 (d :: (s2 ++ c :: t)) s2.length=endC d s2:=at0_end2 d s2 (c :: t);show (if at0 (d :: (s2 ++ c :: t)) (s2.length+1)=41 then _ else _)=_;rw[i,j,if_neg k.1,if_neg k.2,if_pos ⟨rfl,l,n d⟩]
  rfl
theorem qinv_d {b:Qn} (c:Qok b) (f:¬ (b.p=0∧b.q=0)):(qinv b).d=b.d:=by
 have j:=qinv_ok c f;have a:=(qreduce_back (b.r*b.p) (b.r*-b.q) (b.p*b.p+b.q*(-b.q*b.d)) b.d).2.1;have e:(qinv b).d=if (qinv b).q=0 then 1 else b.d:=rfl
 by_cases h:(qinv b).q=0
 ·rw[e,if_pos h];have g:(qreduce (b.r*b.p) (b.r*-b.q) (b.p*b.p+b.q*(-b.q*b.d)) b.d).q=0:=h;rw[g,Int.mul_zero] at a;rcases Int.mul_eq_zero.mp a with i | i
  ·have:=c.r;omega
  ·exact(c.q.mp (by omega)).symm
 ·rw[e,if_neg h]
theorem ref_div {a b:Qn} {D:Int} (ha:Qok a) (j:Qok b) (k:¬ (b.p=0∧b.q=0)) (x:D=qroot a.d b.d) :
  qreduce ((qreduce ((a.p*b.p)+((a.q*-b.q)*D)) ((a.p*-b.q)+(a.q*b.p)) (a.r*1) D).p*b.r) ((qreduce ((a.p*b.p)+((a.q*-b.q)*D)) ((a.p*-b.q)+(a.q*b.p)) (a.r*1) D).q*b.r)
   ((qreduce ((a.p*b.p)+((a.q*-b.q)*D)) ((a.p*-b.q)+(a.q*b.p)) (a.r*1) D).r*((b.p*b.p) - ((b.q*b.q)*b.d))) D=qmulN a (qinv b):=by
 have y:=norm_ne j k;have z:b.p*b.p - b.q*b.q*b.d=b.p*b.p+b.q*(-b.q*b.d):=by rw[Int.neg_mul,Int.mul_neg,Int.mul_assoc];omega
 rw[z];have l:=qinv_d j k;have m:qroot a.d (qinv b).d=D:=by rw[l,x]
 unfold qmulN;rw[m];have f:=qreduce_back (b.r*b.p) (b.r*-b.q) (b.p*b.p+b.q*(-b.q*b.d)) b.d;have n:=qcom_ne (b.r*b.p) (b.r*-b.q) (b.p*b.p+b.q*(-b.q*b.d)) y;have A:qreduce (b.r*b.p) (b.r*-b.q) (b.p*b.p+b.q*(-b.q*b.d)) b.d=qinv b:=rfl;rw[A] at f;have B:(qinv b).r≠0:=by have:=(qinv_ok j k).r;omega
 have C:a.r≠0:=by have:=ha.r;omega
 have o:=qreduce_back ((a.p*b.p)+((a.q*-b.q)*D)) ((a.p*-b.q)+(a.q*b.p)) (a.r*1) D;have s:=qcom_ne ((a.p*b.p)+((a.q*-b.q)*D)) ((a.p*-b.q)+(a.q*b.p)) (a.r*1) (by omega);have E:=qreduce_pos ((a.p*b.p)+((a.q*-b.q)*D)) ((a.p*-b.q)+(a.q*b.p)) (a.r*1) D (by omega);generalize qreduce ((a.p*b.p)+((a.q*-b.q)*D)) ((a.p*-b.q)+(a.q*b.p)) (a.r*1) D=U at *;generalize qcom ((a.p*b.p)+((a.q*-b.q)*D)) ((a.p*-b.q)+(a.q*b.p)) (a.r*1)=e at *;generalize qcom (b.r*b.p) (b.r*-b.q) (b.p*b.p+b.q*(-b.q*b.d))=c at *;generalize b.p*b.p+b.q*(-b.q*b.d)=N at *;generalize qinv b=V at *;obtain⟨F,G,H⟩:=o;obtain⟨v,w,I⟩:=f;have t:U.r*N≠0:=fun h=>by rcases Int.mul_eq_zero.mp h with h | h <;> omega
 have u:a.r*V.r≠0:=fun h=>by rcases Int.mul_eq_zero.mp h with h | h <;> omega
 rw[← qreduce_scale e (U.p*b.r) (U.q*b.r) (U.r*N) D s t,← qreduce_scale c (a.p*V.p+a.q*(V.q*D)) (a.p*V.q+a.q*V.p) (a.r*V.r) D n u];have J:e*(U.p*b.r)=c*(a.p*V.p+a.q*(V.q*D)):=by
  have g:e*(U.p*b.r)=(e*U.p)*b.r:=by rw[Int.mul_assoc]
  have i:c*(a.p*V.p+a.q*(V.q*D))=a.p*(c*V.p)+a.q*((c*V.q)*D):=by grind
  rw[g,i,← F,← v,← w]
  grind
 have K:e*(U.q*b.r)=c*(a.p*V.q+a.q*V.p):=by
  have g:e*(U.q*b.r)=(e*U.q)*b.r:=by rw[Int.mul_assoc]
  have i:c*(a.p*V.q+a.q*V.p)=a.p*(c*V.q)+a.q*(c*V.p):=by grind
  rw[g,i,← G,← v,← w]
  grind
 have L:e*(U.r*N)=c*(a.r*V.r):=by
  have g:e*(U.r*N)=(e*U.r)*N:=by rw[Int.mul_assoc]
  have i:c*(a.r*V.r)=a.r*(c*V.r):=by grind
  rw[g,i,← H,← I]
  grind
 rw[J,K,L]
end
end Go.Proofs.YtjahbjjekednfaaGreatDoor
