import Derived.Test.YtjahbjjekednfaaGreatDoorSoft
import Derived.Deep.RegionHeld3
namespace Go.Proofs.YtjahbjjekednfaaGreatDoor
section
open Go.RowKit
theorem sf2 {E t:TypeId} {w:World} {A:Nat} {cs:Array Value} (a b:Value) (h:Blk w A cs t) (d:t≠E):Sf E w ((w.setCell ⟨A,0,none⟩ a).setCell ⟨A,1,none⟩ b) :=
  (Sf.set (t:=t) (c:=A) (o:=1) (y:=b) (Sf.set (t:=t) (c:=A) (o:=0) (y:=a) (Sf.refl E w) h.elem d) (by simp only[elemOf_setCell];exact h.elem) d)
theorem kp2 {a w:World} {A:Nat} (b c:Value) (h:Kp a w) (d:a.heap.size≤A):Kp a ((w.setCell ⟨A,0,none⟩ b).setCell ⟨A,1,none⟩ c) :=
  (Below.setCell (Below.setCell h (p:=⟨A,0,none⟩) d b) (p:=⟨A,1,none⟩) d c)
theorem ot2 {w:World} {A b:Nat} {cs:Array Value} {t:TypeId} (a d:Value) (h:Blk w b cs t) (e:b≠A):Blk ((w.setCell ⟨A,0,none⟩ a).setCell ⟨A,1,none⟩ d) b cs t :=
  (Blk.other (c:=A) (o:=1) (y:=d) (Blk.other (c:=A) (o:=0) (y:=a) h e) e)
theorem bl2 {w:World} {A:Nat} {t:TypeId} {d e:Value} (a b:Value) (h:Blk w A #[d,e] t):Blk ((w.setCell ⟨A,0,none⟩ a).setCell ⟨A,1,none⟩ b) A #[a,b] t:=by
  have c:=(Blk.set (o:=1) (y:=b) (Blk.set (o:=0) (y:=a) h));simp only[List.setIfInBounds_toArray,List.set_cons_zero,List.set_cons_succ] at c;exact c
theorem sf7 {E t:TypeId} {w:World} {A:Nat} {cs:Array Value} (b d e f g i j:Value) (h:Blk w A cs t) (a:t≠E):Sf E w (((((((w.setCell ⟨A,0,none⟩ b).setCell ⟨A,1,none⟩ d).setCell ⟨A,2,none⟩ e).setCell ⟨A,3,none⟩ f).setCell ⟨A,4,none⟩ g).setCell ⟨A,5,none⟩ i).setCell ⟨A,6,none⟩ j) :=
  (Sf.set (t:=t) (c:=A) (o:=6) (y:=j) (Sf.set (t:=t) (c:=A) (o:=5) (y:=i) (Sf.set (t:=t) (c:=A) (o:=4) (y:=g) (Sf.set (t:=t) (c:=A) (o:=3) (y:=f) (Sf.set (t:=t) (c:=A) (o:=2) (y:=e) (Sf.set (t:=t) (c:=A) (o:=1) (y:=d) (Sf.set (t:=t) (c:=A) (o:=0) (y:=b) (Sf.refl E w) h.elem a) (by simp only[elemOf_setCell];exact h.elem) a) (by simp only[elemOf_setCell];exact h.elem) a) (by simp only[elemOf_setCell];exact h.elem) a) (by simp only[elemOf_setCell];exact h.elem) a) (by simp only[elemOf_setCell];exact h.elem) a) (by simp only[elemOf_setCell];exact h.elem) a)
theorem kp7 {a w:World} {A:Nat} (c d e f g i j:Value) (h:Kp a w) (b:a.heap.size≤A):Kp a (((((((w.setCell ⟨A,0,none⟩ c).setCell ⟨A,1,none⟩ d).setCell ⟨A,2,none⟩ e).setCell ⟨A,3,none⟩ f).setCell ⟨A,4,none⟩ g).setCell ⟨A,5,none⟩ i).setCell ⟨A,6,none⟩ j) :=
  (Below.setCell (Below.setCell (Below.setCell (Below.setCell (Below.setCell (Below.setCell (Below.setCell h (p:=⟨A,0,none⟩) b c) (p:=⟨A,1,none⟩) b d) (p:=⟨A,2,none⟩) b e) (p:=⟨A,3,none⟩) b f) (p:=⟨A,4,none⟩) b g) (p:=⟨A,5,none⟩) b i) (p:=⟨A,6,none⟩) b j)
theorem ot7 {w:World} {A b:Nat} {cs:Array Value} {t:TypeId} (d e f g i j k:Value) (h:Blk w b cs t) (a:b≠A):Blk (((((((w.setCell ⟨A,0,none⟩ d).setCell ⟨A,1,none⟩ e).setCell ⟨A,2,none⟩ f).setCell ⟨A,3,none⟩ g).setCell ⟨A,4,none⟩ i).setCell ⟨A,5,none⟩ j).setCell ⟨A,6,none⟩ k) b cs t :=
  (Blk.other (c:=A) (o:=6) (y:=k) (Blk.other (c:=A) (o:=5) (y:=j) (Blk.other (c:=A) (o:=4) (y:=i) (Blk.other (c:=A) (o:=3) (y:=g) (Blk.other (c:=A) (o:=2) (y:=f) (Blk.other (c:=A) (o:=1) (y:=e) (Blk.other (c:=A) (o:=0) (y:=d) h a) a) a) a) a) a) a)
theorem bl7 {w:World} {A:Nat} {t:TypeId} {j k l m n p q:Value} (a b c d e f g:Value) (h:Blk w A #[j,k,l,m,n,p,q] t):Blk (((((((w.setCell ⟨A,0,none⟩ a).setCell ⟨A,1,none⟩ b).setCell ⟨A,2,none⟩ c).setCell ⟨A,3,none⟩ d).setCell ⟨A,4,none⟩ e).setCell ⟨A,5,none⟩ f).setCell ⟨A,6,none⟩ g) A #[a,b,c,d,e,f,g] t:=by
  have i:=(Blk.set (o:=6) (y:=g) (Blk.set (o:=5) (y:=f) (Blk.set (o:=4) (y:=e) (Blk.set (o:=3) (y:=d) (Blk.set (o:=2) (y:=c) (Blk.set (o:=1) (y:=b) (Blk.set (o:=0) (y:=a) h)))))));simp only[List.setIfInBounds_toArray,List.set_cons_zero,List.set_cons_succ] at i;exact i
theorem stS2 {E t:TypeId} {w:World} {A:Nat} {cs:Array Value} (a b:Value) (h:Blk w A cs t) (c:t≠E):Sf E w ((w.setCell ⟨A,0,none⟩ a).setCell ⟨A,1,none⟩ b):=sf2 a b h c
theorem stK2 {a w:World} {A:Nat} (b c:Value) (h:Kp a w) (d:a.heap.size≤A):Kp a ((w.setCell ⟨A,0,none⟩ b).setCell ⟨A,1,none⟩ c):=kp2 b c h d
theorem stS7 {E t:TypeId} {w:World} {A:Nat} {cs:Array Value} (a b c d e f g:Value) (h:Blk w A cs t) (i:t≠E):Sf E w (((((((w.setCell ⟨A,0,none⟩ a).setCell ⟨A,1,none⟩ b).setCell ⟨A,2,none⟩ c).setCell ⟨A,3,none⟩ d).setCell ⟨A,4,none⟩ e).setCell ⟨A,5,none⟩ f).setCell ⟨A,6,none⟩ g):=sf7 a b c d e f g h i
theorem stK7 {a w:World} {A:Nat} (b c d e f g i:Value) (h:Kp a w) (j:a.heap.size≤A):Kp a (((((((w.setCell ⟨A,0,none⟩ b).setCell ⟨A,1,none⟩ c).setCell ⟨A,2,none⟩ d).setCell ⟨A,3,none⟩ e).setCell ⟨A,4,none⟩ f).setCell ⟨A,5,none⟩ g).setCell ⟨A,6,none⟩ i):=kp7 b c d e f g i h j
end
section
open Go
theorem sq:(∀(α:Type) (c:List α) (i:Nat) (h:i<c.toArray.size),c.toArray[i]=c[i]'(by simpa using h))∧(∀(α:Type) (a:α) (l:List α) (h:0<(a :: l).length),(a :: l)[0]=a) ∧
  (∀(α:Type) (a:α) (l:List α) (i:Nat) (h:i+1<(a :: l).length),(a :: l)[i+1]=l[i]'(Nat.lt_of_succ_lt_succ h)) ∧
  (∀(α:Type) (l:List α) (i:Nat) (a:α),l.toArray.setIfInBounds i a=(l.set i a).toArray)∧(∀(α:Type) (a b:α) (l:List α),(a :: l).set 0 b=b :: l)∧(∀(α:Type) (a b:α) (l:List α) (i:Nat),(a :: l).set (i+1) b=a :: l.set i b) ∧
  (∀(a:Act) (d:Option Tmp) (v:Value),a.put d v=match d with | some t=>{ a with tmps:=a.tmps.setIfInBounds t v } | none=>a) :=
 ⟨fun _ _ _ _=>by simp,fun _ _ _ _=>rfl,fun _ _ _ _ _=>rfl,fun _ _ _ _=>by simp,fun _ _ _ _=>rfl,fun _ _ _ _ _=>rfl,fun a d v=>by cases d <;> rfl⟩
section
variable {P:Program} {ops:Array Oper} {Q:Exit→Act→World→Prop} {md:Region.Mode} {S:World→Prop}
def left (a:Array Bool):Bool:=a.any (fun b=>!b)
theorem left_of {a:Array Bool} {k:Nat} (h:a.getD k true=false):left a=true:=by
 unfold left;rcases Nat.lt_or_ge k a.size with h' | h'
 ·rw[Array.any_eq_true];refine⟨k,h',?_⟩;simp[h'] at h;simp[h]
 ·simp[Array.getD,Nat.not_lt.mpr h'] at h
def wpAnyL (P:Program) (md:Region.Mode) (ops:Array Oper) (Q:Exit→Act→World→Prop) (S:World→Prop):Nat→Array Bool→Act→World→Prop
 | 0,listed,a,w=>Region.ready md ops listed=[]∧Q .normal a w
 | fuel+1,listed,a,w =>
  (Region.ready md ops listed=[]→Q .normal a w) ∧
  ∀ i ∈ Region.ready md ops listed,wpOp P ops Q i (fun c b=>(left (listed.setIfInBounds i true)=true→S b)∧wpAnyL P md ops Q S fuel (listed.setIfInBounds i true) c b) a w
theorem wpAny_of_l:∀(fuel:Nat) (b:Array Bool) (a:Act) (w:World),wpAnyL P md ops Q S fuel b a w→wpAny P md ops Q fuel b a w
 | 0,_,_,_,h=>h
 | fuel+1,_,_,_,h=>⟨h.1,fun i c=>wpOp_mono (fun d e f=>wpAny_of_l fuel _ d e f.2) (h.2 i c)⟩
def Awaited (md:Region.Mode) (ops:Array Oper) (a:Array Bool) (i:Nat):Prop :=
 ∃ k ok,ops[k]?=some ok∧k≠i∧a.getD k true=false∧∃ e ∈ ok.after,Region.binds md e=true∧e.on=i
theorem wpAnyL_first {i:Nat} {oi:Oper} {v:Value} (L:ops[i]?=some oi) (m:∀(j:Nat) (o:Oper) cs b,ops[j]?=some o→o.op≠.select cs b)
  (U:∀ c a w,Q (.panic c) (a.put oi.dst v) w→Q (.panic c) a w) :
  ∀(fuel:Nat) (d:Array Bool) (a:Act) (w:World),
   (∀ j q,ops[j]?=some q→j≠i→d.getD j true=false→(∀ e ∈ q.after,Region.binds md e=true→e.on≠i)→oi.apart ops q=true) →
   Awaited md ops d i →
   i ∈ Region.ready md ops d→YieldsIf P ops S oi v a→S w →
   wpAnyL P md ops Q S fuel (d.setIfInBounds i true) (a.put oi.dst v) w→wpAnyL P md ops Q S (fuel+1) d a w:=by
 intro fuel
 induction fuel with
 | zero =>
  intro d a w _ _ r I x H;refine⟨fun h=>(by rw[h] at r;cases r),fun j J=>?_⟩
  by_cases hji:j=i
  ·subst hji;exact I.wpOp L x ⟨fun _=>x,H⟩
  ·have:=ready_mono J hji;rw[H.1] at this
   cases this
 | succ fuel ih =>
  intro d a w f s r I x H;refine⟨fun h=>(by rw[h] at r;cases r),fun j J=>?_⟩
  by_cases hji:j=i
  ·subst hji;exact I.wpOp L x ⟨fun _=>x,H⟩
  ·have t:=H.2 j (ready_mono J hji);obtain⟨n,q,g,y⟩:=mem_ready.1 J;have p:∀ e ∈ q.after,Region.binds md e=true→e.on≠i:=fun e V W M=>by
    have t:=y e V W;have T:=(mem_ready.1 r).1;rw[M] at t;rcases Nat.lt_or_ge i d.size with h' | h'
    ·simp[h'] at T t;rw[T] at t;cases t
    ·simp[Array.getElem?_eq_none h'] at t
   obtain⟨k,ok,u,z,A,e,B,C,D⟩:=s;have E:j≠k:=fun X=>by
    subst X;rw[g] at u
    cases u
    exact p e B C D
   have N:(d.setIfInBounds j true).getD k true=false:=by rw[getD_set_ne true E];exact A
   have F:((d.setIfInBounds i true).setIfInBounds j true).getD k true=false:=by
    rw[getD_set_ne true E,getD_set_ne true (Ne.symm z)];exact A
   have Y:=wpOp_putIf g (f j q g hji n p) (fun cs b=>m i oi cs b L) (fun cs b=>m j q cs b g) U I t;have l:∀ k ok,ops[k]?=some ok→k≠i→(d.setIfInBounds j true).getD k true=false →
     (∀ e ∈ ok.after,Region.binds md e=true→e.on≠i)→oi.apart ops ok=true:=fun k ok Z O G R=>by
    refine f k ok Z O ?_ R;by_cases hjk:j=k
    ·subst hjk;exact n
    ·rw[getD_set_ne true hjk] at G;exact G
   refine wpOp_mono (fun a' w' K=>⟨fun _=>K.2.1 (left_of F),ih (d.setIfInBounds j true) a' w' l ⟨k,ok,u,z,N,e,B,C,D⟩ (ready_mono r (Ne.symm hji)) K.1 (K.2.1 (left_of F)) ?_⟩) Y;rw[Array.setIfInBounds_comm _ _ hji];exact K.2.2
def awaits (md:Region.Mode) (ops:Array Oper) (a:Array Bool) (i k:Nat):Bool :=
 match ops[k]? with
 | none=>false
 | some ok=>k != i && !(a.getD k true) && ok.after.any (fun e=>Region.binds md e && e.on == i)
theorem awaits_spec {a:Array Bool} {i k:Nat} (h:awaits md ops a i k=true):Awaited md ops a i:=by
 unfold awaits at h
 split at h
 ·cases h
 ·rename_i ok d
  simp only[Bool.and_eq_true,bne_iff_ne,ne_eq,Bool.not_eq_true'] at h;obtain⟨⟨e,f⟩,c⟩:=h;rw[Array.any_eq_true] at c;obtain⟨j,g,b⟩:=c;simp only[Bool.and_eq_true,beq_iff_eq] at b;exact⟨k,ok,d,e,f,ok.after[j],Array.getElem_mem g,b.1,b.2⟩
theorem wpAnyL_take {i k:Nat} {oi:Oper} {v:Value} {fuel:Nat} {b:Array Bool} {a:Act} {w:World} (d:ops[i]?=some oi)
  (e:Region.noSelect ops=true) (f:Region.free md ops b i=true) (g:(Region.ready md ops b).contains i=true) (j:awaits md ops b i k=true)
  (l:∀ c a w,Q (.panic c) (a.put oi.dst v) w→Q (.panic c) a w) (m:YieldsIf P ops S oi v a) (n:S w)
  (h:wpAnyL P md ops Q S fuel (b.setIfInBounds i true) (a.put oi.dst v) w):wpAnyL P md ops Q S (fuel+1) b a w :=
 wpAnyL_first d (Region.noSelect_spec e) l fuel b a w (Region.free_spec d f) (awaits_spec j) (by simpa using g) m n h
theorem wpAnyL_one {i:Nat} {o:Oper} {fuel:Nat} {b:Array Bool} {a:Act} {w:World} (f:ops[i]?=some o) (d:Region.ready md ops b=[i])
  (h:∀ c:Act→World→Prop,Shut (∀ a w,S w→(S w→wpAnyL P md ops Q S fuel (b.setIfInBounds i true) a w)→c a w)→if Region.wanted o (yielded ops a.tmps)=true then Oper.wp P o a w c Q else c (a.put o.dst undef) w) :
  wpAnyL P md ops Q S (fuel+1) b a w:=by
 refine⟨fun g=>absurd (d ▸ g) (by simp),?_⟩;rw[d];intro j k;rcases List.mem_singleton.mp k with rfl;exact wpOp_step f (fun c l=>h c (fun a w e m=>l a w ⟨fun _=>e,m e⟩))
def AllReadyL (P:Program) (md:Region.Mode) (ops:Array Oper) (Q:Exit→Act→World→Prop) (S:World→Prop) (fuel:Nat) (b:Array Bool) (a:Act) (w:World) (rs:List Nat):Prop :=
 ∀ i ∈ rs,wpOp P ops Q i (fun d c=>(left (b.setIfInBounds i true)=true→S c)∧wpAnyL P md ops Q S fuel (b.setIfInBounds i true) d c) a w
theorem AllReadyL.nil {fuel:Nat} {b:Array Bool} {a:Act} {w:World}:AllReadyL P md ops Q S fuel b a w []:=fun _ h=>by cases h
theorem AllReadyL.cons {fuel:Nat} {b:Array Bool} {a:Act} {w:World} {i:Nat} {o:Oper} {rs:List Nat} (f:ops[i]?=some o)
  (h:∀ c:Act→World→Prop,Shut (∀ a w,S w→(S w→wpAnyL P md ops Q S fuel (b.setIfInBounds i true) a w)→c a w)→if Region.wanted o (yielded ops a.tmps)=true then Oper.wp P o a w c Q else c (a.put o.dst undef) w)
  (g:AllReadyL P md ops Q S fuel b a w rs):AllReadyL P md ops Q S fuel b a w (i :: rs):=fun j d=>by
 rcases List.mem_cons.1 d with rfl | d
 ·exact wpOp_step f (fun c k=>h c (fun a w e l=>k a w ⟨fun _=>e,l e⟩))
 ·exact g j d
theorem wpAnyL_ready {rs:List Nat} {fuel:Nat} {b:Array Bool} {a:Act} {w:World} (d:Region.ready md ops b=rs) (c:rs≠[])
  (h:AllReadyL P md ops Q S fuel b a w rs):wpAnyL P md ops Q S (fuel+1) b a w:=by
 subst d;exact⟨fun e=>absurd e c,h⟩
theorem wpAnyL_last {i:Nat} {o:Oper} {fuel:Nat} {b:Array Bool} {a:Act} {w:World} (p:ops[i]?=some o) (l:Region.ready md ops b=[i]) (q:left (b.setIfInBounds i true)=false) (m:Region.ready md ops (b.setIfInBounds i true)=[])
  (h:∀ d:Act→World→Prop,Shut (∀ a w,Q .normal a w→d a w)→if Region.wanted o (yielded ops a.tmps)=true then Oper.wp P o a w d Q else d (a.put o.dst undef) w) :
  wpAnyL P md ops Q S (fuel+1) b a w:=by
 have c:∀ g k,Q .normal g k→wpAnyL P md ops Q S fuel (b.setIfInBounds i true) g k:=by
  intro g k e
  cases fuel with
  | zero=>exact⟨m,e⟩
  | succ f=>exact⟨fun _=>e,by rw[m];simp⟩
 refine⟨fun r=>absurd (l ▸ r) (by simp),?_⟩;rw[l];intro j s;rcases List.mem_singleton.mp s with rfl;exact wpOp_step p (fun d t=>h d (fun a w e=>t a w ⟨fun n=>(by rw[q] at n;cases n),c a w e⟩))
theorem wp_region_l {b:Nat} {a:Act} {w:World} (c:P.follows .mixedOrders=true) (d:S w.drew)
  (h:S w.drew→wpAnyL P .any ops Q S ops.size (Array.replicate ops.size false) a w.drew):(Code.region b ops true).wp P Q a w :=
 wp_region_any c (wpAny_of_l _ _ _ _ (h d))
theorem wpAnyL_tk {i k:Nat} {oi:Oper} {v:Value} {fuel:Nat} {b:Array Bool} {a:Act} {w:World} (d:ops[i]?=some oi) (e:∀ w,S w→(execOp a.eval oi).run P w=.ok (.value v) w) (f:S w)
  (h:wpAnyL P md ops Q S fuel (b.setIfInBounds i true) (a.put oi.dst v) w)
  (g:Region.noSelect ops=true:=by kernel_rfl) (hf:Region.free md ops b i=true:=by kernel_rfl) (hr:(Region.ready md ops b).contains i=true:=by kernel_rfl) (hw:awaits md ops b i k=true:=by kernel_rfl)
  (hQ:∀ c a w,Q (.panic c) (a.put oi.dst v) w→Q (.panic c) a w:=by exact fun _ _ _ h=>h) (hg:Region.wanted oi (yielded ops a.tmps)=true:=by rfl):wpAnyL P md ops Q S (fuel+1) b a w :=
 wpAnyL_take d g hf hr hw hQ (Or.inl ⟨hg,e⟩) f h
theorem wpAnyL_on {i:Nat} {o:Oper} {fuel:Nat} {b:Array Bool} {a:Act} {w:World} (c:ops[i]?=some o)
  (h:∀ K':Act→World→Prop,Shut (∀ a w,S w→(S w→wpAnyL P md ops Q S fuel (b.setIfInBounds i true) a w)→K' a w)→if Region.wanted o (yielded ops a.tmps)=true then Oper.wp P o a w K' Q else K' (a.put o.dst undef) w)
  (d:Region.ready md ops b=[i]:=by kernel_rfl):wpAnyL P md ops Q S (fuel+1) b a w:=wpAnyL_one c d h
end
end
end Go.Proofs.YtjahbjjekednfaaGreatDoor
