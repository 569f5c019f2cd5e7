import Derived.WalkSpells
import Derived.WalkLawsBesides
import Derived.Laws.AppendOwnNone
import Derived.Test.YtjahbjjekednfaaGreatDoorMath
namespace Go.Proofs.YtjahbjjekednfaaGreatDoor
section
open Go.RowKit
def elemOf (w:World) (b:Nat):Option TypeId:=(w.shape? b).map (·.1)
def vals (l:List Int):List Value:=l.map (Value.int .i64)
def Row (w:World) (E:TypeId) (v:Value) (l:List Int):Prop :=
 ∃(ao:Option Addr) (cap b off:Nat),v=.slice ao l.length cap∧l.length≤cap∧cap≤9223372036854775807∧(ao=none→cap=0) ∧
  (0<l.length→ao=some ⟨b,off,none⟩∧elemOf w b=some E) ∧
  (∀ i,i<l.length→w.cell? ⟨b,off+i,none⟩=some (.int .i64 (at0 l i)))
structure KeepsBut (c:Nat) (w w':World):Prop where
 os:w'.os=w.os
 tape:w'.tape=w.tape
 output:w'.output=w.output
 size:w.heap.size≤w'.heap.size
 block:∀ k,k<w.heap.size→k≠c→w'.heap[k]?=w.heap[k]?
abbrev Kp (w a:World):Prop:=Below w.heap.size w a
theorem Kp.trans' {a b c:World} (h:Kp a b) (k:Kp b c):Kp a c:=h.trans (k.mono h.size)
theorem kp_alloc (w:World) (o:Obj):Kp w (w.alloc o):=(Below.refl _ _).alloc (Nat.le_refl _) o
theorem Kp.alloc' {a w:World} (h:Kp a w) (o:Obj):Kp a (w.alloc o):=h.alloc h.size o
theorem Kp.drew' {a w:World} (h:Kp a w):Kp a w.drew:=h.drew
theorem Kp.grown' {a w c:World} {b:Option Nat} (h:Kp a w) (d:w.grownBy c b) (e:∀ k,b=some k→a.heap.size≤k):Kp a c:=h.grown d h.size e
theorem Hid.mk {p:Prop} (h:p):Hid p:=h
theorem Kp.but {c:Nat} {w a:World} (h:Kp w a):KeepsBut c w a:=⟨h.os,h.tape,h.output,h.size,fun k b _=>h.block k b⟩
theorem KeepsBut.refl (c:Nat) (w:World):KeepsBut c w w:=⟨rfl,rfl,rfl,Nat.le_refl _,fun _ _ _=>rfl⟩
theorem KeepsBut.trans {c:Nat} {x y z:World} (h:KeepsBut c x y) (k:KeepsBut c y z):KeepsBut c x z :=
 ⟨k.os.trans h.os,k.tape.trans h.tape,k.output.trans h.output,Nat.le_trans h.size k.size,fun i a b=>(k.block i (Nat.lt_of_lt_of_le a h.size) b).trans (h.block i a b)⟩
theorem KeepsBut.setCell {c:Nat} {x w:World} (h:KeepsBut c x w) (o:Nat) (u:Value):KeepsBut c x (w.setCell ⟨c,o,none⟩ u) :=
 h.trans ⟨rfl,rfl,rfl,by simp[World.setCell],fun k _ a=>Below.heap_setCell _ _ _ _ a⟩
theorem KeepsBut.below {c:Nat} {x w:World} (h:KeepsBut c x w) (b:x.heap.size≤c):Kp x w :=
 ⟨h.os,h.tape,h.output,h.size,fun k a=>h.block k a (by omega)⟩
theorem KeepsBut.alloc {c:Nat} {x w:World} (h:KeepsBut c x w) (o:Obj):KeepsBut c x (w.alloc o) :=
 h.trans ⟨rfl,rfl,rfl,by simp,fun k a _=>Below.heap_alloc _ _ _ a⟩
theorem KeepsBut.drew {c:Nat} {x w:World} (h:KeepsBut c x w):KeepsBut c x w.drew :=
 h.trans ⟨rfl,rfl,rfl,Nat.le_refl _,fun _ _ _=>rfl⟩
theorem elemOf_lt {w:World} {b:Nat} {E:TypeId} (h:elemOf w b=some E):b<w.heap.size:=by
 unfold elemOf World.shape? at h;rcases Nat.lt_or_ge b w.heap.size with a | a
 ·exact a
 ·rw[Array.getElem?_eq_none a] at h;simp at h
theorem elemOf_block {w a:World} {b:Nat} (h:a.heap[b]?=w.heap[b]?):elemOf a b=elemOf w b:=by
 unfold elemOf World.shape?;rw[h]
theorem Row.but {c:Nat} {w k:World} {E:TypeId} {v:Value} {l:List Int} (m:KeepsBut c w k) (n:elemOf w c≠some E) (h:Row w E v l):Row k E v l:=by
 obtain⟨o,f,b,g,p,q,r,s,d,t⟩:=h;refine⟨o,f,b,g,p,q,r,s,fun a=>⟨(d a).1,?_⟩,fun i u=>?_⟩
 ·have j:b≠c:=fun e=>n (by rw[← e];exact(d a).2)
  rw[elemOf_block (m.block b (elemOf_lt (d a).2) j)];exact(d a).2
 ·have a:0<l.length:=by omega
  have j:b≠c:=fun e=>n (by rw[← e];exact(d a).2)
  rw[World.cell?_of_block (w:=w) (m.block b (elemOf_lt (d a).2) j)];exact t i u
theorem Row.keep {w f:World} {E:TypeId} {v:Value} {l:List Int} (g:Kp w f) (h:Row w E v l):Row f E v l:=by
 obtain⟨j,d,b,e,k,m,n,o,c,p⟩:=h;refine⟨j,d,b,e,k,m,n,o,fun a=>⟨(c a).1,?_⟩,fun i q=>?_⟩
 ·rw[elemOf_block (g.block b (elemOf_lt (c a).2))];exact(c a).2
 ·have a:0<l.length:=by omega
  rw[World.cell?_of_block (w:=w) (g.block b (elemOf_lt (c a).2))];exact p i q
theorem Row.nil (w:World) (E:TypeId):Row w E (.slice none 0 0) [] :=
 ⟨none,0,0,0,rfl,Nat.le_refl _,by decide,fun _=>rfl,fun h=>absurd h (by simp),fun i h=>absurd h (by simp)⟩
theorem at0_vals {l:List Int} {i:Nat} (h:i<l.length):(vals l)[i]?=some (.int .i64 (at0 l i)):=by
 unfold vals at0;simp[h]
theorem vals_length (l:List Int):(vals l).length=l.length:=by simp[vals]
theorem vals_append (l m:List Int):vals (l ++ m)=vals l ++ vals m:=by simp[vals]
theorem Row.of_owns {w:World} {base:Nat} {E:TypeId} {v:Value} {n:Nat} {l:List Int} (h:w.ownsRow base E 1 v n (vals l)):Row w E v l:=by
 obtain⟨a,f⟩:=h;have j:n=l.length:=by rw[vals_length] at a;omega
 rcases f with ⟨rfl,q⟩|⟨g,b,k,rfl,r,c,m,d,s,o⟩
 ·have:l=[]:=List.eq_nil_of_length_eq_zero (by omega);subst this;exact Row.nil _ _
 ·subst j;unfold maxLen at d;refine⟨some ⟨g,0,none⟩,b,g,0,rfl,m,d,fun h=>absurd h (by simp),fun _=>⟨rfl,?_⟩,fun i p=>?_⟩
  ·unfold elemOf World.shape?;rw[c];rfl
  ·unfold World.cell?;rw[c];have e:=at0_vals p;rw[← o] at e;rw[List.getElem?_take] at e;have a:i<l.length*1:=by omega
   rw[if_pos a] at e
   simpa using e
theorem Row.cells {w:World} {E:TypeId} {d:Addr} {n a:Nat} {l:List Int} (h:Row w E (.slice (some d) n a) l):∀ j u,(vals l)[j]?=some u→w.cell? (d.add j)=some u:=by
 obtain⟨p,f,b,k,g,q,r,s,m,o⟩:=h;intro j u c;have i:j<l.length:=by
  have:=(List.getElem?_eq_some_iff.1 c).1
  simpa[vals] using this
 have e:=(m (by omega)).1;simp only[Value.slice.injEq] at g;rw[← g.1] at e;simp only[Option.some.injEq] at e;subst e;rw[Addr.add_lit,o j i];rw[at0_vals i] at c;exact c
theorem vals_oneCell (l:List Int):∀ u ∈ vals l,u.oneCell'=true:=ints_oneCell .i64 l
theorem wpList_append_row {P:Program} (w:World) {ops:Array Oper} {rest:List Oper} {o:Oper} {a:Act} {Q:Exit→Act→World→Prop} (c:o.guard=none) (s x:Operand) (t:TypeId)
  (k:o.op=.call { callee:=.builtin .append,args:=#[s,x],argTypes:=#[t,t] })
  (base:Nat) (e:TypeId) (i:TypeInfo) (z:Value) (bytes:Nat) (ht:P.underlying t=some (.slice e)) (hi:P.info? e=some i) (hz:i.zero=some z)
  (hsize:i.size=1) (hby:i.bytes=bytes) (hzs:z.cells.size=1)
  (v:Value) (n:Nat) (xs l:List Int) (sv:Value) (hs:a.eval s=v) (hown:w.ownsRow base e 1 v n (vals xs))
  (hx:a.eval x=sv) (hrow:Row w e sv l)
  (g:n+l.length≤maxLen) (hbytes:(n+l.length)*bytes≤140737488355328) (hbase:base≤w.heap.size)
  (h:∀ f d,d.ownsRow base e 1 f (n+l.length) (vals (xs ++ l))→w.grownBy d v.ownBlock→wpList P ops Q rest (a.put o.dst f) d):wpList P ops Q (o :: rest) a w:=by
 obtain⟨p,j,b,q,m,C,D,r,E,F⟩:=id hrow
 cases p with
 | some ad =>
  subst m;exact wpList_append_own w c s x t k base e i z 1 bytes ht hi hz hsize hby hzs (by decide) v n (vals xs) hs hown ad l.length j (vals l) hx (by rw[vals_length];omega) hrow.cells (vals_oneCell l) g hbytes hbase
   (fun f d u y _=>h f d (by rw[vals_append];exact u) y)
 | none =>
  have A:=r rfl;have B:l=[]:=List.eq_nil_of_length_eq_zero (by omega);subst B;subst A;subst m;refine wpList_append_own_none c s x t k base e i 1 ht hi v n (vals xs) hs hown hx ?_;exact h v w (by simpa using hown) (World.grownBy.refl _ _)
def Fresh (n:Nat) (v:Value):Prop:=∀ b,v.ownBlock=some b→n≤b
theorem fresh_of {w:World} {base:Nat} {e:TypeId} {size:Nat} {v:Value} {n:Nat} {a:List Value} (h:w.ownsRow base e size v n a):Fresh base v:=fun b c=>(h.lt b c).1
theorem Fresh.mono {m n:Nat} {v:Value} (h:Fresh n v) (a:m≤n):Fresh m v:=fun b c=>Nat.le_trans a (h b c)
theorem Fresh.cut {n:Nat} {d:Option Addr} {k c f g:Nat} (h:Fresh n (.slice d k c)):Fresh n (.slice d f g):=by
 intro b e;refine h b ?_
 cases d with
 | none=>simp[Value.ownBlock] at e
 | some a=>simpa[Value.ownBlock] using e
theorem Row.set {w:World} {E:TypeId} {v:Value} {l:List Int} (h:Row w E v l) {g o:Nat} {y:Value} (m:Fresh (g+1) v):Row (w.setCell ⟨g,o,none⟩ y) E v l:=by
 obtain⟨n,d,b,f,k,p,q,r,j,s⟩:=h;have a:0<l.length→b≠g:=by
  intro c e;have t:=(j c).1;subst k;subst t;have:=m b rfl;omega
 refine⟨n,d,b,f,k,p,q,r,fun c=>⟨(j c).1,?_⟩,fun i u=>?_⟩
 ·rw[elemOf_block (Below.heap_setCell w ⟨g,o,none⟩ y b (a c))];exact(j c).2
 ·rw[World.cell?_of_block (w:=w) (Below.heap_setCell w ⟨g,o,none⟩ y b (a (by omega)))];exact s i u
def Rp (E:TypeId) (B:Int) (w:World) (v:Value) (x:Int):Prop:=∃ l,Row w E v l∧Canon B l∧val B l=x
def RetRp (E:TypeId) (B:Int) (w:World) (x:Int) (e:Ending) (a:World):Prop:=∃ v,e=.returned v∧Rp E B a v x∧Kp w a∧Fresh w.heap.size v
def RetV (w:World) (v:Value) (e:Ending) (a:World):Prop:=e=.returned v∧Kp w a
theorem Rp.keep {E:TypeId} {B:Int} {w a:World} {v:Value} {x:Int} (b:Kp w a) (h:Rp E B w v x):Rp E B a v x:=by
 obtain⟨l,c,d⟩:=h;exact⟨l,c.keep b,d⟩
theorem Rp.but {c:Nat} {E:TypeId} {B:Int} {w a:World} {v:Value} {x:Int} (b:KeepsBut c w a) (d:elemOf w c≠some E) (h:Rp E B w v x):Rp E B a v x:=by
 obtain⟨l,e,f⟩:=h;exact⟨l,e.but b d,f⟩
theorem Rp.set {E:TypeId} {B:Int} {w:World} {v:Value} {x:Int} (h:Rp E B w v x) {g o:Nat} {y:Value} (a:Fresh (g+1) v):Rp E B (w.setCell ⟨g,o,none⟩ y) v x:=by
 obtain⟨l,b,c⟩:=h;exact⟨l,b.set a,c⟩
theorem Rp.len {E:TypeId} {B:Int} (c:10≤B) {w:World} {v:Value} {x:Int} (h:Rp E B w v x) (d:Fit x):∃ l,Row w E v l∧Canon B l∧val B l=x∧l.length≤400000000:=by
 obtain⟨l,e,a,b⟩:=h;refine⟨l,e,a,b,?_⟩;exact a.len_fit c (by rw[b];exact d)
theorem owns_keep {w f:World} {base:Nat} {e:TypeId} {size:Nat} {v:Value} {n:Nat} {i:List Value} (j:Kp w f) (h:w.ownsRow base e size v n i):f.ownsRow base e size v n i:=by
 obtain⟨k,a⟩:=h;refine⟨k,?_⟩;rcases a with a | ⟨g,b,c,l,m,d,r⟩
 ·exact Or.inl a
 ·refine Or.inr ⟨g,b,c,l,m,?_,r⟩;rw[j.block g ?_];exact d;rcases Nat.lt_or_ge g w.heap.size with h | h
  ·exact h
  ·rw[Array.getElem?_eq_none h] at d
   cases d
theorem vals_set (l:List Int) (i:Nat) (y:Int):(vals l).set i (.int .i64 y)=vals (l.set i y):=by simp[vals,List.map_set]
theorem owns_cell {w:World} {base:Nat} {e:TypeId} {g n a:Nat} {l:List Int} (h:w.ownsRow base e 1 (.slice (some ⟨g,0,none⟩) n a) n (vals l)) {i:Nat} (b:i<n) :
  w.cell? ⟨g,i,none⟩=some (.int .i64 (at0 l i)):=by
 rw[h.cellAt i (by omega)];exact at0_vals (by have:=h.1;rw[vals_length] at this;omega)
theorem owns_store {w b:World} {e:TypeId} {g n a:Nat} {l:List Int} (h:w.ownsRow b.heap.size e 1 (.slice (some ⟨g,0,none⟩) n a) n (vals l)) (f:Kp b w) (i:Nat) (y:Int) :
  (w.setCell ⟨g,i,none⟩ (.int .i64 y)).ownsRow b.heap.size e 1 (.slice (some ⟨g,0,none⟩) n a) n (vals (l.set i y))∧Kp b (w.setCell ⟨g,i,none⟩ (.int .i64 y)):=by
 have d:=h.stored i (.int .i64 y);refine⟨by rw[← vals_set];exact d.1,f.grown' d.2 ?_⟩
 intro k c;exact(h.lt k (by simpa[Value.ownBlock] using c)).1
theorem Row.take {w:World} {E:TypeId} {c:Option Addr} {len a:Nat} {l:List Int} (h:Row w E (.slice c len a) l) {n:Nat} (q:n≤l.length):Row w E (.slice c n a) (l.take n):=by
 obtain⟨g,e,b,d,f,r,j,k,m,o⟩:=h;simp only[Value.slice.injEq] at f;obtain⟨rfl,rfl,rfl⟩:=f;have p:(l.take n).length=n:=by rw[List.length_take];omega
 refine⟨c,a,b,d,by rw[p],by omega,j,k,fun s=>m (by omega),fun i t=>?_⟩;rw[at0_take (by omega)];exact o i (by omega)
theorem Row.drop {w:World} {E:TypeId} {d:Option Addr} {len c:Nat} {l:List Int} (h:Row w E (.slice d len c) l) {n:Nat} (s:n≤l.length) :
  Row w E (.slice (if c=n then d else d.map (·.add n)) (l.length - n) (c - n)) (l.drop n):=by
 obtain⟨o,g,b,e,j,t,u,k,p,q⟩:=h;simp only[Value.slice.injEq] at j;obtain⟨rfl,rfl,rfl⟩:=j;have r:(l.drop n).length=l.length - n:=by rw[List.length_drop]
 refine⟨_,c - n,b,e+n,by rw[r],by omega,by omega,?_,fun v=>?_,fun i x=>?_⟩
 ·intro f
  split at f
  ·have:=k f;omega
  ·cases d with
   | none=>have:=k rfl;omega
   | some a=>cases f
 ·have m:=p (by omega);refine⟨?_,m.2⟩;rw[if_neg (by omega),m.1];simp[Addr.add_lit]
 ·rw[at0_drop,Nat.add_assoc];exact q (n+i) (by omega)
theorem Row.slice {w:World} {E:TypeId} {v:Value} {l:List Int} (h:Row w E v l):∃ c a,v=.slice c l.length a∧l.length≤a∧a≤9223372036854775807:=by
 obtain⟨c,a,b,d,e,f,g,_⟩:=h;exact⟨c,a,e,f,g⟩
theorem wpList_make_row {P:Program} (w:World) {ops:Array Oper} {rest:List Oper} {o:Oper} {a:Act} {Q:Exit→Act→World→Prop}
  (q:o.guard=none) (l c:Operand) (t:TypeId) (g:o.op=Op.makeSlice t l c)
  (f:World) (e:TypeId) (i:TypeInfo) (b:Nat) (r:P.underlying t=some (.slice e)) (s:P.info? e=some i) (u:i.zero=some (.int .i64 0)) (v:i.size=1) (x:i.bytes=b)
  (j m:IntKind) (L C:Int) (n:Nat) (y:a.eval l=.int j L) (z:a.eval c=.int m C) (A:L=(n:Int)) (B:C=(n:Int)) (D:b*n≤281474976710656) (E:n≤maxLen) (p:Kp f w)
  (F:∀ d,d.ownsRow f.heap.size e 1 (.slice (some ⟨w.heap.size,0,none⟩) n n) n (vals (List.replicate n 0))→Kp f d→wpList P ops Q rest (a.put o.dst (.slice (some ⟨w.heap.size,0,none⟩) n n)) d) :
  wpList P ops Q (o :: rest) a w:=by
 refine wpList_make_full w q l c t g f.heap.size e i (.int .i64 0) 1 r s u v j m L C n y z A B (by rw[x];exact D) E p.size ?_
 intro d G H;refine F d ?_ (p.grown' H (fun k h=>by cases h));have I:(madeCells (Value.int .i64 0).cells (n*1)).toList=vals (List.replicate n 0):=by
  rw[Nat.mul_one];exact(toList_madeCells_one _ _).trans (by simp[vals])
 rw[← I];exact G
theorem wpList_append_one {P:Program} (w:World) {ops:Array Oper} {rest:List Oper} {o:Oper} {a:Act} {Q:Exit→Act→World→Prop} (f:o.guard=none) (s x:Operand) (t:TypeId)
  (l:o.op=.call { callee:=.builtin .append,args:=#[s,x],argTypes:=#[t,t] })
  (b:World) (e:TypeId) (i:TypeInfo) (z:Value) (bytes:Nat) (ht:P.underlying t=some (.slice e)) (hi:P.info? e=some i) (hz:i.zero=some z)
  (hsize:i.size=1) (hby:i.bytes=bytes) (hzs:z.cells.size=1)
  (v:Value) (n:Nat) (xs:List Int) (y:Int) (hs:a.eval s=v) (hown:w.ownsRow b.heap.size e 1 v n (vals xs)) (hk:Kp b w)
  (hx:a.eval x=.slice (some ⟨w.heap.size,0,none⟩) 1 1)
  (g:n+1≤maxLen) (hbytes:(n+1)*bytes≤140737488355328)
  (h:∀ d c,c.ownsRow b.heap.size e 1 d (n+1) (vals (xs ++ [y]))→Kp b c→wpList P ops Q rest (a.put o.dst d) c) :
  wpList P ops Q (o :: rest) a (w.alloc (.cells #[.int .i64 y] e)):=by
 refine wpList_append_own _ f s x t l b.heap.size e i z 1 bytes ht hi hz hsize hby hzs (by decide) v n (vals xs) hs (hown.alloc _) ⟨w.heap.size,0,none⟩ 1 1 (vals [y]) hx rfl (cell_one_new _ _ _) (vals_oneCell _) g hbytes (by have:=hk.size;simp;omega) ?_
 intro d c m p _;refine h d c (by rw[vals_append];exact m) ((hk.alloc' _).grown' p ?_)
 intro k j;exact(hown.lt k j).1
end
section
def madO (low:List Int):Nat→Int
 | 0=>0
 | k+1=>(madO low k+at0 low k) / 10000
def madC (low:List Int):Nat→List Int
 | 0=>[]
 | k+1=>madC low k ++ [(madO low k+at0 low k) % 10000]
theorem madO_succ (low:List Int) (k:Nat):madO low (k+1)=(madO low k+at0 low k) / 10000:=rfl
theorem madC_succ (low:List Int) (k:Nat):madC low (k+1)=madC low k ++ [(madO low k+at0 low k) % 10000]:=rfl
theorem madC_length (low:List Int):∀ k,(madC low k).length=k
 | 0=>rfl
 | k+1=>by rw[madC_succ,List.length_append,madC_length low k];rfl
theorem madC_dig (low:List Int):∀ k,Dig 10000 (madC low k)
 | 0=>Dig.nil (by decide)
 | k+1=>(madC_dig low k).snoc ⟨Int.emod_nonneg _ (by decide),Int.emod_lt_of_pos _ (by decide)⟩
def Mid (low:List Int):Prop:=∀ i,-4000000000000000000≤at0 low i∧at0 low i≤4000000000000000000
theorem madO_bd {low:List Int} (h:Mid low):∀ k,-1000000000000000≤madO low k∧madO low k≤1000000000000000
 | 0=>by simp[madO]
 | k+1=>by
  have a:=madO_bd h k;have b:=h k;rw[madO_succ];omega
theorem mad_val (low:List Int):∀ k,val 10000 (madC low k)+10000 ^ k*madO low k=val 10000 (low.take k)
 | 0=>by simp[madC,madO,val]
 | k+1=>by
  have a:=mad_val low k;rw[madC_succ,madO_succ,val_snoc,madC_length,val_take_succ,Int.pow_succ];have e:=Int.mul_ediv_add_emod (madO low k+at0 low k) 10000;generalize (madO low k+at0 low k) / 10000=q at *;generalize (madO low k+at0 low k) % 10000=r at *
  grind
theorem madO_nn {low:List Int} (h:0≤val 10000 low) {k:Nat} (b:low.length≤k):0≤madO low k:=by
 have e:=mad_val low k;rw[List.take_of_length_le b] at e;have c:=(madC_dig low k).val_lt (by decide);rw[madC_length] at c;rcases Int.lt_or_le (madO low k) 0 with a | a
 ·exfalso
  have d:(10000:Int) ^ k*madO low k≤10000 ^ k*(-1):=Int.mul_le_mul_of_nonneg_left (by omega) (Int.le_of_lt (pow_pos' (by decide) _));omega
 ·exact a
theorem madO_end {low:List Int} (h:0≤val 10000 low) (a:Mid low) {k:Nat} (b:low.length+4≤k):madO low k=0:=by
 obtain⟨j,rfl⟩:=Nat.exists_eq_add_of_le b;rw[show low.length+4+j=low.length+j+4 by omega];have c:=madO_nn h (k:=low.length+j) (by omega);have d:=(madO_bd a (low.length+j)).2;rw[madO_succ,at0_ge (by omega),madO_succ,at0_ge (by omega),madO_succ,at0_ge (by omega),madO_succ,at0_ge (by omega)];omega
theorem mad_done {low:List Int} {k:Nat} (a:low.length≤k) (b:madO low k=0):val 10000 (madC low k)=val 10000 low:=by
 have e:=mad_val low k;rw[List.take_of_length_le a,b] at e
 simpa using e
theorem sig_exists (l:List Int):∃ n,IsSig l n:=by
 have:∀ k,k≤l.length→(∀ i,k≤i→at0 l i=0)→∃ n,IsSig l n:=by
  intro k
  induction k with
  | zero=>exact fun b a=>⟨0,by omega,a,fun h=>absurd h (by omega)⟩
  | succ k ih =>
   intro b a;by_cases h:at0 l k=0
   ·refine ih (by omega) (fun i c=>?_);rcases Nat.lt_or_ge i (k+1) with d | d
    ·rw[show i=k by omega];exact h
    ·exact a i d
   ·exact⟨k+1,b,a,fun _=>by simpa using h⟩
 exact this l.length (Nat.le_refl _) (fun i c=>at0_ge c)
def tops (c:List Int) (n j:Nat):List Int:=((c.take n).drop j).reverse
theorem tops_end (c:List Int) (n j:Nat) (h:n≤j):tops c n j=[]:=by
 unfold tops;rw[List.drop_of_length_le (by rw[List.length_take];omega)];rfl
theorem tops_step (c:List Int) (n j:Nat) (a:j<n) (b:n≤c.length):tops c n j=tops c n (j+1) ++ [at0 c j]:=by
 unfold tops;rw[List.drop_eq_getElem_cons (by rw[List.length_take];omega),List.reverse_cons]
 congr 1
 rw[at0_eq (by omega)];simp
theorem tops_all (c:List Int) (n:Nat):tops c n 0=(c.take n).reverse:=by unfold tops;simp
theorem tdiv_neg_case {n:Int} (h:n<0):(n.tmod 10000<0→n.tmod 10000+10000=n % 10000∧n.tdiv 10000 - 1=n / 10000)∧(¬ n.tmod 10000<0→n.tmod 10000=n % 10000∧n.tdiv 10000=n / 10000)∧-10000<n.tmod 10000∧n.tmod 10000≤0∧n≤n.tdiv 10000∧n.tdiv 10000≤0:=by
 have e:=Int.mul_tdiv_add_tmod n 10000;have c:n.tmod 10000≤0:=by
  have:=Int.tmod_nonneg 10000 (a:=-n) (by omega);rw[Int.neg_tmod] at this;omega
 have d:-10000<n.tmod 10000:=by
  have:=Int.tmod_lt_of_pos (-n) (b:=10000) (by decide);rw[Int.neg_tmod] at this;omega
 generalize n.tmod 10000=r at *;generalize n.tdiv 10000=t at *;omega
end
section
def timIn (l m S:List Int) (i:Nat):Nat→List Int
 | 0=>S
 | k+1=>(timIn l m S i k).set (i+k) (at0 (timIn l m S i k) (i+k)+at0 l i*at0 m k)
def timTo (l m:List Int):Nat→List Int
 | 0=>List.replicate (l.length+m.length) 0
 | i+1=>timIn l m (timTo l m i) i m.length
theorem timIn_succ (l m S:List Int) (i k:Nat):timIn l m S i (k+1)=(timIn l m S i k).set (i+k) (at0 (timIn l m S i k) (i+k)+at0 l i*at0 m k):=rfl
theorem timTo_succ (l m:List Int) (i:Nat):timTo l m (i+1)=timIn l m (timTo l m i) i m.length:=rfl
theorem timIn_length (l m S:List Int) (i:Nat):∀ k,(timIn l m S i k).length=S.length
 | 0=>rfl
 | k+1=>by rw[timIn_succ,List.length_set,timIn_length l m S i k]
theorem timTo_length (l m:List Int):∀ i,(timTo l m i).length=l.length+m.length
 | 0=>by simp[timTo]
 | i+1=>by rw[timTo_succ,timIn_length,timTo_length l m i]
theorem timIn_val (l m S:List Int) (i:Nat):∀ k,i+k≤S.length→val 10000 (timIn l m S i k)=val 10000 S+10000 ^ i*(at0 l i*val 10000 (m.take k))
 | 0,_=>by simp[timIn,val]
 | k+1,h=>by
  rw[timIn_succ,val_set _ _ _ _ (by rw[timIn_length];omega),timIn_val l m S i k (by omega),val_take_succ,Int.pow_add]
  grind
theorem timTo_val (l m:List Int):∀ i,i≤l.length→val 10000 (timTo l m i)=val 10000 (l.take i)*val 10000 m
 | 0,_=>by simp[timTo,val_replicate,val]
 | i+1,h=>by
  rw[timTo_succ,timIn_val _ _ _ _ _ (by rw[timTo_length];omega),timTo_val l m i (by omega),List.take_length,val_take_succ]
  grind
theorem tim_done (l m:List Int):val 10000 (timTo l m l.length)=val 10000 l*val 10000 m:=by
 rw[timTo_val l m l.length (Nat.le_refl _),List.take_length]
def Low (i:Nat) (S:List Int):Prop:=∀ j,0≤at0 S j∧at0 S j≤(i:Int)*99980001
theorem timIn_bd {l m S:List Int} (d:Dig 10000 l) (f:Dig 10000 m) {i:Nat} (b:Low i S):∀ k j,(0≤at0 (timIn l m S i k) j∧at0 (timIn l m S i k) j≤((i:Int)+1)*99980001)∧(i+k≤j→at0 (timIn l m S i k) j=at0 S j)
 | 0,j=>⟨by have:=b j;exact⟨this.1,by simp only[timIn];omega⟩,fun _=>rfl⟩
 | k+1,j=>by
  have a:=timIn_bd d f b k;have c:=dig_mul (d i) (f k);have n:((10000:Int) - 1)*(10000 - 1)=99980001:=by decide
  rw[n] at c;rw[timIn_succ];by_cases hj:i+k=j
  ·subst hj;rcases Nat.lt_or_ge (i+k) (timIn l m S i k).length with h | h
   ·rw[at0_set_eq _ h];have e:=(a (i+k)).2 (Nat.le_refl _);have o:=b (i+k);exact⟨⟨by omega,by omega⟩,fun g=>by omega⟩
   ·rw[List.set_eq_of_length_le h];exact⟨(a (i+k)).1,fun g=>by omega⟩
  ·rw[at0_set_ne _ hj];exact⟨(a j).1,fun g=>(a j).2 (by omega)⟩
theorem timTo_bd {l m:List Int} (a:Dig 10000 l) (b:Dig 10000 m):∀ i,Low i (timTo l m i)
 | 0=>fun j=>by rw[timTo,at0_replicate];omega
 | i+1=>fun j=>by
  rw[timTo_succ];have:=(timIn_bd a b (timTo_bd a b i) m.length j).1;omega
theorem timTo_mid {l m:List Int} (b:Dig 10000 l) (c:Dig 10000 m) (a:l.length≤400000000):Mid (timTo l m l.length):=by
 intro j;have:=timTo_bd b c l.length j;omega
end
end Go.Proofs.YtjahbjjekednfaaGreatDoor
