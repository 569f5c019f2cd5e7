namespace Go.Proofs.YtjahbjjekednfaaGreatDoor
section
def at0 (l:List Int) (i:Nat):Int:=l.getD i 0
theorem at0_ge {l:List Int} {i:Nat} (h:l.length≤i):at0 l i=0:=by
 unfold at0;simp[h]
theorem at0_eq {l:List Int} {i:Nat} (h:i<l.length):at0 l i=l[i]:=by
 unfold at0;simp[h]
def val (B:Int):List Int→Int
 | []=>0
 | d :: l=>d+B*val B l
def Dig (B:Int) (l:List Int):Prop:=∀ i,0≤at0 l i∧at0 l i<B
def Top (l:List Int):Prop:=0<l.length→at0 l (l.length - 1)≠0
def Canon (B:Int) (l:List Int):Prop:=Dig B l∧Top l
theorem at0_cons_zero (d:Int) (l:List Int):at0 (d :: l) 0=d:=rfl
theorem at0_cons_succ (d:Int) (l:List Int) (i:Nat):at0 (d :: l) (i+1)=at0 l i:=by unfold at0;simp
theorem at0_nil (i:Nat):at0 [] i=0:=rfl
theorem at0_append_lt {l m:List Int} {i:Nat} (h:i<l.length):at0 (l ++ m) i=at0 l i:=by unfold at0;simp[List.getElem?_append_left h]
theorem at0_append_ge {l m:List Int} {i:Nat} (h:l.length≤i):at0 (l ++ m) i=at0 m (i - l.length):=by unfold at0;simp[List.getElem?_append_right h]
theorem at0_take {l:List Int} {n i:Nat} (h:i<n):at0 (l.take n) i=at0 l i:=by unfold at0;simp[h]
theorem at0_drop (l:List Int) (n i:Nat):at0 (l.drop n) i=at0 l (n+i):=by unfold at0;simp[List.getElem?_drop]
theorem at0_set_eq {l:List Int} {i:Nat} (x:Int) (h:i<l.length):at0 (l.set i x) i=x:=by unfold at0;simp[h]
theorem at0_set_ne {l:List Int} {i j:Nat} (x:Int) (h:i≠j):at0 (l.set i x) j=at0 l j:=by unfold at0;simp[List.getElem?_set_ne h]
theorem at0_replicate (n i:Nat):at0 (List.replicate n 0) i=0:=by
 unfold at0;rw[List.getD_eq_getElem?_getD,List.getElem?_replicate]
 split <;> rfl
theorem Dig.cons {B d:Int} {l:List Int} (h:Dig B (d :: l)):(0≤d∧d<B)∧Dig B l :=
 ⟨h 0,fun i=>by have:=h (i+1);rwa [at0_cons_succ] at this⟩
theorem Dig.mk {B d:Int} {l:List Int} (a:0≤d∧d<B) (h:Dig B l):Dig B (d :: l):=by
 intro i
 cases i with
 | zero=>exact a
 | succ i=>rw[at0_cons_succ];exact h i
theorem Dig.nil {B:Int} (a:0<B):Dig B []:=fun i=>⟨by rw[at0_nil];omega,by rw[at0_nil];omega⟩
theorem Dig.snoc {B d:Int} {l:List Int} (h:Dig B l) (a:0≤d∧d<B):Dig B (l ++ [d]):=by
 intro i;rcases Nat.lt_or_ge i l.length with hi | hi
 ·rw[at0_append_lt hi];exact h i
 ·rw[at0_append_ge hi]
  cases hj:i - l.length with
  | zero=>exact a
  | succ j=>rw[at0_cons_succ,at0_nil];omega
theorem Dig.take {B:Int} (a:0<B) {l:List Int} (h:Dig B l) (n:Nat):Dig B (l.take n):=by
 intro i;rcases Nat.lt_or_ge i n with hi | hi
 ·rw[at0_take hi];exact h i
 ·rw[at0_ge (by simp;omega)];omega
theorem Dig.drop {B:Int} {l:List Int} (h:Dig B l) (n:Nat):Dig B (l.drop n):=by
 intro i;rw[at0_drop];exact h _
theorem Dig.replicate {B:Int} (a:0<B) (n:Nat):Dig B (List.replicate n 0):=fun i=>by rw[at0_replicate];omega
theorem Dig.set {B x:Int} {l:List Int} (h:Dig B l) (i:Nat) (a:0≤x∧x<B):Dig B (l.set i x):=by
 intro j;by_cases hij:i=j
 ·subst hij;rcases Nat.lt_or_ge i l.length with hi | hi
  ·rw[at0_set_eq x hi];exact a
  ·rw[List.set_eq_of_length_le hi];exact h i
 ·rw[at0_set_ne x hij];exact h j
theorem pow_pos' {B:Int} (a:0<B) (n:Nat):0<B ^ n:=Int.pow_pos a
theorem val_append (B:Int) (l m:List Int):val B (l ++ m)=val B l+B ^ l.length*val B m:=by
 induction l with
 | nil=>simp[val]
 | cons d l ih =>
  simp only[List.cons_append,val,ih,List.length_cons,Int.pow_succ]
  grind
theorem val_snoc (B:Int) (l:List Int) (d:Int):val B (l ++ [d])=val B l+B ^ l.length*d:=by
 rw[val_append];simp[val]
theorem Dig.val_nonneg {B:Int} (a:0<B):∀ {l:List Int},Dig B l→0≤val B l
 | [],_=>by simp[val]
 | d :: l,h=>by
  have b:=h.cons;have c:=Dig.val_nonneg a b.2;have e:=Int.mul_nonneg (Int.le_of_lt a) c;simp only[val];omega
theorem Dig.val_lt {B:Int} (a:0<B):∀ {l:List Int},Dig B l→val B l<B ^ l.length
 | [],_=>by simp[val]
 | d :: l,h=>by
  have b:=h.cons;have c:=Dig.val_lt a b.2;have e:B*val B l≤B*(B ^ l.length - 1):=Int.mul_le_mul_of_nonneg_left (by omega) (by omega);simp only[val,List.length_cons,Int.pow_succ];have f:B*(B ^ l.length - 1)=B ^ l.length*B - B:=by grind
  omega
theorem val_replicate (B:Int) (n:Nat):val B (List.replicate n 0)=0:=by
 induction n with
 | zero=>rfl
 | succ n ih=>simp[List.replicate_succ,val,ih]
theorem val_take_drop (B:Int) (l:List Int) (n:Nat) (h:n≤l.length):val B l=val B (l.take n)+B ^ n*val B (l.drop n):=by
 have e:val B l=val B (l.take n ++ l.drop n):=by rw[List.take_append_drop]
 rw[e,val_append,List.length_take,Nat.min_eq_left h]
theorem val_take_succ (B:Int) (l:List Int) (n:Nat):val B (l.take (n+1))=val B (l.take n)+B ^ n*at0 l n:=by
 rcases Nat.lt_or_ge n l.length with h | h
 ·rw[List.take_succ_eq_append_getElem h,val_snoc,List.length_take,Nat.min_eq_left (Nat.le_of_lt h)];unfold at0;simp[h]
 ·rw[List.take_of_length_le h,List.take_of_length_le (by omega),at0_ge h];simp
theorem val_zeros {B:Int}:∀ {l:List Int},(∀ i,at0 l i=0)→val B l=0
 | [],_=>rfl
 | d :: l,h=>by
  have a:=h 0;rw[at0_cons_zero] at a;have b:val B l=0:=val_zeros (fun i=>by have:=h (i+1);rwa [at0_cons_succ] at this)
  simp[val,a,b]
def IsSig (l:List Int) (n:Nat):Prop:=n≤l.length∧(∀ i,n≤i→at0 l i=0)∧(0<n→at0 l (n - 1)≠0)
theorem IsSig.canon {B:Int} (c:0<B) {l:List Int} {n:Nat} (d:Dig B l) (h:IsSig l n):Canon B (l.take n)∧val B (l.take n)=val B l∧(l.take n).length=n:=by
 obtain⟨e,f,g⟩:=h;have a:(l.take n).length=n:=by rw[List.length_take];omega
 refine⟨⟨d.take c n,fun b=>?_⟩,?_,a⟩
 ·rw[a] at b ⊢;rw[at0_take (by omega)];exact g b
 ·rw[val_take_drop B l n e,val_zeros (l:=l.drop n) (fun i=>by rw[at0_drop];exact f _ (by omega))]
  simp
theorem Canon.ge {B:Int} (f:1<B) {l:List Int} (h:Canon B l) (b:0<l.length):B ^ (l.length - 1)≤val B l:=by
 obtain⟨a,c⟩:=h;have e:=val_take_succ B l (l.length - 1);rw[show l.length - 1+1=l.length by omega,List.take_length] at e;have g:=(a.take (by omega) (l.length - 1)).val_nonneg (by omega);have d:1≤at0 l (l.length - 1):=by
  have:=(a (l.length - 1)).1;have:=c b;omega
 have i:B ^ (l.length - 1)*1≤B ^ (l.length - 1)*at0 l (l.length - 1):=Int.mul_le_mul_of_nonneg_left d (Int.le_of_lt (pow_pos' (by omega) _));omega
theorem pow_mono {B:Int} (b:1≤B) {m n:Nat} (h:m≤n):B ^ m≤B ^ n:=by
 obtain⟨k,rfl⟩:=Nat.exists_eq_add_of_le h;rw[Int.pow_add];have a:1≤B ^ k:=by
  have:=pow_pos' (B:=B) (by omega) k;omega
 have c:B ^ m*1≤B ^ m*B ^ k:=Int.mul_le_mul_of_nonneg_left a (Int.le_of_lt (pow_pos' (by omega) _));omega
theorem Canon.len_le {B:Int} (b:1<B) {l:List Int} (h:Canon B l) {k:Nat} (c:val B l<B ^ k):l.length≤k:=by
 rcases Nat.lt_or_ge k l.length with a | a
 ·exfalso
  have d:=h.ge b (by omega);have e:=pow_mono (B:=B) (by omega) (m:=k) (n:=l.length - 1) (by omega);omega
 ·exact a
theorem Canon.pos {B:Int} (a:1<B) {l:List Int} (h:Canon B l) (b:0<l.length):0<val B l:=by
 have:=h.ge a b;have:=pow_pos' (B:=B) (by omega) (l.length - 1);omega
theorem Canon.zero_iff {B:Int} (b:1<B) {l:List Int} (h:Canon B l):l.length=0↔val B l=0:=by
 constructor
 ·intro e;rw[List.eq_nil_of_length_eq_zero e];rfl
 ·intro e;rcases Nat.eq_zero_or_pos l.length with a | a
  ·exact a
  ·have:=h.pos b a;omega
theorem Canon.lt_of_len {B:Int} (a:1<B) {l m:List Int} (h:Canon B l) (b:Canon B m) (c:l.length<m.length):val B l<val B m:=by
 have d:=h.1.val_lt (by omega);have e:=b.ge a (by omega);have f:=pow_mono (B:=B) (by omega) (m:=l.length) (n:=m.length - 1) (by omega);omega
theorem Canon.nil {B:Int} (a:0<B):Canon B []:=⟨Dig.nil a,fun h=>absurd h (by simp)⟩
theorem val_lt_of_top {B:Int} (a:0<B) {l m:List Int} (h:Dig B l) (j:Dig B m) (b:l.length=m.length) {k:Nat}
  (q:k<l.length) (d:∀ i,k<i→at0 l i=at0 m i) (n:at0 l k<at0 m k):val B l<val B m:=by
 have f:=val_take_drop B l (k+1) (by omega);have o:=val_take_drop B m (k+1) (by omega);have p:val B (l.drop (k+1))=val B (m.drop (k+1)):=by
  have:l.drop (k+1)=m.drop (k+1):=by
   apply List.ext_getElem (by simp[b])
   intro i e g;have c:=d (k+1+i) (by omega);simp at e g;rw[at0_eq (by omega),at0_eq (by omega)] at c
   simpa using c
  rw[this]
 rw[val_take_succ] at f o;have e:=(h.take a k).val_lt a;rw[List.length_take,Nat.min_eq_left (by omega)] at e;have g:=(j.take a k).val_nonneg a;have c:B ^ k*(at0 l k+1)≤B ^ k*at0 m k:=Int.mul_le_mul_of_nonneg_left (by omega) (Int.le_of_lt (pow_pos' a _));rw[Int.mul_add,Int.mul_one] at c;rw[p] at f;omega
theorem ext_at0 {l m:List Int} (a:l.length=m.length) (h:∀ i,i<l.length→at0 l i=at0 m i):l=m:=by
 apply List.ext_getElem a
 intro i b d;have c:=h i b;rw[at0_eq b,at0_eq d] at c;exact c
def Fit (x:Int):Prop:=∃ n:Nat,n≤400000000∧x.natAbs<10 ^ n
theorem pow_mono_base {n:Nat} {B:Int} (a:10≤B):(10:Int) ^ n≤B ^ n:=by
 induction n with
 | zero=>simp
 | succ n ih =>
  rw[Int.pow_succ,Int.pow_succ];exact Int.mul_le_mul ih a (by omega) (Int.le_of_lt (pow_pos' (by omega) _))
theorem Canon.len_fit {B:Int} (c:10≤B) {l:List Int} (h:Canon B l) (d:Fit (val B l)):l.length≤400000000:=by
 obtain⟨n,f,a⟩:=d;have g:=h.1.val_nonneg (by omega);have e:val B l<(10:Int) ^ n:=by
  have:((val B l).natAbs:Int)=val B l:=by omega
  have b:((val B l).natAbs:Int)<((10 ^ n:Nat):Int):=by exact_mod_cast a
  rw[this] at b
  simpa using b
 have:=h.len_le (by omega) (k:=n) (Int.lt_of_lt_of_le e (pow_mono_base c));omega
def addTo (B:Int) (a b:List Int):Nat→List Int × Int
 | 0=>([],0)
 | k+1=>((addTo B a b k).1 ++ [((addTo B a b k).2+at0 a k+at0 b k) % B],((addTo B a b k).2+at0 a k+at0 b k) / B)
def addS (B:Int) (a b:List Int) (k:Nat):List Int:=(addTo B a b k).1
def addC (B:Int) (a b:List Int) (k:Nat):Int:=(addTo B a b k).2
theorem addS_zero (B:Int) (a b:List Int):addS B a b 0=[]:=rfl
theorem addC_zero (B:Int) (a b:List Int):addC B a b 0=0:=rfl
theorem addS_succ (B:Int) (a b:List Int) (k:Nat):addS B a b (k+1)=addS B a b k ++ [(addC B a b k+at0 a k+at0 b k) % B]:=rfl
theorem addC_succ (B:Int) (a b:List Int) (k:Nat):addC B a b (k+1)=(addC B a b k+at0 a k+at0 b k) / B:=rfl
theorem addS_length (B:Int) (a b:List Int):∀ k,(addS B a b k).length=k
 | 0=>rfl
 | k+1=>by rw[addS_succ,List.length_append,addS_length B a b k];rfl
theorem div_le_one {B t:Int} (e:1<B) (d:0≤t) (h:t<2*B):0≤t / B∧t / B≤1:=by
 constructor
 ·exact Int.ediv_nonneg d (by omega)
 ·have:=Int.ediv_lt_of_lt_mul (a:=t) (b:=2) (c:=B) (by omega) h;omega
theorem addC_le {B:Int} (c:1<B) {a b:List Int} (ha:Dig B a) (d:Dig B b):∀ k,0≤addC B a b k∧addC B a b k≤1
 | 0=>by rw[addC_zero];omega
 | k+1=>by
  have e:=addC_le c ha d k;have f:=ha k;have g:=d k;rw[addC_succ];exact div_le_one c (by omega) (by omega)
theorem addS_dig {B:Int} (c:1<B) {a b:List Int} (ha:Dig B a) (d:Dig B b):∀ k,Dig B (addS B a b k)
 | 0=>Dig.nil (by omega)
 | k+1=>by
  rw[addS_succ];exact(addS_dig c ha d k).snoc ⟨Int.emod_nonneg _ (by omega),Int.emod_lt_of_pos _ (by omega)⟩
theorem add_val (B:Int) (a b:List Int):∀ k,val B (addS B a b k)+B ^ k*addC B a b k=val B (a.take k)+val B (b.take k)
 | 0=>by simp[addS_zero,addC_zero,val]
 | k+1=>by
  have c:=add_val B a b k;rw[addS_succ,addC_succ,val_snoc,addS_length,val_take_succ,val_take_succ,Int.pow_succ];have e:=Int.mul_ediv_add_emod (addC B a b k+at0 a k+at0 b k) B;generalize (addC B a b k+at0 a k+at0 b k) / B=q at *;generalize (addC B a b k+at0 a k+at0 b k) % B=r at *
  grind
theorem addC_end {B:Int} (c:1<B) {a b:List Int} (ha:Dig B a) (d:Dig B b) {k:Nat} (e:a.length≤k) (f:b.length≤k):addC B a b (k+1)=0:=by
 rw[addC_succ,at0_ge e,at0_ge f];have:=addC_le c ha d k;exact Int.ediv_eq_zero_of_lt (by omega) (by omega)
theorem add_done {B:Int} (c:1<B) {a b:List Int} (ha:Canon B a) (d:Canon B b) {k:Nat} (j:a.length≤k) (l:b.length≤k) (m:addC B a b k=0)
  (n:k=0∨k - 1<a.length∨k - 1<b.length∨0<addC B a b (k - 1)):Canon B (addS B a b k)∧val B (addS B a b k)=val B a+val B b:=by
 have e:=add_val B a b k;rw[List.take_of_length_le j,List.take_of_length_le l,m] at e;refine⟨⟨addS_dig c ha.1 d.1 k,fun o=>?_⟩,by simpa using e⟩;rw[addS_length] at o ⊢;intro p;have q:val B (addS B a b k)=val B ((addS B a b k).take (k - 1)):=by
  have:=val_take_succ B (addS B a b k) (k - 1);rw[show k - 1+1=k by omega,p,List.take_of_length_le (by rw[addS_length];omega)] at this
  simpa using this
 have f:=((addS_dig c ha.1 d.1 k).take (by omega) (k - 1)).val_lt (by omega);rw[List.length_take,addS_length,Nat.min_eq_left (by omega)] at f;have s:=ha.1.val_nonneg (by omega);have t:=d.1.val_nonneg (by omega);have u:val B a+val B b<B ^ (k - 1):=by
  rw[Int.mul_zero,Int.add_zero] at e;omega
 rcases n with h | h | h | h
 ·omega
 ·have:=ha.ge c (by omega);rw[show a.length=k by omega] at this;omega
 ·have:=d.ge c (by omega);rw[show b.length=k by omega] at this;omega
 ·have r:=add_val B a b (k - 1);rcases Nat.lt_or_ge (k - 1) a.length with g | g
  ·have:=ha.ge c (by omega);rw[show a.length=k by omega] at this;omega
  ·rcases Nat.lt_or_ge (k - 1) b.length with i | i
   ·have:=d.ge c (by omega);rw[show b.length=k by omega] at this;omega
   ·rw[List.take_of_length_le g,List.take_of_length_le i] at r;have v:=(addS_dig c ha.1 d.1 (k - 1)).val_nonneg (by omega);have w:B ^ (k - 1)*1≤B ^ (k - 1)*addC B a b (k - 1):=Int.mul_le_mul_of_nonneg_left (by omega) (Int.le_of_lt (pow_pos' (by omega) _));omega
def subB (a b:List Int):Nat→Int
 | 0=>0
 | k+1=>if at0 a k - subB a b k - at0 b k<0 then 1 else 0
def subD (B:Int) (a b:List Int) (k:Nat):Int:=if at0 a k - subB a b k - at0 b k<0 then at0 a k - subB a b k - at0 b k+B else at0 a k - subB a b k - at0 b k
def subS (B:Int) (a b:List Int):Nat→List Int
 | 0=>List.replicate a.length 0
 | k+1=>(subS B a b k).set k (subD B a b k)
theorem subB_le (a b:List Int) (k:Nat):0≤subB a b k∧subB a b k≤1:=by
 cases k with
 | zero=>simp[subB]
 | succ k=>unfold subB;split <;> omega
theorem subS_length (B:Int) (a b:List Int):∀ k,(subS B a b k).length=a.length
 | 0=>by simp[subS]
 | k+1=>by rw[subS,List.length_set,subS_length B a b k]
theorem subD_le {B:Int} {a b:List Int} (ha:Dig B a) (c:Dig B b) (k:Nat):0≤subD B a b k∧subD B a b k<B:=by
 have d:=ha k;have e:=c k;have f:=subB_le a b k;unfold subD;split <;> omega
theorem subS_dig {B:Int} (c:0<B) {a b:List Int} (ha:Dig B a) (d:Dig B b):∀ k,Dig B (subS B a b k)
 | 0=>Dig.replicate c _
 | k+1=>(subS_dig c ha d k).set k (subD_le ha d k)
theorem take_set_same (l:List Int) (k:Nat) (y:Int):(l.set k y).take k=l.take k:=by
 rw[List.take_set,List.set_eq_of_length_le (by rw[List.length_take];omega)]
theorem sub_val (B:Int) (a b:List Int):∀ k,k≤a.length→val B ((subS B a b k).take k)=val B (a.take k) - val B (b.take k)+B ^ k*subB a b k
 | 0,_=>by simp[val,subB]
 | k+1,hk=>by
  have c:=sub_val B a b k (by omega);rw[val_take_succ B (subS B a b (k+1)) k,subS,take_set_same,c,at0_set_eq _ (by rw[subS_length];omega),val_take_succ,val_take_succ,Int.pow_succ]
  have e:subD B a b k=at0 a k - subB a b k - at0 b k+B*subB a b (k+1):=by
   unfold subD;rw[subB]
   split <;> omega
  rw[e];generalize subB a b (k+1)=q at *
  grind
theorem sub_done {B:Int} (g:1<B) {a b:List Int} (ha:Canon B a) (d:Canon B b) (h:val B b≤val B a) :
  Dig B (subS B a b a.length)∧val B (subS B a b a.length)=val B a - val B b:=by
 have i:b.length≤a.length:=by
  rcases Nat.lt_or_ge a.length b.length with c | c
  ·have:=ha.lt_of_len g d c;omega
  ·exact c
 have f:=subS_dig (by omega) ha.1 d.1 a.length;refine⟨f,?_⟩;have e:=sub_val B a b a.length (Nat.le_refl _);rw[List.take_length,List.take_of_length_le i,List.take_of_length_le (by rw[subS_length];omega)] at e
 have c:=f.val_lt (by omega);rw[subS_length] at c;have l:=subB_le a b a.length;have j:subB a b a.length=0:=by
  rcases Int.lt_or_le 0 (subB a b a.length) with k | k
  ·rw[show subB a b a.length=1 by omega] at e;omega
  ·omega
 rw[j] at e
 simpa using e
def digTo (B n:Int):Nat→List Int
 | 0=>[]
 | k+1=>digTo B n k ++ [n / B ^ k % B]
theorem digTo_succ (B n:Int) (k:Nat):digTo B n (k+1)=digTo B n k ++ [n / B ^ k % B]:=rfl
theorem digTo_length (B n:Int):∀ k,(digTo B n k).length=k
 | 0=>rfl
 | k+1=>by rw[digTo_succ,List.length_append,digTo_length B n k];rfl
theorem digTo_dig {B:Int} (a:0<B) (n:Int):∀ k,Dig B (digTo B n k)
 | 0=>Dig.nil a
 | k+1=>(digTo_dig a n k).snoc ⟨Int.emod_nonneg _ (by omega),Int.emod_lt_of_pos _ a⟩
theorem div_pow_succ {B:Int} (a:0<B) (n:Int) (k:Nat):n / B ^ (k+1)=n / B ^ k / B:=by
 rw[Int.pow_succ,Int.ediv_ediv_of_nonneg (Int.le_of_lt (pow_pos' a k))]
theorem digTo_val {B:Int} (a:0<B) (n:Int):∀ k,val B (digTo B n k)+B ^ k*(n / B ^ k)=n
 | 0=>by simp[digTo,val]
 | k+1=>by
  have b:=digTo_val a n k;rw[digTo_succ,val_snoc,digTo_length,div_pow_succ a,Int.pow_succ];have e:=Int.mul_ediv_add_emod (n / B ^ k) B;generalize n / B ^ k / B=q at *;generalize n / B ^ k % B=r at *
  grind
theorem digTo_done {B:Int} (h:1<B) {n:Int} {k:Nat} (b:n / B ^ k=0) (a:k=0∨0<n / B ^ (k - 1)):Canon B (digTo B n k)∧val B (digTo B n k)=n:=by
 have e:=digTo_val (B:=B) (by omega) n k;rw[b,Int.mul_zero,Int.add_zero] at e;refine⟨⟨digTo_dig (by omega) n k,fun d=>?_⟩,e⟩;rw[digTo_length] at d ⊢;rcases a with a | a
 ·omega
 ·have f:k=k - 1+1:=by omega
  rw[f,digTo_succ,at0_append_ge (by rw[digTo_length];omega),digTo_length]
  have c:=div_pow_succ (B:=B) (by omega) n (k - 1);rw[show k - 1+1=k by omega,b] at c;have g:=Int.mul_ediv_add_emod (n / B ^ (k - 1)) B;rw[← c] at g;rw[show k - 1+1 - 1 - (k - 1)=0 by omega,at0_cons_zero];omega
theorem val_set (B:Int):∀(l:List Int) (k:Nat) (y:Int),k<l.length→val B (l.set k y)=val B l+B ^ k*(y - at0 l k)
 | [],_,_,h=>absurd h (by simp)
 | d :: l,0,y,_=>by simp[val,at0_cons_zero];omega
 | d :: l,k+1,y,h=>by
  have a:=val_set B l k y (by simpa using h);simp only[List.set_cons_succ,val,at0_cons_succ,a,Int.pow_succ]
  grind
def mulIn (B:Int) (a b S:List Int) (i:Nat):Nat→List Int × Int
 | 0=>(S,0)
 | j+1=>((mulIn B a b S i j).1.set (i+j) (((mulIn B a b S i j).2+(at0 (mulIn B a b S i j).1 (i+j)+at0 a i*at0 b j)) % B),
   ((mulIn B a b S i j).2+(at0 (mulIn B a b S i j).1 (i+j)+at0 a i*at0 b j)) / B)
def mulS (B:Int) (a b S:List Int) (i j:Nat):List Int:=(mulIn B a b S i j).1
def mulC (B:Int) (a b S:List Int) (i j:Nat):Int:=(mulIn B a b S i j).2
def mulTo (B:Int) (a b:List Int):Nat→List Int
 | 0=>List.replicate (a.length+b.length) 0
 | i+1=>(mulS B a b (mulTo B a b i) i b.length).set (i+b.length) (mulC B a b (mulTo B a b i) i b.length)
theorem mulS_zero (B:Int) (a b S:List Int) (i:Nat):mulS B a b S i 0=S:=rfl
theorem mulC_zero (B:Int) (a b S:List Int) (i:Nat):mulC B a b S i 0=0:=rfl
theorem mulS_succ (B:Int) (a b S:List Int) (i j:Nat):mulS B a b S i (j+1)=(mulS B a b S i j).set (i+j) ((mulC B a b S i j+(at0 (mulS B a b S i j) (i+j)+at0 a i*at0 b j)) % B):=rfl
theorem mulC_succ (B:Int) (a b S:List Int) (i j:Nat):mulC B a b S i (j+1)=(mulC B a b S i j+(at0 (mulS B a b S i j) (i+j)+at0 a i*at0 b j)) / B:=rfl
theorem mulTo_succ (B:Int) (a b:List Int) (i:Nat):mulTo B a b (i+1)=(mulS B a b (mulTo B a b i) i b.length).set (i+b.length) (mulC B a b (mulTo B a b i) i b.length):=rfl
theorem mulS_length (B:Int) (a b S:List Int) (i:Nat):∀ j,(mulS B a b S i j).length=S.length
 | 0=>rfl
 | j+1=>by rw[mulS_succ,List.length_set,mulS_length B a b S i j]
theorem mulTo_length (B:Int) (a b:List Int):∀ i,(mulTo B a b i).length=a.length+b.length
 | 0=>by simp[mulTo]
 | i+1=>by rw[mulTo_succ,List.length_set,mulS_length,mulTo_length B a b i]
theorem dig_mul {B x y:Int} (b:0≤x∧x<B) (a:0≤y∧y<B):0≤x*y∧x*y≤(B - 1)*(B - 1) :=
 ⟨Int.mul_nonneg b.1 a.1,Int.mul_le_mul (by omega) (by omega) a.1 (by omega)⟩
theorem mul_step_le {B c s m:Int} (a:1<B) (b:0≤c∧c<B) (d:0≤s∧s<B) (e:0≤m∧m≤(B - 1)*(B - 1)):0≤(c+(s+m)) / B∧(c+(s+m)) / B<B:=by
 constructor
 ·exact Int.ediv_nonneg (by omega) (by omega)
 ·apply Int.ediv_lt_of_lt_mul (by omega)
  have:(B - 1)*(B - 1)=B*B - 2*B+1:=by grind
  omega
theorem mulIn_ok {B:Int} (d:1<B) {a b S:List Int} (ha:Dig B a) (e:Dig B b) (f:Dig B S) (i:Nat):∀ j,Dig B (mulS B a b S i j)∧0≤mulC B a b S i j∧mulC B a b S i j<B
 | 0=>by rw[mulS_zero,mulC_zero];exact⟨f,by omega,by omega⟩
 | j+1=>by
  have c:=mulIn_ok d ha e f i j;have g:=mul_step_le d c.2 (c.1 (i+j)) (dig_mul (ha i) (e j));rw[mulS_succ,mulC_succ];exact⟨c.1.set _ ⟨Int.emod_nonneg _ (by omega),Int.emod_lt_of_pos _ (by omega)⟩,g⟩
theorem mulIn_high (B:Int) (a b S:List Int) (i:Nat):∀ j k,i+j≤k→at0 (mulS B a b S i j) k=at0 S k
 | 0,_,_=>rfl
 | j+1,k,h=>by rw[mulS_succ,at0_set_ne _ (by omega),mulIn_high B a b S i j k (by omega)]
theorem mulIn_val (B:Int) (a b S:List Int) (i:Nat):∀ j,i+j≤S.length→val B (mulS B a b S i j)+B ^ (i+j)*mulC B a b S i j=val B S+B ^ i*(at0 a i*val B (b.take j))
 | 0,_=>by simp[mulS_zero,mulC_zero,val]
 | j+1,h=>by
  have c:=mulIn_val B a b S i j (by omega);rw[mulS_succ,mulC_succ,val_set _ _ _ _ (by rw[mulS_length];omega),val_take_succ,← Nat.add_assoc,Int.pow_succ]
  have e:=Int.mul_ediv_add_emod (mulC B a b S i j+(at0 (mulS B a b S i j) (i+j)+at0 a i*at0 b j)) B;generalize (mulC B a b S i j+(at0 (mulS B a b S i j) (i+j)+at0 a i*at0 b j)) / B=q at *;generalize (mulC B a b S i j+(at0 (mulS B a b S i j) (i+j)+at0 a i*at0 b j)) % B=r at *;rw[Int.pow_add] at *
  grind
theorem mulTo_ok {B:Int} (c:1<B) {a b:List Int} (ha:Dig B a) (d:Dig B b):∀ i,Dig B (mulTo B a b i)
 | 0=>Dig.replicate (by omega) _
 | i+1=>by
  have h:=mulIn_ok c ha d (mulTo_ok c ha d i) i b.length;rw[mulTo_succ];exact h.1.set _ h.2
theorem mulTo_high (B:Int) (a b:List Int):∀ i k,i+b.length≤k→at0 (mulTo B a b i) k=0
 | 0,_,_=>at0_replicate _ _
 | i+1,k,h=>by rw[mulTo_succ,at0_set_ne _ (by omega),mulIn_high _ _ _ _ _ _ _ (by omega),mulTo_high B a b i k (by omega)]
theorem mulTo_val (B:Int) (a b:List Int):∀ i,i≤a.length→val B (mulTo B a b i)=val B (a.take i)*val B b
 | 0,_=>by simp[mulTo,val_replicate,val]
 | i+1,h=>by
  have c:=mulTo_val B a b i (by omega);have e:=mulIn_val B a b (mulTo B a b i) i b.length (by rw[mulTo_length];omega)
  rw[mulTo_succ,val_set _ _ _ _ (by rw[mulS_length,mulTo_length];omega),mulIn_high _ _ _ _ _ _ _ (Nat.le_refl _),mulTo_high B a b i _ (Nat.le_refl _),val_take_succ]
  rw[List.take_length] at e;rw[c] at e
  grind
theorem mul_done (B:Int) (a b:List Int):val B (mulTo B a b a.length)=val B a*val B b:=by
 rw[mulTo_val B a b a.length (Nat.le_refl _),List.take_length]
end
section
def Ft (m:Nat) (x:Int):Prop:=x.natAbs<10 ^ m
theorem Ft.fit {m:Nat} {x:Int} (h:Ft m x) (a:m≤400000000):Fit x:=⟨m,a,h⟩
theorem Ft.mono {m n:Nat} {x:Int} (h:Ft m x) (a:m≤n):Ft n x:=Nat.lt_of_lt_of_le h (Nat.pow_le_pow_right (by decide) a)
theorem Ft.le {m:Nat} {x y:Int} (h:Ft m y) (a:x.natAbs≤y.natAbs):Ft m x:=Nat.lt_of_le_of_lt a h
theorem Ft.mul {m n:Nat} {x y:Int} (a:Ft m x) (b:Ft n y):Ft (m+n) (x*y):=by
 unfold Ft at *;rw[Int.natAbs_mul,Nat.pow_add];exact Nat.mul_lt_mul'' a b
theorem Ft.add {m:Nat} {x y:Int} (a:Ft m x) (b:Ft m y):Ft (m+1) (x+y):=by
 unfold Ft at *;have:=Int.natAbs_add_le x y;rw[Nat.pow_succ];omega
theorem Ft.neg {m:Nat} {x:Int} (a:Ft m x):Ft m (-x):=by
 unfold Ft at *
 rwa [Int.natAbs_neg]
theorem Ft.zero (m:Nat):Ft m 0:=by unfold Ft;exact Nat.pow_pos (by decide)
def estQ (R D:List Int):Int :=
 if 1000000000≤(at0 R D.length*1000000000+at0 R (D.length - 1)) / at0 D (D.length - 1) then 999999999
 else (at0 R D.length*1000000000+at0 R (D.length - 1)) / at0 D (D.length - 1)
theorem val_drop_succ (B:Int) (l:List Int) (n:Nat):val B (l.drop n)=at0 l n+B*val B (l.drop (n+1)):=by
 rcases Nat.lt_or_ge n l.length with h | h
 ·rw[List.drop_eq_getElem_cons h,at0_eq h];rfl
 ·rw[List.drop_of_length_le h,List.drop_of_length_le (by omega),at0_ge h];simp[val]
theorem est_ok {R D:List Int} (a:Dig 1000000000 R) (c:Canon 1000000000 D) (l:0<D.length) (h:val 1000000000 R<val 1000000000 D*1000000000) :
  0≤estQ R D∧estQ R D<1000000000∧val 1000000000 R / val 1000000000 D≤estQ R D:=by
 have i:=c.pos (by decide) l;have j:=a.val_nonneg (by decide);have o:1≤at0 D (D.length - 1):=by
  have:=(c.1 (D.length - 1)).1;have:=c.2 l;omega
 have E:=a (D.length - 1+1);have v:=a (D.length - 1);have w:0≤(at0 R (D.length - 1+1)*1000000000+at0 R (D.length - 1)) / at0 D (D.length - 1):=Int.ediv_nonneg (by omega) (by omega);have F:val 1000000000 R / val 1000000000 D<1000000000:=Int.ediv_lt_of_lt_mul i (by rw[Int.mul_comm];exact h)
 have x:val 1000000000 R / val 1000000000 D≤(at0 R (D.length - 1+1)*1000000000+at0 R (D.length - 1)) / at0 D (D.length - 1):=by
  rw[Int.le_ediv_iff_mul_le (by omega)];have G:val 1000000000 R / val 1000000000 D*val 1000000000 D≤val 1000000000 R:=Int.ediv_mul_le _ (by omega);have d:1000000000 ^ (D.length - 1)*at0 D (D.length - 1)≤val 1000000000 D:=by
   have e:=val_take_succ 1000000000 D (D.length - 1);rw[show D.length - 1+1=D.length by omega,List.take_length] at e;have:=(c.1.take (by decide) (D.length - 1)).val_nonneg (B:=1000000000) (by decide);omega
  have p:=c.1.val_lt (by decide);have b:val 1000000000 (R.drop (D.length+1))=0:=by
   have H:=(a.drop (D.length+1)).val_nonneg (by decide);rcases Int.lt_or_le 0 (val 1000000000 (R.drop (D.length+1))) with k | k
   ·exfalso
    have f:D.length+1≤R.length:=by
     rcases Nat.lt_or_ge R.length (D.length+1) with g | g
     ·rw[List.drop_of_length_le (by omega)] at k;simp[val] at k
     ·exact g
    have e:=val_take_drop 1000000000 R (D.length+1) f;have q:=(a.take (by decide) (D.length+1)).val_nonneg (B:=1000000000) (by decide);have y:(1000000000:Int) ^ (D.length+1)*1≤1000000000 ^ (D.length+1)*val 1000000000 (R.drop (D.length+1)):=Int.mul_le_mul_of_nonneg_left (by omega) (Int.le_of_lt (pow_pos' (by decide) _));rw[Int.pow_succ] at y e;omega
   ·omega
  have r:val 1000000000 R<(at0 R (D.length - 1+1)*1000000000+at0 R (D.length - 1)+1)*1000000000 ^ (D.length - 1):=by
   have s:=val_drop_succ 1000000000 R (D.length - 1);have t:=val_drop_succ 1000000000 R (D.length - 1+1);rw[show D.length - 1+1+1=D.length+1 by omega,b] at t;rw[t] at s;rcases Nat.lt_or_ge R.length (D.length - 1) with f | f
   ·have g:=a.val_lt (by decide);have u:=pow_mono (B:=1000000000) (by decide) (m:=R.length) (n:=D.length - 1) (by omega);have z:(1:Int)*1000000000 ^ (D.length - 1)≤(at0 R (D.length - 1+1)*1000000000+at0 R (D.length - 1)+1)*1000000000 ^ (D.length - 1):=Int.mul_le_mul_of_nonneg_right (by omega) (Int.le_of_lt (pow_pos' (by decide) _));omega
   ·have e:=val_take_drop 1000000000 R (D.length - 1) f;have q:=(a.take (by decide) (D.length - 1)).val_lt (B:=1000000000) (by decide);rw[List.length_take,Nat.min_eq_left f] at q;rw[s] at e;generalize (1000000000:Int) ^ (D.length - 1)=I at *
    grind
  have A:0≤val 1000000000 R / val 1000000000 D:=Int.ediv_nonneg j (by omega);have g:val 1000000000 R / val 1000000000 D*(1000000000 ^ (D.length - 1)*at0 D (D.length - 1))≤val 1000000000 R / val 1000000000 D*val 1000000000 D:=Int.mul_le_mul_of_nonneg_left d A;have u:(val 1000000000 R / val 1000000000 D*at0 D (D.length - 1))*1000000000 ^ (D.length - 1)<(at0 R (D.length - 1+1)*1000000000+at0 R (D.length - 1)+1)*1000000000 ^ (D.length - 1):=by
   have:(val 1000000000 R / val 1000000000 D*at0 D (D.length - 1))*1000000000 ^ (D.length - 1)=val 1000000000 R / val 1000000000 D*(1000000000 ^ (D.length - 1)*at0 D (D.length - 1)):=by
    rw[Int.mul_assoc,Int.mul_comm (at0 D (D.length - 1))]
   omega
  have z:=Int.lt_of_mul_lt_mul_right u (Int.le_of_lt (pow_pos' (by decide) _));omega
 have C:at0 R D.length=at0 R (D.length - 1+1):=by rw[show D.length - 1+1=D.length by omega]
 unfold estQ;rw[C]
 split <;> omega
theorem div_step {B Y R d:Int} (a:0<Y):(d+B*R) / Y=B*(R / Y)+(d+B*(R % Y)) / Y∧(d+B*R) % Y=(d+B*(R % Y)) % Y:=by
 have e:=Int.mul_ediv_add_emod R Y;have h:d+B*R=(d+B*(R % Y))+(B*(R / Y))*Y:=by
  generalize R / Y=q at *;generalize R % Y=r at *
  grind
 rw[h];constructor
 ·rw[Int.add_mul_ediv_right _ _ (by omega)];omega
 ·rw[Int.add_mul_emod_self_right]
theorem quot_of_le {Y R q:Int} (a:0<Y) (c:R / Y≤q) (b:q*Y≤R):q=R / Y:=by
 have:=(Int.le_ediv_iff_mul_le a).2 b;omega
theorem quot_down {Y R q:Int} (a:0<Y) (b:R<q*Y):R / Y≤q - 1:=by
 have:R / Y<q:=Int.ediv_lt_of_lt_mul a b;omega
theorem rest_eq {Y R:Int}:R - R / Y*Y=R % Y:=by
 have:=Int.mul_ediv_add_emod R Y;rw[Int.mul_comm] at this;omega
def quoRow (Y:Int) (X:List Int) (n:Nat):Nat→List Int
 | 0=>List.replicate n 0
 | j+1=>(quoRow Y X n j).set (n - 1 - j) ((at0 X (n - 1 - j)+1000000000*(val 1000000000 (X.drop (n - j)) % Y)) / Y)
theorem quoRow_succ (Y:Int) (X:List Int) (n j:Nat):quoRow Y X n (j+1)=(quoRow Y X n j).set (n - 1 - j) ((at0 X (n - 1 - j)+1000000000*(val 1000000000 (X.drop (n - j)) % Y)) / Y):=rfl
theorem quoRow_length (Y:Int) (X:List Int) (n:Nat):∀ j,(quoRow Y X n j).length=n
 | 0=>by simp[quoRow]
 | j+1=>by rw[quoRow,List.length_set,quoRow_length Y X n j]
theorem quoRow_dig {Y:Int} {X:List Int} (a:0<Y) (c:Dig 1000000000 X) (n:Nat):∀ j,Dig 1000000000 (quoRow Y X n j)
 | 0=>Dig.replicate (by decide) _
 | j+1=>by
  have d:=c (n - 1 - j);have e:=Int.emod_nonneg (val 1000000000 (X.drop (n - j))) (b:=Y) (by omega);have f:=Int.emod_lt_of_pos (val 1000000000 (X.drop (n - j))) a;refine(quoRow_dig a c n j).set _ ⟨Int.ediv_nonneg (by omega) (by omega),?_⟩
  apply Int.ediv_lt_of_lt_mul a
  omega
theorem drop_set_same (l:List Int) (k:Nat) (y:Int) (_h:k<l.length):(l.set k y).drop (k+1)=l.drop (k+1):=by
 rw[List.drop_set_of_lt (by omega)]
theorem quoRow_val {Y:Int} {X:List Int} (a:0<Y) (n:Nat) (b:val 1000000000 (X.drop n) / Y=0):∀ j,j≤n→val 1000000000 ((quoRow Y X n j).drop (n - j))=val 1000000000 (X.drop (n - j)) / Y
 | 0,_=>by rw[quoRow,Nat.sub_zero,List.drop_of_length_le (by simp),b];rfl
 | j+1,h=>by
  have c:=quoRow_val a n b j (by omega);have e:n - (j+1)=n - 1 - j:=by omega
  have f:n - j=n - 1 - j+1:=by omega
  rw[e,val_drop_succ 1000000000 (quoRow Y X n (j+1)),quoRow,at0_set_eq _ (by rw[quoRow_length];omega),drop_set_same _ _ _ (by rw[quoRow_length];omega),val_drop_succ 1000000000 X (n - 1 - j)]
  rw[f] at c;rw[c,f];have:=(div_step (B:=1000000000) (R:=val 1000000000 (X.drop (n - 1 - j+1))) (d:=at0 X (n - 1 - j)) a).1;rw[this];omega
theorem quoRow_done {Y:Int} {X:List Int} (a:0<Y) (n:Nat) (b:val 1000000000 (X.drop n) / Y=0):val 1000000000 (quoRow Y X n n)=val 1000000000 X / Y:=by
 have:=quoRow_val a n b n (Nat.le_refl _)
 simpa using this
theorem top_small {X D:List Int} (a:Dig 1000000000 X) (b:Canon 1000000000 D) (c:0<D.length) {n:Nat} (e:X.length+1≤n+D.length):val 1000000000 (X.drop n)<val 1000000000 D:=by
 have d:=(a.drop n).val_lt (by decide);rw[List.length_drop] at d;have f:=b.ge (by decide) c;have g:=pow_mono (B:=1000000000) (by decide) (m:=X.length - n) (n:=D.length - 1) (by omega);omega
theorem Canon.drop {B:Int} {l:List Int} (h:Canon B l) (n:Nat):Canon B (l.drop n):=by
 refine⟨h.1.drop n,fun a=>?_⟩;rw[List.length_drop] at a ⊢;rw[at0_drop,show n+(l.length - n - 1)=l.length - 1 by omega];exact h.2 (by omega)
theorem scale_div {x y s:Int} (a:0<s):x*s / (y*s)=x / y:=Int.mul_ediv_mul_of_pos_left x y a
end
section
def SqFree (s:Nat):Prop:=∀ k,2≤k→¬ (k*k∣s)
structure IsRoot (n o s:Nat):Prop where
 op:0<o
 sp:0<s
 eq:o*o*s=n
 free:SqFree s
theorem one_of_sq {a s:Nat} (ha:0<a) (c:SqFree s) (h:a*a∣s):a=1:=by
 rcases Nat.lt_or_ge a 2 with b | b
 ·omega
 ·exact absurd h (c a b)
theorem IsRoot.unique {n o s i d:Nat} (h:IsRoot n o s) (j:IsRoot n i d):o=i∧s=d:=by
 have k:0<Nat.gcd o i:=Nat.gcd_pos_of_pos_left _ h.op;obtain⟨a,ha⟩:=Nat.gcd_dvd_left o i;obtain⟨b,l⟩:=Nat.gcd_dvd_right o i;generalize hgd:Nat.gcd o i=g at *;have m:0<a:=by
  rcases Nat.eq_zero_or_pos a with e | e
  ·rw[e] at ha;have:=h.op;omega
  ·exact e
 have p:0<b:=by
  rcases Nat.eq_zero_or_pos b with e | e
  ·rw[e] at l;have:=j.op;omega
  ·exact e
 have c:Nat.Coprime a b:=by
  have y:g*Nat.gcd a b=g:=by
   rw[← Nat.gcd_mul_left,← ha,← l,hgd]
  have q:g*Nat.gcd a b=g*1:=by omega
  exact Nat.eq_of_mul_eq_mul_left k q
 have e:a*a*s=b*b*d:=by
  have r:=h.eq.trans j.eq.symm;rw[ha,l] at r;have t:(g*g)*(a*a*s)=(g*g)*(b*b*d):=by
   have z:g*a*(g*a)*s=(g*g)*(a*a*s):=by grind
   have A:g*b*(g*b)*d=(g*g)*(b*b*d):=by grind
   omega
  exact Nat.eq_of_mul_eq_mul_left (Nat.mul_pos k k) t
 have f:Nat.Coprime (a*a) (b*b):=Nat.Coprime.mul_right (Nat.Coprime.mul_left c c) (Nat.Coprime.mul_left c c);have u:a*a∣d:=f.dvd_of_dvd_mul_left ⟨s,by omega⟩;have v:b*b∣s:=f.symm.dvd_of_dvd_mul_left ⟨d,by omega⟩;have w:=one_of_sq m j.free u;have x:=one_of_sq p h.free v;subst w;subst x;constructor
 ·omega
 ·omega
def sqf (n:Nat):Nat→Nat
 | 0=>1
 | k+1=>if n % ((k+1)*(k+1))=0 then k+1 else sqf n k
theorem sqf_pos (n:Nat):∀ k,0<sqf n k
 | 0=>by simp[sqf]
 | k+1=>by
  unfold sqf
  split
  ·omega
  ·exact sqf_pos n k
theorem sqf_dvd (n:Nat):∀ k,sqf n k*sqf n k∣n
 | 0=>⟨n,by simp[sqf]⟩
 | k+1=>by
  unfold sqf
  split
  ·exact Nat.dvd_of_mod_eq_zero (by assumption)
  ·exact sqf_dvd n k
theorem sqf_max (n:Nat):∀ k j,j≤k→j*j∣n→j≤sqf n k
 | 0,j,h,_=>by simp[sqf];omega
 | k+1,j,h,hd=>by
  unfold sqf
  split
  ·exact h
  ·rename_i a
   rcases Nat.lt_or_ge j (k+1) with b | b
   ·exact sqf_max n k j (by omega) hd
   ·have:j=k+1:=by omega
    subst this;exact absurd (Nat.mod_eq_zero_of_dvd hd) a
theorem sqf_root {n:Nat} (l:0<n) (v:n<1000000):IsRoot n (sqf n 1000) (n / (sqf n 1000*sqf n 1000)):=by
 have d:=sqf_pos n 1000;obtain⟨s,c⟩:=sqf_dvd n 1000;have m:=sqf_max n 1000;generalize sqf n 1000=f at *;have g:0<f*f:=Nat.mul_pos d d;have i:0<s:=by
  rcases Nat.eq_zero_or_pos s with e | e
  ·rw[e] at c;omega
  ·exact e
 have o:n / (f*f)=s:=by rw[c];exact Nat.mul_div_cancel_left _ g
 rw[o];refine⟨d,i,c.symm,?_⟩;intro k p q;obtain⟨t,j⟩:=q;have r:0<t:=by
  rcases Nat.eq_zero_or_pos t with e | e
  ·rw[e] at j;omega
  ·exact e
 have b:(f*k)*(f*k)∣n:=⟨t,by rw[c,j];grind⟩
 have u:(f*k)*(f*k)≤n:=Nat.le_of_dvd l b;have a:f*k≤1000:=by
  rcases Nat.lt_or_ge 1000 (f*k) with h | h
  ·have:=Nat.mul_le_mul (show 1001≤f*k from h) (show 1001≤f*k from h);omega
  ·exact h
 have w:=m (f*k) a b;have x:f*2≤f*k:=Nat.mul_le_mul_left f p;omega
end
end Go.Proofs.YtjahbjjekednfaaGreatDoor
