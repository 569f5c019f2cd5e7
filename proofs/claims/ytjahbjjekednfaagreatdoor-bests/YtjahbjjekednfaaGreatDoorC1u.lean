import Derived.Test.YtjahbjjekednfaaGreatDoorE1
import Derived.Test.YtjahbjjekednfaaGreatDoorX1
import Derived.Deep.QuietTactic
import Derived.BigQuiet
namespace Go.Proofs.YtjahbjjekednfaaGreatDoor
set_option maxHeartbeats 1600000
set_option maxRecDepth 100000
section
def rsS (a b o:Int):Int:=if 0≤a*b then (if a≠0 then a else b) else if 0<o then a else b
def rsg (p q d:Int):Int:=rsS p.sign q.sign (p*p - (q*q)*d).sign
theorem sign3 (x:Int):(x.sign = -1∧x<0)∨(x.sign=0∧x=0)∨(x.sign=1∧0<x):=by
 rcases Int.lt_trichotomy x 0 with h | h | h
 ·exact Or.inl ⟨Int.sign_eq_neg_one_of_neg h,h⟩
 ·exact Or.inr (Or.inl ⟨by rw[h];rfl,h⟩)
 ·exact Or.inr (Or.inr ⟨Int.sign_eq_one_of_pos h,h⟩)
theorem sign_scale (k x:Int) (a:0<k):(k*x).sign=x.sign:=by
 rw[Int.sign_mul,Int.sign_eq_one_of_pos a,Int.one_mul]
theorem irr {u v k:Int} (g:SqFree k.toNat) (j:1<k) (l:v≠0):u*u≠v*v*k:=by
 intro e;have f:u.natAbs*u.natAbs=v.natAbs*v.natAbs*k.toNat:=by
  have:=congrArg Int.natAbs e;rw[Int.natAbs_mul,Int.natAbs_mul,Int.natAbs_mul] at this;rw[this]
  congr 1
  omega
 have a:0<v.natAbs:=by omega
 have b:0<k.toNat:=by omega
 have c:0<u.natAbs:=by
  rcases Nat.eq_zero_or_pos u.natAbs with d | d
  ·rw[d] at f;have:=Nat.mul_pos (Nat.mul_pos a a) b;omega
  ·exact d
 have h:IsRoot (u.natAbs*u.natAbs) u.natAbs 1:=⟨c,by decide,by omega,sqfree_one⟩;have i:IsRoot (u.natAbs*u.natAbs) v.natAbs k.toNat:=⟨a,b,f.symm,g⟩;have:=(h.unique i).2;omega
theorem sq_nonneg' (x:Int):0≤x*x:=by
 rcases Int.le_total 0 x with h | h
 ·exact Int.mul_nonneg h h
 ·exact Int.mul_nonneg_of_nonpos_of_nonpos h h
theorem rsg_scale (k p q d:Int) (a:0<k):rsg (k*p) (k*q) d=rsg p q d:=by
 unfold rsg;have e:(k*p)*(k*p) - (k*q)*(k*q)*d=(k*k)*(p*p - q*q*d):=by grind
 rw[e,sign_scale k p a,sign_scale k q a,sign_scale (k*k) _ (Int.mul_pos a a)]
end
section
open Go.RowKit
theorem WN.rp {w:World} {b:Bool} {a:Option Addr} {n c:Nat} {z:Int} (h:WN w (.agg #[.bool b,.slice a n c]) z):b=decide (z<0)∧Rp 2 1000000000 w (.slice a n c) (z.natAbs:Int):=by
 obtain⟨d,g,i,e,f⟩:=h;simp only[Value.agg.injEq,Array.mk.injEq,List.cons.injEq,Value.bool.injEq,Value.slice.injEq] at e;obtain⟨rfl,⟨rfl,rfl,rfl⟩,_⟩:=e;exact⟨rfl,f⟩
end
section
open Go.RowKit
def bl (s:ByteArray):List Int:=s.data.toList.map (fun b=>(b.toNat:Int))
theorem bl_len (s:ByteArray):(bl s).length=s.size:=by
 unfold bl;rw[List.length_map];simp
theorem byteAt_bl (s:ByteArray) (i:Nat):byteAt s i=at0 (bl s) i:=by
 unfold byteAt at0 bl;rcases Nat.lt_or_ge i s.data.toList.length with h | h
 ·rw[List.getD_eq_getElem?_getD,List.getD_eq_getElem?_getD,List.getElem?_map,List.getElem?_eq_getElem h]
  rfl
 ·rw[List.getD_eq_getElem?_getD,List.getD_eq_getElem?_getD,List.getElem?_map,List.getElem?_eq_none h]
  rfl
theorem byteAt_end (s:ByteArray) (i:Nat) (h:s.size≤i):byteAt s i=0:=by
 rw[byteAt_bl];exact at0_ge (by rw[bl_len];exact h)
theorem Kp.drewN {x w:World} (h:Kp x w) (n:Nat):Kp x (w.drewN n):=h.trans ⟨rfl,rfl,rfl,Nat.le_refl _,fun _ _=>rfl⟩
theorem KeepsBut.drewN {c:Nat} {x w:World} (h:KeepsBut c x w) (n:Nat):KeepsBut c x (w.drewN n):=h.trans ⟨rfl,rfl,rfl,Nat.le_refl _,fun _ _ _=>rfl⟩
theorem Blk.drewN {w:World} {b:Nat} {cs:Array Value} {t:TypeId} (h:Blk w b cs t) (n:Nat):Blk (w.drewN n) b cs t:=h
def atOf (b:Nat) (w:World):Nat:=(((w.cell? ⟨b,1,none⟩).map intOf).getD 0).toNat
theorem atOf_blk {w:World} {b:Nat} {s:ByteArray} {i:Nat} {er ea:Int} (h:Blk w b #[.string s,.int .i64 i,.int .i64 er,.int .i64 ea] 73):atOf b w=i:=by
 unfold atOf;rw[h.cell 1];simp[intOf]
theorem peek_any (s:ByteArray) (i:Nat) (er ea:Int) (b:Nat) (w:World) (a:Blk w b #[.string s,.int .i64 i,.int .i64 er,.int .i64 ea] 73) (_:s.size≤1000) (f:i≤1000) :
  Calls Tryz.prog 63 #[.pointer (some ⟨b,0,none⟩)] w (RetV w (.int .u8 (byteAt s i))):=by
 have g:=a.cell;have j:=a.lt;by_cases h:i<s.size
 ·have c:=byteAt_eq s i h;have d:(i:Int)<(s.size:Int):=by omega
  have e:(0:Int)≤(i:Int):=by omega
  go_enter Tryz.func63,Tryz.ntmps63
  go_wp2_with fail
  go_quiet (fail)
  go_wp2_with fail
  go_quiet (fail)
  go_wp2_with fail
  go_ret
  exact⟨rfl,Kp.drewN (Kp.drewN (Below.refl _ _) _) _⟩
 ·have c:=Hid.mk (byteAt_end s i (by omega));have d:¬ (i:Int)<(s.size:Int):=by omega
  have e:(0:Int)≤(i:Int):=by omega
  go_enter Tryz.func63,Tryz.ntmps63
  go_wp2_with fail
  go_quiet (fail)
  go_wp2_with fail
  go_ret
  exact⟨by rw[c.out];rfl,Kp.drewN (Below.refl _ _) _⟩
theorem decN_snoc (t:List Int) (c:Int):decN (t ++ [c])=decN t*10+(c - 48):=by simp[decN]
theorem take_snoc {t:List Int} {j:Nat} (h:j<t.length):t.take (j+1)=t.take j ++ [at0 t j]:=by
 rw[List.take_add_one,List.getElem?_eq_getElem h,at0_eq h]
 rfl
theorem digs_take {t:List Int} (h:Digs t) (j:Nat):Digs (t.take j):=fun c a=>h c (List.mem_of_mem_take a)
theorem digs_at {t:List Int} (h:Digs t) {j:Nat} (a:j<t.length):isDig (at0 t j)=true:=by
 rw[at0_eq a];exact h _ (List.getElem_mem a)
theorem isDig_bd {c:Int} (h:isDig c=true):48≤c∧c≤57:=by
 unfold isDig at h
 simpa using h
def At (s:ByteArray) (p:Nat) (l:List Int):Prop:=∃ pre,bl s=pre ++ l∧pre.length=p
theorem At.size {s:ByteArray} {p:Nat} {l:List Int} (h:At s p l):p+l.length=s.size:=by
 obtain⟨a,b,c⟩:=h;rw[← bl_len,b,List.length_append,c]
theorem At.byte {s:ByteArray} {p:Nat} {l:List Int} (h:At s p l) (j:Nat):byteAt s (p+j)=at0 l j:=by
 obtain⟨a,b,c⟩:=h;rw[byteAt_bl,b,at0_append_ge (by omega)]
 congr 1
 omega
theorem At.step {s:ByteArray} {p:Nat} {t l:List Int} (h:At s p (t ++ l)):At s (p+t.length) l:=by
 obtain⟨a,b,c⟩:=h;exact⟨a ++ t,by rw[b,List.append_assoc],by rw[List.length_append,c]⟩
def RetD (b:Nat) (s:ByteArray) (p:Nat) (n:Int) (w:World) (e:Ending) (a:World):Prop :=
 e=.returned (.int .i64 n)∧Blk a b #[.string s,.int .i64 p,.int .i64 0,.int .i64 0] 73∧KeepsBut b w a
theorem digits_any (s:ByteArray) (p:Nat) (t post:List Int) (b:Nat) (w:World) (D:Blk w b #[.string s,.int .i64 p,.int .i64 0,.int .i64 0] 73) (P:s.size≤1000) (f:At s p (t ++ post)) (A:Digs t) (Q:t.length≤18) (E:Hd isD post) :
  Calls Tryz.prog 122 #[.pointer (some ⟨b,0,none⟩)] w (RetD b s (p+t.length) (decN t) w):=by
 have h:=f.size;rw[List.length_append] at h;have B:=Hid.mk f;clear f
 go_enter Tryz.func122,Tryz.ntmps122
 go_wp2_with fail
 go_loopw [3,4] (fun n _ wr=>∃ j i:Nat,Hid (i=p+j)∧j≤t.length∧n=.int .i64 (decN (t.take j))∧Blk wr b #[.string s,.int .i64 i,.int .i64 0,.int .i64 0] 73∧KeepsBut b w wr)
  (fun _ _ wr=>s.size+1 - atOf b wr)
 case atStart=>exact⟨0,p,rfl,by omega,rfl,D,KeepsBut.refl _ _⟩
 case round =>
  obtain⟨j,i,q,R,rfl,d,g⟩:=hrel;have a:=q.out;have F:=Hid.mk (atOf_blk d);have S:=d.cell;have T:=d.frozen;have G:=d.lt;have U:(0:Int)≤(i:Int):=by omega
  by_cases v:j<t.length
  ·have x:i<s.size:=by omega
   have H:=byteAt_eq s i x;have C:Hid (byteAt s i=at0 t j):=by unfold Hid;rw[a,B.out.byte j,at0_append_lt v]
   have r:Hid (isDig (byteAt s i)=true):=by
    unfold Hid;rw[C.out];exact digs_at A v
   have I:=isDig_bd r.out;have u:=decN_bd (digs_take A j);have k:(t.take j).length=j:=by rw[List.length_take];omega
   rw[k] at u;have J:=u.1;have K:decN (t.take j)<100000000000000000:=Int.lt_of_lt_of_le u.2 (show (10:Int) ^ j≤10 ^ 17 by exact_mod_cast Nat.pow_le_pow_right (show 0<10 by decide) (show j≤17 by omega));have L:Hid (decN (t.take (j+1))=decN (t.take j)*10+(byteAt s i - 48)):=by
    unfold Hid;rw[take_snoc v,decN_snoc,C.out]
   have m:(i:Int)<(s.size:Int):=by omega
   clear u a;generalize decN (t.take j)=N at *
   go_wp2_with fail
   go_quiet (fail)
   go_wp2_with fail
   go_quiet (fail)
   go_wp2_with fail
   refine(isDigit_any _ _).mono ?_;rintro e M ⟨rfl,rfl⟩;rw[r.out]
   go_wp2_with fail
   go_roundw
   case rel =>
    refine⟨j+1,i+1,by have:=q.out;unfold Hid;omega,by omega,by rw[L.out],?_,KeepsBut.setCell (g.drewN _) _ _⟩
    rw[show ((i+1:Nat):Int)=(i:Int)+1 by omega];exact Blk.set (o:=1) (y:=.int .i64 ((i:Int)+1)) (d.drewN _)
   case measure =>
    rw[F.out,atOf_blk (i:=i+1) (s:=s) (er:=0) (ea:=0) (by rw[show ((i+1:Nat):Int)=(i:Int)+1 by omega];exact Blk.set (o:=1) (y:=.int .i64 ((i:Int)+1)) (d.drewN _))]
    omega
  ·have z:j=t.length:=by omega
   subst z;by_cases O:i<s.size
   ·have H:=byteAt_eq s i O;have r:Hid (isDig (byteAt s i)=false):=by
     unfold Hid;rw[a,B.out.byte t.length,at0_append_ge (Nat.le_refl _),Nat.sub_self]
     cases post with
     | nil=>rw[List.length_nil] at h;omega
     | cons c l=>rw[at0_cons_zero];exact Bool.eq_false_iff.mpr (E c l rfl)
    have m:(i:Int)<(s.size:Int):=by omega
    clear a
    go_wp2_with fail
    go_quiet (fail)
    go_wp2_with fail
    go_quiet (fail)
    go_wp2_with fail
    refine(isDigit_any _ _).mono ?_;rintro e M ⟨rfl,rfl⟩;rw[r.out]
    go_wp2_with fail
    go_ret
    have a:=q.out;subst a;exact⟨rfl,d.drewN _,g.drewN _⟩
   ·have m:¬ (i:Int)<(s.size:Int):=by omega
    clear a
    go_wp2_with fail
    go_quiet (fail)
    go_wp2_with fail
    go_ret
    have a:=q.out;subst a;exact⟨rfl,d.drewN _,g.drewN _⟩
end
end Go.Proofs.YtjahbjjekednfaaGreatDoor
