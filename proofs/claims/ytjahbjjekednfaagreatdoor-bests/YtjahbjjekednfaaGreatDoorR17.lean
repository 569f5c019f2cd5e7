import Derived.Test.YtjahbjjekednfaaGreatDoorR14
import Derived.Test.YtjahbjjekednfaaGreatDoorE1
namespace Go.Proofs.YtjahbjjekednfaaGreatDoor
open Go.RowKit
theorem comb_root {c:Int} {a b:Qn} (_:Qok a) (f:Qok b) (h:(comb c a b).2=0):qroot a.d b.d≠0:=by
 intro e;unfold comb at h
 split at h
 ·unfold qadd at h;rw[if_pos e] at h;exact absurd h (by decide)
 ·split at h
  ·unfold qsub qadd at h;have:qroot a.d (qneg b).d=0:=e;rw[if_pos this] at h;exact absurd h (by decide)
  ·split at h
   ·unfold qmul at h;rw[if_pos e] at h;exact absurd h (by decide)
   ·unfold qdiv at h
    split at h
    ·exact absurd h (by decide)
    ·rename_i g
     unfold qmul at h;rw[qinv_d f g,if_pos e] at h;exact absurd h (by decide)
theorem worked_any (c:Int) (a b:Qn) (m:Nat) (u v:Value) (w:World) (ha:NN w u a) (l:NN w v b) (j:Qok a) (g:Qok b) (y:m≤9000000) (n:QF m a) (fb:QF m b) (z:c=43∨c=45∨c=42∨c=47) (h:(comb c a b).2=0) :
  Calls Tryz.prog 76 #[u,.int .u8 c,v] w (RetNN w (comb c a b).1):=by
 have f:=comb_root j g h;have o:=qroot_eq j f;have x:=rooted j g f;have s:0≤qroot a.d b.d:=by have:=x.d0;omega
 have t:qroot a.d b.d≤1000000:=by have:=x.d1;omega
 have i:a.r*b.r≠0:=mul_ne j.r g.r;rcases z with rfl | rfl | rfl | rfl
 ·have e:(comb 43 a b).1=qaddN a b:=by unfold comb qadd;rw[if_pos rfl,if_neg f]
  rw[e];exact worked_add a b m _ u v w ha l (by omega) n fb o s t i
 ·have e:(comb 45 a b).1=qaddN a (qneg b):=by
   unfold comb qsub qadd;have:qroot a.d (qneg b).d≠0:=f;rw[if_neg (by decide),if_pos rfl,if_neg this]
  rw[e];exact worked_sub a b m _ u v w ha l (by omega) n fb o s t i
 ·have e:(comb 42 a b).1=qreduce ((a.p*b.p)+((a.q*b.q)*qroot a.d b.d)) ((a.p*b.q)+(a.q*b.p)) (a.r*b.r) (qroot a.d b.d):=by
   unfold comb qmul;rw[if_neg (by decide),if_neg (by decide),if_pos rfl,if_neg f,Int.mul_assoc]
   rfl
  rw[e];exact worked_mul a b m _ u v w ha l (by omega) n fb o s t i
 ·have k:¬ (b.p=0∧b.q=0):=by
   intro k;unfold comb qdiv at h;rw[if_neg (by decide),if_neg (by decide),if_neg (by decide),if_pos k] at h;exact absurd h (by decide)
  have e:(comb 47 a b).1=qmulN a (qinv b):=by
   have:qroot a.d (qinv b).d≠0:=by rw[qinv_d g k];exact f
   unfold comb qdiv qmul;rw[if_neg (by decide),if_neg (by decide),if_neg (by decide),if_neg k,if_neg this]
  have A:(b.p*b.p) - ((b.q*b.q)*b.d)≠0:=by
   have:=norm_ne g k;have B:b.p*b.p - b.q*b.q*b.d=b.p*b.p+b.q*(-b.q*b.d):=by rw[Int.neg_mul,Int.mul_neg,Int.mul_assoc];omega
   rw[B];exact this
  rw[e,← ref_div j g k rfl];exact worked_div a b m _ u v w ha l y n fb o s t 47 (by decide) (by decide) (by decide) j.r A (by have:=g.d0;omega) (by have:=g.d1;omega)
end Go.Proofs.YtjahbjjekednfaaGreatDoor
