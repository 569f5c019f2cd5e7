import Derived.Test.YtjahbjjekednfaaGreatDoorX1
import Derived.Test.YtjahbjjekednfaaGreatDoorR1
namespace Go.Proofs.YtjahbjjekednfaaGreatDoor
section
open Go.RowKit
theorem qcom_scale (k p q r:Int) (d:k≠0) (c:r≠0):qcom (k*p) (k*q) (k*r)=k*qcom p q r:=by
 have h:(Int.gcd (Int.gcd (k*r) (k*p)) (k*q))=k.natAbs*Int.gcd (Int.gcd r p) q:=by
  rw[Int.gcd_mul_left];unfold Int.gcd;rw[Int.natAbs_mul k q];simp only[Int.natAbs_natCast];exact Nat.gcd_mul_left _ _ _
 unfold qcom;rw[h]
 push_cast
 rcases Int.lt_or_gt_of_ne d with b | b
 ·have e:(k.natAbs:Int) = -k:=by omega
  rcases Int.lt_or_gt_of_ne c with a | a
  ·have:0<k*r:=Int.mul_pos_of_neg_of_neg b a;rw[if_neg (by omega),if_pos a,e,Int.neg_mul,Int.mul_neg]
  ·have:k*r<0:=Int.mul_neg_of_neg_of_pos b a;rw[if_pos this,if_neg (by omega),e,Int.neg_mul,Int.neg_neg]
 ·have e:(k.natAbs:Int)=k:=by omega
  rcases Int.lt_or_gt_of_ne c with a | a
  ·have:k*r<0:=Int.mul_neg_of_pos_of_neg b a;rw[if_pos this,if_pos a,e,Int.mul_neg]
  ·have:0<k*r:=Int.mul_pos b a;rw[if_neg (by omega),if_neg (by omega),e]
theorem qcom_ne (p q r:Int) (a:r≠0):qcom p q r≠0:=by
 have b:Int.gcd r p≠0:=fun h=>a (Int.gcd_eq_zero_iff.mp h).1;have c:Int.gcd (Int.gcd r p) q≠0:=fun h=>b (by have:=(Int.gcd_eq_zero_iff.mp h).1;omega)
 unfold qcom
 split <;> omega
theorem tdiv_scale (k a b:Int) (d:k≠0):(k*a).tdiv (k*b)=a.tdiv b:=by
 rcases Int.lt_or_gt_of_ne d with c | c
 ·have e:=Int.mul_tdiv_mul_of_pos (a:=-k) a b (by omega);rw[Int.neg_mul,Int.neg_mul,Int.neg_tdiv_neg] at e;exact e
 ·exact Int.mul_tdiv_mul_of_pos _ _ c
theorem qreduce_scale (k p q r d:Int) (a:k≠0) (b:r≠0):qreduce (k*p) (k*q) (k*r) d=qreduce p q r d:=by
 unfold qreduce;rw[qcom_scale k p q r a b,tdiv_scale _ _ _ a,tdiv_scale _ _ _ a,tdiv_scale _ _ _ a]
theorem qcom_dvd (p q r:Int):qcom p q r∣p∧qcom p q r∣q∧qcom p q r∣r:=by
 have a:(Int.gcd (Int.gcd r p) q:Int)∣(Int.gcd r p:Int):=Int.gcd_dvd_left ..;have b:(Int.gcd (Int.gcd r p) q:Int)∣q:=Int.gcd_dvd_right ..;have c:(Int.gcd r p:Int)∣r:=Int.gcd_dvd_left ..;have d:(Int.gcd r p:Int)∣p:=Int.gcd_dvd_right ..;unfold qcom
 split
 ·exact⟨Int.neg_dvd.mpr (Int.dvd_trans a d),Int.neg_dvd.mpr b,Int.neg_dvd.mpr (Int.dvd_trans a c)⟩
 ·exact⟨Int.dvd_trans a d,b,Int.dvd_trans a c⟩
theorem qreduce_back (p q r d:Int):p=qcom p q r*(qreduce p q r d).p∧q=qcom p q r*(qreduce p q r d).q∧r=qcom p q r*(qreduce p q r d).r:=by
 obtain⟨a,b,c⟩:=qcom_dvd p q r;exact⟨(Int.mul_tdiv_cancel' a).symm,(Int.mul_tdiv_cancel' b).symm,(Int.mul_tdiv_cancel' c).symm⟩
theorem qreduce_pos (p q r d:Int) (f:r≠0):0<(qreduce p q r d).r:=by
 have h:=(qreduce_back p q r d).2.2;have j:=qcom_ne p q r f;have i:(r<0→qcom p q r<0)∧(0<r→0<qcom p q r):=by
  have:0≤(Int.gcd (Int.gcd r p) q:Int):=by omega
  constructor
  ·intro a;have e:qcom p q r = -(Int.gcd (Int.gcd r p) q:Int):=by unfold qcom;rw[if_pos a]
   omega
  ·intro a;have e:qcom p q r=(Int.gcd (Int.gcd r p) q:Int):=by unfold qcom;rw[if_neg (by omega)]
   omega
 generalize qcom p q r=g at *;generalize (qreduce p q r d).r=t at *;rcases Int.lt_or_gt_of_ne f with a | a
 ·have b:=i.1 a;by_cases c:0<t
  ·exact c
  ·have:=Int.mul_nonneg_of_nonpos_of_nonpos (Int.le_of_lt b) (show t≤0 by omega);omega
 ·have b:=i.2 a;by_cases c:0<t
  ·exact c
  ·have:=Int.mul_nonpos_of_nonneg_of_nonpos (Int.le_of_lt b) (show t≤0 by omega);omega
end
section
def preV (l:List Int):Nat→Int
 | 0=>0
 | j+1=>preV l j*10000+at0 l j
theorem preV_cons (d:Int) (l:List Int):∀ j,preV (d :: l) (j+1)=d*10000 ^ j+preV l j
 | 0=>by simp[preV,at0_cons_zero]
 | j+1=>by
  have h:=preV_cons d l j;show preV (d :: l) (j+1)*10000+at0 (d :: l) (j+1)=d*10000 ^ (j+1)+(preV l j*10000+at0 l j);rw[h,at0_cons_succ,Int.pow_succ,Int.add_mul,Int.mul_assoc];omega
theorem preV_rev:∀ m:List Int,preV m m.length=val 10000 m.reverse
 | []=>rfl
 | d :: m=>by
  rw[List.length_cons,preV_cons,preV_rev m,List.reverse_cons,val_snoc,List.length_reverse,Int.mul_comm d];omega
theorem preV_all (m:List Int):preV m.reverse m.length=val 10000 m:=by
 have:=preV_rev m.reverse
 rwa [List.length_reverse,List.reverse_reverse] at this
theorem preV_nn {l:List Int} (h:Dig 10000 l):∀ j,0≤preV l j
 | 0=>by simp[preV]
 | j+1=>by
  have a:=preV_nn h j;have b:=(h j).1;show 0≤preV l j*10000+at0 l j;omega
theorem preV_le {l:List Int} (h:Dig 10000 l) (j:Nat):∀ k,preV l j≤preV l (j+k)
 | 0=>Int.le_refl _
 | k+1=>by
  have a:=preV_le h j k;have b:=(h (j+k)).1;have c:=preV_nn h (j+k);show preV l j≤preV l (j+k)*10000+at0 l (j+k);omega
theorem dig_rev {m:List Int} (h:Dig 10000 m):Dig 10000 m.reverse:=by
 intro i;rcases Nat.lt_or_ge i m.length with a | a
 ·rw[at0_reverse a];exact h _
 ·rw[at0_ge (by rw[List.length_reverse];exact a)];omega
theorem div_next {P y d a:Int} (h:0<y) (i:y*a≤P % y*10000+d) (g:P % y*10000+d<y*(a+1)) :
  (P*10000+d) / y=P / y*10000+a∧(P*10000+d) % y=P % y*10000+d - y*a:=by
 have e:=Int.mul_ediv_add_emod P y;have f:P*10000+d=y*(P / y*10000+a)+(P % y*10000+d - y*a):=by
  have:P*10000=y*(P / y*10000)+P % y*10000:=by
   conv=>lhs;rw[← e,Int.add_mul,Int.mul_assoc]
  rw[Int.mul_add];omega
 rw[Int.mul_add,Int.mul_one] at g;have b:0≤P % y*10000+d - y*a:=by omega
 have c:P % y*10000+d - y*a<y:=by omega
 generalize P / y*10000+a=Q at *;generalize P % y*10000+d - y*a=R at *;constructor
 ·rw[f,Int.add_comm,Int.add_mul_ediv_left _ _ (by omega),Int.ediv_eq_zero_of_lt b c];omega
 ·rw[f,Int.add_comm,Int.add_mul_emod_self_left,Int.emod_eq_of_lt b c]
end
end Go.Proofs.YtjahbjjekednfaaGreatDoor
