import Derived.Test.YtjahbjjekednfaaGreatDoorR17
import Derived.Test.YtjahbjjekednfaaGreatDoorR15
import Derived.Test.YtjahbjjekednfaaGreatDoorR16
namespace Go.Proofs.YtjahbjjekednfaaGreatDoor
set_option maxHeartbeats 6400000
set_option maxRecDepth 100000
open Go.RowKit
theorem bl_extract (s:ByteArray) (i j:Nat):bl (s.extract i j)=((bl s).take j).drop i:=by
 unfold bl;rw[ByteArray.data_extract,Array.toList_extract,List.extract_eq_take_drop,List.map_take,List.map_drop];rw[List.drop_take]
theorem comb_four {c:Int} {a b:Qn} (g:c=43∨c=45∨c=42∨c=47) (h:(comb c a b).2≠0) (i:¬ (c=47∧(b.p=0∧b.q=0))):(comb c a b).2=4:=by
 have f:∀ x y:Qn,(qadd x y).2≠0→(qadd x y).2=4:=by intro x y h;unfold qadd at *;split <;> simp_all
 have d:∀ x y:Qn,(qmul x y).2≠0→(qmul x y).2=4:=by intro x y h;unfold qmul at *;split <;> simp_all
 rcases g with rfl | rfl | rfl | rfl
 ·exact f a b h
 ·exact f a (qneg b) h
 ·exact d a b h
 ·have j:¬ (b.p=0∧b.q=0):=fun h=>i ⟨rfl,h⟩;have e:comb 47 a b=qmul a (qinv b):=by unfold comb qdiv;rw[if_neg (by decide),if_neg (by decide),if_neg (by decide),if_neg j]
  rw[e] at h ⊢;exact d a _ h
theorem comb_root4 {c:Int} {a b:Qn} (_ha:Qok a) (j:Qok b) (k:c=43∨c=45∨c=42∨c=47) (h:(comb c a b).2≠0) (l:¬ (c=47∧(b.p=0∧b.q=0))):qroot a.d b.d=0:=by
 have g:∀ x y:Qn,(qadd x y).2≠0→qroot x.d y.d=0:=by intro x y h;unfold qadd at *;split at h <;> simp_all
 have f:∀ x y:Qn,(qmul x y).2≠0→qroot x.d y.d=0:=by intro x y h;unfold qmul at *;split at h <;> simp_all
 rcases k with rfl | rfl | rfl | rfl
 ·exact g a b h
 ·exact g a (qneg b) h
 ·exact f a b h
 ·have i:¬ (b.p=0∧b.q=0):=fun h=>l ⟨rfl,h⟩;have e:comb 47 a b=qmul a (qinv b):=by unfold comb qdiv;rw[if_neg (by decide),if_neg (by decide),if_neg (by decide),if_neg i]
  rw[e] at h;have:=f a _ h
  rwa [qinv_d j i] at this
def RetV3 (w:World) (r:Rs) (e:Ending) (b:World):Prop:=∃ v a,e=.returned (.tuple #[v,.int .i64 r.e,.int .i64 r.k])∧NN b v a∧(r.e=0→a=r.v)∧Kp w b
theorem value_a (s:ByteArray) (p i:Nat) (c:Int) (r n:Rs) (w:World) (aB:1≤s.size) (hs:s.size≤100) (hp:p≤1000) (hi:i<s.size) (hl:lst (bl s) 43 45 (s.size - 1) 0=(i:Int)) (av:c=43∨c=45∨c=42∨c=47) (aC:byteAt s i=c)
  (H1:∀ w,Calls Tryz.prog 45 #[.string (s.extract 0 i),.int .i64 p] w (RetV3 w r)) (H2:∀ w,Calls Tryz.prog 45 #[.string (s.extract (i+1) s.size),.int .i64 ((p:Int)+i+1)] w (RetV3 w n))
  (q1:RsOk 9000000 r) (q2:RsOk 9000000 n) :
  Calls Tryz.prog 45 #[.string s,.int .i64 p] w (RetV3 w (opR c (p+i) r n)):=by
 have hb:=byteAt_eq s i hi;rw[aC] at hb;have aL:(i:Int)<(s.size:Int):=by omega
 have aM:(0:Int)≤(i:Int):=by omega
 have aN:(i:Int)+1≤(s.size:Int):=by omega
 go_enter Tryz.func45,Tryz.ntmps45
 go_wp2_with fail
 refine(last_any s 43 45 _ aB (by omega)).mono ?_;rintro e w1 ⟨rfl,aw⟩;rw[hl];have L:=(kp_alloc w (.cells #[.bool false,.slice none 0 0,.bool false,.slice none 0 0,.bool false,.slice none 0 0,.int .i64 0] 54)).trans' aw;have S:=Blk.keep aw (Blk.new w _ _);clear aw;have ad:=S.lt;have X:=S.cell;have aj:=S.frozen
 go_wp2_with fail
 refine(H1 _).mono ?_;rintro e w2 ⟨v1,a1,rfl,aa,ay,au⟩;obtain⟨Z,H,n1,c1,b2,I,n2,c2,b3,J,n3,c3,rfl,x1,x2,x3⟩:=id aa;clear x1 x2 x3;replace S:=S.keep au;replace L:=L.trans' au;have aH:=au.size;clear au ad X aj;have ad:=S.lt;have X:=S.cell;have aj:=S.frozen;have aD:=Hid.mk ay;clear ay;by_cases ak:r.e=0
 ·have x1:(r.e != 0)=false:=by simp[ak]
  go_wp2_with fail
  have aq:=kp_alloc w2 (.cells #[.bool Z,.slice H n1 c1,.bool b2,.slice I n2 c2,.bool b3,.slice J n3 c3,.int .i64 a1.d] 54);refine(H2 _).mono ?_;rintro e w3 ⟨v2,a2,rfl,al,az,am⟩;obtain⟨b4,T,n4,c4,b5,U,n5,c5,b6,V,n6,c6,rfl,x4,x5,x6⟩:=id al;clear x4 x5 x6;have BX:Blk w3 w2.heap.size #[.bool Z,.slice H n1 c1,.bool b2,.slice I n2 c2,.bool b3,.slice J n3 c3,.int .i64 a1.d] 54:=Blk.keep am (Blk.new w2 _ _);have aO:=S.lt;replace S:=(S.keep aq).keep am;replace L:=(L.trans' aq).trans' am;replace aa:=(aa.keep aq).keep am;have aI:=am.size;have aJ:=aq.size;clear aq am ad X aj;generalize hbx:w2.heap.size=K at *;have ad:=S.lt;have X:=S.cell;have aj:=S.frozen;have aA:=BX.lt;have ae:=BX.cell;have aE:=Hid.mk az;clear az;by_cases an:n.e=0
  ·have x2:(n.e != 0)=false:=by simp[an]
   go_wp2_with fail
   have ai:=kp_alloc w3 (.cells #[.bool b4,.slice T n4 c4,.bool b5,.slice U n5 c5,.bool b6,.slice V n6 c6,.int .i64 a2.d] 54);refine(zero_ref a2 _ _ (al.keep ai)).mono ?_;rintro e w4 ⟨rfl,af⟩;have BY:Blk w4 w3.heap.size #[.bool b4,.slice T n4 c4,.bool b5,.slice U n5 c5,.bool b6,.slice V n6 c6,.int .i64 a2.d] 54:=Blk.keep af (Blk.new w3 _ _);replace BX:=(BX.keep ai).keep af;have aP:=S.lt;replace S:=(S.keep ai).keep af;replace L:=(L.trans' ai).trans' af;replace aa:=(aa.keep ai).keep af;replace al:=(al.keep ai).keep af;have aK:=af.size;clear ai af ad X aj aA ae;generalize hby:w3.heap.size=o at *;have ad:=S.lt;have X:=S.cell;have aj:=S.frozen;have aA:=BX.lt;have ae:=BX.cell;have aQ:=BY.lt;have ao:=BY.cell;have aF:=aD.out ak;have aG:=aE.out an;subst aF;subst aG;have oa:=q1.q ak;have ob:=q2.q an;have ap:opR c (p+i) r n=⟨(comb c r.v n.v).1,(comb c r.v n.v).2,if (comb c r.v n.v).2=0 then 0 else ((p+i:Nat):Int)⟩:=by
    unfold opR;rw[if_neg (by omega),if_neg (by omega)]
   have fa:=q1.f;have fb:=q2.f;have HQ:=Hid.mk (And.intro oa ob);have ar:=qroot_zero oa ob;have ax:decide (n.v.p=0∧n.v.q=0)=decide (n.v.p=0∧n.v.q=0):=rfl;have a0:=oa.d0;have b0:=ob.d0;by_cases hA:c=47∧(n.v.p=0∧n.v.q=0)
   ·have ac:comb c r.v n.v=(qzero,3):=by
     unfold comb qdiv;rw[if_neg (by omega),if_neg (by omega),if_neg (by omega),if_pos hA.2]
    have HR:Hid (opR c (p+i) r n=⟨qzero,3,(p:Int)+i⟩):=by
     unfold Hid;rw[ap,ac];simp
    rw[decide_eq_true hA.2];have y1:(c == 47)=true:=by simp[hA.1]
    clear ap ac hA ar ax
    go_wp2_with fail
    refine bodyPost_ret (v:=.tuple #[.agg #[.bool Z,.slice H n1 c1,.bool b2,.slice I n2 c2,.bool b3,.slice J n3 c3,.int .i64 r.v.d],.int .i64 3,.int .i64 ((p:Int)+i)]) (by simp[results,Tryz.results45,go_sem,X]) rfl ?_;rw[HR.out];exact⟨_,_,rfl,aa.soft (sf7 (.bool Z) (.slice H n1 c1) (.bool b2) (.slice I n2 c2) (.bool b3) (.slice J n3 c3) (.int .i64 r.v.d) S (by decide)),fun h=>by simp at h,(kp7 (A:=w.heap.size) (.bool Z) (.slice H n1 c1) (.bool b2) (.slice I n2 c2) (.bool b3) (.slice J n3 c3) (.int .i64 r.v.d) L (Nat.le_refl _))⟩
   ·by_cases hB:qroot r.v.d n.v.d=0
    ·have ac:(comb c r.v n.v).2=4:=by
      by_cases hz:(comb c r.v n.v).2=0
      ·exact absurd hB (comb_root oa ob hz)
      ·exact comb_four av hz hA
     have HR:Hid ((opR c (p+i) r n).e=4∧(opR c (p+i) r n).k=(p:Int)+i):=by
      unfold Hid;rw[ap];exact⟨ac,by simp only;rw[if_neg (by omega)];push_cast;rfl⟩
     obtain⟨g1,g2,g3⟩:=ar.mp hB;have y3:(r.v.d != n.v.d)=true:=by simp[g3]
     clear ap ac ar ax hB g3;by_cases Y:c=47
     ·have y1:(c == 47)=true:=by simp[Y]
      have y2:decide (n.v.p=0∧n.v.q=0)=false:=decide_eq_false (fun h=>hA ⟨Y,h⟩);rw[y2];clear hA Y y2
      go_wp2_with fail
      refine bodyPost_ret (v:=.tuple #[.agg #[.bool Z,.slice H n1 c1,.bool b2,.slice I n2 c2,.bool b3,.slice J n3 c3,.int .i64 r.v.d],.int .i64 4,.int .i64 ((p:Int)+i)]) (by simp[results,Tryz.results45,go_sem,X]) rfl ?_;unfold RetV3;rw[HR.out.1,HR.out.2];exact⟨_,_,rfl,aa.soft (sf7 (.bool Z) (.slice H n1 c1) (.bool b2) (.slice I n2 c2) (.bool b3) (.slice J n3 c3) (.int .i64 r.v.d) S (by decide)),fun h=>absurd h (by decide),(kp7 (A:=w.heap.size) (.bool Z) (.slice H n1 c1) (.bool b2) (.slice I n2 c2) (.bool b3) (.slice J n3 c3) (.int .i64 r.v.d) L (Nat.le_refl _))⟩
     ·have y1:(c == 47)=false:=by simp[Y]
      clear hA Y
      go_wp2_with fail
      refine bodyPost_ret (v:=.tuple #[.agg #[.bool Z,.slice H n1 c1,.bool b2,.slice I n2 c2,.bool b3,.slice J n3 c3,.int .i64 r.v.d],.int .i64 4,.int .i64 ((p:Int)+i)]) (by simp[results,Tryz.results45,go_sem,X]) rfl ?_;unfold RetV3;rw[HR.out.1,HR.out.2];exact⟨_,_,rfl,aa.soft (sf7 (.bool Z) (.slice H n1 c1) (.bool b2) (.slice I n2 c2) (.bool b3) (.slice J n3 c3) (.int .i64 r.v.d) S (by decide)),fun h=>absurd h (by decide),(kp7 (A:=w.heap.size) (.bool Z) (.slice H n1 c1) (.bool b2) (.slice I n2 c2) (.bool b3) (.slice J n3 c3) (.int .i64 r.v.d) L (Nat.le_refl _))⟩
    ·have ac:(comb c r.v n.v).2=0:=by
      by_cases hz:(comb c r.v n.v).2=0
      ·exact hz
      ·exact absurd (comb_root4 oa ob av hz hA) hB
     have HR:Hid (opR c (p+i) r n=⟨(comb c r.v n.v).1,0,0⟩):=by
      unfold Hid;rw[ap,ac,if_pos rfl]
     have W:¬ (1<r.v.d∧1<n.v.d∧r.v.d≠n.v.d):=fun h=>hB (ar.mpr h);clear ap ar ax hB;have hW:=Hid.mk (fun m hk=>worked_any c r.v n.v 9000000 _ _ m (aa.keep hk) (al.keep hk) oa ob (by decide) fa fb av ac);clear oa ob fa fb ac;by_cases Y:c=47
     ·have y1:(c == 47)=true:=by simp[Y]
      have y2:decide (n.v.p=0∧n.v.q=0)=false:=decide_eq_false (fun h=>hA ⟨Y,h⟩);rw[y2];clear hA Y y2;by_cases g1:1<r.v.d
      ·by_cases g2:1<n.v.d
       ·have y3:(r.v.d != n.v.d)=false:=by
         have:r.v.d=n.v.d:=by
          by_cases h:r.v.d=n.v.d
          ·exact h
          ·exact absurd ⟨g1,g2,h⟩ W
         simp[this]
        clear W
        go_wp2_with fail
        go_region_held3 (fun m=>m.cell? ⟨K,0,none⟩=some (.bool Z)∧m.cell? ⟨K,1,none⟩=some (.slice H n1 c1)∧m.cell? ⟨K,2,none⟩=some (.bool b2)∧m.cell? ⟨K,3,none⟩=some (.slice I n2 c2)∧m.cell? ⟨K,4,none⟩=some (.bool b3)∧m.cell? ⟨K,5,none⟩=some (.slice J n3 c3)∧m.cell? ⟨K,6,none⟩=some (.int .i64 r.v.d)∧m.cell? ⟨o,0,none⟩=some (.bool b4)∧m.cell? ⟨o,1,none⟩=some (.slice T n4 c4)∧m.cell? ⟨o,2,none⟩=some (.bool b5)∧m.cell? ⟨o,3,none⟩=some (.slice U n5 c5)∧m.cell? ⟨o,4,none⟩=some (.bool b6)∧m.cell? ⟨o,5,none⟩=some (.slice V n6 c6)∧m.cell? ⟨o,6,none⟩=some (.int .i64 n.v.d))
         (first | (go_keep;done) | (simp[ae,ao];done) | (simp[M,N];done) | (have j:=(ot7 (A:=w.heap.size) (.bool t) (.slice a u x) (.bool y) (.slice b z B) (.bool C) (.slice g D E) (.int .i64 (comb c r.v n.v).1.d) O (by omega));have l:=(ot7 (A:=w.heap.size) (.bool t) (.slice a u x) (.bool y) (.slice b z B) (.bool C) (.slice g D E) (.int .i64 (comb c r.v n.v).1.d) P (by omega));exact⟨j.cell 0,j.cell 1,j.cell 2,j.cell 3,j.cell 4,j.cell 5,j.cell 6,l.cell 0,l.cell 1,l.cell 2,l.cell 3,l.cell 4,l.cell 5,l.cell 6⟩))
         ((first
          | (go_at_call 76;refine(hW.out _ (Kp.drew' (Below.refl _ _))).mono ?_;rintro e w5 ⟨v5,rfl,Q,F⟩;obtain⟨t,a,u,x,y,b,z,B,C,g,D,E,rfl,_,_,_⟩:=id Q;have O:=BX.keep (Kp.trans' (Kp.drew' (Below.refl _ _)) F);have P:=BY.keep (Kp.trans' (Kp.drew' (Below.refl _ _)) F);have G:=S.keep (Kp.trans' (Kp.drew' (Below.refl _ _)) F);have M:=O.cell;have N:=P.cell;have R:=G.cell;have ag:=G.frozen;have ah:=G.lt)))
        all_goals go_wp2_with fail
        refine bodyPost_ret (v:=.tuple #[.agg #[.bool t,.slice a u x,.bool y,.slice b z B,.bool C,.slice g D E,.int .i64 (comb c r.v n.v).1.d],.int .i64 0,.int .i64 0]) (by simp[results,Tryz.results45,go_sem,R]) rfl ?_;rw[HR.out];exact⟨_,_,rfl,Q.soft (sf7 (.bool t) (.slice a u x) (.bool y) (.slice b z B) (.bool C) (.slice g D E) (.int .i64 (comb c r.v n.v).1.d) G (by decide)),fun _=>rfl,(kp7 (A:=w.heap.size) (.bool t) (.slice a u x) (.bool y) (.slice b z B) (.bool C) (.slice g D E) (.int .i64 (comb c r.v n.v).1.d) (L.trans' (Kp.trans' (Kp.drew' (Below.refl _ _)) F)) (Nat.le_refl _))⟩
       ·clear W
        go_wp2_with fail
        go_region_held3 (fun m=>m.cell? ⟨K,0,none⟩=some (.bool Z)∧m.cell? ⟨K,1,none⟩=some (.slice H n1 c1)∧m.cell? ⟨K,2,none⟩=some (.bool b2)∧m.cell? ⟨K,3,none⟩=some (.slice I n2 c2)∧m.cell? ⟨K,4,none⟩=some (.bool b3)∧m.cell? ⟨K,5,none⟩=some (.slice J n3 c3)∧m.cell? ⟨K,6,none⟩=some (.int .i64 r.v.d)∧m.cell? ⟨o,0,none⟩=some (.bool b4)∧m.cell? ⟨o,1,none⟩=some (.slice T n4 c4)∧m.cell? ⟨o,2,none⟩=some (.bool b5)∧m.cell? ⟨o,3,none⟩=some (.slice U n5 c5)∧m.cell? ⟨o,4,none⟩=some (.bool b6)∧m.cell? ⟨o,5,none⟩=some (.slice V n6 c6)∧m.cell? ⟨o,6,none⟩=some (.int .i64 n.v.d))
         (first | (go_keep;done) | (simp[ae,ao];done) | (simp[M,N];done) | (have j:=(ot7 (A:=w.heap.size) (.bool t) (.slice a u x) (.bool y) (.slice b z B) (.bool C) (.slice g D E) (.int .i64 (comb c r.v n.v).1.d) O (by omega));have l:=(ot7 (A:=w.heap.size) (.bool t) (.slice a u x) (.bool y) (.slice b z B) (.bool C) (.slice g D E) (.int .i64 (comb c r.v n.v).1.d) P (by omega));exact⟨j.cell 0,j.cell 1,j.cell 2,j.cell 3,j.cell 4,j.cell 5,j.cell 6,l.cell 0,l.cell 1,l.cell 2,l.cell 3,l.cell 4,l.cell 5,l.cell 6⟩))
         ((first
          | (go_at_call 76;refine(hW.out _ (Kp.drew' (Below.refl _ _))).mono ?_;rintro e w5 ⟨v5,rfl,Q,F⟩;obtain⟨t,a,u,x,y,b,z,B,C,g,D,E,rfl,_,_,_⟩:=id Q;have O:=BX.keep (Kp.trans' (Kp.drew' (Below.refl _ _)) F);have P:=BY.keep (Kp.trans' (Kp.drew' (Below.refl _ _)) F);have G:=S.keep (Kp.trans' (Kp.drew' (Below.refl _ _)) F);have M:=O.cell;have N:=P.cell;have R:=G.cell;have ag:=G.frozen;have ah:=G.lt)))
        all_goals go_wp2_with fail
        refine bodyPost_ret (v:=.tuple #[.agg #[.bool t,.slice a u x,.bool y,.slice b z B,.bool C,.slice g D E,.int .i64 (comb c r.v n.v).1.d],.int .i64 0,.int .i64 0]) (by simp[results,Tryz.results45,go_sem,R]) rfl ?_;rw[HR.out];exact⟨_,_,rfl,Q.soft (sf7 (.bool t) (.slice a u x) (.bool y) (.slice b z B) (.bool C) (.slice g D E) (.int .i64 (comb c r.v n.v).1.d) G (by decide)),fun _=>rfl,(kp7 (A:=w.heap.size) (.bool t) (.slice a u x) (.bool y) (.slice b z B) (.bool C) (.slice g D E) (.int .i64 (comb c r.v n.v).1.d) (L.trans' (Kp.trans' (Kp.drew' (Below.refl _ _)) F)) (Nat.le_refl _))⟩
      ·clear W
       go_wp2_with fail
       go_region_held3 (fun m=>m.cell? ⟨K,0,none⟩=some (.bool Z)∧m.cell? ⟨K,1,none⟩=some (.slice H n1 c1)∧m.cell? ⟨K,2,none⟩=some (.bool b2)∧m.cell? ⟨K,3,none⟩=some (.slice I n2 c2)∧m.cell? ⟨K,4,none⟩=some (.bool b3)∧m.cell? ⟨K,5,none⟩=some (.slice J n3 c3)∧m.cell? ⟨K,6,none⟩=some (.int .i64 r.v.d)∧m.cell? ⟨o,0,none⟩=some (.bool b4)∧m.cell? ⟨o,1,none⟩=some (.slice T n4 c4)∧m.cell? ⟨o,2,none⟩=some (.bool b5)∧m.cell? ⟨o,3,none⟩=some (.slice U n5 c5)∧m.cell? ⟨o,4,none⟩=some (.bool b6)∧m.cell? ⟨o,5,none⟩=some (.slice V n6 c6)∧m.cell? ⟨o,6,none⟩=some (.int .i64 n.v.d))
        (first | (go_keep;done) | (simp[ae,ao];done) | (simp[M,N];done) | (have j:=(ot7 (A:=w.heap.size) (.bool t) (.slice a u x) (.bool y) (.slice b z B) (.bool C) (.slice g D E) (.int .i64 (comb c r.v n.v).1.d) O (by omega));have l:=(ot7 (A:=w.heap.size) (.bool t) (.slice a u x) (.bool y) (.slice b z B) (.bool C) (.slice g D E) (.int .i64 (comb c r.v n.v).1.d) P (by omega));exact⟨j.cell 0,j.cell 1,j.cell 2,j.cell 3,j.cell 4,j.cell 5,j.cell 6,l.cell 0,l.cell 1,l.cell 2,l.cell 3,l.cell 4,l.cell 5,l.cell 6⟩))
        ((first
         | (go_at_call 76;refine(hW.out _ (Kp.drew' (Below.refl _ _))).mono ?_;rintro e w5 ⟨v5,rfl,Q,F⟩;obtain⟨t,a,u,x,y,b,z,B,C,g,D,E,rfl,_,_,_⟩:=id Q;have O:=BX.keep (Kp.trans' (Kp.drew' (Below.refl _ _)) F);have P:=BY.keep (Kp.trans' (Kp.drew' (Below.refl _ _)) F);have G:=S.keep (Kp.trans' (Kp.drew' (Below.refl _ _)) F);have M:=O.cell;have N:=P.cell;have R:=G.cell;have ag:=G.frozen;have ah:=G.lt)))
       all_goals go_wp2_with fail
       refine bodyPost_ret (v:=.tuple #[.agg #[.bool t,.slice a u x,.bool y,.slice b z B,.bool C,.slice g D E,.int .i64 (comb c r.v n.v).1.d],.int .i64 0,.int .i64 0]) (by simp[results,Tryz.results45,go_sem,R]) rfl ?_;rw[HR.out];exact⟨_,_,rfl,Q.soft (sf7 (.bool t) (.slice a u x) (.bool y) (.slice b z B) (.bool C) (.slice g D E) (.int .i64 (comb c r.v n.v).1.d) G (by decide)),fun _=>rfl,(kp7 (A:=w.heap.size) (.bool t) (.slice a u x) (.bool y) (.slice b z B) (.bool C) (.slice g D E) (.int .i64 (comb c r.v n.v).1.d) (L.trans' (Kp.trans' (Kp.drew' (Below.refl _ _)) F)) (Nat.le_refl _))⟩
     ·have y1:(c == 47)=false:=by simp[Y]
      generalize decide (n.v.p=0∧n.v.q=0)=zz at *;clear hA Y;by_cases g1:1<r.v.d
      ·by_cases g2:1<n.v.d
       ·have y3:(r.v.d != n.v.d)=false:=by
         have:r.v.d=n.v.d:=by
          by_cases h:r.v.d=n.v.d
          ·exact h
          ·exact absurd ⟨g1,g2,h⟩ W
         simp[this]
        clear W
        go_wp2_with fail
        go_region_held3 (fun m=>m.cell? ⟨K,0,none⟩=some (.bool Z)∧m.cell? ⟨K,1,none⟩=some (.slice H n1 c1)∧m.cell? ⟨K,2,none⟩=some (.bool b2)∧m.cell? ⟨K,3,none⟩=some (.slice I n2 c2)∧m.cell? ⟨K,4,none⟩=some (.bool b3)∧m.cell? ⟨K,5,none⟩=some (.slice J n3 c3)∧m.cell? ⟨K,6,none⟩=some (.int .i64 r.v.d)∧m.cell? ⟨o,0,none⟩=some (.bool b4)∧m.cell? ⟨o,1,none⟩=some (.slice T n4 c4)∧m.cell? ⟨o,2,none⟩=some (.bool b5)∧m.cell? ⟨o,3,none⟩=some (.slice U n5 c5)∧m.cell? ⟨o,4,none⟩=some (.bool b6)∧m.cell? ⟨o,5,none⟩=some (.slice V n6 c6)∧m.cell? ⟨o,6,none⟩=some (.int .i64 n.v.d))
         (first | (go_keep;done) | (simp[ae,ao];done) | (simp[M,N];done) | (have j:=(ot7 (A:=w.heap.size) (.bool t) (.slice a u x) (.bool y) (.slice b z B) (.bool C) (.slice g D E) (.int .i64 (comb c r.v n.v).1.d) O (by omega));have l:=(ot7 (A:=w.heap.size) (.bool t) (.slice a u x) (.bool y) (.slice b z B) (.bool C) (.slice g D E) (.int .i64 (comb c r.v n.v).1.d) P (by omega));exact⟨j.cell 0,j.cell 1,j.cell 2,j.cell 3,j.cell 4,j.cell 5,j.cell 6,l.cell 0,l.cell 1,l.cell 2,l.cell 3,l.cell 4,l.cell 5,l.cell 6⟩))
         ((first
          | (go_at_call 76;refine(hW.out _ (Kp.drew' (Below.refl _ _))).mono ?_;rintro e w5 ⟨v5,rfl,Q,F⟩;obtain⟨t,a,u,x,y,b,z,B,C,g,D,E,rfl,_,_,_⟩:=id Q;have O:=BX.keep (Kp.trans' (Kp.drew' (Below.refl _ _)) F);have P:=BY.keep (Kp.trans' (Kp.drew' (Below.refl _ _)) F);have G:=S.keep (Kp.trans' (Kp.drew' (Below.refl _ _)) F);have M:=O.cell;have N:=P.cell;have R:=G.cell;have ag:=G.frozen;have ah:=G.lt)))
        all_goals go_wp2_with fail
        refine bodyPost_ret (v:=.tuple #[.agg #[.bool t,.slice a u x,.bool y,.slice b z B,.bool C,.slice g D E,.int .i64 (comb c r.v n.v).1.d],.int .i64 0,.int .i64 0]) (by simp[results,Tryz.results45,go_sem,R]) rfl ?_;rw[HR.out];exact⟨_,_,rfl,Q.soft (sf7 (.bool t) (.slice a u x) (.bool y) (.slice b z B) (.bool C) (.slice g D E) (.int .i64 (comb c r.v n.v).1.d) G (by decide)),fun _=>rfl,(kp7 (A:=w.heap.size) (.bool t) (.slice a u x) (.bool y) (.slice b z B) (.bool C) (.slice g D E) (.int .i64 (comb c r.v n.v).1.d) (L.trans' (Kp.trans' (Kp.drew' (Below.refl _ _)) F)) (Nat.le_refl _))⟩
       ·clear W
        go_wp2_with fail
        go_region_held3 (fun m=>m.cell? ⟨K,0,none⟩=some (.bool Z)∧m.cell? ⟨K,1,none⟩=some (.slice H n1 c1)∧m.cell? ⟨K,2,none⟩=some (.bool b2)∧m.cell? ⟨K,3,none⟩=some (.slice I n2 c2)∧m.cell? ⟨K,4,none⟩=some (.bool b3)∧m.cell? ⟨K,5,none⟩=some (.slice J n3 c3)∧m.cell? ⟨K,6,none⟩=some (.int .i64 r.v.d)∧m.cell? ⟨o,0,none⟩=some (.bool b4)∧m.cell? ⟨o,1,none⟩=some (.slice T n4 c4)∧m.cell? ⟨o,2,none⟩=some (.bool b5)∧m.cell? ⟨o,3,none⟩=some (.slice U n5 c5)∧m.cell? ⟨o,4,none⟩=some (.bool b6)∧m.cell? ⟨o,5,none⟩=some (.slice V n6 c6)∧m.cell? ⟨o,6,none⟩=some (.int .i64 n.v.d))
         (first | (go_keep;done) | (simp[ae,ao];done) | (simp[M,N];done) | (have j:=(ot7 (A:=w.heap.size) (.bool t) (.slice a u x) (.bool y) (.slice b z B) (.bool C) (.slice g D E) (.int .i64 (comb c r.v n.v).1.d) O (by omega));have l:=(ot7 (A:=w.heap.size) (.bool t) (.slice a u x) (.bool y) (.slice b z B) (.bool C) (.slice g D E) (.int .i64 (comb c r.v n.v).1.d) P (by omega));exact⟨j.cell 0,j.cell 1,j.cell 2,j.cell 3,j.cell 4,j.cell 5,j.cell 6,l.cell 0,l.cell 1,l.cell 2,l.cell 3,l.cell 4,l.cell 5,l.cell 6⟩))
         ((first
          | (go_at_call 76;refine(hW.out _ (Kp.drew' (Below.refl _ _))).mono ?_;rintro e w5 ⟨v5,rfl,Q,F⟩;obtain⟨t,a,u,x,y,b,z,B,C,g,D,E,rfl,_,_,_⟩:=id Q;have O:=BX.keep (Kp.trans' (Kp.drew' (Below.refl _ _)) F);have P:=BY.keep (Kp.trans' (Kp.drew' (Below.refl _ _)) F);have G:=S.keep (Kp.trans' (Kp.drew' (Below.refl _ _)) F);have M:=O.cell;have N:=P.cell;have R:=G.cell;have ag:=G.frozen;have ah:=G.lt)))
        all_goals go_wp2_with fail
        refine bodyPost_ret (v:=.tuple #[.agg #[.bool t,.slice a u x,.bool y,.slice b z B,.bool C,.slice g D E,.int .i64 (comb c r.v n.v).1.d],.int .i64 0,.int .i64 0]) (by simp[results,Tryz.results45,go_sem,R]) rfl ?_;rw[HR.out];exact⟨_,_,rfl,Q.soft (sf7 (.bool t) (.slice a u x) (.bool y) (.slice b z B) (.bool C) (.slice g D E) (.int .i64 (comb c r.v n.v).1.d) G (by decide)),fun _=>rfl,(kp7 (A:=w.heap.size) (.bool t) (.slice a u x) (.bool y) (.slice b z B) (.bool C) (.slice g D E) (.int .i64 (comb c r.v n.v).1.d) (L.trans' (Kp.trans' (Kp.drew' (Below.refl _ _)) F)) (Nat.le_refl _))⟩
      ·clear W
       go_wp2_with fail
       go_region_held3 (fun m=>m.cell? ⟨K,0,none⟩=some (.bool Z)∧m.cell? ⟨K,1,none⟩=some (.slice H n1 c1)∧m.cell? ⟨K,2,none⟩=some (.bool b2)∧m.cell? ⟨K,3,none⟩=some (.slice I n2 c2)∧m.cell? ⟨K,4,none⟩=some (.bool b3)∧m.cell? ⟨K,5,none⟩=some (.slice J n3 c3)∧m.cell? ⟨K,6,none⟩=some (.int .i64 r.v.d)∧m.cell? ⟨o,0,none⟩=some (.bool b4)∧m.cell? ⟨o,1,none⟩=some (.slice T n4 c4)∧m.cell? ⟨o,2,none⟩=some (.bool b5)∧m.cell? ⟨o,3,none⟩=some (.slice U n5 c5)∧m.cell? ⟨o,4,none⟩=some (.bool b6)∧m.cell? ⟨o,5,none⟩=some (.slice V n6 c6)∧m.cell? ⟨o,6,none⟩=some (.int .i64 n.v.d))
        (first | (go_keep;done) | (simp[ae,ao];done) | (simp[M,N];done) | (have j:=(ot7 (A:=w.heap.size) (.bool t) (.slice a u x) (.bool y) (.slice b z B) (.bool C) (.slice g D E) (.int .i64 (comb c r.v n.v).1.d) O (by omega));have l:=(ot7 (A:=w.heap.size) (.bool t) (.slice a u x) (.bool y) (.slice b z B) (.bool C) (.slice g D E) (.int .i64 (comb c r.v n.v).1.d) P (by omega));exact⟨j.cell 0,j.cell 1,j.cell 2,j.cell 3,j.cell 4,j.cell 5,j.cell 6,l.cell 0,l.cell 1,l.cell 2,l.cell 3,l.cell 4,l.cell 5,l.cell 6⟩))
        ((first
         | (go_at_call 76;refine(hW.out _ (Kp.drew' (Below.refl _ _))).mono ?_;rintro e w5 ⟨v5,rfl,Q,F⟩;obtain⟨t,a,u,x,y,b,z,B,C,g,D,E,rfl,_,_,_⟩:=id Q;have O:=BX.keep (Kp.trans' (Kp.drew' (Below.refl _ _)) F);have P:=BY.keep (Kp.trans' (Kp.drew' (Below.refl _ _)) F);have G:=S.keep (Kp.trans' (Kp.drew' (Below.refl _ _)) F);have M:=O.cell;have N:=P.cell;have R:=G.cell;have ag:=G.frozen;have ah:=G.lt)))
       all_goals go_wp2_with fail
       refine bodyPost_ret (v:=.tuple #[.agg #[.bool t,.slice a u x,.bool y,.slice b z B,.bool C,.slice g D E,.int .i64 (comb c r.v n.v).1.d],.int .i64 0,.int .i64 0]) (by simp[results,Tryz.results45,go_sem,R]) rfl ?_;rw[HR.out];exact⟨_,_,rfl,Q.soft (sf7 (.bool t) (.slice a u x) (.bool y) (.slice b z B) (.bool C) (.slice g D E) (.int .i64 (comb c r.v n.v).1.d) G (by decide)),fun _=>rfl,(kp7 (A:=w.heap.size) (.bool t) (.slice a u x) (.bool y) (.slice b z B) (.bool C) (.slice g D E) (.int .i64 (comb c r.v n.v).1.d) (L.trans' (Kp.trans' (Kp.drew' (Below.refl _ _)) F)) (Nat.le_refl _))⟩
  ·have x2:(n.e != 0)=true:=by simp[an]
   have HR:Hid (opR c (p+i) r n=⟨r.v,n.e,n.k⟩):=by
    unfold Hid opR;rw[if_neg (by omega),if_pos an]
   go_wp2_with fail
   refine bodyPost_ret (v:=.tuple #[.agg #[.bool b4,.slice T n4 c4,.bool b5,.slice U n5 c5,.bool b6,.slice V n6 c6,.int .i64 a2.d],.int .i64 n.e,.int .i64 n.k]) (by simp[results,Tryz.results45,go_sem,X,ad]) rfl ?_;rw[HR.out];exact⟨_,_,rfl,al.soft (Sf.alloc (sf7 (.bool b4) (.slice T n4 c4) (.bool b5) (.slice U n5 c5) (.bool b6) (.slice V n6 c6) (.int .i64 a2.d) S (by decide)) (.cells #[.bool b4,.slice T n4 c4,.bool b5,.slice U n5 c5,.bool b6,.slice V n6 c6,.int .i64 a2.d] 54)),fun h=>absurd h an,(Kp.alloc' (kp7 (A:=w.heap.size) (.bool b4) (.slice T n4 c4) (.bool b5) (.slice U n5 c5) (.bool b6) (.slice V n6 c6) (.int .i64 a2.d) L (Nat.le_refl _)) (.cells #[.bool b4,.slice T n4 c4,.bool b5,.slice U n5 c5,.bool b6,.slice V n6 c6,.int .i64 a2.d] 54))⟩
 ·have x1:(r.e != 0)=true:=by simp[ak]
  have HR:Hid (opR c (p+i) r n=r):=by
   unfold Hid opR;rw[if_pos ak]
  go_wp2_with fail
  refine bodyPost_ret (v:=.tuple #[.agg #[.bool Z,.slice H n1 c1,.bool b2,.slice I n2 c2,.bool b3,.slice J n3 c3,.int .i64 a1.d],.int .i64 r.e,.int .i64 r.k]) (by simp[results,Tryz.results45,go_sem,X,ad]) rfl ?_;rw[HR.out];exact⟨_,_,rfl,aa.soft (Sf.alloc (sf7 (.bool Z) (.slice H n1 c1) (.bool b2) (.slice I n2 c2) (.bool b3) (.slice J n3 c3) (.int .i64 a1.d) S (by decide)) (.cells #[.bool Z,.slice H n1 c1,.bool b2,.slice I n2 c2,.bool b3,.slice J n3 c3,.int .i64 a1.d] 54)),fun h=>absurd h ak,(Kp.alloc' (kp7 (A:=w.heap.size) (.bool Z) (.slice H n1 c1) (.bool b2) (.slice I n2 c2) (.bool b3) (.slice J n3 c3) (.int .i64 a1.d) L (Nat.le_refl _)) (.cells #[.bool Z,.slice H n1 c1,.bool b2,.slice I n2 c2,.bool b3,.slice J n3 c3,.int .i64 a1.d] 54))⟩
end Go.Proofs.YtjahbjjekednfaaGreatDoor
