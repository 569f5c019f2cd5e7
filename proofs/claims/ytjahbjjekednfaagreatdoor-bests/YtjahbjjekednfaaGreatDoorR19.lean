import Derived.Test.YtjahbjjekednfaaGreatDoorR18
import Derived.Test.YtjahbjjekednfaaGreatDoorQ2
import Derived.Test.YtjahbjjekednfaaGreatDoorP5
namespace Go.Proofs.YtjahbjjekednfaaGreatDoor
set_option maxHeartbeats 6400000
set_option maxRecDepth 100000
section
open Go.RowKit
theorem value_m (s:ByteArray) (p i:Nat) (c:Int) (r n:Rs) (w:World) (az:1≤s.size) (hs:s.size≤100) (hp:p≤1000) (hi:i<s.size) (aD:lst (bl s) 43 45 (s.size - 1) 0 = -1) (hl:lst (bl s) 42 47 (s.size - 1) 0=(i:Int)) (av:c=43∨c=45∨c=42∨c=47) (aE:byteAt s i=c)
  (H1:∀ w,Calls Tryz.prog 45 #[.string (s.extract 0 i),.int .i64 p] w (RetV3 w r)) (H2:∀ w,Calls Tryz.prog 45 #[.string (s.extract (i+1) s.size),.int .i64 ((p:Int)+i+1)] w (RetV3 w n))
  (q1:RsOk 9000000 r) (q2:RsOk 9000000 n) :
  Calls Tryz.prog 45 #[.string s,.int .i64 p] w (RetV3 w (opR c (p+i) r n)):=by
 have hb:=byteAt_eq s i hi;rw[aE] at hb;have aN:(i:Int)<(s.size:Int):=by omega
 have aO:(0:Int)≤(i:Int):=by omega
 have aP:(i:Int)+1≤(s.size:Int):=by omega
 go_enter Tryz.func45,Tryz.ntmps45
 go_wp2_with fail
 refine(last_any s 43 45 _ az (by omega)).mono ?_;rintro e w0 ⟨rfl,aw⟩;rw[aD]
 go_wp2_with fail
 refine(last_any s 42 47 _ az (by omega)).mono ?_;rintro e w1 ⟨rfl,ax⟩;rw[hl];have L:=((kp_alloc w (.cells #[.bool false,.slice none 0 0,.bool false,.slice none 0 0,.bool false,.slice none 0 0,.int .i64 0] 54)).trans' aw).trans' ax;have S:=Blk.keep ax (Blk.keep aw (Blk.new w _ _));clear ax aw;have ad:=S.lt;have X:=S.cell;have aj:=S.frozen
 go_wp2_with fail
 refine(H1 _).mono ?_;rintro e w2 ⟨v1,a1,rfl,aa,aA,au⟩;obtain⟨Z,H,n1,c1,b2,I,n2,c2,b3,J,n3,c3,rfl,x1,x2,x3⟩:=id aa;clear x1 x2 x3;replace S:=S.keep au;replace L:=L.trans' au;have aJ:=au.size;clear au ad X aj;have ad:=S.lt;have X:=S.cell;have aj:=S.frozen;have aF:=Hid.mk aA;clear aA;by_cases ak:r.e=0
 ·have x1:(r.e != 0)=false:=by simp[ak]
  go_wp2_with fail
  have aq:=kp_alloc w2 (.cells #[.bool Z,.slice H n1 c1,.bool b2,.slice I n2 c2,.bool b3,.slice J n3 c3,.int .i64 a1.d] 54);refine(H2 _).mono ?_;rintro e w3 ⟨v2,a2,rfl,al,aB,am⟩;obtain⟨b4,T,n4,c4,b5,U,n5,c5,b6,V,n6,c6,rfl,x4,x5,x6⟩:=id al;clear x4 x5 x6;have BX:Blk w3 w2.heap.size #[.bool Z,.slice H n1 c1,.bool b2,.slice I n2 c2,.bool b3,.slice J n3 c3,.int .i64 a1.d] 54:=Blk.keep am (Blk.new w2 _ _);have aQ:=S.lt;replace S:=(S.keep aq).keep am;replace L:=(L.trans' aq).trans' am;replace aa:=(aa.keep aq).keep am;have aK:=am.size;have aL:=aq.size;clear aq am ad X aj;generalize hbx:w2.heap.size=K at *;have ad:=S.lt;have X:=S.cell;have aj:=S.frozen;have aC:=BX.lt;have ae:=BX.cell;have aG:=Hid.mk aB;clear aB;by_cases an:n.e=0
  ·have x2:(n.e != 0)=false:=by simp[an]
   go_wp2_with fail
   have ai:=kp_alloc w3 (.cells #[.bool b4,.slice T n4 c4,.bool b5,.slice U n5 c5,.bool b6,.slice V n6 c6,.int .i64 a2.d] 54);refine(zero_ref a2 _ _ (al.keep ai)).mono ?_;rintro e w4 ⟨rfl,af⟩;have BY:Blk w4 w3.heap.size #[.bool b4,.slice T n4 c4,.bool b5,.slice U n5 c5,.bool b6,.slice V n6 c6,.int .i64 a2.d] 54:=Blk.keep af (Blk.new w3 _ _);replace BX:=(BX.keep ai).keep af;have aR:=S.lt;replace S:=(S.keep ai).keep af;replace L:=(L.trans' ai).trans' af;replace aa:=(aa.keep ai).keep af;replace al:=(al.keep ai).keep af;have aM:=af.size;clear ai af ad X aj aC ae;generalize hby:w3.heap.size=o at *;have ad:=S.lt;have X:=S.cell;have aj:=S.frozen;have aC:=BX.lt;have ae:=BX.cell;have aS:=BY.lt;have ao:=BY.cell;have aH:=aF.out ak;have aI:=aG.out an;subst aH;subst aI;have oa:=q1.q ak;have ob:=q2.q an;have ap:opR c (p+i) r n=⟨(comb c r.v n.v).1,(comb c r.v n.v).2,if (comb c r.v n.v).2=0 then 0 else ((p+i:Nat):Int)⟩:=by
    unfold opR;rw[if_neg (by omega),if_neg (by omega)]
   have fa:=q1.f;have fb:=q2.f;have HQ:=Hid.mk (And.intro oa ob);have ar:=qroot_zero oa ob;have ay:decide (n.v.p=0∧n.v.q=0)=decide (n.v.p=0∧n.v.q=0):=rfl;have a0:=oa.d0;have b0:=ob.d0;by_cases hA:c=47∧(n.v.p=0∧n.v.q=0)
   ·have ac:comb c r.v n.v=(qzero,3):=by
     unfold comb qdiv;rw[if_neg (by omega),if_neg (by omega),if_neg (by omega),if_pos hA.2]
    have HR:Hid (opR c (p+i) r n=⟨qzero,3,(p:Int)+i⟩):=by
     unfold Hid;rw[ap,ac];simp
    rw[decide_eq_true hA.2];have y1:(c == 47)=true:=by simp[hA.1]
    clear ap ac hA ar ay
    go_wp2_with fail
    refine bodyPost_ret (v:=.tuple #[.agg #[.bool Z,.slice H n1 c1,.bool b2,.slice I n2 c2,.bool b3,.slice J n3 c3,.int .i64 r.v.d],.int .i64 3,.int .i64 ((p:Int)+i)]) (by simp[results,Tryz.results45,go_sem,X]) rfl ?_;rw[HR.out];exact⟨_,_,rfl,aa.soft (sf7 (.bool Z) (.slice H n1 c1) (.bool b2) (.slice I n2 c2) (.bool b3) (.slice J n3 c3) (.int .i64 r.v.d) S (by decide)),fun h=>by simp at h,(kp7 (A:=w.heap.size) (.bool Z) (.slice H n1 c1) (.bool b2) (.slice I n2 c2) (.bool b3) (.slice J n3 c3) (.int .i64 r.v.d) L (Nat.le_refl _))⟩
   ·by_cases hB:qroot r.v.d n.v.d=0
    ·have ac:(comb c r.v n.v).2=4:=by
      by_cases hz:(comb c r.v n.v).2=0
      ·exact absurd hB (comb_root oa ob hz)
      ·exact comb_four av hz hA
     have HR:Hid ((opR c (p+i) r n).e=4∧(opR c (p+i) r n).k=(p:Int)+i):=by
      unfold Hid;rw[ap];exact⟨ac,by simp only;rw[if_neg (by omega)];push_cast;rfl⟩
     obtain⟨g1,g2,g3⟩:=ar.mp hB;have y3:(r.v.d != n.v.d)=true:=by simp[g3]
     clear ap ac ar ay hB g3;by_cases Y:c=47
     ·have y1:(c == 47)=true:=by simp[Y]
      have y2:decide (n.v.p=0∧n.v.q=0)=false:=decide_eq_false (fun h=>hA ⟨Y,h⟩);rw[y2];clear hA Y y2
      go_wp2_with fail
      refine bodyPost_ret (v:=.tuple #[.agg #[.bool Z,.slice H n1 c1,.bool b2,.slice I n2 c2,.bool b3,.slice J n3 c3,.int .i64 r.v.d],.int .i64 4,.int .i64 ((p:Int)+i)]) (by simp[results,Tryz.results45,go_sem,X]) rfl ?_;unfold RetV3;rw[HR.out.1,HR.out.2];exact⟨_,_,rfl,aa.soft (sf7 (.bool Z) (.slice H n1 c1) (.bool b2) (.slice I n2 c2) (.bool b3) (.slice J n3 c3) (.int .i64 r.v.d) S (by decide)),fun h=>absurd h (by decide),(kp7 (A:=w.heap.size) (.bool Z) (.slice H n1 c1) (.bool b2) (.slice I n2 c2) (.bool b3) (.slice J n3 c3) (.int .i64 r.v.d) L (Nat.le_refl _))⟩
     ·have y1:(c == 47)=false:=by simp[Y]
      clear hA Y
      go_wp2_with fail
      refine bodyPost_ret (v:=.tuple #[.agg #[.bool Z,.slice H n1 c1,.bool b2,.slice I n2 c2,.bool b3,.slice J n3 c3,.int .i64 r.v.d],.int .i64 4,.int .i64 ((p:Int)+i)]) (by simp[results,Tryz.results45,go_sem,X]) rfl ?_;unfold RetV3;rw[HR.out.1,HR.out.2];exact⟨_,_,rfl,aa.soft (sf7 (.bool Z) (.slice H n1 c1) (.bool b2) (.slice I n2 c2) (.bool b3) (.slice J n3 c3) (.int .i64 r.v.d) S (by decide)),fun h=>absurd h (by decide),(kp7 (A:=w.heap.size) (.bool Z) (.slice H n1 c1) (.bool b2) (.slice I n2 c2) (.bool b3) (.slice J n3 c3) (.int .i64 r.v.d) L (Nat.le_refl _))⟩
    ·have ac:(comb c r.v n.v).2=0:=by
      by_cases hz:(comb c r.v n.v).2=0
      ·exact hz
      ·exact absurd (comb_root4 oa ob av hz hA) hB
     have HR:Hid (opR c (p+i) r n=⟨(comb c r.v n.v).1,0,0⟩):=by
      unfold Hid;rw[ap,ac,if_pos rfl]
     have W:¬ (1<r.v.d∧1<n.v.d∧r.v.d≠n.v.d):=fun h=>hB (ar.mpr h);clear ap ar ay hB;have hW:=Hid.mk (fun m hk=>worked_any c r.v n.v 9000000 _ _ m (aa.keep hk) (al.keep hk) oa ob (by decide) fa fb av ac);clear oa ob fa fb ac;by_cases Y:c=47
     ·have y1:(c == 47)=true:=by simp[Y]
      have y2:decide (n.v.p=0∧n.v.q=0)=false:=decide_eq_false (fun h=>hA ⟨Y,h⟩);rw[y2];clear hA Y y2;by_cases g1:1<r.v.d
      ·by_cases g2:1<n.v.d
       ·have y3:(r.v.d != n.v.d)=false:=by
         have:r.v.d=n.v.d:=by
          by_cases h:r.v.d=n.v.d
          ·exact h
          ·exact absurd ⟨g1,g2,h⟩ W
         simp[this]
        clear W
        go_wp2_with fail
        go_region_held3 (fun m=>m.cell? ⟨K,0,none⟩=some (.bool Z)∧m.cell? ⟨K,1,none⟩=some (.slice H n1 c1)∧m.cell? ⟨K,2,none⟩=some (.bool b2)∧m.cell? ⟨K,3,none⟩=some (.slice I n2 c2)∧m.cell? ⟨K,4,none⟩=some (.bool b3)∧m.cell? ⟨K,5,none⟩=some (.slice J n3 c3)∧m.cell? ⟨K,6,none⟩=some (.int .i64 r.v.d)∧m.cell? ⟨o,0,none⟩=some (.bool b4)∧m.cell? ⟨o,1,none⟩=some (.slice T n4 c4)∧m.cell? ⟨o,2,none⟩=some (.bool b5)∧m.cell? ⟨o,3,none⟩=some (.slice U n5 c5)∧m.cell? ⟨o,4,none⟩=some (.bool b6)∧m.cell? ⟨o,5,none⟩=some (.slice V n6 c6)∧m.cell? ⟨o,6,none⟩=some (.int .i64 n.v.d))
         (first | (go_keep;done) | (simp[ae,ao];done) | (simp[M,N];done) | (have j:=(ot7 (A:=w.heap.size) (.bool t) (.slice a u x) (.bool y) (.slice b z B) (.bool C) (.slice g D E) (.int .i64 (comb c r.v n.v).1.d) O (by omega));have l:=(ot7 (A:=w.heap.size) (.bool t) (.slice a u x) (.bool y) (.slice b z B) (.bool C) (.slice g D E) (.int .i64 (comb c r.v n.v).1.d) P (by omega));exact⟨j.cell 0,j.cell 1,j.cell 2,j.cell 3,j.cell 4,j.cell 5,j.cell 6,l.cell 0,l.cell 1,l.cell 2,l.cell 3,l.cell 4,l.cell 5,l.cell 6⟩))
         ((first
          | (go_at_call 76;refine(hW.out _ (Kp.drew' (Below.refl _ _))).mono ?_;rintro e w5 ⟨v5,rfl,Q,F⟩;obtain⟨t,a,u,x,y,b,z,B,C,g,D,E,rfl,_,_,_⟩:=id Q;have O:=BX.keep (Kp.trans' (Kp.drew' (Below.refl _ _)) F);have P:=BY.keep (Kp.trans' (Kp.drew' (Below.refl _ _)) F);have G:=S.keep (Kp.trans' (Kp.drew' (Below.refl _ _)) F);have M:=O.cell;have N:=P.cell;have R:=G.cell;have ag:=G.frozen;have ah:=G.lt)))
        all_goals go_wp2_with fail
        refine bodyPost_ret (v:=.tuple #[.agg #[.bool t,.slice a u x,.bool y,.slice b z B,.bool C,.slice g D E,.int .i64 (comb c r.v n.v).1.d],.int .i64 0,.int .i64 0]) (by simp[results,Tryz.results45,go_sem,R]) rfl ?_;rw[HR.out];exact⟨_,_,rfl,Q.soft (sf7 (.bool t) (.slice a u x) (.bool y) (.slice b z B) (.bool C) (.slice g D E) (.int .i64 (comb c r.v n.v).1.d) G (by decide)),fun _=>rfl,(kp7 (A:=w.heap.size) (.bool t) (.slice a u x) (.bool y) (.slice b z B) (.bool C) (.slice g D E) (.int .i64 (comb c r.v n.v).1.d) (L.trans' (Kp.trans' (Kp.drew' (Below.refl _ _)) F)) (Nat.le_refl _))⟩
       ·clear W
        go_wp2_with fail
        go_region_held3 (fun m=>m.cell? ⟨K,0,none⟩=some (.bool Z)∧m.cell? ⟨K,1,none⟩=some (.slice H n1 c1)∧m.cell? ⟨K,2,none⟩=some (.bool b2)∧m.cell? ⟨K,3,none⟩=some (.slice I n2 c2)∧m.cell? ⟨K,4,none⟩=some (.bool b3)∧m.cell? ⟨K,5,none⟩=some (.slice J n3 c3)∧m.cell? ⟨K,6,none⟩=some (.int .i64 r.v.d)∧m.cell? ⟨o,0,none⟩=some (.bool b4)∧m.cell? ⟨o,1,none⟩=some (.slice T n4 c4)∧m.cell? ⟨o,2,none⟩=some (.bool b5)∧m.cell? ⟨o,3,none⟩=some (.slice U n5 c5)∧m.cell? ⟨o,4,none⟩=some (.bool b6)∧m.cell? ⟨o,5,none⟩=some (.slice V n6 c6)∧m.cell? ⟨o,6,none⟩=some (.int .i64 n.v.d))
         (first | (go_keep;done) | (simp[ae,ao];done) | (simp[M,N];done) | (have j:=(ot7 (A:=w.heap.size) (.bool t) (.slice a u x) (.bool y) (.slice b z B) (.bool C) (.slice g D E) (.int .i64 (comb c r.v n.v).1.d) O (by omega));have l:=(ot7 (A:=w.heap.size) (.bool t) (.slice a u x) (.bool y) (.slice b z B) (.bool C) (.slice g D E) (.int .i64 (comb c r.v n.v).1.d) P (by omega));exact⟨j.cell 0,j.cell 1,j.cell 2,j.cell 3,j.cell 4,j.cell 5,j.cell 6,l.cell 0,l.cell 1,l.cell 2,l.cell 3,l.cell 4,l.cell 5,l.cell 6⟩))
         ((first
          | (go_at_call 76;refine(hW.out _ (Kp.drew' (Below.refl _ _))).mono ?_;rintro e w5 ⟨v5,rfl,Q,F⟩;obtain⟨t,a,u,x,y,b,z,B,C,g,D,E,rfl,_,_,_⟩:=id Q;have O:=BX.keep (Kp.trans' (Kp.drew' (Below.refl _ _)) F);have P:=BY.keep (Kp.trans' (Kp.drew' (Below.refl _ _)) F);have G:=S.keep (Kp.trans' (Kp.drew' (Below.refl _ _)) F);have M:=O.cell;have N:=P.cell;have R:=G.cell;have ag:=G.frozen;have ah:=G.lt)))
        all_goals go_wp2_with fail
        refine bodyPost_ret (v:=.tuple #[.agg #[.bool t,.slice a u x,.bool y,.slice b z B,.bool C,.slice g D E,.int .i64 (comb c r.v n.v).1.d],.int .i64 0,.int .i64 0]) (by simp[results,Tryz.results45,go_sem,R]) rfl ?_;rw[HR.out];exact⟨_,_,rfl,Q.soft (sf7 (.bool t) (.slice a u x) (.bool y) (.slice b z B) (.bool C) (.slice g D E) (.int .i64 (comb c r.v n.v).1.d) G (by decide)),fun _=>rfl,(kp7 (A:=w.heap.size) (.bool t) (.slice a u x) (.bool y) (.slice b z B) (.bool C) (.slice g D E) (.int .i64 (comb c r.v n.v).1.d) (L.trans' (Kp.trans' (Kp.drew' (Below.refl _ _)) F)) (Nat.le_refl _))⟩
      ·clear W
       go_wp2_with fail
       go_region_held3 (fun m=>m.cell? ⟨K,0,none⟩=some (.bool Z)∧m.cell? ⟨K,1,none⟩=some (.slice H n1 c1)∧m.cell? ⟨K,2,none⟩=some (.bool b2)∧m.cell? ⟨K,3,none⟩=some (.slice I n2 c2)∧m.cell? ⟨K,4,none⟩=some (.bool b3)∧m.cell? ⟨K,5,none⟩=some (.slice J n3 c3)∧m.cell? ⟨K,6,none⟩=some (.int .i64 r.v.d)∧m.cell? ⟨o,0,none⟩=some (.bool b4)∧m.cell? ⟨o,1,none⟩=some (.slice T n4 c4)∧m.cell? ⟨o,2,none⟩=some (.bool b5)∧m.cell? ⟨o,3,none⟩=some (.slice U n5 c5)∧m.cell? ⟨o,4,none⟩=some (.bool b6)∧m.cell? ⟨o,5,none⟩=some (.slice V n6 c6)∧m.cell? ⟨o,6,none⟩=some (.int .i64 n.v.d))
        (first | (go_keep;done) | (simp[ae,ao];done) | (simp[M,N];done) | (have j:=(ot7 (A:=w.heap.size) (.bool t) (.slice a u x) (.bool y) (.slice b z B) (.bool C) (.slice g D E) (.int .i64 (comb c r.v n.v).1.d) O (by omega));have l:=(ot7 (A:=w.heap.size) (.bool t) (.slice a u x) (.bool y) (.slice b z B) (.bool C) (.slice g D E) (.int .i64 (comb c r.v n.v).1.d) P (by omega));exact⟨j.cell 0,j.cell 1,j.cell 2,j.cell 3,j.cell 4,j.cell 5,j.cell 6,l.cell 0,l.cell 1,l.cell 2,l.cell 3,l.cell 4,l.cell 5,l.cell 6⟩))
        ((first
         | (go_at_call 76;refine(hW.out _ (Kp.drew' (Below.refl _ _))).mono ?_;rintro e w5 ⟨v5,rfl,Q,F⟩;obtain⟨t,a,u,x,y,b,z,B,C,g,D,E,rfl,_,_,_⟩:=id Q;have O:=BX.keep (Kp.trans' (Kp.drew' (Below.refl _ _)) F);have P:=BY.keep (Kp.trans' (Kp.drew' (Below.refl _ _)) F);have G:=S.keep (Kp.trans' (Kp.drew' (Below.refl _ _)) F);have M:=O.cell;have N:=P.cell;have R:=G.cell;have ag:=G.frozen;have ah:=G.lt)))
       all_goals go_wp2_with fail
       refine bodyPost_ret (v:=.tuple #[.agg #[.bool t,.slice a u x,.bool y,.slice b z B,.bool C,.slice g D E,.int .i64 (comb c r.v n.v).1.d],.int .i64 0,.int .i64 0]) (by simp[results,Tryz.results45,go_sem,R]) rfl ?_;rw[HR.out];exact⟨_,_,rfl,Q.soft (sf7 (.bool t) (.slice a u x) (.bool y) (.slice b z B) (.bool C) (.slice g D E) (.int .i64 (comb c r.v n.v).1.d) G (by decide)),fun _=>rfl,(kp7 (A:=w.heap.size) (.bool t) (.slice a u x) (.bool y) (.slice b z B) (.bool C) (.slice g D E) (.int .i64 (comb c r.v n.v).1.d) (L.trans' (Kp.trans' (Kp.drew' (Below.refl _ _)) F)) (Nat.le_refl _))⟩
     ·have y1:(c == 47)=false:=by simp[Y]
      generalize decide (n.v.p=0∧n.v.q=0)=zz at *;clear hA Y;by_cases g1:1<r.v.d
      ·by_cases g2:1<n.v.d
       ·have y3:(r.v.d != n.v.d)=false:=by
         have:r.v.d=n.v.d:=by
          by_cases h:r.v.d=n.v.d
          ·exact h
          ·exact absurd ⟨g1,g2,h⟩ W
         simp[this]
        clear W
        go_wp2_with fail
        go_region_held3 (fun m=>m.cell? ⟨K,0,none⟩=some (.bool Z)∧m.cell? ⟨K,1,none⟩=some (.slice H n1 c1)∧m.cell? ⟨K,2,none⟩=some (.bool b2)∧m.cell? ⟨K,3,none⟩=some (.slice I n2 c2)∧m.cell? ⟨K,4,none⟩=some (.bool b3)∧m.cell? ⟨K,5,none⟩=some (.slice J n3 c3)∧m.cell? ⟨K,6,none⟩=some (.int .i64 r.v.d)∧m.cell? ⟨o,0,none⟩=some (.bool b4)∧m.cell? ⟨o,1,none⟩=some (.slice T n4 c4)∧m.cell? ⟨o,2,none⟩=some (.bool b5)∧m.cell? ⟨o,3,none⟩=some (.slice U n5 c5)∧m.cell? ⟨o,4,none⟩=some (.bool b6)∧m.cell? ⟨o,5,none⟩=some (.slice V n6 c6)∧m.cell? ⟨o,6,none⟩=some (.int .i64 n.v.d))
         (first | (go_keep;done) | (simp[ae,ao];done) | (simp[M,N];done) | (have j:=(ot7 (A:=w.heap.size) (.bool t) (.slice a u x) (.bool y) (.slice b z B) (.bool C) (.slice g D E) (.int .i64 (comb c r.v n.v).1.d) O (by omega));have l:=(ot7 (A:=w.heap.size) (.bool t) (.slice a u x) (.bool y) (.slice b z B) (.bool C) (.slice g D E) (.int .i64 (comb c r.v n.v).1.d) P (by omega));exact⟨j.cell 0,j.cell 1,j.cell 2,j.cell 3,j.cell 4,j.cell 5,j.cell 6,l.cell 0,l.cell 1,l.cell 2,l.cell 3,l.cell 4,l.cell 5,l.cell 6⟩))
         ((first
          | (go_at_call 76;refine(hW.out _ (Kp.drew' (Below.refl _ _))).mono ?_;rintro e w5 ⟨v5,rfl,Q,F⟩;obtain⟨t,a,u,x,y,b,z,B,C,g,D,E,rfl,_,_,_⟩:=id Q;have O:=BX.keep (Kp.trans' (Kp.drew' (Below.refl _ _)) F);have P:=BY.keep (Kp.trans' (Kp.drew' (Below.refl _ _)) F);have G:=S.keep (Kp.trans' (Kp.drew' (Below.refl _ _)) F);have M:=O.cell;have N:=P.cell;have R:=G.cell;have ag:=G.frozen;have ah:=G.lt)))
        all_goals go_wp2_with fail
        refine bodyPost_ret (v:=.tuple #[.agg #[.bool t,.slice a u x,.bool y,.slice b z B,.bool C,.slice g D E,.int .i64 (comb c r.v n.v).1.d],.int .i64 0,.int .i64 0]) (by simp[results,Tryz.results45,go_sem,R]) rfl ?_;rw[HR.out];exact⟨_,_,rfl,Q.soft (sf7 (.bool t) (.slice a u x) (.bool y) (.slice b z B) (.bool C) (.slice g D E) (.int .i64 (comb c r.v n.v).1.d) G (by decide)),fun _=>rfl,(kp7 (A:=w.heap.size) (.bool t) (.slice a u x) (.bool y) (.slice b z B) (.bool C) (.slice g D E) (.int .i64 (comb c r.v n.v).1.d) (L.trans' (Kp.trans' (Kp.drew' (Below.refl _ _)) F)) (Nat.le_refl _))⟩
       ·clear W
        go_wp2_with fail
        go_region_held3 (fun m=>m.cell? ⟨K,0,none⟩=some (.bool Z)∧m.cell? ⟨K,1,none⟩=some (.slice H n1 c1)∧m.cell? ⟨K,2,none⟩=some (.bool b2)∧m.cell? ⟨K,3,none⟩=some (.slice I n2 c2)∧m.cell? ⟨K,4,none⟩=some (.bool b3)∧m.cell? ⟨K,5,none⟩=some (.slice J n3 c3)∧m.cell? ⟨K,6,none⟩=some (.int .i64 r.v.d)∧m.cell? ⟨o,0,none⟩=some (.bool b4)∧m.cell? ⟨o,1,none⟩=some (.slice T n4 c4)∧m.cell? ⟨o,2,none⟩=some (.bool b5)∧m.cell? ⟨o,3,none⟩=some (.slice U n5 c5)∧m.cell? ⟨o,4,none⟩=some (.bool b6)∧m.cell? ⟨o,5,none⟩=some (.slice V n6 c6)∧m.cell? ⟨o,6,none⟩=some (.int .i64 n.v.d))
         (first | (go_keep;done) | (simp[ae,ao];done) | (simp[M,N];done) | (have j:=(ot7 (A:=w.heap.size) (.bool t) (.slice a u x) (.bool y) (.slice b z B) (.bool C) (.slice g D E) (.int .i64 (comb c r.v n.v).1.d) O (by omega));have l:=(ot7 (A:=w.heap.size) (.bool t) (.slice a u x) (.bool y) (.slice b z B) (.bool C) (.slice g D E) (.int .i64 (comb c r.v n.v).1.d) P (by omega));exact⟨j.cell 0,j.cell 1,j.cell 2,j.cell 3,j.cell 4,j.cell 5,j.cell 6,l.cell 0,l.cell 1,l.cell 2,l.cell 3,l.cell 4,l.cell 5,l.cell 6⟩))
         ((first
          | (go_at_call 76;refine(hW.out _ (Kp.drew' (Below.refl _ _))).mono ?_;rintro e w5 ⟨v5,rfl,Q,F⟩;obtain⟨t,a,u,x,y,b,z,B,C,g,D,E,rfl,_,_,_⟩:=id Q;have O:=BX.keep (Kp.trans' (Kp.drew' (Below.refl _ _)) F);have P:=BY.keep (Kp.trans' (Kp.drew' (Below.refl _ _)) F);have G:=S.keep (Kp.trans' (Kp.drew' (Below.refl _ _)) F);have M:=O.cell;have N:=P.cell;have R:=G.cell;have ag:=G.frozen;have ah:=G.lt)))
        all_goals go_wp2_with fail
        refine bodyPost_ret (v:=.tuple #[.agg #[.bool t,.slice a u x,.bool y,.slice b z B,.bool C,.slice g D E,.int .i64 (comb c r.v n.v).1.d],.int .i64 0,.int .i64 0]) (by simp[results,Tryz.results45,go_sem,R]) rfl ?_;rw[HR.out];exact⟨_,_,rfl,Q.soft (sf7 (.bool t) (.slice a u x) (.bool y) (.slice b z B) (.bool C) (.slice g D E) (.int .i64 (comb c r.v n.v).1.d) G (by decide)),fun _=>rfl,(kp7 (A:=w.heap.size) (.bool t) (.slice a u x) (.bool y) (.slice b z B) (.bool C) (.slice g D E) (.int .i64 (comb c r.v n.v).1.d) (L.trans' (Kp.trans' (Kp.drew' (Below.refl _ _)) F)) (Nat.le_refl _))⟩
      ·clear W
       go_wp2_with fail
       go_region_held3 (fun m=>m.cell? ⟨K,0,none⟩=some (.bool Z)∧m.cell? ⟨K,1,none⟩=some (.slice H n1 c1)∧m.cell? ⟨K,2,none⟩=some (.bool b2)∧m.cell? ⟨K,3,none⟩=some (.slice I n2 c2)∧m.cell? ⟨K,4,none⟩=some (.bool b3)∧m.cell? ⟨K,5,none⟩=some (.slice J n3 c3)∧m.cell? ⟨K,6,none⟩=some (.int .i64 r.v.d)∧m.cell? ⟨o,0,none⟩=some (.bool b4)∧m.cell? ⟨o,1,none⟩=some (.slice T n4 c4)∧m.cell? ⟨o,2,none⟩=some (.bool b5)∧m.cell? ⟨o,3,none⟩=some (.slice U n5 c5)∧m.cell? ⟨o,4,none⟩=some (.bool b6)∧m.cell? ⟨o,5,none⟩=some (.slice V n6 c6)∧m.cell? ⟨o,6,none⟩=some (.int .i64 n.v.d))
        (first | (go_keep;done) | (simp[ae,ao];done) | (simp[M,N];done) | (have j:=(ot7 (A:=w.heap.size) (.bool t) (.slice a u x) (.bool y) (.slice b z B) (.bool C) (.slice g D E) (.int .i64 (comb c r.v n.v).1.d) O (by omega));have l:=(ot7 (A:=w.heap.size) (.bool t) (.slice a u x) (.bool y) (.slice b z B) (.bool C) (.slice g D E) (.int .i64 (comb c r.v n.v).1.d) P (by omega));exact⟨j.cell 0,j.cell 1,j.cell 2,j.cell 3,j.cell 4,j.cell 5,j.cell 6,l.cell 0,l.cell 1,l.cell 2,l.cell 3,l.cell 4,l.cell 5,l.cell 6⟩))
        ((first
         | (go_at_call 76;refine(hW.out _ (Kp.drew' (Below.refl _ _))).mono ?_;rintro e w5 ⟨v5,rfl,Q,F⟩;obtain⟨t,a,u,x,y,b,z,B,C,g,D,E,rfl,_,_,_⟩:=id Q;have O:=BX.keep (Kp.trans' (Kp.drew' (Below.refl _ _)) F);have P:=BY.keep (Kp.trans' (Kp.drew' (Below.refl _ _)) F);have G:=S.keep (Kp.trans' (Kp.drew' (Below.refl _ _)) F);have M:=O.cell;have N:=P.cell;have R:=G.cell;have ag:=G.frozen;have ah:=G.lt)))
       all_goals go_wp2_with fail
       refine bodyPost_ret (v:=.tuple #[.agg #[.bool t,.slice a u x,.bool y,.slice b z B,.bool C,.slice g D E,.int .i64 (comb c r.v n.v).1.d],.int .i64 0,.int .i64 0]) (by simp[results,Tryz.results45,go_sem,R]) rfl ?_;rw[HR.out];exact⟨_,_,rfl,Q.soft (sf7 (.bool t) (.slice a u x) (.bool y) (.slice b z B) (.bool C) (.slice g D E) (.int .i64 (comb c r.v n.v).1.d) G (by decide)),fun _=>rfl,(kp7 (A:=w.heap.size) (.bool t) (.slice a u x) (.bool y) (.slice b z B) (.bool C) (.slice g D E) (.int .i64 (comb c r.v n.v).1.d) (L.trans' (Kp.trans' (Kp.drew' (Below.refl _ _)) F)) (Nat.le_refl _))⟩
  ·have x2:(n.e != 0)=true:=by simp[an]
   have HR:Hid (opR c (p+i) r n=⟨r.v,n.e,n.k⟩):=by
    unfold Hid opR;rw[if_neg (by omega),if_pos an]
   go_wp2_with fail
   refine bodyPost_ret (v:=.tuple #[.agg #[.bool b4,.slice T n4 c4,.bool b5,.slice U n5 c5,.bool b6,.slice V n6 c6,.int .i64 a2.d],.int .i64 n.e,.int .i64 n.k]) (by simp[results,Tryz.results45,go_sem,X,ad]) rfl ?_;rw[HR.out];exact⟨_,_,rfl,al.soft (Sf.alloc (sf7 (.bool b4) (.slice T n4 c4) (.bool b5) (.slice U n5 c5) (.bool b6) (.slice V n6 c6) (.int .i64 a2.d) S (by decide)) (.cells #[.bool b4,.slice T n4 c4,.bool b5,.slice U n5 c5,.bool b6,.slice V n6 c6,.int .i64 a2.d] 54)),fun h=>absurd h an,(Kp.alloc' (kp7 (A:=w.heap.size) (.bool b4) (.slice T n4 c4) (.bool b5) (.slice U n5 c5) (.bool b6) (.slice V n6 c6) (.int .i64 a2.d) L (Nat.le_refl _)) (.cells #[.bool b4,.slice T n4 c4,.bool b5,.slice U n5 c5,.bool b6,.slice V n6 c6,.int .i64 a2.d] 54))⟩
 ·have x1:(r.e != 0)=true:=by simp[ak]
  have HR:Hid (opR c (p+i) r n=r):=by
   unfold Hid opR;rw[if_pos ak]
  go_wp2_with fail
  refine bodyPost_ret (v:=.tuple #[.agg #[.bool Z,.slice H n1 c1,.bool b2,.slice I n2 c2,.bool b3,.slice J n3 c3,.int .i64 a1.d],.int .i64 r.e,.int .i64 r.k]) (by simp[results,Tryz.results45,go_sem,X,ad]) rfl ?_;rw[HR.out];exact⟨_,_,rfl,aa.soft (Sf.alloc (sf7 (.bool Z) (.slice H n1 c1) (.bool b2) (.slice I n2 c2) (.bool b3) (.slice J n3 c3) (.int .i64 a1.d) S (by decide)) (.cells #[.bool Z,.slice H n1 c1,.bool b2,.slice I n2 c2,.bool b3,.slice J n3 c3,.int .i64 a1.d] 54)),fun h=>absurd h ak,(Kp.alloc' (kp7 (A:=w.heap.size) (.bool Z) (.slice H n1 c1) (.bool b2) (.slice I n2 c2) (.bool b3) (.slice J n3 c3) (.int .i64 a1.d) L (Nat.le_refl _)) (.cells #[.bool Z,.slice H n1 c1,.bool b2,.slice I n2 c2,.bool b3,.slice J n3 c3,.int .i64 a1.d] 54))⟩
end
section
open Go.RowKit
theorem qcom_one (p q:Int):qcom p q 1=1:=by
 unfold qcom;rw[if_neg (by decide)];simp
theorem qreduce_one (p q d:Int):qreduce p q 1 d=⟨p,q,1,if q=0 then 1 else d⟩:=by
 unfold qreduce;rw[qcom_one];simp
theorem factor_minus (s:ByteArray) (p:Nat) (r:Rs) (w:World) (ag:1≤s.size) (hs:s.size≤100) (hp:p≤1000) (hc:byteAt s 0=45)
  (H:∀ w,Calls Tryz.prog 74 #[.string (s.extract 1 s.size),.int .i64 ((p:Int)+1)] w (RetV3 w r)) :
  Calls Tryz.prog 74 #[.string s,.int .i64 p] w (RetV3 w ⟨qneg r.v,r.e,r.k⟩):=by
 have hb:=byteAt_eq s 0 (by omega);rw[hc] at hb;have h0:(0:Int)<(s.size:Int):=by omega
 have h1:(1:Int)≤(s.size:Int):=by omega
 have O:=Blk.new w #[.bool false,.slice none 0 0,.bool false,.slice none 0 0,.bool false,.slice none 0 0,.int .i64 0] 54;have P:=kp_alloc w (.cells #[.bool false,.slice none 0 0,.bool false,.slice none 0 0,.bool false,.slice none 0 0,.int .i64 0] 54)
 go_enter Tryz.func74,Tryz.ntmps74
 go_wp2_with fail
 refine(H _).mono ?_;rintro e m ⟨v1,g,rfl,Q,R,G⟩;obtain⟨K,i,L,c1,M,j,N,c2,u,a,x,c3,rfl,x1,x2,x3⟩:=id Q;have Z:=P.trans' G;have BE:=O.keep G;have ah:=BE.lt;have n:=kp_alloc m (.cells #[.bool K,.slice i L c1,.bool M,.slice j N c2,.bool u,.slice a x c3,.int .i64 g.d] 54);have BX:=Blk.new m #[.bool K,.slice i L c1,.bool M,.slice j N c2,.bool u,.slice a x c3,.int .i64 g.d] 54;have aa:=BE.keep n;have ac:=BX.cell;have l:Kp (m.alloc (.cells #[.bool K,.slice i L c1,.bool M,.slice j N c2,.bool u,.slice a x c3,.int .i64 g.d] 54)) (m.alloc (.cells #[.bool K,.slice i L c1,.bool M,.slice j N c2,.bool u,.slice a x c3,.int .i64 g.d] 54)).drew:=Kp.drew' (Below.refl _ _);have y1:=(x1.keep n).keep l;have y2:=(x2.keep n).keep l;have y3:=(x3.keep n).keep l;have HA:=Hid.mk R;clear R x1 x2 x3 Q O P G
 go_wp2_with fail
 go_region_held3 (fun I=>I.cell? ⟨m.heap.size,0,none⟩=some (.bool K)∧I.cell? ⟨m.heap.size,1,none⟩=some (.slice i L c1)∧I.cell? ⟨m.heap.size,2,none⟩=some (.bool M)∧I.cell? ⟨m.heap.size,3,none⟩=some (.slice j N c2)∧I.cell? ⟨m.heap.size,4,none⟩=some (.bool u)∧I.cell? ⟨m.heap.size,5,none⟩=some (.slice a x c3)∧I.cell? ⟨m.heap.size,6,none⟩=some (.int .i64 g.d))
  (first | (go_keep;done) | (simp[ac];done) | (simp[S];done) | (simp[T];done) | (have b:=(ot7 (A:=w.heap.size) (.bool y) (.slice c z B) (.bool C) (.slice f D E) (.bool u) (.slice a x c3) (.int .i64 g.d) U (by omega));exact⟨b.cell 0,b.cell 1,b.cell 2,b.cell 3,b.cell 4,b.cell 5,b.cell 6⟩))
  ((first
   | (go_at_call_of 60 (Value.agg #[.bool K,.slice i L c1]);refine(less_any _ _ _ y1).mono ?_;rintro e w5 ⟨v5,rfl,V,o⟩;obtain⟨y,c,z,B,rfl⟩:=V.shape';have W:=BX.keep (l.trans' o);have S:=W.cell)
   | (go_at_call_of 60 (Value.agg #[.bool M,.slice j N c2]);refine(less_any _ _ _ (y2.keep o)).mono ?_;rintro e w6 ⟨v6,rfl,X,t⟩;obtain⟨C,f,D,E,rfl⟩:=X.shape';have U:=W.keep t;have T:=U.cell;have F:=aa.keep (l.trans' (o.trans' t));have Y:=F.cell;have ae:=F.frozen;have af:=F.lt)))
 all_goals go_wp2_with fail
 refine bodyPost_ret (v:=.tuple #[.agg #[.bool y,.slice c z B,.bool C,.slice f D E,.bool u,.slice a x c3,.int .i64 g.d],.int .i64 r.e,.int .i64 r.k]) (by simp[results,Tryz.results74,go_sem,Y]) rfl ?_;have ad:=(n.trans' (l.trans' (o.trans' t)));have J:Sf 3 w6 _:=(sf7 (.bool y) (.slice c z B) (.bool C) (.slice f D E) (.bool u) (.slice a x c3) (.int .i64 g.d) F (by decide));exact⟨_,⟨-g.p,-g.q,g.r,g.d⟩,rfl,⟨_,_,_,_,_,_,_,_,_,_,_,_,rfl,(V.keep t).soft J,X.soft J,(y3.keep (o.trans' t)).soft J⟩,fun h=>by rw[HA.out h];rfl,(kp7 (A:=w.heap.size) (.bool y) (.slice c z B) (.bool C) (.slice f D E) (.bool u) (.slice a x c3) (.int .i64 g.d) (Z.trans' ad) (Nat.le_refl _))⟩
theorem factor_paren (s:ByteArray) (p:Nat) (r:Rs) (w:World) (B:2≤s.size) (L:s.size≤100) (M:p≤1000) (C:byteAt s 0=40)
  (H:∀ w,Calls Tryz.prog 45 #[.string (s.extract 1 (s.size - 1)),.int .i64 ((p:Int)+1)] w (RetV3 w r)) :
  Calls Tryz.prog 74 #[.string s,.int .i64 p] w (RetV3 w r):=by
 have D:=byteAt_eq s 0 (by omega);rw[C] at D;have N:(0:Int)<(s.size:Int):=by omega
 have O:(1:Int)≤(s.size:Int) - 1:=by omega
 have P:((s.size:Int) - 1).toNat=s.size - 1:=by omega
 have g:=Blk.new w #[.bool false,.slice none 0 0,.bool false,.slice none 0 0,.bool false,.slice none 0 0,.int .i64 0] 54;have h:=kp_alloc w (.cells #[.bool false,.slice none 0 0,.bool false,.slice none 0 0,.bool false,.slice none 0 0,.int .i64 0] 54)
 go_enter Tryz.func74,Tryz.ntmps74
 go_wp2_with fail
 refine(H _).mono ?_;rintro e Q ⟨R,l,rfl,i,j,a⟩;obtain⟨n,b,o,c1,q,c,t,c2,u,f,x,c3,rfl,E,F,G⟩:=id i;have y:=h.trans' a;have m:=g.keep a;have z:=m.cell;have I:=m.frozen;have J:=m.lt;have K:=Hid.mk j;clear j E F G g h a
 go_wp2_with fail
 refine bodyPost_ret (v:=.tuple #[.agg #[.bool n,.slice b o c1,.bool q,.slice c t c2,.bool u,.slice f x c3,.int .i64 l.d],.int .i64 r.e,.int .i64 r.k]) (by simp[results,Tryz.results74,go_sem,z]) rfl ?_;exact⟨_,l,rfl,i.soft (sf7 (.bool n) (.slice b o c1) (.bool q) (.slice c t c2) (.bool u) (.slice f x c3) (.int .i64 l.d) m (by decide)),K.out,(kp7 (A:=w.heap.size) (.bool n) (.slice b o c1) (.bool q) (.slice c t c2) (.bool u) (.slice f x c3) (.int .i64 l.d) y (Nat.le_refl _))⟩
theorem factor_num (s:ByteArray) (p:Nat) (w:World) (M:1≤s.size) (O:s.size≤18) (E:Digs (bl s)) :
  Calls Tryz.prog 74 #[.string s,.int .i64 p] w (RetV3 w ⟨⟨decN (bl s),0,1,1⟩,0,0⟩):=by
 have V:=byteAt_eq s 0 (by omega);have J:=bl_len s;have g:isDig (byteAt s 0)=true:=by rw[byteAt_bl];exact digs_at E (by omega)
 have F:=isDig_bd g;have W:(byteAt s 0 == 45)=false:=by simp;omega
 have X:(byteAt s 0 == 40)=false:=by simp;omega
 have Y:(byteAt s 0 == 114)=false:=by simp;omega
 have Z:(0:Int)<(s.size:Int):=by omega
 have P:=decN_bd E;have Q:Ft 20 (decN (bl s)):=by
  have h2:(10:Int) ^ (bl s).length≤10 ^ 18:=by exact_mod_cast Nat.pow_le_pow_right (show 0<10 by decide) (show (bl s).length≤18 by omega)
  unfold Ft;omega
 have f1:Ft 20 1:=by unfold Ft;decide
 have G:Hid (qreduce (decN (bl s)) 0 1 1=⟨decN (bl s),0,1,1⟩):=by unfold Hid;rw[qreduce_one];simp
 have H:=Hid.mk (fun R=>read_ref s R E O);have u:=Blk.new w #[.bool false,.slice none 0 0,.bool false,.slice none 0 0,.bool false,.slice none 0 0,.int .i64 0] 54;have x:=kp_alloc w (.cells #[.bool false,.slice none 0 0,.bool false,.slice none 0 0,.bool false,.slice none 0 0,.int .i64 0] 54);clear P E g F;generalize decN (bl s)=N at *;generalize byteAt s 0=c0 at *
 go_enter Tryz.func74,Tryz.ntmps74
 go_wp2_with fail
 refine(H.out _).mono ?_;rintro e w2 ⟨v2,rfl,y,z⟩;obtain⟨b7,S,n7,c7,rfl⟩:=y.shape';have T:=u.keep z;have I:=x.trans' z;clear u x
 go_wp2_with fail
 refine(of_any 1 _ (by decide) (by decide)).mono ?_;rintro e w8 ⟨v8,rfl,B,h⟩;obtain⟨b8,U,n8,c8,rfl⟩:=B.shape'
 go_wp2_with fail
 refine(formed_any N 0 1 1 20 _ _ _ _ (y.keep h) (in_zero _) B (by decide) (by decide) Q (Ft.zero _) f1).mono ?_;rintro e w9 ⟨v9,rfl,i,C⟩;rw[G.out] at i;obtain⟨j,a,k,l,m,b,n,o,q,c,r,t,rfl,_,_,_⟩:=id i;have f:=T.keep (h.trans' C);have D:=f.cell;have K:=f.frozen;have L:=f.lt
 go_wp2_with fail
 refine bodyPost_ret (v:=.tuple #[.agg #[.bool j,.slice a k l,.bool m,.slice b n o,.bool q,.slice c r t,.int .i64 (⟨N,0,1,1⟩:Qn).d],.int .i64 0,.int .i64 0]) (by simp[results,Tryz.results74,go_sem,D]) rfl ?_;exact⟨_,_,rfl,i.soft (sf7 (.bool j) (.slice a k l) (.bool m) (.slice b n o) (.bool q) (.slice c r t) (.int .i64 (⟨N,0,1,1⟩:Qn).d) f (by decide)),fun _=>rfl,(kp7 (A:=w.heap.size) (.bool j) (.slice a k l) (.bool m) (.slice b n o) (.bool q) (.slice c r t) (.int .i64 (⟨N,0,1,1⟩:Qn).d) (I.trans' (h.trans' C)) (Nat.le_refl _))⟩
theorem factor_root (s:ByteArray) (p:Nat) (t:List Int) (w:World) (R:bl s=114 :: t) (_:t≠[]) (hl:t.length≤6) (hd:Digs t) :
  Calls Tryz.prog 74 #[.string s,.int .i64 p] w (RetV3 w ⟨qsqrt (decN t).toNat,0,0⟩):=by
 have ac:=bl_len s;rw[R,List.length_cons] at ac;have hb:=byteAt_eq s 0 (by omega);have hc:byteAt s 0=114:=by rw[byteAt_bl,R,at0_cons_zero]
 rw[hc] at hb;have h0:(0:Int)<(s.size:Int):=by omega
 have hn:=decN_bd hd;have f1:Ft 20 1:=by unfold Ft;decide
 have ad:decN t<1000000:=by
  have:(10:Int) ^ t.length≤10 ^ 6:=by exact_mod_cast Nat.pow_le_pow_right (show 0<10 by decide) hl
  omega
 have ae:=Blk.new w #[.bool false,.slice none 0 0,.bool false,.slice none 0 0,.bool false,.slice none 0 0,.int .i64 0] 54;have af:=kp_alloc w (.cells #[.bool false,.slice none 0 0,.bool false,.slice none 0 0,.bool false,.slice none 0 0,.int .i64 0] 54);have ag:=Hid.mk R;clear R
 go_enter Tryz.func74,Tryz.ntmps74
 go_wp2_with fail
 go_loopw [10,11] (fun n i wr=>∃ j k:Nat,Hid (k=j+1)∧j≤t.length∧n=.int .i64 (decN (t.take j))∧i=.int .i64 k∧Blk wr w.heap.size #[.bool false,.slice none 0 0,.bool false,.slice none 0 0,.bool false,.slice none 0 0,.int .i64 0] 54∧Kp w wr)
  (fun _ i _=>s.size - (intOf i).toNat)
 case atStart=>exact⟨0,1,rfl,by omega,rfl,rfl,ae,af⟩
 case round =>
  clear ae af;obtain⟨j,k,HK,hj,rfl,rfl,L,f⟩:=hrel;have Y:=HK.out;by_cases h1:j<t.length
  ·have ah:k<s.size:=by omega
   have av:=byteAt_eq s k ah;have Z:byteAt s k=at0 t j:=by rw[byteAt_bl,ag.out,Y,at0_cons_succ]
   have an:=isDig_bd (digs_at hd h1);rw[← Z] at an;have S:=decN_bd (digs_take hd j);have ao:(t.take j).length=j:=by rw[List.length_take];omega
   rw[ao] at S;have aw:=S.1;have ax:decN (t.take j)<1000000:=Int.lt_of_lt_of_le S.2 (show (10:Int) ^ j≤10 ^ 6 by exact_mod_cast Nat.pow_le_pow_right (show 0<10 by decide) (show j≤6 by omega));have HN:Hid (decN (t.take (j+1))=10*decN (t.take j)+byteAt s k - 48):=by
    unfold Hid;rw[take_snoc h1,decN_snoc,Z];omega
   have ay:(k:Int)<(s.size:Int):=by omega
   clear S Z Y hn ad;generalize decN (t.take j)=N at *;generalize byteAt s k=C at *;have az:IntKind.i64.wrap C=C:=IntWalk.i64_in _ (by omega)
   go_wp2_with fail
   go_roundw
   case rel=>exact⟨j+1,k+1,by have:=HK.out;unfold Hid;omega,by omega,by rw[HN.out],by go_num,L,f⟩
   case measure=>simp[intOf];omega
  ·have ap:j=t.length:=by omega
   subst ap;have ah:¬ (k:Int)<(s.size:Int):=by omega
   rw[List.take_length];clear Y HK ag;obtain⟨N,hN⟩:=Int.eq_ofNat_of_zero_le hn.1;have aa:Hid ((decN t).toNat=N):=by unfold Hid;omega
   rw[hN,Int.toNat_natCast];rw[hN] at ad;clear hn hN;have ai:N<1000000:=by omega
   have T:=Hid.mk (fun w'=>square_ref N w' ai);by_cases hz:N=0
   ·subst hz;have hS:sqf 0 1000=1000:=by unfold sqf;rw[if_pos (by decide)]
    rw[hS] at T;have O:Hid (qreduce 0 0 1 1=(⟨0,0,1,1⟩:Qn)):=by unfold Hid;rw[qreduce_one];simp
    have E:Hid (qsqrt 0=⟨0,0,1,1⟩):=by unfold Hid qsqrt;rw[if_pos rfl]
    rw[E.out]
    go_wp2_with fail
    refine(T.out _).mono ?_;rintro e w5 ⟨rfl,F⟩;replace L:=L.keep F;replace f:=f.trans' F;have fF:Ft 20 0:=Ft.zero _
    go_wp2_with fail
    refine(of_any 0 _ (by decide) (by decide)).mono ?_;rintro e w6 ⟨v6,rfl,G,H⟩;obtain⟨b7,aj,n7,c7,rfl⟩:=G.shape';replace L:=L.keep H;replace f:=f.trans' H
    go_wp2_with fail
    refine(of_any 1 _ (by decide) (by decide)).mono ?_;rintro e w8 ⟨v8,rfl,I,h⟩;obtain⟨b8,ak,n8,c8,rfl⟩:=I.shape'
    go_wp2_with fail
    refine(formed_any 0 0 1 1 20 _ _ _ _ (G.keep h) (in_zero _) I (by decide) (by decide) fF (Ft.zero _) f1).mono ?_;rintro e w9 ⟨v9,rfl,l,J⟩;rw[O.out] at l;obtain⟨m,a,o,q,r,b,u,x,y,c,z,B,rfl,_,_,_⟩:=id l;have g:=L.keep (h.trans' J);have K:=g.cell;have W:=g.frozen;have X:=g.lt
    go_wp2_with fail
    refine bodyPost_ret (v:=.tuple #[.agg #[.bool m,.slice a o q,.bool r,.slice b u x,.bool y,.slice c z B,.int .i64 (⟨0,0,1,1⟩:Qn).d],.int .i64 0,.int .i64 0]) (by simp[results,Tryz.results74,go_sem,K]) rfl ?_;exact⟨_,_,rfl,l.soft (sf7 (.bool m) (.slice a o q) (.bool r) (.slice b u x) (.bool y) (.slice c z B) (.int .i64 (⟨0,0,1,1⟩:Qn).d) g (by decide)),fun _=>by show _=qsqrt (decN t).toNat;rw[aa.out,E.out],(kp7 (A:=w.heap.size) (.bool m) (.slice a o q) (.bool r) (.slice b u x) (.bool y) (.slice c z B) (.int .i64 (⟨0,0,1,1⟩:Qn).d) (f.trans' (h.trans' J)) (Nat.le_refl _))⟩
   ·have hr:=sqf_root (show 0<N by omega) ai;have aq:=hr.op;have al:sqf N 1000*sqf N 1000≤N:=Nat.le_of_dvd (by omega) (sqf_dvd N 1000);have am:sqf N 1000≤sqf N 1000*sqf N 1000:=Nat.le_mul_of_pos_left _ aq;have aA:=hr.sp;have aB:N / (sqf N 1000*sqf N 1000)≤N:=Nat.div_le_self _ _;have U:qsqrt N=if N / (sqf N 1000*sqf N 1000)=1 then ⟨sqf N 1000,0,1,1⟩ else ⟨0,sqf N 1000,1,(N / (sqf N 1000*sqf N 1000):Nat)⟩:=by
     unfold qsqrt;rw[if_neg hz]
    have P:((sqf N 1000:Nat):Int)*((sqf N 1000:Nat):Int)=((sqf N 1000*sqf N 1000:Nat):Int):=by push_cast;rfl
    have ar:(N:Int) / (((sqf N 1000:Nat):Int)*((sqf N 1000:Nat):Int))=((N / (sqf N 1000*sqf N 1000):Nat):Int):=by rw[P];rfl
    generalize hQ:sqf N 1000*sqf N 1000=Q at *;generalize hDD:N / Q=V at *;generalize sqf N 1000=D at *;have aC:((N:Int) == 0)=false:=by simp;omega
    have aD:(0:Int)<(D:Int)*(D:Int):=by rw[P];omega
    have aE:(D:Int)*(D:Int)≤1000000:=by rw[P];omega
    have aF:(D:Int)*(D:Int)≠0:=by omega
    have aG:(0:Int)<(D:Int):=by omega
    have fF:Ft 20 (D:Int):=by unfold Ft;simp only[Int.natAbs_natCast];omega
    have aH:(D:Int)≤1000000:=by omega
    by_cases M:V=1
    ·have O:Hid (qreduce (D:Int) 0 1 1=(⟨D,0,1,1⟩:Qn)):=by unfold Hid;rw[qreduce_one];simp
     have E:=Hid.mk U;rw[if_pos M] at E;rw[E.out];have au:((V:Int) == 1)=true:=by simp[M]
     rw[M] at ar;clear P U hr al am hQ hDD M
     go_wp2_with fail
     refine(T.out _).mono ?_;rintro e w5 ⟨rfl,F⟩;replace L:=L.keep F;replace f:=f.trans' F
     go_wp2_with fail
     refine(of_any (D:Int) _ (by omega) (by omega)).mono ?_;rintro e w6 ⟨v6,rfl,G,H⟩;obtain⟨b7,aj,n7,c7,rfl⟩:=G.shape';replace L:=L.keep H;replace f:=f.trans' H
     go_wp2_with fail
     refine(of_any 1 _ (by decide) (by decide)).mono ?_;rintro e w8 ⟨v8,rfl,I,h⟩;obtain⟨b8,ak,n8,c8,rfl⟩:=I.shape'
     go_wp2_with fail
     refine(formed_any (D:Int) 0 1 1 20 _ _ _ _ (G.keep h) (in_zero _) I (by decide) (by decide) fF (Ft.zero _) f1).mono ?_;rintro e w9 ⟨v9,rfl,l,J⟩;rw[O.out] at l;obtain⟨m,a,o,q,r,b,u,x,y,c,z,B,rfl,_,_,_⟩:=id l;have g:=L.keep (h.trans' J);have K:=g.cell;have W:=g.frozen;have X:=g.lt
     go_wp2_with fail
     refine bodyPost_ret (v:=.tuple #[.agg #[.bool m,.slice a o q,.bool r,.slice b u x,.bool y,.slice c z B,.int .i64 (⟨D,0,1,1⟩:Qn).d],.int .i64 0,.int .i64 0]) (by simp[results,Tryz.results74,go_sem,K]) rfl ?_;exact⟨_,_,rfl,l.soft (sf7 (.bool m) (.slice a o q) (.bool r) (.slice b u x) (.bool y) (.slice c z B) (.int .i64 (⟨D,0,1,1⟩:Qn).d) g (by decide)),fun _=>by show _=qsqrt (decN t).toNat;rw[aa.out,E.out],(kp7 (A:=w.heap.size) (.bool m) (.slice a o q) (.bool r) (.slice b u x) (.bool y) (.slice c z B) (.int .i64 (⟨D,0,1,1⟩:Qn).d) (f.trans' (h.trans' J)) (Nat.le_refl _))⟩
    ·have O:Hid (qreduce 0 (D:Int) 1 (V:Int)=(⟨0,D,1,V⟩:Qn)):=by
      unfold Hid;rw[qreduce_one,if_neg (by omega)]
     have E:=Hid.mk U;rw[if_neg M] at E;rw[E.out];have au:((V:Int) == 1)=false:=by simp;omega
     clear P U hr al am hQ hDD M
     go_wp2_with fail
     refine(T.out _).mono ?_;rintro e w5 ⟨rfl,F⟩;replace L:=L.keep F;replace f:=f.trans' F
     go_wp2_with fail
     refine(of_any (D:Int) _ (by omega) (by omega)).mono ?_;rintro e w6 ⟨v6,rfl,G,H⟩;obtain⟨b7,aj,n7,c7,rfl⟩:=G.shape';replace L:=L.keep H;replace f:=f.trans' H
     go_wp2_with fail
     refine(of_any 1 _ (by decide) (by decide)).mono ?_;rintro e w8 ⟨v8,rfl,I,h⟩;obtain⟨b8,ak,n8,c8,rfl⟩:=I.shape'
     go_wp2_with fail
     refine(formed_any 0 (D:Int) 1 (V:Int) 20 _ _ _ _ (in_zero _) (G.keep h) I (by decide) (by decide) (Ft.zero _) fF f1).mono ?_;rintro e w9 ⟨v9,rfl,l,J⟩;rw[O.out] at l;obtain⟨m,a,o,q,r,b,u,x,y,c,z,B,rfl,_,_,_⟩:=id l;have g:=L.keep (h.trans' J);have K:=g.cell;have W:=g.frozen;have X:=g.lt
     go_wp2_with fail
     refine bodyPost_ret (v:=.tuple #[.agg #[.bool m,.slice a o q,.bool r,.slice b u x,.bool y,.slice c z B,.int .i64 (⟨0,D,1,V⟩:Qn).d],.int .i64 0,.int .i64 0]) (by simp[results,Tryz.results74,go_sem,K]) rfl ?_;exact⟨_,_,rfl,l.soft (sf7 (.bool m) (.slice a o q) (.bool r) (.slice b u x) (.bool y) (.slice c z B) (.int .i64 (⟨0,D,1,V⟩:Qn).d) g (by decide)),fun _=>by show _=qsqrt (decN t).toNat;rw[aa.out,E.out],(kp7 (A:=w.heap.size) (.bool m) (.slice a o q) (.bool r) (.slice b u x) (.bool y) (.slice c z B) (.int .i64 (⟨0,D,1,V⟩:Qn).d) (f.trans' (h.trans' J)) (Nat.le_refl _))⟩
end
section
open Go.RowKit
theorem sm_of_pd {n:Nat} {t:List Int} {p:Nat} {r:Rs} (h:Pd n t p r):Sm n t p r:=⟨0,t,[],r,by simp,h,rfl,rfl⟩
theorem pd_of_fc {n:Nat} {t:List Int} {p:Nat} {r:Rs} (h:Fc n t p r):Pd n t p r:=⟨0,t,[],r,by simp,h,rfl,rfl⟩
theorem sm_ok (n:Nat) (t:List Int) (p:Nat) (r:Rs) (h:Sm n t p r) (a:n≤8) (b:t.length≤100):RsOk 9000000 r:=by
 have c:0<2 ^ n:=Nat.pow_pos (by decide);have d:2 ^ n≤2 ^ 8:=Nat.pow_le_pow_right (by decide) a;refine(ch_ok (k:=1) (C:=2*(20*2 ^ n)) (by decide) (by omega) (pd_ok n) add_cost h).mono ?_;have e:=Nat.mul_le_mul (show 1*(2*(20*2 ^ n))≤10240 by omega) b;omega
theorem sm_ne {n:Nat} {t:List Int} {p:Nat} {r:Rs} (h:Sm n t p r):t≠[]:=by
 intro e;have a:=(sm_pass n t p r h).2 43;rw[e] at a;exact not_closed (Or.inl rfl) a
def VOk (N:Nat):Prop:=∀(n:Nat) (s:ByteArray) (p:Nat) (r:Rs) (w:World),n≤8→s.size≤N→s.size≤100→p+s.size≤1000→Sm n (bl s) p r→Calls Tryz.prog 45 #[.string s,.int .i64 p] w (RetV3 w r)
def FOk (N:Nat):Prop:=∀(n:Nat) (s:ByteArray) (p:Nat) (r:Rs) (w:World),n≤8→s.size≤N→s.size≤100→p+s.size≤1000→Fc n (bl s) p r→Calls Tryz.prog 74 #[.string s,.int .i64 p] w (RetV3 w r)
theorem ext_mid (s:ByteArray) {a b:List Int} {c:Int} (h:bl s=a ++ c :: b):bl (s.extract 0 a.length)=a∧bl (s.extract (a.length+1) s.size)=b∧byteAt s a.length=c∧s.size=a.length+b.length+1:=by
 have d:=bl_len s;rw[h,List.length_append,List.length_cons] at d;refine⟨?_,?_,?_,by omega⟩
 ·rw[bl_extract,h];simp
 ·rw[bl_extract,h,List.take_of_length_le (by rw[List.length_append,List.length_cons];omega)]
  rw[List.drop_append];simp
 ·rw[byteAt_bl,h,at0_append_ge (Nat.le_refl _),Nat.sub_self,at0_cons_zero]
theorem bl_size (s:ByteArray) (l:List Int) (h:bl s=l):s.size=l.length:=by rw[← h,bl_len]
theorem value_split {N:Nat} (i:VOk N) (s:ByteArray) (p n:Nat) (c:Int) (a t:List Int) (b d:Rs) (w:World) (g:n≤8) (y:s.size≤N+1) (j:s.size≤100) (A:p+s.size≤1000) (z:bl s=a ++ c :: t)
  (k:Sm n a p b) (l:Sm n t (p+a.length+1) d) (e:c=43∨c=45∨c=42∨c=47)
  (f:(lst (bl s) 43 45 (s.size - 1) 0=(a.length:Int))∨(lst (bl s) 43 45 (s.size - 1) 0 = -1∧lst (bl s) 42 47 (s.size - 1) 0=(a.length:Int))) :
  Calls Tryz.prog 45 #[.string s,.int .i64 p] w (RetV3 w (opR c (p+a.length) b d)):=by
 obtain⟨m,o,q,B⟩:=ext_mid s z;have C:=bl_size _ _ m;have D:=bl_size _ _ o;have r:∀ w,Calls Tryz.prog 45 #[.string (s.extract 0 a.length),.int .i64 p] w (RetV3 w b):=fun w=>i n _ p b w g (by omega) (by omega) (by omega) (by rw[m];exact k)
 have u:∀ w,Calls Tryz.prog 45 #[.string (s.extract (a.length+1) s.size),.int .i64 ((p:Int)+a.length+1)] w (RetV3 w d):=by
  intro w;have:=i n (s.extract (a.length+1) s.size) (p+a.length+1) d w g (by omega) (by omega) (by omega) (by rw[o];exact l)
  rwa [show ((p+a.length+1:Nat):Int)=(p:Int)+a.length+1 by omega] at this
 have v:=sm_ok n a p b k g (by omega);have x:=sm_ok n t _ d l g (by omega);rcases f with f | ⟨h,f⟩
 ·exact value_a s p a.length c b d w (by omega) j (by omega) (by omega) f e q r u v x
 ·exact value_m s p a.length c b d w (by omega) j (by omega) (by omega) h f e q r u v x
theorem value_f (s:ByteArray) (p:Nat) (r:Rs) (w:World) (l:1≤s.size) (M:s.size≤100) (q:lst (bl s) 43 45 (s.size - 1) 0 = -1) (D:lst (bl s) 42 47 (s.size - 1) 0 = -1)
  (H:∀ w,Calls Tryz.prog 74 #[.string s,.int .i64 p] w (RetV3 w r)) :
  Calls Tryz.prog 45 #[.string s,.int .i64 p] w (RetV3 w r):=by
 go_enter Tryz.func45,Tryz.ntmps45
 go_wp2_with fail
 refine(last_any s 43 45 _ l (by omega)).mono ?_;rintro e N ⟨rfl,a⟩;rw[q]
 go_wp2_with fail
 refine(last_any s 42 47 _ l (by omega)).mono ?_;rintro e O ⟨rfl,b⟩;rw[D];have c:=((kp_alloc w (.cells #[.bool false,.slice none 0 0,.bool false,.slice none 0 0,.bool false,.slice none 0 0,.int .i64 0] 54)).trans' a).trans' b;have j:=Blk.keep b (Blk.keep a (Blk.new w _ _));clear b a
 go_wp2_with fail
 refine(H _).mono ?_;rintro e P ⟨Q,o,rfl,m,n,f⟩;obtain⟨t,g,u,c1,x,h,y,c2,z,i,B,c3,rfl,F,G,I⟩:=id m;replace c:=c.trans' f;replace j:=j.keep f;have C:=j.cell;have J:=j.frozen;have K:=j.lt;have L:=Hid.mk n;clear n F G I f
 go_wp2_with fail
 refine bodyPost_ret (v:=.tuple #[.agg #[.bool t,.slice g u c1,.bool x,.slice h y c2,.bool z,.slice i B c3,.int .i64 o.d],.int .i64 r.e,.int .i64 r.k]) (by simp[results,Tryz.results45,go_sem,C]) rfl ?_;exact⟨_,o,rfl,m.soft (stS7 (E:=3) (.bool t) (.slice g u c1) (.bool x) (.slice h y c2) (.bool z) (.slice i B c3) (.int .i64 o.d) j (by decide)),L.out,(stK7 (A:=w.heap.size) (.bool t) (.slice g u c1) (.bool x) (.slice h y c2) (.bool z) (.slice i B c3) (.int .i64 o.d) c (Nat.le_refl _))⟩
theorem bare_fc {n m:Nat} {a:List Int} {p:Nat} {r:Rs} (h:Bare n a (p+m) r):Fc n (List.replicate m 45 ++ a) p (negs m r):=by
 cases n with
 | zero =>
  rcases h with h | ⟨b,t,c,_⟩
  ·exact⟨m,a,r,rfl,h,rfl⟩
  ·omega
 | succ n =>
  refine⟨m,a,r,rfl,?_,rfl⟩;rcases h with h | ⟨b,t,c,d,e⟩
  ·exact Or.inl h
  ·have:n=b:=by omega
   subst this;exact Or.inr ⟨t,d,e⟩
theorem negs_ek (m:Nat) (r:Rs):(negs m r).e=r.e∧(negs m r).k=r.k:=by
 unfold negs
 split <;> exact⟨rfl,rfl⟩
theorem factor_all {N:Nat} (x:VOk N) (hF:FOk N):FOk (N+1):=by
 intro n s p r w y z q E h;obtain⟨m,b,a,c,d,rfl⟩:=fc_bare h;have g:=bl_size s _ c
 cases m with
 | zero =>
  rw[List.replicate_zero,List.nil_append] at c g;rw[Nat.add_zero] at d;have A:negs 0 a=a:=rfl;rw[A];rcases d with (⟨i,d,j,rfl⟩|⟨t,rfl,i,d,j,rfl⟩) | ⟨B,t,i,rfl,d⟩
  ·rw[← c] at j ⊢;have:0<b.length:=List.length_pos_iff.mpr i;exact factor_num s p w (by omega) (by omega) j
  ·exact factor_root s p t w c i d j
  ·simp only[List.length_cons,List.length_append,List.length_nil] at g;have f:bl (s.extract 1 (s.size - 1))=t:=by
    rw[bl_extract,c,g];simp
   have u:=bl_size _ _ f;refine factor_paren s p a w (by omega) q (by omega) (by rw[byteAt_bl,c,at0_cons_zero]) (fun l=>?_);have:=x B (s.extract 1 (s.size - 1)) (p+1) a l (by omega) (by omega) (by omega) (by omega) (by rw[f];exact d)
   rwa [show ((p+1:Nat):Int)=(p:Int)+1 by omega] at this
 | succ m =>
  rw[List.replicate_succ,List.cons_append] at c;simp only[List.length_append,List.length_replicate] at g;have f:bl (s.extract 1 s.size)=List.replicate m 45 ++ b:=by
   rw[bl_extract,c,List.take_of_length_le (by rw[← c,bl_len];omega)]
   rfl
  have u:=bl_size _ _ f;simp only[List.length_append,List.length_replicate] at u;have o:Fc n (List.replicate m 45 ++ b) (p+1) (negs m a):=bare_fc (by rw[show p+1+m=p+(m+1) by omega];exact d)
  have C:=factor_minus s p (negs m a) w (by omega) q (by omega) (by rw[byteAt_bl,c,at0_cons_zero]) (fun l=>by
   have:=hF n (s.extract 1 s.size) (p+1) (negs m a) l y (by omega) (by omega) (by omega) (by rw[f];exact o)
   rwa [show ((p+1:Nat):Int)=(p:Int)+1 by omega] at this)
  have D:negs (m+1) a=⟨qneg (negs m a).v,(negs m a).e,(negs m a).k⟩:=by
   rw[negs_succ,(negs_ek m a).1,(negs_ek m a).2]
  rw[D];exact C
theorem value_all {N:Nat} (C:VOk N) (hF:FOk (N+1)):VOk (N+1):=by
 intro n s p r w z g x A h;have i:=sm_ne h;have d:=bl_len s;have D:0<(bl s).length:=List.length_pos_iff.mpr i;rcases ch_leftF h with y | ⟨j,c,t,k,q,u,B,y,E,rfl⟩
 ·have e:=lst_none (pd_at n _ p r y) i;rw[d] at e;rcases ch_leftF y with F | ⟨j,c,t,k,q,u,B,H,G,rfl⟩
  ·have f:=lst_none ((fc_pass n _ p r F).2.1 42 47 (Or.inr ⟨rfl,rfl⟩)) i;rw[d] at f;exact value_f s p r w (by omega) x e f (fun I=>hF n s p r I z g x A F)
  ·have l:c=42∨c=47:=B;have m:Pd n j p k:=H;have v:=lst_some (a:=42) (b:=47) ((fc_pass n t _ q G).2.1 42 47 (Or.inr ⟨rfl,rfl⟩)) l (not_closed (by omega)) (by omega) (sm_ne (sm_of_pd m)) (pd_pass n j p k m).2;rw[← u,d] at v;exact value_split C s p n c j t k q w z g x A u (sm_of_pd m) (sm_of_pd (pd_of_fc G)) (by omega) (Or.inr ⟨e,v⟩)
 ·have l:c=43∨c=45:=B;have o:Sm n j p k:=y;have v:=lst_some (a:=43) (b:=45) (pd_at n t _ q E) l (not_closed (by omega)) (by omega) (sm_ne o) (sm_pass n j p k o).2;rw[← u,d] at v;exact value_split C s p n c j t k q w z g x A u o (sm_of_pd E) (by omega) (Or.inl v)
theorem ref_all:∀ N,VOk N∧FOk N
 | 0=>by
  constructor
  ·intro n s p r w e c f g h;have:=sm_ne h;have a:=bl_len s;exact absurd (List.eq_nil_of_length_eq_zero (by omega)) this
  ·intro n s p r w e c f g h;have:=sm_ne (sm_of_pd (pd_of_fc h));have a:=bl_len s;exact absurd (List.eq_nil_of_length_eq_zero (by omega)) this
 | N+1=>by
  obtain⟨d,hF⟩:=ref_all N;have b:=factor_all d hF;exact⟨value_all d b,b⟩
theorem rread_long (s:ByteArray) (w:World) (h:100<s.size):Calls Tryz.prog 19 #[.string s] w (RetV3 w ⟨qzero,1,0⟩):=by
 have a:(100:Int)<(s.size:Int):=by omega
 go_enter Tryz.func19,Tryz.ntmps19
 go_wp2_with fail
 refine bodyPost_ret (v:=.tuple #[.agg #[.bool false,.slice none 0 0,.bool false,.slice none 0 0,.bool false,.slice none 0 0,.int .i64 0],.int .i64 1,.int .i64 0]) (by simp[results,Tryz.results19,go_sem]) rfl ?_;exact⟨_,_,rfl,nn_zero _,fun h=>by simp at h,kp_alloc _ _⟩
theorem rread_fault (s:ByteArray) (w:World) (h:s.size≤100) (j:0≤plFault s 0 s.size):Calls Tryz.prog 19 #[.string s] w (RetV3 w ⟨qzero,2,plFault s 0 s.size⟩):=by
 have k:¬ (100:Int)<(s.size:Int):=by omega
 have b:=Blk.new w #[.bool false,.slice none 0 0,.bool false,.slice none 0 0,.bool false,.slice none 0 0,.int .i64 0] 54
 go_enter Tryz.func19,Tryz.ntmps19
 go_wp2_with fail
 refine(form_any s _ (by omega)).mono ?_;rintro e f ⟨rfl,a⟩;have c:=b.keep a;have g:=c.cell;have i:=c.frozen;have l:=c.lt;have d:Kp w f:=(kp_alloc w (.cells #[.bool false,.slice none 0 0,.bool false,.slice none 0 0,.bool false,.slice none 0 0,.int .i64 0] 54)).trans' a;generalize plFault s 0 s.size=fl at *
 go_wp2_with fail
 refine bodyPost_ret (v:=.tuple #[.agg #[.bool false,.slice none 0 0,.bool false,.slice none 0 0,.bool false,.slice none 0 0,.int .i64 0],.int .i64 2,.int .i64 fl]) (by simp[results,Tryz.results19,go_sem,g]) rfl ?_;exact⟨_,_,rfl,nn_zero _,fun h=>by simp at h,(stK7 (A:=w.heap.size) (.bool false) (.slice none 0 0) (.bool false) (.slice none 0 0) (.bool false) (.slice none 0 0) (.int .i64 0) d (Nat.le_refl _))⟩
theorem rread_ok (s:ByteArray) (r:Rs) (w:World) (h:s.size≤100) (C:plFault s 0 s.size = -1) (B:Sm 8 (bl s) 0 r):Calls Tryz.prog 19 #[.string s] w (RetV3 w r):=by
 have N:¬ (100:Int)<(s.size:Int):=by omega
 have D:=Hid.mk (fun F=>(ref_all s.size).1 8 s 0 r F (Nat.le_refl _) (Nat.le_refl _) h (by omega) B);have l:=Blk.new w #[.bool false,.slice none 0 0,.bool false,.slice none 0 0,.bool false,.slice none 0 0,.int .i64 0] 54;clear B
 go_enter Tryz.func19,Tryz.ntmps19
 go_wp2_with fail
 refine(form_any s _ (by omega)).mono ?_;rintro e G ⟨rfl,a⟩;have j:=l.keep a;have b:Kp w G:=(kp_alloc w (.cells #[.bool false,.slice none 0 0,.bool false,.slice none 0 0,.bool false,.slice none 0 0,.int .i64 0] 54)).trans' a;clear l a;rw[C]
 go_wp2_with fail
 refine(D.out _).mono ?_;rintro e O ⟨P,o,rfl,m,n,c⟩;obtain⟨p,f,q,c1,t,g,u,c2,x,i,y,c3,rfl,H,I,J⟩:=id m;replace b:=b.trans' c;replace j:=j.keep c;have z:=j.cell;have K:=j.frozen;have L:=j.lt;have M:=Hid.mk n;clear n H I J c
 go_wp2_with fail
 refine bodyPost_ret (v:=.tuple #[.agg #[.bool p,.slice f q c1,.bool t,.slice g u c2,.bool x,.slice i y c3,.int .i64 o.d],.int .i64 r.e,.int .i64 r.k]) (by simp[results,Tryz.results19,go_sem,z]) rfl ?_;exact⟨_,o,rfl,m.soft (stS7 (E:=3) (.bool p) (.slice f q c1) (.bool t) (.slice g u c2) (.bool x) (.slice i y c3) (.int .i64 o.d) j (by decide)),M.out,(stK7 (A:=w.heap.size) (.bool p) (.slice f q c1) (.bool t) (.slice g u c2) (.bool x) (.slice i y c3) (.int .i64 o.d) b (Nat.le_refl _))⟩
theorem rread_any (s:ByteArray) (r:Rs) (w:World) (h:Rk s r):Calls Tryz.prog 19 #[.string s] w (RetV3 w r):=by
 rcases h with ⟨b,rfl⟩|⟨b,c,rfl⟩|⟨b,c,d,f,rfl⟩
 ·exact rread_long s w b
 ·exact rread_fault s w b c
 ·refine(rread_ok s d w b c f).mono ?_;rintro e n ⟨v,a,g,i,l,j⟩;have m:=(sm_ok 8 (bl s) 0 d f (Nat.le_refl _) (by rw[bl_len];exact b)).k
  by_cases he:d.e=0
  ·rw[if_pos he];exact⟨v,a,by rw[g,he,m he],i,fun _=>l he,j⟩
  ·rw[if_neg he];exact⟨v,a,g,i,fun h=>absurd h he,j⟩
end
end Go.Proofs.YtjahbjjekednfaaGreatDoor
