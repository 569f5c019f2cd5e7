import Derived.Test.YtjahbjjekednfaaGreatDoorR12
import Derived.Test.YtjahbjjekednfaaGreatDoorR13
namespace Go.Proofs.YtjahbjjekednfaaGreatDoor
set_option maxHeartbeats 6400000
set_option maxRecDepth 100000
open Go.RowKit
theorem worked_sub (a b:Qn) (m:Nat) (D:Int) (u v:Value) (w:World) (ha:NN w u a) (hb:NN w v b) (hm:m≤10000000) (fa:QF m a) (fb:QF m b) (hD:D=if 1<a.d then a.d else b.d) (D0:0≤D) (D2:D≤1000000) (ax:a.r*b.r≠0) :
  Calls Tryz.prog 76 #[u,.int .u8 45,v] w (RetNN w (qreduce ((a.p*(qneg b).r)+((qneg b).p*a.r)) ((a.q*(qneg b).r)+((qneg b).q*a.r)) (a.r*(qneg b).r) D)):=by
 have D1:D≤9223372036854775807:=by omega
 have fD:Ft 7 D:=by unfold Ft;omega
 have C:=Hid.mk (fun E (h1:NN E u a) (h2:NN E v b)=>root_ref a b u v E h1 h2);rw[← hD] at C;have HD:=Hid.mk hD;clear hD;obtain⟨b1,l,n1,c1,b2,n,n2,c2,b3,o,n3,c3,rfl,aa,ac,ad⟩:=id ha;obtain⟨b4,s,n4,c4,b5,t,n5,c5,P,g,Q,R,rfl,T,U,V⟩:=id hb;have h:Kp w (((w.alloc (.cells #[.bool b1,.slice l n1 c1,.bool b2,.slice n n2 c2,.bool b3,.slice o n3 c3,.int .i64 a.d] 54)).alloc (.cells #[.bool b4,.slice s n4 c4,.bool b5,.slice t n5 c5,.bool P,.slice g Q R,.int .i64 b.d] 54)).alloc (.cells #[.bool false,.slice none 0 0,.bool false,.slice none 0 0,.bool false,.slice none 0 0,.int .i64 0] 54)):=(Kp.alloc' (Kp.alloc' (Kp.alloc' (Below.refl w.heap.size w) (.cells #[.bool b1,.slice l n1 c1,.bool b2,.slice n n2 c2,.bool b3,.slice o n3 c3,.int .i64 a.d] 54)) (.cells #[.bool b4,.slice s n4 c4,.bool b5,.slice t n5 c5,.bool P,.slice g Q R,.int .i64 b.d] 54)) (.cells #[.bool false,.slice none 0 0,.bool false,.slice none 0 0,.bool false,.slice none 0 0,.int .i64 0] 54));have BA:Blk (((w.alloc (.cells #[.bool b1,.slice l n1 c1,.bool b2,.slice n n2 c2,.bool b3,.slice o n3 c3,.int .i64 a.d] 54)).alloc (.cells #[.bool b4,.slice s n4 c4,.bool b5,.slice t n5 c5,.bool P,.slice g Q R,.int .i64 b.d] 54)).alloc (.cells #[.bool false,.slice none 0 0,.bool false,.slice none 0 0,.bool false,.slice none 0 0,.int .i64 0] 54)) (w.heap.size) #[.bool b1,.slice l n1 c1,.bool b2,.slice n n2 c2,.bool b3,.slice o n3 c3,.int .i64 a.d] 54:=(Blk.alloc (Blk.alloc (Blk.new w _ _) (.cells #[.bool b4,.slice s n4 c4,.bool b5,.slice t n5 c5,.bool P,.slice g Q R,.int .i64 b.d] 54)) (.cells #[.bool false,.slice none 0 0,.bool false,.slice none 0 0,.bool false,.slice none 0 0,.int .i64 0] 54))
 have BB:Blk (((w.alloc (.cells #[.bool b1,.slice l n1 c1,.bool b2,.slice n n2 c2,.bool b3,.slice o n3 c3,.int .i64 a.d] 54)).alloc (.cells #[.bool b4,.slice s n4 c4,.bool b5,.slice t n5 c5,.bool P,.slice g Q R,.int .i64 b.d] 54)).alloc (.cells #[.bool false,.slice none 0 0,.bool false,.slice none 0 0,.bool false,.slice none 0 0,.int .i64 0] 54)) (w.heap.size+1) #[.bool b4,.slice s n4 c4,.bool b5,.slice t n5 c5,.bool P,.slice g Q R,.int .i64 b.d] 54:=(Blk.alloc (Blk.at (Blk.new (w.alloc (.cells #[.bool b1,.slice l n1 c1,.bool b2,.slice n n2 c2,.bool b3,.slice o n3 c3,.int .i64 a.d] 54)) _ _) (by simp)) (.cells #[.bool false,.slice none 0 0,.bool false,.slice none 0 0,.bool false,.slice none 0 0,.int .i64 0] 54));have BE:Blk (((w.alloc (.cells #[.bool b1,.slice l n1 c1,.bool b2,.slice n n2 c2,.bool b3,.slice o n3 c3,.int .i64 a.d] 54)).alloc (.cells #[.bool b4,.slice s n4 c4,.bool b5,.slice t n5 c5,.bool P,.slice g Q R,.int .i64 b.d] 54)).alloc (.cells #[.bool false,.slice none 0 0,.bool false,.slice none 0 0,.bool false,.slice none 0 0,.int .i64 0] 54)) (w.heap.size+1+1) #[.bool false,.slice none 0 0,.bool false,.slice none 0 0,.bool false,.slice none 0 0,.int .i64 0] 54:=(Blk.at (Blk.new ((w.alloc (.cells #[.bool b1,.slice l n1 c1,.bool b2,.slice n n2 c2,.bool b3,.slice o n3 c3,.int .i64 a.d] 54)).alloc (.cells #[.bool b4,.slice s n4 c4,.bool b5,.slice t n5 c5,.bool P,.slice g Q R,.int .i64 b.d] 54)) _ _) (by simp));replace aa:=aa.keep h;replace ac:=ac.keep h;replace ad:=ad.keep h;replace T:=T.keep h;replace U:=U.keep h;replace V:=V.keep h;replace ha:=ha.keep h;replace hb:=hb.keep h;have l1:=BA.lt;have l2:=BB.lt;have l3:=BE.lt
 go_enter Tryz.func76,Tryz.ntmps76
 go_wp2_with fail
 refine(C.out _ ha hb).mono ?_;rintro e w0 ⟨rfl,f⟩;replace aa:=aa.keep f;replace ac:=ac.keep f;replace ad:=ad.keep f;replace T:=T.keep f;replace U:=U.keep f;replace V:=V.keep f;replace BA:=BA.keep f;replace BB:=BB.keep f;replace BE:=BE.keep f;replace ha:=ha.keep f;replace hb:=hb.keep f;replace h:=h.trans' f;have aG:=f.size;clear C;generalize (((w.alloc (.cells #[.bool b1,.slice l n1 c1,.bool b2,.slice n n2 c2,.bool b3,.slice o n3 c3,.int .i64 a.d] 54)).alloc (.cells #[.bool b4,.slice s n4 c4,.bool b5,.slice t n5 c5,.bool P,.slice g Q R,.int .i64 b.d] 54)).alloc (.cells #[.bool false,.slice none 0 0,.bool false,.slice none 0 0,.bool false,.slice none 0 0,.int .i64 0] 54))=wz at *
 go_wp2_with fail
 refine wp_region_l (S:=fun E=>Kp w0 E) (by kernel_rfl) (Kp.drew' (Below.refl _ _)) (fun j=>?_);generalize w0.drew=wd at *;refine wpAnyL_tk (i:=0) (k:=12) (v:=.agg #[.bool b1,.slice l n1 c1,.bool b2,.slice n n2 c2,.bool b3,.slice o n3 c3,.int .i64 a.d]) rfl ?_ j ?_
 ·intro E c;have hc:=((BA).keep c).cell;go_simp
 simp only[sq];refine wpAnyL_tk (i:=1) (k:=2) (v:=.pointer (some ⟨w.heap.size+1,0,none⟩)) rfl ?_ j ?_
 ·intro E c;go_simp
 simp only[sq];refine wpAnyL_tk (i:=2) (k:=3) (v:=.agg #[.bool b4,.slice s n4 c4]) rfl ?_ j ?_
 ·intro E c;have hc:=((BB).keep c).cell;go_simp
 simp only[sq];refine wpAnyL_tk (i:=4) (k:=5) (v:=.pointer (some ⟨w.heap.size+1,2,none⟩)) rfl ?_ j ?_
 ·intro E c;go_simp
 simp only[sq];refine wpAnyL_tk (i:=5) (k:=6) (v:=.agg #[.bool b5,.slice t n5 c5]) rfl ?_ j ?_
 ·intro E c;have hc:=((BB).keep c).cell;go_simp
 simp only[sq];refine wpAnyL_tk (i:=7) (k:=8) (v:=.pointer (some ⟨w.heap.size+1,4,none⟩)) rfl ?_ j ?_
 ·intro E c;go_simp
 simp only[sq];refine wpAnyL_tk (i:=8) (k:=11) (v:=.agg #[.bool P,.slice g Q R]) rfl ?_ j ?_
 ·intro E c;have hc:=((BB).keep c).cell;go_simp
 simp only[sq];refine wpAnyL_tk (i:=9) (k:=10) (v:=.pointer (some ⟨w.heap.size+1,6,none⟩)) rfl ?_ j ?_
 ·intro E c;go_simp
 simp only[sq];refine wpAnyL_tk (i:=10) (k:=11) (v:=.int .i64 b.d) rfl ?_ j ?_
 ·intro E c;have hc:=((BB).keep c).cell;go_simp
 simp only[sq];refine wpAnyL_on (i:=3) rfl (fun K W=>?_)
 go_simp
 refine(less_any b.p _ _ (T.keep j)).mono ?_;rintro e ay ⟨az,rfl,x,af⟩;obtain⟨aj,ag,ak,al,rfl⟩:=x.shape'
 go_wp2_with fail
 refine W.out _ _ (j.trans' af) (fun am=>?_);clear W K;refine wpAnyL_on (i:=6) rfl (fun K W=>?_)
 go_simp
 refine(less_any b.q _ _ (U.keep am)).mono ?_;rintro e aA ⟨aB,rfl,X,Y⟩;obtain⟨an,ah,ao,ap,rfl⟩:=X.shape';replace x:=x.keep Y
 go_wp2_with fail
 refine W.out _ _ (am.trans' Y) (fun ae=>?_);clear W K;refine wpAnyL_tk (i:=11) (k:=12) (v:=.agg #[.bool aj,.slice ag ak al,.bool an,.slice ah ao ap,.bool P,.slice g Q R,.int .i64 b.d]) rfl ?_ ae ?_
 ·intro E c;go_simp
 simp only[sq];refine wpAnyL_on (i:=12) rfl (fun K W=>?_)
 go_simp
 refine(worked_add a (qneg b) m D _ _ _ (ha.keep ae) ⟨_,_,_,_,_,_,_,_,_,_,_,_,rfl,x,X,(V.keep ae)⟩ hm fa fb.neg HD.out D0 D2 ax).mono ?_;rintro e aC ⟨aD,rfl,Z,ai⟩;obtain⟨F,y,G,H,I,z,J,L,M,B,N,O,rfl,au,av,aw⟩:=id Z
 go_wp2_with fail
 refine W.out _ _ (ae.trans' ai) (fun aq=>?_);clear W K;have TB:=(BE).keep aq;have ar:=TB.cell;have aE:=TB.frozen;have aF:=TB.lt;refine wpAnyL_last (i:=13) rfl (by kernel_rfl) (by kernel_rfl) (by kernel_rfl) (fun K W=>?_)
 go_simp
 refine W.out _ _ ?_;clear W K
 go_wp2_with fail
 refine bodyPost_ret (v:=.agg #[.bool F,.slice y G H,.bool I,.slice z J L,.bool M,.slice B N O,.int .i64 (qreduce ((a.p*(qneg b).r)+((qneg b).p*a.r)) ((a.q*(qneg b).r)+((qneg b).q*a.r)) (a.r*(qneg b).r) D).d]) (by simp[results,Tryz.results76,go_sem,ar]) rfl ?_;exact⟨_,rfl,Z.soft (sf7 (.bool F) (.slice y G H) (.bool I) (.slice z J L) (.bool M) (.slice B N O) (.int .i64 (qreduce ((a.p*(qneg b).r)+((qneg b).p*a.r)) ((a.q*(qneg b).r)+((qneg b).q*a.r)) (a.r*(qneg b).r) D).d) TB (by decide)),(kp7 (A:=w.heap.size+1+1) (.bool F) (.slice y G H) (.bool I) (.slice z J L) (.bool M) (.slice B N O) (.int .i64 (qreduce ((a.p*(qneg b).r)+((qneg b).p*a.r)) ((a.q*(qneg b).r)+((qneg b).q*a.r)) (a.r*(qneg b).r) D).d) (h.trans' aq) (by show w.heap.size≤w.heap.size+1+1;omega))⟩
theorem worked_div (a b:Qn) (m:Nat) (D:Int) (u v:Value) (w:World) (ha:NN w u a) (hb:NN w v b) (hm:m≤9000000) (fa:QF m a) (fb:QF m b) (hD:D=if 1<a.d then a.d else b.d) (D0:0≤D) (D2:D≤1000000) (c:Int) (h0:¬ c=45) (h1:¬ c=43) (h2:¬ c=42) (ar:0<a.r) (hn:((b.p*b.p) - ((b.q*b.q)*b.d))≠0) (bA:0≤b.d) (ct:b.d≤1000000) :
  Calls Tryz.prog 76 #[u,.int .u8 c,v] w (RetNN w (qreduce ((qreduce ((a.p*b.p)+((a.q*-b.q)*D)) ((a.p*-b.q)+(a.q*b.p)) (a.r*1) D).p*b.r) ((qreduce ((a.p*b.p)+((a.q*-b.q)*D)) ((a.p*-b.q)+(a.q*b.p)) (a.r*1) D).q*b.r) ((qreduce ((a.p*b.p)+((a.q*-b.q)*D)) ((a.p*-b.q)+(a.q*b.p)) (a.r*1) D).r*((b.p*b.p) - ((b.q*b.q)*b.d))) D)):=by
 have x0:(c == 45)=false:=by simp[h0]
 have x1:(c == 43)=false:=by simp[h1]
 have x2:(c == 42)=false:=by simp[h2]
 clear h0 h1 h2;have bB:b.d≤9223372036854775807:=by omega
 have ay:Ft 7 b.d:=by unfold Ft;omega
 have f1:Ft 1 1:=by unfold Ft;decide
 have ft:QF (m+1) ⟨b.p,-b.q,1,b.d⟩:=⟨fb.1.mono (by omega),fb.2.1.neg.mono (by omega),f1.mono (by omega)⟩;have ca:QF (m+1) a:=⟨fa.1.mono (by omega),fa.2.1.mono (by omega),fa.2.2.mono (by omega)⟩;have bU:QF (2*m+9) (qreduce ((a.p*b.p)+((a.q*-b.q)*D)) ((a.p*-b.q)+(a.q*b.p)) (a.r*1) D):=by
  refine QF.reduce ((Ft.add ((fa.1.mul fb.1).mono (n:=2*m+7) (by omega)) ((Ft.mul (fa.2.1.mul fb.2.1.neg) (show Ft 7 D by unfold Ft;omega)).mono (n:=2*m+7) (by omega))).mono (by omega)) ?_ ((fa.2.2.mul f1).mono (by omega))
  exact(Ft.add ((fa.1.mul fb.2.1.neg).mono (n:=2*m) (by omega)) ((fa.2.1.mul fb.1).mono (n:=2*m) (by omega))).mono (by omega)
 have bL:0<(qreduce ((a.p*b.p)+((a.q*-b.q)*D)) ((a.p*-b.q)+(a.q*b.p)) (a.r*1) D).r:=qreduce_pos _ _ _ _ (by omega);have D1:D≤9223372036854775807:=by omega
 have fD:Ft 7 D:=by unfold Ft;omega
 have aY:=Hid.mk (fun w' (h1:NN w' u a) (h2:NN w' v b)=>root_ref a b u v w' h1 h2);rw[← hD] at aY;have HD:=Hid.mk hD;clear hD;obtain⟨b1,aK,n1,c1,b2,aL,n2,c2,b3,aM,n3,c3,rfl,aB,aC,aD⟩:=id ha;obtain⟨b4,P,n4,c4,b5,aE,n5,c5,b6,aH,n6,c6,rfl,aj,af,aq⟩:=id hb;have ah:Kp w (((w.alloc (.cells #[.bool b1,.slice aK n1 c1,.bool b2,.slice aL n2 c2,.bool b3,.slice aM n3 c3,.int .i64 a.d] 54)).alloc (.cells #[.bool b4,.slice P n4 c4,.bool b5,.slice aE n5 c5,.bool b6,.slice aH n6 c6,.int .i64 b.d] 54)).alloc (.cells #[.bool false,.slice none 0 0,.bool false,.slice none 0 0,.bool false,.slice none 0 0,.int .i64 0] 54)):=(Kp.alloc' (Kp.alloc' (Kp.alloc' (Below.refl w.heap.size w) (.cells #[.bool b1,.slice aK n1 c1,.bool b2,.slice aL n2 c2,.bool b3,.slice aM n3 c3,.int .i64 a.d] 54)) (.cells #[.bool b4,.slice P n4 c4,.bool b5,.slice aE n5 c5,.bool b6,.slice aH n6 c6,.int .i64 b.d] 54)) (.cells #[.bool false,.slice none 0 0,.bool false,.slice none 0 0,.bool false,.slice none 0 0,.int .i64 0] 54));have BA:Blk (((w.alloc (.cells #[.bool b1,.slice aK n1 c1,.bool b2,.slice aL n2 c2,.bool b3,.slice aM n3 c3,.int .i64 a.d] 54)).alloc (.cells #[.bool b4,.slice P n4 c4,.bool b5,.slice aE n5 c5,.bool b6,.slice aH n6 c6,.int .i64 b.d] 54)).alloc (.cells #[.bool false,.slice none 0 0,.bool false,.slice none 0 0,.bool false,.slice none 0 0,.int .i64 0] 54)) (w.heap.size) #[.bool b1,.slice aK n1 c1,.bool b2,.slice aL n2 c2,.bool b3,.slice aM n3 c3,.int .i64 a.d] 54:=(Blk.alloc (Blk.alloc (Blk.new w _ _) (.cells #[.bool b4,.slice P n4 c4,.bool b5,.slice aE n5 c5,.bool b6,.slice aH n6 c6,.int .i64 b.d] 54)) (.cells #[.bool false,.slice none 0 0,.bool false,.slice none 0 0,.bool false,.slice none 0 0,.int .i64 0] 54))
 have BB:Blk (((w.alloc (.cells #[.bool b1,.slice aK n1 c1,.bool b2,.slice aL n2 c2,.bool b3,.slice aM n3 c3,.int .i64 a.d] 54)).alloc (.cells #[.bool b4,.slice P n4 c4,.bool b5,.slice aE n5 c5,.bool b6,.slice aH n6 c6,.int .i64 b.d] 54)).alloc (.cells #[.bool false,.slice none 0 0,.bool false,.slice none 0 0,.bool false,.slice none 0 0,.int .i64 0] 54)) (w.heap.size+1) #[.bool b4,.slice P n4 c4,.bool b5,.slice aE n5 c5,.bool b6,.slice aH n6 c6,.int .i64 b.d] 54:=(Blk.alloc (Blk.at (Blk.new (w.alloc (.cells #[.bool b1,.slice aK n1 c1,.bool b2,.slice aL n2 c2,.bool b3,.slice aM n3 c3,.int .i64 a.d] 54)) _ _) (by simp)) (.cells #[.bool false,.slice none 0 0,.bool false,.slice none 0 0,.bool false,.slice none 0 0,.int .i64 0] 54));have BE:Blk (((w.alloc (.cells #[.bool b1,.slice aK n1 c1,.bool b2,.slice aL n2 c2,.bool b3,.slice aM n3 c3,.int .i64 a.d] 54)).alloc (.cells #[.bool b4,.slice P n4 c4,.bool b5,.slice aE n5 c5,.bool b6,.slice aH n6 c6,.int .i64 b.d] 54)).alloc (.cells #[.bool false,.slice none 0 0,.bool false,.slice none 0 0,.bool false,.slice none 0 0,.int .i64 0] 54)) (w.heap.size+1+1) #[.bool false,.slice none 0 0,.bool false,.slice none 0 0,.bool false,.slice none 0 0,.int .i64 0] 54:=(Blk.at (Blk.new ((w.alloc (.cells #[.bool b1,.slice aK n1 c1,.bool b2,.slice aL n2 c2,.bool b3,.slice aM n3 c3,.int .i64 a.d] 54)).alloc (.cells #[.bool b4,.slice P n4 c4,.bool b5,.slice aE n5 c5,.bool b6,.slice aH n6 c6,.int .i64 b.d] 54)) _ _) (by simp));replace aB:=aB.keep ah;replace aC:=aC.keep ah;replace aD:=aD.keep ah;replace aj:=aj.keep ah;replace af:=af.keep ah;replace aq:=aq.keep ah;replace ha:=ha.keep ah;replace hb:=hb.keep ah;have l1:=BA.lt;have l2:=BB.lt;have l3:=BE.lt
 go_enter Tryz.func76,Tryz.ntmps76
 go_wp2_with fail
 refine(aY.out _ ha hb).mono ?_;rintro e w0 ⟨rfl,az⟩;replace aB:=aB.keep az;replace aC:=aC.keep az;replace aD:=aD.keep az;replace aj:=aj.keep az;replace af:=af.keep az;replace aq:=aq.keep az;replace BA:=BA.keep az;replace BB:=BB.keep az;replace BE:=BE.keep az;replace ha:=ha.keep az;replace hb:=hb.keep az;replace ah:=ah.trans' az;have cu:=az.size;clear aY;generalize (((w.alloc (.cells #[.bool b1,.slice aK n1 c1,.bool b2,.slice aL n2 c2,.bool b3,.slice aM n3 c3,.int .i64 a.d] 54)).alloc (.cells #[.bool b4,.slice P n4 c4,.bool b5,.slice aE n5 c5,.bool b6,.slice aH n6 c6,.int .i64 b.d] 54)).alloc (.cells #[.bool false,.slice none 0 0,.bool false,.slice none 0 0,.bool false,.slice none 0 0,.int .i64 0] 54))=wz at *
 go_wp2_with fail
 go_cut [12] from 103 to 111 (fun p' wx=>∃(bt:Nat) (bN:Bool) (bh:Option Addr) (bO bP:Nat) (bQ:Bool) (bi:Option Addr) (bR bS:Nat),p'=.pointer (some ⟨bt,0,none⟩)∧Blk wx bt #[.bool b4,.slice P n4 c4,.bool bN,.slice bh bO bP,.bool bQ,.slice bi bR bS,.int .i64 b.d] 54∧IN wx (.agg #[.bool bN,.slice bh bO bP]) (-b.q)∧IN wx (.agg #[.bool bQ,.slice bi bR bS]) 1∧Kp w0 wx∧w0.heap.size≤bt)
 case first =>
  refine wp_region_l (S:=fun w'=>Kp w0 w') (by kernel_rfl) (Kp.drew' (Below.refl _ _)) (fun x=>?_);generalize w0.drew=wd at *;refine wpAnyL_tk (i:=0) (k:=1) (v:=.pointer (some ⟨w.heap.size+1,0,none⟩)) rfl ?_ x ?_
  ·intro w' t;go_simp
  simp only[sq];refine wpAnyL_tk (i:=1) (k:=8) (v:=.agg #[.bool b4,.slice P n4 c4]) rfl ?_ x ?_
  ·intro w' t;have hc:=((BB).keep t).cell;go_simp
  simp only[sq];refine wpAnyL_tk (i:=2) (k:=3) (v:=.pointer (some ⟨w.heap.size+1,2,none⟩)) rfl ?_ x ?_
  ·intro w' t;go_simp
  simp only[sq];refine wpAnyL_tk (i:=3) (k:=4) (v:=.agg #[.bool b5,.slice aE n5 c5]) rfl ?_ x ?_
  ·intro w' t;have hc:=((BB).keep t).cell;go_simp
  simp only[sq];refine wpAnyL_tk (i:=6) (k:=7) (v:=.pointer (some ⟨w.heap.size+1,6,none⟩)) rfl ?_ x ?_
  ·intro w' t;go_simp
  simp only[sq];refine wpAnyL_tk (i:=7) (k:=8) (v:=.int .i64 b.d) rfl ?_ x ?_
  ·intro w' t;have hc:=((BB).keep t).cell;go_simp
  simp only[sq];refine wpAnyL_ready (rs:=[4,9]) (by kernel_rfl) (by simp) ?_;refine AllReadyL.cons rfl (fun K j=>?_) ?_
  ·go_simp
   refine(less_any b.q _ _ (af.keep x)).mono ?_;rintro e ac ⟨ba,rfl,f,Y⟩;obtain⟨L,z,M,N,rfl⟩:=f.shape'
   go_wp2_with fail
   refine j.out _ _ (x.trans' Y) (fun ag=>?_);clear j K;refine wpAnyL_ready (rs:=[5,9]) (by kernel_rfl) (by simp) ?_;refine AllReadyL.cons rfl (fun K j=>?_) ?_
   ·go_simp
    refine(of_any 1 _ (by decide) (by decide)).mono ?_;rintro e aA ⟨bM,rfl,ad,ae⟩;obtain⟨R,E,T,V,rfl⟩:=ad.shape';replace f:=f.keep ae
    go_wp2_with fail
    refine j.out _ _ (ag.trans' ae) (fun Z=>?_);clear j K;refine wpAnyL_tk (i:=8) (k:=10) (v:=.agg #[.bool b4,.slice P n4 c4,.bool L,.slice z M N,.bool R,.slice E T V,.int .i64 b.d]) rfl ?_ Z ?_
    ·intro w' t;go_simp
    simp only[sq];refine wpAnyL_on (i:=9) rfl (fun K j=>?_)
    go_simp
    refine j.out _ _ (Kp.alloc' Z (.cells #[.bool false,.slice none 0 0,.bool false,.slice none 0 0,.bool false,.slice none 0 0,.int .i64 0] 54)) (fun ai=>?_);clear j K;have W:=Blk.new aA #[.bool false,.slice none 0 0,.bool false,.slice none 0 0,.bool false,.slice none 0 0,.int .i64 0] 54;have aQ:w0.heap.size≤aA.heap.size:=Z.size;replace f:=f.keep (kp_alloc aA (.cells #[.bool false,.slice none 0 0,.bool false,.slice none 0 0,.bool false,.slice none 0 0,.int .i64 0] 54));replace ad:=ad.keep (kp_alloc aA (.cells #[.bool false,.slice none 0 0,.bool false,.slice none 0 0,.bool false,.slice none 0 0,.int .i64 0] 54))
    try simp only[sq]
    generalize bV:aA.heap.size=A9 at *;generalize aA.alloc (.cells #[.bool false,.slice none 0 0,.bool false,.slice none 0 0,.bool false,.slice none 0 0,.int .i64 0] 54)=bW at *;have am:=W.cell;have au:=W.frozen;have av:=W.lt;refine wpAnyL_last (i:=10) rfl (by kernel_rfl) (by kernel_rfl) (by kernel_rfl) (fun K j=>?_)
    go_simp
    refine j.out _ _ ?_;clear j K
    go_wp2_with fail
    go_meet
    case rel=>exact⟨A9,_,_,_,_,_,_,_,_,rfl,(bl7 (.bool b4) (.slice P n4 c4) (.bool L) (.slice z M N) (.bool R) (.slice E T V) (.int .i64 b.d) W),f.soft (sf7 (.bool b4) (.slice P n4 c4) (.bool L) (.slice z M N) (.bool R) (.slice E T V) (.int .i64 b.d) W (by decide)),ad.soft (sf7 (.bool b4) (.slice P n4 c4) (.bool L) (.slice z M N) (.bool R) (.slice E T V) (.int .i64 b.d) W (by decide)),(kp7 (A:=A9) (.bool b4) (.slice P n4 c4) (.bool L) (.slice z M N) (.bool R) (.slice E T V) (.int .i64 b.d) ai aQ),aQ⟩
   refine AllReadyL.cons rfl (fun K j=>?_) ?_
   ·go_simp
    refine j.out _ _ (Kp.alloc' ag (.cells #[.bool false,.slice none 0 0,.bool false,.slice none 0 0,.bool false,.slice none 0 0,.int .i64 0] 54)) (fun Z=>?_);clear j K;have W:=Blk.new ac #[.bool false,.slice none 0 0,.bool false,.slice none 0 0,.bool false,.slice none 0 0,.int .i64 0] 54;have aQ:w0.heap.size≤ac.heap.size:=ag.size;replace f:=f.keep (kp_alloc ac (.cells #[.bool false,.slice none 0 0,.bool false,.slice none 0 0,.bool false,.slice none 0 0,.int .i64 0] 54))
    try simp only[sq]
    generalize bV:ac.heap.size=A9 at *;generalize ac.alloc (.cells #[.bool false,.slice none 0 0,.bool false,.slice none 0 0,.bool false,.slice none 0 0,.int .i64 0] 54)=bW at *;refine wpAnyL_on (i:=5) rfl (fun K j=>?_)
    go_simp
    refine(of_any 1 _ (by decide) (by decide)).mono ?_;rintro e aA ⟨bM,rfl,ad,ae⟩;obtain⟨R,E,T,V,rfl⟩:=ad.shape';replace f:=f.keep ae;replace W:=W.keep ae
    go_wp2_with fail
    refine j.out _ _ (Z.trans' ae) (fun ai=>?_);clear j K;refine wpAnyL_tk (i:=8) (k:=10) (v:=.agg #[.bool b4,.slice P n4 c4,.bool L,.slice z M N,.bool R,.slice E T V,.int .i64 b.d]) rfl ?_ ai ?_
    ·intro w' t;go_simp
    simp only[sq];have am:=W.cell;have au:=W.frozen;have av:=W.lt;refine wpAnyL_last (i:=10) rfl (by kernel_rfl) (by kernel_rfl) (by kernel_rfl) (fun K j=>?_)
    go_simp
    refine j.out _ _ ?_;clear j K
    go_wp2_with fail
    go_meet
    case rel=>exact⟨A9,_,_,_,_,_,_,_,_,rfl,(bl7 (.bool b4) (.slice P n4 c4) (.bool L) (.slice z M N) (.bool R) (.slice E T V) (.int .i64 b.d) W),f.soft (sf7 (.bool b4) (.slice P n4 c4) (.bool L) (.slice z M N) (.bool R) (.slice E T V) (.int .i64 b.d) W (by decide)),ad.soft (sf7 (.bool b4) (.slice P n4 c4) (.bool L) (.slice z M N) (.bool R) (.slice E T V) (.int .i64 b.d) W (by decide)),(kp7 (A:=A9) (.bool b4) (.slice P n4 c4) (.bool L) (.slice z M N) (.bool R) (.slice E T V) (.int .i64 b.d) ai aQ),aQ⟩
   exact AllReadyL.nil
  refine AllReadyL.cons rfl (fun K j=>?_) ?_
  ·go_simp
   refine j.out _ _ (Kp.alloc' x (.cells #[.bool false,.slice none 0 0,.bool false,.slice none 0 0,.bool false,.slice none 0 0,.int .i64 0] 54)) (fun ag=>?_);clear j K;have W:=Blk.new wd #[.bool false,.slice none 0 0,.bool false,.slice none 0 0,.bool false,.slice none 0 0,.int .i64 0] 54;have aQ:w0.heap.size≤wd.heap.size:=x.size
   try simp only[sq]
   generalize bV:wd.heap.size=A9 at *;generalize wd.alloc (.cells #[.bool false,.slice none 0 0,.bool false,.slice none 0 0,.bool false,.slice none 0 0,.int .i64 0] 54)=bW at *;refine wpAnyL_on (i:=4) rfl (fun K j=>?_)
   go_simp
   refine(less_any b.q _ _ (af.keep ag)).mono ?_;rintro e ac ⟨ba,rfl,f,Y⟩;obtain⟨L,z,M,N,rfl⟩:=f.shape';replace W:=W.keep Y
   go_wp2_with fail
   refine j.out _ _ (ag.trans' Y) (fun Z=>?_);clear j K;refine wpAnyL_on (i:=5) rfl (fun K j=>?_)
   go_simp
   refine(of_any 1 _ (by decide) (by decide)).mono ?_;rintro e aA ⟨bM,rfl,ad,ae⟩;obtain⟨R,E,T,V,rfl⟩:=ad.shape';replace W:=W.keep ae;replace f:=f.keep ae
   go_wp2_with fail
   refine j.out _ _ (Z.trans' ae) (fun ai=>?_);clear j K;refine wpAnyL_tk (i:=8) (k:=10) (v:=.agg #[.bool b4,.slice P n4 c4,.bool L,.slice z M N,.bool R,.slice E T V,.int .i64 b.d]) rfl ?_ ai ?_
   ·intro w' t;go_simp
   simp only[sq];have am:=W.cell;have au:=W.frozen;have av:=W.lt;refine wpAnyL_last (i:=10) rfl (by kernel_rfl) (by kernel_rfl) (by kernel_rfl) (fun K j=>?_)
   go_simp
   refine j.out _ _ ?_;clear j K
   go_wp2_with fail
   go_meet
   case rel=>exact⟨A9,_,_,_,_,_,_,_,_,rfl,(bl7 (.bool b4) (.slice P n4 c4) (.bool L) (.slice z M N) (.bool R) (.slice E T V) (.int .i64 b.d) W),f.soft (sf7 (.bool b4) (.slice P n4 c4) (.bool L) (.slice z M N) (.bool R) (.slice E T V) (.int .i64 b.d) W (by decide)),ad.soft (sf7 (.bool b4) (.slice P n4 c4) (.bool L) (.slice z M N) (.bool R) (.slice E T V) (.int .i64 b.d) W (by decide)),(kp7 (A:=A9) (.bool b4) (.slice P n4 c4) (.bool L) (.slice z M N) (.bool R) (.slice E T V) (.int .i64 b.d) ai aQ),aQ⟩
  exact AllReadyL.nil
 case rest =>
  obtain⟨bt,bN,bh,bO,bP,bQ,bi,bR,bS,rfl,BT,bX,bY,J,cw⟩:=hcut;replace aB:=aB.keep J;replace aC:=aC.keep J;replace aD:=aD.keep J;replace aj:=aj.keep J;replace af:=af.keep J;replace aq:=aq.keep J;replace BA:=BA.keep J;replace BB:=BB.keep J;replace BE:=BE.keep J;replace ha:=ha.keep J;replace ah:=ah.trans' J;have cm:=J.size;clear J;have cb:=BT.cell;have cd:=BT.lt;have ce:=BA.cell;have cf:=BA.lt
  go_wp2_with fail
  refine(worked_mul a ⟨b.p,-b.q,1,b.d⟩ (m+1) D _ _ _ ha ⟨_,_,_,_,_,_,_,_,_,_,_,_,rfl,aj,bX,bY⟩ (by omega) ca ft HD.out D0 D2 (by simp only;omega)).mono ?_
  rintro e w3 ⟨v3,rfl,bZ,aF⟩;generalize hU:(qreduce ((a.p*b.p)+((a.q*-b.q)*D)) ((a.p*-b.q)+(a.q*b.p)) (a.r*1) D)=U at *;obtain⟨bC,bc,bD,bE,bF,be,bG,bH,bI,bf,bJ,bK,rfl,bj,bm,bn⟩:=id bZ;have HU:=Hid.mk hU;have fU:=bU;have cg:U.r*((b.p*b.p) - ((b.q*b.q)*b.d))≠0:=fun h=>(Int.mul_eq_zero.mp h).elim (fun h=>by rw[h] at bL;exact absurd bL (by decide)) (fun h=>hn h)
  clear hU bU cb cd ce cf BT bX bY bZ ha hb hn;replace aB:=aB.keep aF;replace aC:=aC.keep aF;replace aD:=aD.keep aF;replace aj:=aj.keep aF;replace af:=af.keep aF;replace aq:=aq.keep aF;replace BA:=BA.keep aF;replace BB:=BB.keep aF;replace BE:=BE.keep aF;replace ah:=ah.trans' aF;have cn:=aF.size
  go_wp2_with fail
  have ap:=kp_alloc w3 (.cells #[.bool bC,.slice bc bD bE,.bool bF,.slice be bG bH,.bool bI,.slice bf bJ bK,.int .i64 U.d] 54);have BU:=Blk.new w3 #[.bool bC,.slice bc bD bE,.bool bF,.slice be bG bH,.bool bI,.slice bf bJ bK,.int .i64 U.d] 54;replace aB:=aB.keep ap;replace aC:=aC.keep ap;replace aD:=aD.keep ap;replace aj:=aj.keep ap;replace af:=af.keep ap;replace aq:=aq.keep ap;replace BA:=BA.keep ap;replace BB:=BB.keep ap;replace BE:=BE.keep ap;replace bj:=bj.keep ap;replace bm:=bm.keep ap;replace bn:=bn.keep ap;replace ah:=ah.trans' ap;have co:=ap.size;clear ap aF;generalize hbu:w3.heap.size=bu at *;generalize w3.alloc (.cells #[.bool bC,.slice bc bD bE,.bool bF,.slice be bG bH,.bool bI,.slice bf bJ bK,.int .i64 U.d] 54)=w4 at *
  go_cut [14] from 115 to 129 (fun p' wx=>∃(bg:Nat) (bb:Bool) (aa:Option Addr) (nn cc:Nat),p'=.pointer (some ⟨bg,0,none⟩)∧Blk wx bg #[.bool bb,.slice aa nn cc] 52∧IN wx (.agg #[.bool bb,.slice aa nn cc]) ((b.p*b.p) - ((b.q*b.q)*b.d))∧Kp w4 wx∧w4.heap.size≤bg)
  case first =>
   refine wp_region_l (S:=fun w'=>Kp w4 w') (by kernel_rfl) (Kp.drew' (Below.refl _ _)) (fun x=>?_);generalize w4.drew=wd at *;refine wpAnyL_tk (i:=0) (k:=1) (v:=.pointer (some ⟨w.heap.size+1,0,none⟩)) rfl ?_ x ?_
   ·intro w' t;go_simp
   simp only[sq];refine wpAnyL_tk (i:=1) (k:=4) (v:=.agg #[.bool b4,.slice P n4 c4]) rfl ?_ x ?_
   ·intro w' t;have hc:=((BB).keep t).cell;go_simp
   simp only[sq];refine wpAnyL_tk (i:=2) (k:=3) (v:=.pointer (some ⟨w.heap.size+1,0,none⟩)) rfl ?_ x ?_
   ·intro w' t;go_simp
   simp only[sq];refine wpAnyL_tk (i:=3) (k:=4) (v:=.agg #[.bool b4,.slice P n4 c4]) rfl ?_ x ?_
   ·intro w' t;have hc:=((BB).keep t).cell;go_simp
   simp only[sq];refine wpAnyL_tk (i:=5) (k:=6) (v:=.pointer (some ⟨w.heap.size+1,2,none⟩)) rfl ?_ x ?_
   ·intro w' t;go_simp
   simp only[sq];refine wpAnyL_tk (i:=6) (k:=9) (v:=.agg #[.bool b5,.slice aE n5 c5]) rfl ?_ x ?_
   ·intro w' t;have hc:=((BB).keep t).cell;go_simp
   simp only[sq];refine wpAnyL_tk (i:=7) (k:=8) (v:=.pointer (some ⟨w.heap.size+1,2,none⟩)) rfl ?_ x ?_
   ·intro w' t;go_simp
   simp only[sq];refine wpAnyL_tk (i:=8) (k:=9) (v:=.agg #[.bool b5,.slice aE n5 c5]) rfl ?_ x ?_
   ·intro w' t;have hc:=((BB).keep t).cell;go_simp
   simp only[sq];refine wpAnyL_tk (i:=10) (k:=11) (v:=.pointer (some ⟨w.heap.size+1,6,none⟩)) rfl ?_ x ?_
   ·intro w' t;go_simp
   simp only[sq];refine wpAnyL_tk (i:=11) (k:=12) (v:=.int .i64 b.d) rfl ?_ x ?_
   ·intro w' t;have hc:=((BB).keep t).cell;go_simp
   simp only[sq];refine wpAnyL_ready (rs:=[4,15]) (by kernel_rfl) (by simp) ?_;refine AllReadyL.cons rfl (fun K j=>?_) ?_
   ·go_simp
    refine(rtimes_any b.p b.p _ _ _ (aj.keep x) (aj.keep x) (Ft.fit fb.1 (by omega)) (Ft.fit fb.1 (by omega))).mono ?_;rintro e ac ⟨ba,rfl,f,Y⟩;obtain⟨L,z,M,N,rfl⟩:=f.shape'
    go_wp2_with fail
    refine j.out _ _ (x.trans' Y) (fun ag=>?_);clear j K;refine wpAnyL_ready (rs:=[9,15]) (by kernel_rfl) (by simp) ?_;refine AllReadyL.cons rfl (fun K j=>?_) ?_
    ·go_simp
     refine(rtimes_any b.q b.q _ _ _ (af.keep ag) (af.keep ag) (Ft.fit fb.2.1 (by omega)) (Ft.fit fb.2.1 (by omega))).mono ?_;rintro e aw ⟨bo,rfl,l,Q⟩;obtain⟨bp,aZ,bq,br,rfl⟩:=l.shape';replace f:=f.keep Q
     go_wp2_with fail
     refine j.out _ _ (ag.trans' Q) (fun Z=>?_);clear j K;refine wpAnyL_ready (rs:=[12,15]) (by kernel_rfl) (by simp) ?_;refine AllReadyL.cons rfl (fun K j=>?_) ?_
     ·go_simp
      refine(of_any b.d _ bA bB).mono ?_;rintro e an ⟨bs,rfl,O,C⟩;obtain⟨bv,a0,bw,bx,rfl⟩:=O.shape';replace f:=f.keep C;replace l:=l.keep C
      go_wp2_with fail
      refine j.out _ _ (Z.trans' C) (fun ai=>?_);clear j K;refine wpAnyL_ready (rs:=[13,15]) (by kernel_rfl) (by simp) ?_;refine AllReadyL.cons rfl (fun K j=>?_) ?_
      ·go_simp
       refine(rtimes_any (b.q*b.q) b.d _ _ _ l O (Ft.fit (Ft.mono (n:=2*m+0) (Ft.mul fb.2.1 fb.2.1) (by omega)) (by omega)) (Ft.fit ay (by omega))).mono ?_;rintro e ak ⟨aR,rfl,y,s⟩;obtain⟨aS,aI,aT,aU,rfl⟩:=y.shape';replace f:=f.keep s
       go_wp2_with fail
       refine j.out _ _ (ai.trans' s) (fun ax=>?_);clear j K;refine wpAnyL_ready (rs:=[14,15]) (by kernel_rfl) (by simp) ?_;refine AllReadyL.cons rfl (fun K j=>?_) ?_
       ·go_simp
        refine(rminus_any (b.p*b.p) ((b.q*b.q)*b.d) _ _ _ f y (Ft.fit (Ft.mono (n:=2*m+0) (Ft.mul fb.1 fb.1) (by omega)) (by omega)) (Ft.fit (Ft.mono (n:=2*m+7) (Ft.mul (Ft.mono (n:=2*m+0) (Ft.mul fb.2.1 fb.2.1) (by omega)) ay) (by omega)) (by omega))).mono ?_;rintro e ao ⟨aV,rfl,B,I⟩;obtain⟨F,o,G,H,rfl⟩:=B.shape'
        go_wp2_with fail
        refine j.out _ _ (ax.trans' I) (fun aG=>?_);clear j K;refine wpAnyL_on (i:=15) rfl (fun K j=>?_)
        go_simp
        refine j.out _ _ (Kp.alloc' aG (.cells #[.bool false,.slice none 0 0] 52)) (fun aJ=>?_);clear j K;have g:=Blk.new ao #[.bool false,.slice none 0 0] 52;have X:w4.heap.size≤ao.heap.size:=aG.size;replace B:=B.keep (kp_alloc ao (.cells #[.bool false,.slice none 0 0] 52))
        try simp only[sq]
        generalize aW:ao.heap.size=al at *;generalize ao.alloc (.cells #[.bool false,.slice none 0 0] 52)=aX at *;have am:=g.cell;have au:=g.frozen;have av:=g.lt;refine wpAnyL_last (i:=16) rfl (by kernel_rfl) (by kernel_rfl) (by kernel_rfl) (fun K j=>?_)
        go_simp
        refine j.out _ _ ?_;clear j K
        go_wp2_with fail
        go_meet
        case rel=>exact⟨al,_,_,_,_,rfl,(bl2 (.bool F) (.slice o G H) g),B.soft (sf2 (.bool F) (.slice o G H) g (by decide)),(kp2 (A:=al) (.bool F) (.slice o G H) aJ X),X⟩
       refine AllReadyL.cons rfl (fun K j=>?_) ?_
       ·go_simp
        refine j.out _ _ (Kp.alloc' ax (.cells #[.bool false,.slice none 0 0] 52)) (fun aG=>?_);clear j K;have g:=Blk.new ak #[.bool false,.slice none 0 0] 52;have X:w4.heap.size≤ak.heap.size:=ax.size;replace f:=f.keep (kp_alloc ak (.cells #[.bool false,.slice none 0 0] 52));replace y:=y.keep (kp_alloc ak (.cells #[.bool false,.slice none 0 0] 52))
        try simp only[sq]
        generalize aW:ak.heap.size=al at *;generalize ak.alloc (.cells #[.bool false,.slice none 0 0] 52)=aX at *;refine wpAnyL_on (i:=14) rfl (fun K j=>?_)
        go_simp
        refine(rminus_any (b.p*b.p) ((b.q*b.q)*b.d) _ _ _ f y (Ft.fit (Ft.mono (n:=2*m+0) (Ft.mul fb.1 fb.1) (by omega)) (by omega)) (Ft.fit (Ft.mono (n:=2*m+7) (Ft.mul (Ft.mono (n:=2*m+0) (Ft.mul fb.2.1 fb.2.1) (by omega)) ay) (by omega)) (by omega))).mono ?_;rintro e ao ⟨aV,rfl,B,I⟩;obtain⟨F,o,G,H,rfl⟩:=B.shape';replace g:=g.keep I
        go_wp2_with fail
        refine j.out _ _ (aG.trans' I) (fun aJ=>?_);clear j K;have am:=g.cell;have au:=g.frozen;have av:=g.lt;refine wpAnyL_last (i:=16) rfl (by kernel_rfl) (by kernel_rfl) (by kernel_rfl) (fun K j=>?_)
        go_simp
        refine j.out _ _ ?_;clear j K
        go_wp2_with fail
        go_meet
        case rel=>exact⟨al,_,_,_,_,rfl,(bl2 (.bool F) (.slice o G H) g),B.soft (sf2 (.bool F) (.slice o G H) g (by decide)),(kp2 (A:=al) (.bool F) (.slice o G H) aJ X),X⟩
       exact AllReadyL.nil
      refine AllReadyL.cons rfl (fun K j=>?_) ?_
      ·go_simp
       refine j.out _ _ (Kp.alloc' ai (.cells #[.bool false,.slice none 0 0] 52)) (fun ax=>?_);clear j K;have g:=Blk.new an #[.bool false,.slice none 0 0] 52;have X:w4.heap.size≤an.heap.size:=ai.size;replace f:=f.keep (kp_alloc an (.cells #[.bool false,.slice none 0 0] 52));replace l:=l.keep (kp_alloc an (.cells #[.bool false,.slice none 0 0] 52));replace O:=O.keep (kp_alloc an (.cells #[.bool false,.slice none 0 0] 52))
       try simp only[sq]
       generalize aW:an.heap.size=al at *;generalize an.alloc (.cells #[.bool false,.slice none 0 0] 52)=aX at *;refine wpAnyL_on (i:=13) rfl (fun K j=>?_)
       go_simp
       refine(rtimes_any (b.q*b.q) b.d _ _ _ l O (Ft.fit (Ft.mono (n:=2*m+0) (Ft.mul fb.2.1 fb.2.1) (by omega)) (by omega)) (Ft.fit ay (by omega))).mono ?_;rintro e ak ⟨aR,rfl,y,s⟩;obtain⟨aS,aI,aT,aU,rfl⟩:=y.shape';replace f:=f.keep s;replace g:=g.keep s
       go_wp2_with fail
       refine j.out _ _ (ax.trans' s) (fun aG=>?_);clear j K;refine wpAnyL_on (i:=14) rfl (fun K j=>?_)
       go_simp
       refine(rminus_any (b.p*b.p) ((b.q*b.q)*b.d) _ _ _ f y (Ft.fit (Ft.mono (n:=2*m+0) (Ft.mul fb.1 fb.1) (by omega)) (by omega)) (Ft.fit (Ft.mono (n:=2*m+7) (Ft.mul (Ft.mono (n:=2*m+0) (Ft.mul fb.2.1 fb.2.1) (by omega)) ay) (by omega)) (by omega))).mono ?_;rintro e ao ⟨aV,rfl,B,I⟩;obtain⟨F,o,G,H,rfl⟩:=B.shape';replace g:=g.keep I
       go_wp2_with fail
       refine j.out _ _ (aG.trans' I) (fun aJ=>?_);clear j K;have am:=g.cell;have au:=g.frozen;have av:=g.lt;refine wpAnyL_last (i:=16) rfl (by kernel_rfl) (by kernel_rfl) (by kernel_rfl) (fun K j=>?_)
       go_simp
       refine j.out _ _ ?_;clear j K
       go_wp2_with fail
       go_meet
       case rel=>exact⟨al,_,_,_,_,rfl,(bl2 (.bool F) (.slice o G H) g),B.soft (sf2 (.bool F) (.slice o G H) g (by decide)),(kp2 (A:=al) (.bool F) (.slice o G H) aJ X),X⟩
      exact AllReadyL.nil
     refine AllReadyL.cons rfl (fun K j=>?_) ?_
     ·go_simp
      refine j.out _ _ (Kp.alloc' Z (.cells #[.bool false,.slice none 0 0] 52)) (fun ai=>?_);clear j K;have g:=Blk.new aw #[.bool false,.slice none 0 0] 52;have X:w4.heap.size≤aw.heap.size:=Z.size;replace f:=f.keep (kp_alloc aw (.cells #[.bool false,.slice none 0 0] 52));replace l:=l.keep (kp_alloc aw (.cells #[.bool false,.slice none 0 0] 52))
      try simp only[sq]
      generalize aW:aw.heap.size=al at *;generalize aw.alloc (.cells #[.bool false,.slice none 0 0] 52)=aX at *;refine wpAnyL_on (i:=12) rfl (fun K j=>?_)
      go_simp
      refine(of_any b.d _ bA bB).mono ?_;rintro e an ⟨bs,rfl,O,C⟩;obtain⟨bv,a0,bw,bx,rfl⟩:=O.shape';replace f:=f.keep C;replace l:=l.keep C;replace g:=g.keep C
      go_wp2_with fail
      refine j.out _ _ (ai.trans' C) (fun ax=>?_);clear j K;refine wpAnyL_on (i:=13) rfl (fun K j=>?_)
      go_simp
      refine(rtimes_any (b.q*b.q) b.d _ _ _ l O (Ft.fit (Ft.mono (n:=2*m+0) (Ft.mul fb.2.1 fb.2.1) (by omega)) (by omega)) (Ft.fit ay (by omega))).mono ?_;rintro e ak ⟨aR,rfl,y,s⟩;obtain⟨aS,aI,aT,aU,rfl⟩:=y.shape';replace f:=f.keep s;replace g:=g.keep s
      go_wp2_with fail
      refine j.out _ _ (ax.trans' s) (fun aG=>?_);clear j K;refine wpAnyL_on (i:=14) rfl (fun K j=>?_)
      go_simp
      refine(rminus_any (b.p*b.p) ((b.q*b.q)*b.d) _ _ _ f y (Ft.fit (Ft.mono (n:=2*m+0) (Ft.mul fb.1 fb.1) (by omega)) (by omega)) (Ft.fit (Ft.mono (n:=2*m+7) (Ft.mul (Ft.mono (n:=2*m+0) (Ft.mul fb.2.1 fb.2.1) (by omega)) ay) (by omega)) (by omega))).mono ?_;rintro e ao ⟨aV,rfl,B,I⟩;obtain⟨F,o,G,H,rfl⟩:=B.shape';replace g:=g.keep I
      go_wp2_with fail
      refine j.out _ _ (aG.trans' I) (fun aJ=>?_);clear j K;have am:=g.cell;have au:=g.frozen;have av:=g.lt;refine wpAnyL_last (i:=16) rfl (by kernel_rfl) (by kernel_rfl) (by kernel_rfl) (fun K j=>?_)
      go_simp
      refine j.out _ _ ?_;clear j K
      go_wp2_with fail
      go_meet
      case rel=>exact⟨al,_,_,_,_,rfl,(bl2 (.bool F) (.slice o G H) g),B.soft (sf2 (.bool F) (.slice o G H) g (by decide)),(kp2 (A:=al) (.bool F) (.slice o G H) aJ X),X⟩
     exact AllReadyL.nil
    refine AllReadyL.cons rfl (fun K j=>?_) ?_
    ·go_simp
     refine j.out _ _ (Kp.alloc' ag (.cells #[.bool false,.slice none 0 0] 52)) (fun Z=>?_);clear j K;have g:=Blk.new ac #[.bool false,.slice none 0 0] 52;have X:w4.heap.size≤ac.heap.size:=ag.size;replace f:=f.keep (kp_alloc ac (.cells #[.bool false,.slice none 0 0] 52))
     try simp only[sq]
     generalize aW:ac.heap.size=al at *;generalize ac.alloc (.cells #[.bool false,.slice none 0 0] 52)=aX at *;refine wpAnyL_on (i:=9) rfl (fun K j=>?_)
     go_simp
     refine(rtimes_any b.q b.q _ _ _ (af.keep Z) (af.keep Z) (Ft.fit fb.2.1 (by omega)) (Ft.fit fb.2.1 (by omega))).mono ?_;rintro e aw ⟨bo,rfl,l,Q⟩;obtain⟨bp,aZ,bq,br,rfl⟩:=l.shape';replace f:=f.keep Q;replace g:=g.keep Q
     go_wp2_with fail
     refine j.out _ _ (Z.trans' Q) (fun ai=>?_);clear j K;refine wpAnyL_on (i:=12) rfl (fun K j=>?_)
     go_simp
     refine(of_any b.d _ bA bB).mono ?_;rintro e an ⟨bs,rfl,O,C⟩;obtain⟨bv,a0,bw,bx,rfl⟩:=O.shape';replace f:=f.keep C;replace g:=g.keep C;replace l:=l.keep C
     go_wp2_with fail
     refine j.out _ _ (ai.trans' C) (fun ax=>?_);clear j K;refine wpAnyL_on (i:=13) rfl (fun K j=>?_)
     go_simp
     refine(rtimes_any (b.q*b.q) b.d _ _ _ l O (Ft.fit (Ft.mono (n:=2*m+0) (Ft.mul fb.2.1 fb.2.1) (by omega)) (by omega)) (Ft.fit ay (by omega))).mono ?_;rintro e ak ⟨aR,rfl,y,s⟩;obtain⟨aS,aI,aT,aU,rfl⟩:=y.shape';replace f:=f.keep s;replace g:=g.keep s
     go_wp2_with fail
     refine j.out _ _ (ax.trans' s) (fun aG=>?_);clear j K;refine wpAnyL_on (i:=14) rfl (fun K j=>?_)
     go_simp
     refine(rminus_any (b.p*b.p) ((b.q*b.q)*b.d) _ _ _ f y (Ft.fit (Ft.mono (n:=2*m+0) (Ft.mul fb.1 fb.1) (by omega)) (by omega)) (Ft.fit (Ft.mono (n:=2*m+7) (Ft.mul (Ft.mono (n:=2*m+0) (Ft.mul fb.2.1 fb.2.1) (by omega)) ay) (by omega)) (by omega))).mono ?_;rintro e ao ⟨aV,rfl,B,I⟩;obtain⟨F,o,G,H,rfl⟩:=B.shape';replace g:=g.keep I
     go_wp2_with fail
     refine j.out _ _ (aG.trans' I) (fun aJ=>?_);clear j K;have am:=g.cell;have au:=g.frozen;have av:=g.lt;refine wpAnyL_last (i:=16) rfl (by kernel_rfl) (by kernel_rfl) (by kernel_rfl) (fun K j=>?_)
     go_simp
     refine j.out _ _ ?_;clear j K
     go_wp2_with fail
     go_meet
     case rel=>exact⟨al,_,_,_,_,rfl,(bl2 (.bool F) (.slice o G H) g),B.soft (sf2 (.bool F) (.slice o G H) g (by decide)),(kp2 (A:=al) (.bool F) (.slice o G H) aJ X),X⟩
    exact AllReadyL.nil
   refine AllReadyL.cons rfl (fun K j=>?_) ?_
   ·go_simp
    refine j.out _ _ (Kp.alloc' x (.cells #[.bool false,.slice none 0 0] 52)) (fun ag=>?_);clear j K;have g:=Blk.new wd #[.bool false,.slice none 0 0] 52;have X:w4.heap.size≤wd.heap.size:=x.size
    try simp only[sq]
    generalize aW:wd.heap.size=al at *;generalize wd.alloc (.cells #[.bool false,.slice none 0 0] 52)=aX at *;refine wpAnyL_on (i:=4) rfl (fun K j=>?_)
    go_simp
    refine(rtimes_any b.p b.p _ _ _ (aj.keep ag) (aj.keep ag) (Ft.fit fb.1 (by omega)) (Ft.fit fb.1 (by omega))).mono ?_;rintro e ac ⟨ba,rfl,f,Y⟩;obtain⟨L,z,M,N,rfl⟩:=f.shape';replace g:=g.keep Y
    go_wp2_with fail
    refine j.out _ _ (ag.trans' Y) (fun Z=>?_);clear j K;refine wpAnyL_on (i:=9) rfl (fun K j=>?_)
    go_simp
    refine(rtimes_any b.q b.q _ _ _ (af.keep Z) (af.keep Z) (Ft.fit fb.2.1 (by omega)) (Ft.fit fb.2.1 (by omega))).mono ?_;rintro e aw ⟨bo,rfl,l,Q⟩;obtain⟨bp,aZ,bq,br,rfl⟩:=l.shape';replace g:=g.keep Q;replace f:=f.keep Q
    go_wp2_with fail
    refine j.out _ _ (Z.trans' Q) (fun ai=>?_);clear j K;refine wpAnyL_on (i:=12) rfl (fun K j=>?_)
    go_simp
    refine(of_any b.d _ bA bB).mono ?_;rintro e an ⟨bs,rfl,O,C⟩;obtain⟨bv,a0,bw,bx,rfl⟩:=O.shape';replace g:=g.keep C;replace f:=f.keep C;replace l:=l.keep C
    go_wp2_with fail
    refine j.out _ _ (ai.trans' C) (fun ax=>?_);clear j K;refine wpAnyL_on (i:=13) rfl (fun K j=>?_)
    go_simp
    refine(rtimes_any (b.q*b.q) b.d _ _ _ l O (Ft.fit (Ft.mono (n:=2*m+0) (Ft.mul fb.2.1 fb.2.1) (by omega)) (by omega)) (Ft.fit ay (by omega))).mono ?_;rintro e ak ⟨aR,rfl,y,s⟩;obtain⟨aS,aI,aT,aU,rfl⟩:=y.shape';replace g:=g.keep s;replace f:=f.keep s
    go_wp2_with fail
    refine j.out _ _ (ax.trans' s) (fun aG=>?_);clear j K;refine wpAnyL_on (i:=14) rfl (fun K j=>?_)
    go_simp
    refine(rminus_any (b.p*b.p) ((b.q*b.q)*b.d) _ _ _ f y (Ft.fit (Ft.mono (n:=2*m+0) (Ft.mul fb.1 fb.1) (by omega)) (by omega)) (Ft.fit (Ft.mono (n:=2*m+7) (Ft.mul (Ft.mono (n:=2*m+0) (Ft.mul fb.2.1 fb.2.1) (by omega)) ay) (by omega)) (by omega))).mono ?_;rintro e ao ⟨aV,rfl,B,I⟩;obtain⟨F,o,G,H,rfl⟩:=B.shape';replace g:=g.keep I
    go_wp2_with fail
    refine j.out _ _ (aG.trans' I) (fun aJ=>?_);clear j K;have am:=g.cell;have au:=g.frozen;have av:=g.lt;refine wpAnyL_last (i:=16) rfl (by kernel_rfl) (by kernel_rfl) (by kernel_rfl) (fun K j=>?_)
    go_simp
    refine j.out _ _ ?_;clear j K
    go_wp2_with fail
    go_meet
    case rel=>exact⟨al,_,_,_,_,rfl,(bl2 (.bool F) (.slice o G H) g),B.soft (sf2 (.bool F) (.slice o G H) g (by decide)),(kp2 (A:=al) (.bool F) (.slice o G H) aJ X),X⟩
   exact AllReadyL.nil
  case rest =>
   obtain⟨cp,ch,b0,ci,cj,rfl,BN,hN,J,ck⟩:=hcut;replace aB:=aB.keep J;replace aC:=aC.keep J;replace aD:=aD.keep J;replace aj:=aj.keep J;replace af:=af.keep J;replace aq:=aq.keep J;replace BA:=BA.keep J;replace BB:=BB.keep J;replace BE:=BE.keep J;replace BU:=BU.keep J;replace bj:=bj.keep J;replace bm:=bm.keep J;replace bn:=bn.keep J;replace ah:=ah.trans' J;have cl:=J.size;clear J;generalize wc=w1 at *
   go_wp2_with fail
   refine wp_region_l (S:=fun w'=>Kp w1 w') (by kernel_rfl) (Kp.drew' (Below.refl _ _)) (fun x=>?_);generalize w1.drew=wd at *;refine wpAnyL_tk (i:=0) (k:=1) (v:=.pointer (some ⟨bu,0,none⟩)) rfl ?_ x ?_
   ·intro w' t;go_simp
   simp only[sq];refine wpAnyL_tk (i:=1) (k:=4) (v:=.agg #[.bool bC,.slice bc bD bE]) rfl ?_ x ?_
   ·intro w' t;have hc:=((BU).keep t).cell;go_simp
   simp only[sq];refine wpAnyL_tk (i:=2) (k:=3) (v:=.pointer (some ⟨w.heap.size+1,4,none⟩)) rfl ?_ x ?_
   ·intro w' t;go_simp
   simp only[sq];refine wpAnyL_tk (i:=3) (k:=4) (v:=.agg #[.bool b6,.slice aH n6 c6]) rfl ?_ x ?_
   ·intro w' t;have hc:=((BB).keep t).cell;go_simp
   simp only[sq];refine wpAnyL_tk (i:=5) (k:=6) (v:=.pointer (some ⟨bu,2,none⟩)) rfl ?_ x ?_
   ·intro w' t;go_simp
   simp only[sq];refine wpAnyL_tk (i:=6) (k:=9) (v:=.agg #[.bool bF,.slice be bG bH]) rfl ?_ x ?_
   ·intro w' t;have hc:=((BU).keep t).cell;go_simp
   simp only[sq];refine wpAnyL_tk (i:=7) (k:=8) (v:=.pointer (some ⟨w.heap.size+1,4,none⟩)) rfl ?_ x ?_
   ·intro w' t;go_simp
   simp only[sq];refine wpAnyL_tk (i:=8) (k:=9) (v:=.agg #[.bool b6,.slice aH n6 c6]) rfl ?_ x ?_
   ·intro w' t;have hc:=((BB).keep t).cell;go_simp
   simp only[sq];refine wpAnyL_tk (i:=10) (k:=11) (v:=.pointer (some ⟨bu,4,none⟩)) rfl ?_ x ?_
   ·intro w' t;go_simp
   simp only[sq];refine wpAnyL_tk (i:=11) (k:=13) (v:=.agg #[.bool bI,.slice bf bJ bK]) rfl ?_ x ?_
   ·intro w' t;have hc:=((BU).keep t).cell;go_simp
   simp only[sq];refine wpAnyL_tk (i:=12) (k:=13) (v:=.agg #[.bool ch,.slice b0 ci cj]) rfl ?_ x ?_
   ·intro w' t;have hc:=((BN).keep t).cell;go_simp
   simp only[sq];refine wpAnyL_tk (i:=14) (k:=15) (v:=.int .i64 D) rfl ?_ x ?_
   ·intro w' t;go_simp
   simp only[sq];refine wpAnyL_on (i:=4) rfl (fun K j=>?_)
   go_simp
   refine(rtimes_any U.p b.r _ _ _ (bj.keep x) (aq.keep x) (Ft.fit fU.1 (by omega)) (Ft.fit fb.2.2 (by omega))).mono ?_;rintro e ac ⟨ba,rfl,f,Y⟩;obtain⟨L,z,M,N,rfl⟩:=f.shape'
   go_wp2_with fail
   refine j.out _ _ (x.trans' Y) (fun ag=>?_);clear j K;refine wpAnyL_on (i:=9) rfl (fun K j=>?_)
   go_simp
   refine(rtimes_any U.q b.r _ _ _ (bm.keep ag) (aq.keep ag) (Ft.fit fU.2.1 (by omega)) (Ft.fit fb.2.2 (by omega))).mono ?_;rintro e aw ⟨bo,rfl,l,Q⟩;obtain⟨bp,aZ,bq,br,rfl⟩:=l.shape';replace f:=f.keep Q
   go_wp2_with fail
   refine j.out _ _ (ag.trans' Q) (fun Z=>?_);clear j K;refine wpAnyL_on (i:=13) rfl (fun K j=>?_)
   go_simp
   refine(rtimes_any U.r ((b.p*b.p) - ((b.q*b.q)*b.d)) _ _ _ (bn.keep Z) (hN.keep Z) (Ft.fit fU.2.2 (by omega)) (Ft.fit (Ft.mono (n:=2*m+8) (Int.sub_eq_add_neg ▸ Ft.add (Ft.mono (n:=2*m+7) (Ft.mono (n:=2*m+0) (Ft.mul fb.1 fb.1) (by omega)) (by omega)) (Ft.neg (Ft.mono (n:=2*m+7) (Ft.mono (n:=2*m+7) (Ft.mul (Ft.mono (n:=2*m+0) (Ft.mul fb.2.1 fb.2.1) (by omega)) ay) (by omega)) (by omega)))) (by omega)) (by omega))).mono ?_;rintro e ak ⟨aR,rfl,y,s⟩;obtain⟨aS,aI,aT,aU,rfl⟩:=y.shape';replace f:=f.keep s;replace l:=l.keep s
   go_wp2_with fail
   refine j.out _ _ (Z.trans' s) (fun ai=>?_);clear j K;refine wpAnyL_on (i:=15) rfl (fun K j=>?_)
   go_simp
   refine(formed_any (U.p*b.r) (U.q*b.r) (U.r*((b.p*b.p) - ((b.q*b.q)*b.d))) D (4*m+17) _ _ _ _ f l y cg (by omega) (Ft.mono (n:=4*m+17) (Ft.mono (n:=3*m+9) (Ft.mul fU.1 fb.2.2) (by omega)) (by omega)) (Ft.mono (n:=4*m+17) (Ft.mono (n:=3*m+9) (Ft.mul fU.2.1 fb.2.2) (by omega)) (by omega)) (Ft.mono (n:=4*m+17) (Ft.mono (n:=4*m+17) (Ft.mul fU.2.2 (Ft.mono (n:=2*m+8) (Int.sub_eq_add_neg ▸ Ft.add (Ft.mono (n:=2*m+7) (Ft.mono (n:=2*m+0) (Ft.mul fb.1 fb.1) (by omega)) (by omega)) (Ft.neg (Ft.mono (n:=2*m+7) (Ft.mono (n:=2*m+7) (Ft.mul (Ft.mono (n:=2*m+0) (Ft.mul fb.2.1 fb.2.1) (by omega)) ay) (by omega)) (by omega)))) (by omega))) (by omega)) (by omega))).mono ?_;rintro e cq ⟨cr,rfl,bz,bT⟩;obtain⟨a1,aN,a2,a3,a4,aO,a5,a6,a7,aP,a8,a9,rfl,b7,b8,b9⟩:=id bz
   go_wp2_with fail
   refine j.out _ _ (ai.trans' bT) (fun ax=>?_);clear j K;have TB:=(BE).keep ax;have am:=TB.cell;have au:=TB.frozen;have av:=TB.lt;refine wpAnyL_last (i:=16) rfl (by kernel_rfl) (by kernel_rfl) (by kernel_rfl) (fun K j=>?_)
   go_simp
   refine j.out _ _ ?_;clear j K
   go_wp2_with fail
   refine bodyPost_ret (v:=.agg #[.bool a1,.slice aN a2 a3,.bool a4,.slice aO a5 a6,.bool a7,.slice aP a8 a9,.int .i64 (qreduce (U.p*b.r) (U.q*b.r) (U.r*((b.p*b.p) - ((b.q*b.q)*b.d))) D).d]) (by simp[results,Tryz.results76,go_sem,am]) rfl ?_;exact⟨_,rfl,bz.soft (sf7 (.bool a1) (.slice aN a2 a3) (.bool a4) (.slice aO a5 a6) (.bool a7) (.slice aP a8 a9) (.int .i64 (qreduce (U.p*b.r) (U.q*b.r) (U.r*((b.p*b.p) - ((b.q*b.q)*b.d))) D).d) TB (by decide)),(kp7 (A:=w.heap.size+1+1) (.bool a1) (.slice aN a2 a3) (.bool a4) (.slice aO a5 a6) (.bool a7) (.slice aP a8 a9) (.int .i64 (qreduce (U.p*b.r) (U.q*b.r) (U.r*((b.p*b.p) - ((b.q*b.q)*b.d))) D).d) (ah.trans' ax) (by show w.heap.size≤w.heap.size+1+1;omega))⟩
end Go.Proofs.YtjahbjjekednfaaGreatDoor
