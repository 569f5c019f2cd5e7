import Derived.Test.YtjahbjjekednfaaGreatDoorN1
import Derived.Test.YtjahbjjekednfaaGreatDoorC4
import Derived.Deep.DeepCutAuto
import Derived.Test.YtjahbjjekednfaaGreatDoorK5
namespace Go.Proofs.YtjahbjjekednfaaGreatDoor
set_option maxHeartbeats 6400000
set_option maxRecDepth 100000
section
open Go.RowKit
def nq (o:Int) (l g:Int × Int):Int × Int:=if 0<(if o=0 then (l.2 - g.2).sign else o) then g else l
def md (b lq op a:Int):Qn:=qreduce (b*a+op*lq) 0 (lq*a+lq*a) 1
theorem nearer_le (a:Qn) (U lq op B:Int) (m:Nat) (u v t:Value) (w:World) (hx:XN w u a) (ha:FR w v U lq) (hb:FR w t op B) (hm:m≤3000000) (fx:QF 9000000 a) (dx:QD a) (f1:Ft m U) (f2:Ft m lq) (f3:Ft m op) (f4:Ft m B) (bg:(U*B - op*lq).sign = -1) :
 Calls Tryz.prog 54 #[u,v,t] w (RetFR w (nq (qcmp a (md U lq op B)) (U,lq) (op,B)).1 (nq (qcmp a (md U lq op B)) (U,lq) (op,B)).2):=by
 have be:Ft (m+m+1) (U*B+op*lq):=Ft.add (f1.mul f4) (f3.mul f2);have bf:Ft (m+m+1) (lq*B+lq*B):=Ft.add (f2.mul f4) (f2.mul f4);have bh:QF 9000000 (md U lq op B):=(QF.reduce be (Ft.zero _) bf).mono (by omega);have bi:QD (md U lq op B):=QD.red ⟨by decide,by decide⟩;obtain⟨b1,ae,n1,c1,b2,af,n2,c2,b3,ag,n3,c3,rfl,_,_,_⟩:=id hx;obtain⟨X,s,Y,c4,Z,x,n5,c5,rfl,n,c⟩:=ha;obtain⟨b6,C,n6,c6,b7,D,n7,c7,rfl,p,f⟩:=hb;have b:Kp w ((((w.alloc (.cells #[.bool b1,.slice ae n1 c1,.bool b2,.slice af n2 c2,.bool b3,.slice ag n3 c3,.int .i64 a.d] 40)).alloc (.cells #[.bool X,.slice s Y c4,.bool Z,.slice x n5 c5] 62)).alloc (.cells #[.bool b6,.slice C n6 c6,.bool b7,.slice D n7 c7] 62)).alloc (.cells #[.bool false,.slice none 0 0,.bool false,.slice none 0 0] 62)):=(Kp.alloc' (Kp.alloc' (Kp.alloc' (kp_alloc w _) _) _) _);have V:Blk ((((w.alloc (.cells #[.bool b1,.slice ae n1 c1,.bool b2,.slice af n2 c2,.bool b3,.slice ag n3 c3,.int .i64 a.d] 40)).alloc (.cells #[.bool X,.slice s Y c4,.bool Z,.slice x n5 c5] 62)).alloc (.cells #[.bool b6,.slice C n6 c6,.bool b7,.slice D n7 c7] 62)).alloc (.cells #[.bool false,.slice none 0 0,.bool false,.slice none 0 0] 62)) (w.heap.size) #[.bool b1,.slice ae n1 c1,.bool b2,.slice af n2 c2,.bool b3,.slice ag n3 c3,.int .i64 a.d] 40:=(Blk.alloc (Blk.alloc (Blk.alloc (Blk.new w _ _) _) _) _);have Q:Blk ((((w.alloc (.cells #[.bool b1,.slice ae n1 c1,.bool b2,.slice af n2 c2,.bool b3,.slice ag n3 c3,.int .i64 a.d] 40)).alloc (.cells #[.bool X,.slice s Y c4,.bool Z,.slice x n5 c5] 62)).alloc (.cells #[.bool b6,.slice C n6 c6,.bool b7,.slice D n7 c7] 62)).alloc (.cells #[.bool false,.slice none 0 0,.bool false,.slice none 0 0] 62)) (w.heap.size+1) #[.bool X,.slice s Y c4,.bool Z,.slice x n5 c5] 62:=(Blk.alloc (Blk.alloc (Blk.at (Blk.new (w.alloc (.cells #[.bool b1,.slice ae n1 c1,.bool b2,.slice af n2 c2,.bool b3,.slice ag n3 c3,.int .i64 a.d] 40)) _ _) (by simp)) _) _)
 have R:Blk ((((w.alloc (.cells #[.bool b1,.slice ae n1 c1,.bool b2,.slice af n2 c2,.bool b3,.slice ag n3 c3,.int .i64 a.d] 40)).alloc (.cells #[.bool X,.slice s Y c4,.bool Z,.slice x n5 c5] 62)).alloc (.cells #[.bool b6,.slice C n6 c6,.bool b7,.slice D n7 c7] 62)).alloc (.cells #[.bool false,.slice none 0 0,.bool false,.slice none 0 0] 62)) (w.heap.size+1+1) #[.bool b6,.slice C n6 c6,.bool b7,.slice D n7 c7] 62:=(Blk.alloc (Blk.at (Blk.new ((w.alloc (.cells #[.bool b1,.slice ae n1 c1,.bool b2,.slice af n2 c2,.bool b3,.slice ag n3 c3,.int .i64 a.d] 40)).alloc (.cells #[.bool X,.slice s Y c4,.bool Z,.slice x n5 c5] 62)) _ _) (by simp)) _);have F:Blk ((((w.alloc (.cells #[.bool b1,.slice ae n1 c1,.bool b2,.slice af n2 c2,.bool b3,.slice ag n3 c3,.int .i64 a.d] 40)).alloc (.cells #[.bool X,.slice s Y c4,.bool Z,.slice x n5 c5] 62)).alloc (.cells #[.bool b6,.slice C n6 c6,.bool b7,.slice D n7 c7] 62)).alloc (.cells #[.bool false,.slice none 0 0,.bool false,.slice none 0 0] 62)) (w.heap.size+1+1+1) #[.bool false,.slice none 0 0,.bool false,.slice none 0 0] 62:=(Blk.at (Blk.new (((w.alloc (.cells #[.bool b1,.slice ae n1 c1,.bool b2,.slice af n2 c2,.bool b3,.slice ag n3 c3,.int .i64 a.d] 40)).alloc (.cells #[.bool X,.slice s Y c4,.bool Z,.slice x n5 c5] 62)).alloc (.cells #[.bool b6,.slice C n6 c6,.bool b7,.slice D n7 c7] 62)) _ _) (by simp));replace hx:=hx.keep b;replace n:=n.keep b;replace c:=c.keep b;replace p:=p.keep b;replace f:=f.keep b
 go_enter Tryz.func54,Tryz.ntmps54
 go_wp2_with fail
 generalize ((((w.alloc (.cells #[.bool b1,.slice ae n1 c1,.bool b2,.slice af n2 c2,.bool b3,.slice ag n3 c3,.int .i64 a.d] 40)).alloc (.cells #[.bool X,.slice s Y c4,.bool Z,.slice x n5 c5] 62)).alloc (.cells #[.bool b6,.slice C n6 c6,.bool b7,.slice D n7 c7] 62)).alloc (.cells #[.bool false,.slice none 0 0,.bool false,.slice none 0 0] 62))=x0 at *
 go_cut [7,8] (fun p7 p8 wx=>∃ A7 A8:Nat,p7=.pointer (some ⟨A7,0,none⟩)∧p8=.pointer (some ⟨A8,0,none⟩)∧A7≠A8∧x0.heap.size≤A7∧x0.heap.size≤A8∧Blk wx A7 #[.bool X,.slice s Y c4,.bool Z,.slice x n5 c5] 62∧Blk wx A8 #[.bool b6,.slice C n6 c6,.bool b7,.slice D n7 c7] 62∧Kp x0 wx)
 case first =>
  refine wp_region_l (S:=fun w'=>Kp x0 w') (by kernel_rfl) (Kp.drew' (Below.refl _ _)) (fun aD=>?_);generalize x0.drew=wd at *;refine wpAnyL_tk (i:=0) (k:=4) (v:=.agg #[.bool X,.slice s Y c4,.bool Z,.slice x n5 c5]) rfl ?_ aD ?_
  ·intro w' a8;have hc:=(Q.keep a8).cell;go_simp
  simp only[sq];refine wpAnyL_tk (i:=1) (k:=5) (v:=.agg #[.bool b6,.slice C n6 c6,.bool b7,.slice D n7 c7]) rfl ?_ aD ?_
  ·intro w' a8;have hc:=(R.keep a8).cell;go_simp
  simp only[sq];refine wpAnyL_ready (rs:=[2,3]) (by kernel_rfl) (by simp) ?_;refine AllReadyL.cons rfl (fun K hK=>?_) ?_
  ·go_simp
   refine hK.out _ _ (Kp.alloc' aD (.cells #[.bool false,.slice none 0 0,.bool false,.slice none 0 0] 62)) (fun aE=>?_);clear hK K;have N:=Blk.new wd #[.bool false,.slice none 0 0,.bool false,.slice none 0 0] 62;have bj:x0.heap.size≤wd.heap.size:=aD.size
   try simp only[sq]
   generalize wd.heap.size=A7 at *;generalize wd.alloc (.cells #[.bool false,.slice none 0 0,.bool false,.slice none 0 0] 62)=aa at *;refine wpAnyL_on (i:=3) rfl (fun K hK=>?_)
   go_simp
   refine hK.out _ _ (Kp.alloc' aE (.cells #[.bool false,.slice none 0 0,.bool false,.slice none 0 0] 62)) (fun a9=>?_);clear hK K;have O:=Blk.new aa #[.bool false,.slice none 0 0,.bool false,.slice none 0 0] 62;have bm:x0.heap.size≤aa.heap.size:=aE.size;have cr:A7<aa.heap.size:=N.lt;replace N:=N.alloc (.cells #[.bool false,.slice none 0 0,.bool false,.slice none 0 0] 62)
   try simp only[sq]
   generalize aa.heap.size=A8 at *;generalize aa.alloc (.cells #[.bool false,.slice none 0 0,.bool false,.slice none 0 0] 62)=ba at *;have ap:=N.cell;have aq:=N.frozen;have ar:=N.lt;refine wpAnyL_on (i:=4) rfl (fun K hK=>?_)
   go_simp
   refine hK.out _ _ (kp4 (A:=A7) (.bool X) (.slice s Y c4) (.bool Z) (.slice x n5 c5) a9 (by omega)) (fun bb=>?_);clear hK K ap aq ar;replace O:=ot4 (A:=A7) (.bool X) (.slice s Y c4) (.bool Z) (.slice x n5 c5) O (by omega);replace N:=bl4 (.bool X) (.slice s Y c4) (.bool Z) (.slice x n5 c5) N;generalize ((((ba.setCell ⟨A7,0,none⟩ (.bool X)).setCell ⟨A7,1,none⟩ (.slice s Y c4)).setCell ⟨A7,2,none⟩ (.bool Z)).setCell ⟨A7,3,none⟩ (.slice x n5 c5))=bn at *;have ap:=O.cell;have aq:=O.frozen;have ar:=O.lt;refine wpAnyL_last (i:=5) rfl (by kernel_rfl) (by kernel_rfl) (by kernel_rfl) (fun K hK=>?_)
   go_simp
   refine hK.out _ _ ?_;clear hK K
   go_wp2_with fail
   go_meet
   case rel=>exact⟨A7,A8,rfl,rfl,by omega,by omega,by omega,ot4 (A:=A8) (.bool b6) (.slice C n6 c6) (.bool b7) (.slice D n7 c7) N (by omega),bl4 (.bool b6) (.slice C n6 c6) (.bool b7) (.slice D n7 c7) O,kp4 (A:=A8) (.bool b6) (.slice C n6 c6) (.bool b7) (.slice D n7 c7) bb (by omega)⟩
  refine AllReadyL.cons rfl (fun K hK=>?_) ?_
  ·go_simp
   refine hK.out _ _ (Kp.alloc' aD (.cells #[.bool false,.slice none 0 0,.bool false,.slice none 0 0] 62)) (fun aE=>?_);clear hK K;have O:=Blk.new wd #[.bool false,.slice none 0 0,.bool false,.slice none 0 0] 62;have bm:x0.heap.size≤wd.heap.size:=aD.size
   try simp only[sq]
   generalize wd.heap.size=A8 at *;generalize wd.alloc (.cells #[.bool false,.slice none 0 0,.bool false,.slice none 0 0] 62)=aa at *;refine wpAnyL_on (i:=2) rfl (fun K hK=>?_)
   go_simp
   refine hK.out _ _ (Kp.alloc' aE (.cells #[.bool false,.slice none 0 0,.bool false,.slice none 0 0] 62)) (fun a9=>?_);clear hK K;have N:=Blk.new aa #[.bool false,.slice none 0 0,.bool false,.slice none 0 0] 62;have bj:x0.heap.size≤aa.heap.size:=aE.size;have ct:A8<aa.heap.size:=O.lt;replace O:=O.alloc (.cells #[.bool false,.slice none 0 0,.bool false,.slice none 0 0] 62)
   try simp only[sq]
   generalize aa.heap.size=A7 at *;generalize aa.alloc (.cells #[.bool false,.slice none 0 0,.bool false,.slice none 0 0] 62)=ba at *;have ap:=N.cell;have aq:=N.frozen;have ar:=N.lt;refine wpAnyL_on (i:=4) rfl (fun K hK=>?_)
   go_simp
   refine hK.out _ _ (kp4 (A:=A7) (.bool X) (.slice s Y c4) (.bool Z) (.slice x n5 c5) a9 (by omega)) (fun bb=>?_);clear hK K ap aq ar;replace O:=ot4 (A:=A7) (.bool X) (.slice s Y c4) (.bool Z) (.slice x n5 c5) O (by omega);replace N:=bl4 (.bool X) (.slice s Y c4) (.bool Z) (.slice x n5 c5) N;generalize ((((ba.setCell ⟨A7,0,none⟩ (.bool X)).setCell ⟨A7,1,none⟩ (.slice s Y c4)).setCell ⟨A7,2,none⟩ (.bool Z)).setCell ⟨A7,3,none⟩ (.slice x n5 c5))=bn at *;have ap:=O.cell;have aq:=O.frozen;have ar:=O.lt;refine wpAnyL_last (i:=5) rfl (by kernel_rfl) (by kernel_rfl) (by kernel_rfl) (fun K hK=>?_)
   go_simp
   refine hK.out _ _ ?_;clear hK K
   go_wp2_with fail
   go_meet
   case rel=>exact⟨A7,A8,rfl,rfl,by omega,by omega,by omega,ot4 (A:=A8) (.bool b6) (.slice C n6 c6) (.bool b7) (.slice D n7 c7) N (by omega),bl4 (.bool b6) (.slice C n6 c6) (.bool b7) (.slice D n7 c7) O,kp4 (A:=A8) (.bool b6) (.slice C n6 c6) (.bool b7) (.slice D n7 c7) bb (by omega)⟩
  exact AllReadyL.nil
 case rest =>
  obtain⟨A7,A8,rfl,rfl,co,cp,cq,L,M,ad⟩:=hcut;have cu:=F.lt;replace V:=V.keep ad;replace Q:=Q.keep ad;replace R:=R.keep ad;replace F:=F.keep ad;replace hx:=hx.keep ad;replace n:=n.keep ad;replace c:=c.keep ad;replace p:=p.keep ad;replace f:=f.keep ad;replace b:=b.trans' ad;have cw:w.heap.size+4≤x0.heap.size:=by omega
  clear ad;have ac:=Q.cell;have al:=Q.lt;have bc:=R.cell;have bl:=R.lt
  go_wp2_with fail
  refine(multiply_any U B _ _ _ n f (f1.fit (by omega)) (f4.fit (by omega))).mono ?_;rintro e ah ⟨v8,rfl,ai,W⟩;obtain⟨b8,aM,n8,c8,rfl⟩:=ai.shape';clear ac bc al bl;have aF:Kp ah (ah.alloc (.cells #[.bool b8,.slice aM n8 c8] 38)):=kp_alloc ah _;have G:=W.trans' aF;have bo:=(V.keep W).lt;have bp:=(Q.keep W).lt;have bq:=(R.keep W).lt;have br:=(F.keep W).lt;have bs:=(L.keep W).lt;have bt:=(M.keep W).lt;replace V:=V.keep G;replace Q:=Q.keep G;replace R:=R.keep G;replace F:=F.keep G;replace L:=L.keep G;replace M:=M.keep G;replace hx:=hx.keep G;replace n:=n.keep G;replace c:=c.keep G;replace p:=p.keep G;replace f:=f.keep G;replace b:=b.trans' G;replace ai:=ai.keep aF;have Bf:Blk (ah.alloc (.cells #[.bool b8,.slice aM n8 c8] 38)) ah.heap.size #[.bool b8,.slice aM n8 c8] 38:=Blk.new ah _ _;have cx:w.heap.size≤ah.heap.size:=by have:=(b.size);simp only[World.size_alloc] at this;omega
  clear W aF G;have ac:=Q.cell;have al:=Q.lt;have bc:=R.cell;have bl:=R.lt
  go_wp2_with fail
  generalize (ah.alloc (.cells #[.bool b8,.slice aM n8 c8] 38))=cy at *;generalize ah.heap.size=Af at *;refine(multiply_any op lq _ _ _ p c (f3.fit (by omega)) (f2.fit (by omega))).mono ?_;rintro e aj ⟨v9,rfl,av,T⟩;obtain⟨b9,aN,n9,c9,rfl⟩:=av.shape';clear ac bc al bl;have aG:Kp aj (aj.alloc (.cells #[.bool b9,.slice aN n9 c9] 38)):=kp_alloc aj _;have y:=T.trans' aG;have bu:=(V.keep T).lt;have bv:=(Q.keep T).lt;have bw:=(R.keep T).lt;have bx:=(F.keep T).lt;have bz:=(L.keep T).lt;have bA:=(M.keep T).lt;have bB:=(Bf.keep T).lt;replace V:=V.keep y;replace Q:=Q.keep y;replace R:=R.keep y;replace F:=F.keep y;replace L:=L.keep y;replace M:=M.keep y;replace Bf:=Bf.keep y;replace hx:=hx.keep y;replace n:=n.keep y;replace c:=c.keep y;replace p:=p.keep y;replace f:=f.keep y;replace ai:=ai.keep y;replace b:=b.trans' y;replace av:=av.keep aG;have Bs:Blk (aj.alloc (.cells #[.bool b9,.slice aN n9 c9] 38)) aj.heap.size #[.bool b9,.slice aN n9 c9] 38:=Blk.new aj _ _;have cz:w.heap.size≤aj.heap.size:=by have:=(b.size);simp only[World.size_alloc] at this;omega
  clear T aG y;have fc:=Bf.cell;have fl:=Bf.lt;have sc:=Bs.cell;have sl:=Bs.lt
  go_wp2_with fail
  generalize (aj.alloc (.cells #[.bool b9,.slice aN n9 c9] 38))=cA at *;generalize aj.heap.size=As at *;refine(wcompare_any (U*B) (op*lq) _ _ _ ai av).mono ?_;rintro e cB ⟨rfl,q⟩;clear fc sc fl sl;replace V:=V.keep q;replace Q:=Q.keep q;replace R:=R.keep q;replace F:=F.keep q;replace L:=L.keep q;replace M:=M.keep q;replace Bf:=Bf.keep q;replace Bs:=Bs.keep q;replace hx:=hx.keep q;replace n:=n.keep q;replace c:=c.keep q;replace p:=p.keep q;replace f:=f.keep q;replace ai:=ai.keep q;replace av:=av.keep q;replace b:=b.trans' q;clear q;rw[bg];have fc:=Bf.cell;have fl:=Bf.lt;have sc:=Bs.cell;have sl:=Bs.lt
  go_wp2_with fail
  refine(add_any (U*B) (op*lq) _ _ _ ai av ((f1.mul f4).fit (by omega)) ((f3.mul f2).fit (by omega))).mono ?_;rintro e ak ⟨cC,rfl,au,P⟩;obtain⟨aO,ax,aP,aQ,rfl⟩:=au.shape';clear fc sc fl sl;have aH:Kp ak (ak.alloc (.cells #[.bool aO,.slice ax aP aQ] 38)):=kp_alloc ak _;have z:=P.trans' aH;have bC:=(V.keep P).lt;have bD:=(Q.keep P).lt;have bE:=(R.keep P).lt;have bF:=(F.keep P).lt;have bG:=(L.keep P).lt;have bH:=(M.keep P).lt;have bI:=(Bf.keep P).lt;have bJ:=(Bs.keep P).lt;replace V:=V.keep z;replace Q:=Q.keep z;replace R:=R.keep z;replace F:=F.keep z;replace L:=L.keep z;replace M:=M.keep z;replace Bf:=Bf.keep z;replace Bs:=Bs.keep z;replace hx:=hx.keep z;replace n:=n.keep z;replace c:=c.keep z;replace p:=p.keep z;replace f:=f.keep z;replace b:=b.trans' z;replace au:=au.keep aH;have Bu:Blk (ak.alloc (.cells #[.bool aO,.slice ax aP aQ] 38)) ak.heap.size #[.bool aO,.slice ax aP aQ] 38:=Blk.new ak _ _;have cD:w.heap.size≤ak.heap.size:=by have:=(b.size);simp only[World.size_alloc] at this;omega
  clear P aH z;have ac:=Q.cell;have al:=Q.lt;have bc:=R.cell;have bl:=R.lt
  go_wp2_with fail
  generalize (ak.alloc (.cells #[.bool aO,.slice ax aP aQ] 38))=cE at *;generalize ak.heap.size=Au at *;refine(multiply_any lq B _ _ _ c f (f2.fit (by omega)) (f4.fit (by omega))).mono ?_;rintro e am ⟨cF,rfl,aI,J⟩;obtain⟨aR,ay,aS,aT,rfl⟩:=aI.shape';clear ac bc al bl;have aJ:Kp am (am.alloc (.cells #[.bool aR,.slice ay aS aT] 38)):=kp_alloc am _;have r:=J.trans' aJ;have bK:=(V.keep J).lt;have bL:=(Q.keep J).lt;have bM:=(R.keep J).lt;have bN:=(F.keep J).lt;have bO:=(L.keep J).lt;have bP:=(M.keep J).lt;have bQ:=(Bf.keep J).lt;have bR:=(Bs.keep J).lt;have bS:=(Bu.keep J).lt;replace V:=V.keep r;replace Q:=Q.keep r;replace R:=R.keep r;replace F:=F.keep r;replace L:=L.keep r;replace M:=M.keep r;replace Bf:=Bf.keep r;replace Bs:=Bs.keep r;replace Bu:=Bu.keep r;replace hx:=hx.keep r;replace n:=n.keep r;replace c:=c.keep r;replace p:=p.keep r;replace f:=f.keep r;replace au:=au.keep r;replace b:=b.trans' r;replace aI:=aI.keep aJ;have Be:Blk (am.alloc (.cells #[.bool aR,.slice ay aS aT] 38)) am.heap.size #[.bool aR,.slice ay aS aT] 38:=Blk.new am _ _;have cG:w.heap.size≤am.heap.size:=by have:=(b.size);simp only[World.size_alloc] at this;omega
  clear J aJ r;have ec:=Be.cell;have el:=Be.lt
  go_wp2_with fail
  generalize (am.alloc (.cells #[.bool aR,.slice ay aS aT] 38))=cH at *;generalize am.heap.size=Ae at *;refine(add_any (lq*B) (lq*B) _ _ _ aI aI ((f2.mul f4).fit (by omega)) ((f2.mul f4).fit (by omega))).mono ?_;rintro e an ⟨cI,rfl,aU,I⟩;obtain⟨aV,az,aW,aX,rfl⟩:=aU.shape';clear ec el;have aK:Kp an (an.alloc (.cells #[.bool aV,.slice az aW aX] 38)):=kp_alloc an _;have h:=I.trans' aK;have bT:=(V.keep I).lt;have bU:=(Q.keep I).lt;have bV:=(R.keep I).lt;have bW:=(F.keep I).lt;have bX:=(L.keep I).lt;have bY:=(M.keep I).lt;have bZ:=(Bf.keep I).lt;have b0:=(Bs.keep I).lt;have ca:=(Bu.keep I).lt;have cb:=(Be.keep I).lt;replace V:=V.keep h;replace Q:=Q.keep h;replace R:=R.keep h;replace F:=F.keep h;replace L:=L.keep h;replace M:=M.keep h;replace Bf:=Bf.keep h;replace Bs:=Bs.keep h;replace Bu:=Bu.keep h;replace Be:=Be.keep h;replace hx:=hx.keep h;replace n:=n.keep h;replace c:=c.keep h;replace p:=p.keep h;replace f:=f.keep h;replace au:=au.keep h;replace b:=b.trans' h;replace aU:=aU.keep aK;have Bt:Blk (an.alloc (.cells #[.bool aV,.slice az aW aX] 38)) an.heap.size #[.bool aV,.slice az aW aX] 38:=Blk.new an _ _;have cJ:w.heap.size≤an.heap.size:=by have:=(b.size);simp only[World.size_alloc] at this;omega
  clear I aK h;have uc:=Bu.cell;have ul:=Bu.lt;have tc:=Bt.cell;have tl:=Bt.lt
  go_wp2_with fail
  generalize (an.alloc (.cells #[.bool aV,.slice az aW aX] 38))=cK at *;generalize an.heap.size=At at *;refine(quotient_any (U*B+op*lq) (lq*B+lq*B) (m+m+1) _ _ _ au aU (by omega) be bf).mono ?_;rintro e ao ⟨cL,rfl,aY,H⟩;obtain⟨aZ,aA,a0,a1,a2,aB,a3,a4,a5,aC,a6,a7,rfl,_,_,_⟩:=id aY;clear uc tc ul tl;have aL:Kp ao (ao.alloc (.cells #[.bool aZ,.slice aA a0 a1,.bool a2,.slice aB a3 a4,.bool a5,.slice aC a6 a7,.int .i64 (qreduce (U*B+op*lq) 0 (lq*B+lq*B) 1).d] 40)):=kp_alloc ao _;have j:=H.trans' aL;have cc:=(V.keep H).lt;have cd:=(Q.keep H).lt;have ce:=(R.keep H).lt;have cf:=(F.keep H).lt;have cg:=(L.keep H).lt;have ch:=(M.keep H).lt;have ci:=(Bf.keep H).lt;have cj:=(Bs.keep H).lt;have ck:=(Bu.keep H).lt;have cl:=(Be.keep H).lt;have cm:=(Bt.keep H).lt;replace V:=V.keep j;replace Q:=Q.keep j;replace R:=R.keep j;replace F:=F.keep j;replace L:=L.keep j;replace M:=M.keep j;replace Bf:=Bf.keep j;replace Bs:=Bs.keep j;replace Bu:=Bu.keep j;replace Be:=Be.keep j;replace Bt:=Bt.keep j;replace hx:=hx.keep j;replace n:=n.keep j;replace c:=c.keep j;replace p:=p.keep j;replace f:=f.keep j;replace b:=b.trans' j;replace aY:=aY.keep aL;have Bd:Blk (ao.alloc (.cells #[.bool aZ,.slice aA a0 a1,.bool a2,.slice aB a3 a4,.bool a5,.slice aC a6 a7,.int .i64 (qreduce (U*B+op*lq) 0 (lq*B+lq*B) 1).d] 40)) ao.heap.size #[.bool aZ,.slice aA a0 a1,.bool a2,.slice aB a3 a4,.bool a5,.slice aC a6 a7,.int .i64 (qreduce (U*B+op*lq) 0 (lq*B+lq*B) 1).d] 40:=Blk.new ao _ _;have cM:w.heap.size≤ao.heap.size:=by have:=(b.size);simp only[World.size_alloc] at this;omega
  clear H aL j;have xc:=V.cell;have xl:=V.lt;have dc:=Bd.cell;have dl:=Bd.lt
  go_wp2_with fail
  generalize (ao.alloc (.cells #[.bool aZ,.slice aA a0 a1,.bool a2,.slice aB a3 a4,.bool a5,.slice aC a6 a7,.int .i64 (qreduce (U*B+op*lq) 0 (lq*B+lq*B) 1).d] 40))=cN at *;generalize ao.heap.size=Ad at *;refine(xcompare_any a (md U lq op B) 9000000 _ _ _ hx aY (by decide) fx bh dx bi).mono ?_;rintro e cO ⟨rfl,l⟩;clear xc dc xl dl;replace V:=V.keep l;replace Q:=Q.keep l;replace R:=R.keep l;replace F:=F.keep l;replace L:=L.keep l;replace M:=M.keep l;replace Bf:=Bf.keep l;replace Bs:=Bs.keep l;replace Bu:=Bu.keep l;replace Be:=Be.keep l;replace Bt:=Bt.keep l;replace Bd:=Bd.keep l;replace n:=n.keep l;replace c:=c.keep l;replace p:=p.keep l;replace f:=f.keep l;replace b:=b.trans' l;clear l;generalize qcmp a (md U lq op B)=o at *;by_cases ho:o=0
  ·subst ho;by_cases hs:0<(lq - B).sign
   ·have aw:Hid (nq 0 (U,lq) (op,B)=(op,B)):=by unfold Hid nq;rw[if_pos rfl,if_pos hs]
    have Lc:=L.cell;have Ll:=L.lt;have Gc:=M.cell;have Gl:=M.lt
    go_wp2_with fail
    refine(wcompare_any lq B _ _ _ c f).mono ?_;rintro e cn ⟨rfl,g⟩;clear Lc Ll Gc Gl;replace F:=F.keep g;replace L:=L.keep g;replace M:=M.keep g;replace n:=n.keep g;replace c:=c.keep g;replace p:=p.keep g;replace f:=f.keep g;replace b:=b.trans' g;clear g;generalize (lq - B).sign=S at *;have rc:=F.cell;have rl:=F.lt;have rf:=F.frozen;have kc:=M.cell;have kl:=M.lt
    go_wp2_with fail
    refine bodyPost_ret (v:=.agg #[.bool b6,.slice C n6 c6,.bool b7,.slice D n7 c7]) (by simp[results,Tryz.results54,go_sem,rc]) rfl ?_;rw[aw.out];exact⟨_,rfl,FR.soft (sf4 (E:=2) (.bool b6) (.slice C n6 c6) (.bool b7) (.slice D n7 c7) F (by decide)) ⟨_,_,_,_,_,_,_,_,rfl,p,f⟩,kp4 (A:=w.heap.size+1+1+1) (.bool b6) (.slice C n6 c6) (.bool b7) (.slice D n7 c7) b (by omega)⟩
   ·have aw:Hid (nq 0 (U,lq) (op,B)=(U,lq)):=by unfold Hid nq;rw[if_pos rfl,if_neg hs]
    have Lc:=L.cell;have Ll:=L.lt;have Gc:=M.cell;have Gl:=M.lt
    go_wp2_with fail
    refine(wcompare_any lq B _ _ _ c f).mono ?_;rintro e cn ⟨rfl,g⟩;clear Lc Ll Gc Gl;replace F:=F.keep g;replace L:=L.keep g;replace M:=M.keep g;replace n:=n.keep g;replace c:=c.keep g;replace p:=p.keep g;replace f:=f.keep g;replace b:=b.trans' g;clear g;generalize (lq - B).sign=S at *;have rc:=F.cell;have rl:=F.lt;have rf:=F.frozen;have kc:=L.cell;have kl:=L.lt
    go_wp2_with fail
    refine bodyPost_ret (v:=.agg #[.bool X,.slice s Y c4,.bool Z,.slice x n5 c5]) (by simp[results,Tryz.results54,go_sem,rc]) rfl ?_;rw[aw.out];exact⟨_,rfl,FR.soft (sf4 (E:=2) (.bool X) (.slice s Y c4) (.bool Z) (.slice x n5 c5) F (by decide)) ⟨_,_,_,_,_,_,_,_,rfl,n,c⟩,kp4 (A:=w.heap.size+1+1+1) (.bool X) (.slice s Y c4) (.bool Z) (.slice x n5 c5) b (by omega)⟩
  ·have cP:(o == 0)=false:=by simp[ho]
   by_cases hs:0<o
   ·have aw:Hid (nq o (U,lq) (op,B)=(op,B)):=by unfold Hid nq;rw[if_neg ho,if_pos hs]
    clear ho;have rc:=F.cell;have rl:=F.lt;have rf:=F.frozen;have kc:=M.cell;have kl:=M.lt
    go_wp2_with fail
    refine bodyPost_ret (v:=.agg #[.bool b6,.slice C n6 c6,.bool b7,.slice D n7 c7]) (by simp[results,Tryz.results54,go_sem,rc]) rfl ?_;rw[aw.out];exact⟨_,rfl,FR.soft (sf4 (E:=2) (.bool b6) (.slice C n6 c6) (.bool b7) (.slice D n7 c7) F (by decide)) ⟨_,_,_,_,_,_,_,_,rfl,p,f⟩,kp4 (A:=w.heap.size+1+1+1) (.bool b6) (.slice C n6 c6) (.bool b7) (.slice D n7 c7) b (by omega)⟩
   ·have aw:Hid (nq o (U,lq) (op,B)=(U,lq)):=by unfold Hid nq;rw[if_neg ho,if_neg hs]
    clear ho;have rc:=F.cell;have rl:=F.lt;have rf:=F.frozen;have kc:=L.cell;have kl:=L.lt
    go_wp2_with fail
    refine bodyPost_ret (v:=.agg #[.bool X,.slice s Y c4,.bool Z,.slice x n5 c5]) (by simp[results,Tryz.results54,go_sem,rc]) rfl ?_;rw[aw.out];exact⟨_,rfl,FR.soft (sf4 (E:=2) (.bool X) (.slice s Y c4) (.bool Z) (.slice x n5 c5) F (by decide)) ⟨_,_,_,_,_,_,_,_,rfl,n,c⟩,kp4 (A:=w.heap.size+1+1+1) (.bool X) (.slice s Y c4) (.bool Z) (.slice x n5 c5) b (by omega)⟩
theorem nearer_gt (a:Qn) (lp lq op F:Int) (m:Nat) (u v t:Value) (w:World) (hx:XN w u a) (ha:FR w v lp lq) (hb:FR w t op F) (hm:m≤3000000) (fx:QF 9000000 a) (dx:QD a) (f1:Ft m lp) (f2:Ft m lq) (f3:Ft m op) (f4:Ft m F) (bq:(lp*F - op*lq).sign=1) :
 Calls Tryz.prog 54 #[u,v,t] w (RetFR w (nq (qcmp a (md lp lq op F)) (op,F) (lp,lq)).1 (nq (qcmp a (md lp lq op F)) (op,F) (lp,lq)).2):=by
 have bo:Ft (m+m+1) (lp*F+op*lq):=Ft.add (f1.mul f4) (f3.mul f2);have bp:Ft (m+m+1) (lq*F+lq*F):=Ft.add (f2.mul f4) (f2.mul f4);have br:QF 9000000 (md lp lq op F):=(QF.reduce bo (Ft.zero _) bp).mono (by omega);have bs:QD (md lp lq op F):=QD.red ⟨by decide,by decide⟩;obtain⟨b1,ar,n1,c1,b2,au,n2,c2,b3,av,n3,c3,rfl,_,_,_⟩:=id hx;obtain⟨N,c,O,c4,P,f,Q,c5,rfl,n,j⟩:=ha;obtain⟨R,g,T,U,V,h,W,X,rfl,p,l⟩:=hb;have b:Kp w ((((w.alloc (.cells #[.bool b1,.slice ar n1 c1,.bool b2,.slice au n2 c2,.bool b3,.slice av n3 c3,.int .i64 a.d] 40)).alloc (.cells #[.bool N,.slice c O c4,.bool P,.slice f Q c5] 62)).alloc (.cells #[.bool R,.slice g T U,.bool V,.slice h W X] 62)).alloc (.cells #[.bool false,.slice none 0 0,.bool false,.slice none 0 0] 62)):=(Kp.alloc' (Kp.alloc' (Kp.alloc' (kp_alloc w _) _) _) _);have Bx:Blk ((((w.alloc (.cells #[.bool b1,.slice ar n1 c1,.bool b2,.slice au n2 c2,.bool b3,.slice av n3 c3,.int .i64 a.d] 40)).alloc (.cells #[.bool N,.slice c O c4,.bool P,.slice f Q c5] 62)).alloc (.cells #[.bool R,.slice g T U,.bool V,.slice h W X] 62)).alloc (.cells #[.bool false,.slice none 0 0,.bool false,.slice none 0 0] 62)) (w.heap.size) #[.bool b1,.slice ar n1 c1,.bool b2,.slice au n2 c2,.bool b3,.slice av n3 c3,.int .i64 a.d] 40:=(Blk.alloc (Blk.alloc (Blk.alloc (Blk.new w _ _) _) _) _);have L:Blk ((((w.alloc (.cells #[.bool b1,.slice ar n1 c1,.bool b2,.slice au n2 c2,.bool b3,.slice av n3 c3,.int .i64 a.d] 40)).alloc (.cells #[.bool N,.slice c O c4,.bool P,.slice f Q c5] 62)).alloc (.cells #[.bool R,.slice g T U,.bool V,.slice h W X] 62)).alloc (.cells #[.bool false,.slice none 0 0,.bool false,.slice none 0 0] 62)) (w.heap.size+1) #[.bool N,.slice c O c4,.bool P,.slice f Q c5] 62:=(Blk.alloc (Blk.alloc (Blk.at (Blk.new (w.alloc (.cells #[.bool b1,.slice ar n1 c1,.bool b2,.slice au n2 c2,.bool b3,.slice av n3 c3,.int .i64 a.d] 40)) _ _) (by simp)) _) _)
 have M:Blk ((((w.alloc (.cells #[.bool b1,.slice ar n1 c1,.bool b2,.slice au n2 c2,.bool b3,.slice av n3 c3,.int .i64 a.d] 40)).alloc (.cells #[.bool N,.slice c O c4,.bool P,.slice f Q c5] 62)).alloc (.cells #[.bool R,.slice g T U,.bool V,.slice h W X] 62)).alloc (.cells #[.bool false,.slice none 0 0,.bool false,.slice none 0 0] 62)) (w.heap.size+1+1) #[.bool R,.slice g T U,.bool V,.slice h W X] 62:=(Blk.alloc (Blk.at (Blk.new ((w.alloc (.cells #[.bool b1,.slice ar n1 c1,.bool b2,.slice au n2 c2,.bool b3,.slice av n3 c3,.int .i64 a.d] 40)).alloc (.cells #[.bool N,.slice c O c4,.bool P,.slice f Q c5] 62)) _ _) (by simp)) _);have B:Blk ((((w.alloc (.cells #[.bool b1,.slice ar n1 c1,.bool b2,.slice au n2 c2,.bool b3,.slice av n3 c3,.int .i64 a.d] 40)).alloc (.cells #[.bool N,.slice c O c4,.bool P,.slice f Q c5] 62)).alloc (.cells #[.bool R,.slice g T U,.bool V,.slice h W X] 62)).alloc (.cells #[.bool false,.slice none 0 0,.bool false,.slice none 0 0] 62)) (w.heap.size+1+1+1) #[.bool false,.slice none 0 0,.bool false,.slice none 0 0] 62:=(Blk.at (Blk.new (((w.alloc (.cells #[.bool b1,.slice ar n1 c1,.bool b2,.slice au n2 c2,.bool b3,.slice av n3 c3,.int .i64 a.d] 40)).alloc (.cells #[.bool N,.slice c O c4,.bool P,.slice f Q c5] 62)).alloc (.cells #[.bool R,.slice g T U,.bool V,.slice h W X] 62)) _ _) (by simp));replace hx:=hx.keep b;replace n:=n.keep b;replace j:=j.keep b;replace p:=p.keep b;replace l:=l.keep b
 go_enter Tryz.func54,Tryz.ntmps54
 go_wp2_with fail
 generalize ((((w.alloc (.cells #[.bool b1,.slice ar n1 c1,.bool b2,.slice au n2 c2,.bool b3,.slice av n3 c3,.int .i64 a.d] 40)).alloc (.cells #[.bool N,.slice c O c4,.bool P,.slice f Q c5] 62)).alloc (.cells #[.bool R,.slice g T U,.bool V,.slice h W X] 62)).alloc (.cells #[.bool false,.slice none 0 0,.bool false,.slice none 0 0] 62))=x0 at *
 go_cut [7,8] (fun p7 p8 wx=>∃ Z A8:Nat,p7=.pointer (some ⟨Z,0,none⟩)∧p8=.pointer (some ⟨A8,0,none⟩)∧Z≠A8∧x0.heap.size≤Z∧x0.heap.size≤A8∧Blk wx Z #[.bool N,.slice c O c4,.bool P,.slice f Q c5] 62∧Blk wx A8 #[.bool R,.slice g T U,.bool V,.slice h W X] 62∧Kp x0 wx)
 case first =>
  refine wp_region_l (S:=fun w'=>Kp x0 w') (by kernel_rfl) (Kp.drew' (Below.refl _ _)) (fun aw=>?_);generalize x0.drew=wd at *;refine wpAnyL_tk (i:=0) (k:=4) (v:=.agg #[.bool N,.slice c O c4,.bool P,.slice f Q c5]) rfl ?_ aw ?_
  ·intro w' aE;have hc:=(L.keep aE).cell;go_simp
  simp only[sq];refine wpAnyL_tk (i:=1) (k:=5) (v:=.agg #[.bool R,.slice g T U,.bool V,.slice h W X]) rfl ?_ aw ?_
  ·intro w' aE;have hc:=(M.keep aE).cell;go_simp
  simp only[sq];refine wpAnyL_ready (rs:=[2,3]) (by kernel_rfl) (by simp) ?_;refine AllReadyL.cons rfl (fun K hK=>?_) ?_
  ·go_simp
   refine hK.out _ _ (Kp.alloc' aw (.cells #[.bool false,.slice none 0 0,.bool false,.slice none 0 0] 62)) (fun aM=>?_);clear hK K;have ae:=Blk.new wd #[.bool false,.slice none 0 0,.bool false,.slice none 0 0] 62;have bt:x0.heap.size≤wd.heap.size:=aw.size
   try simp only[sq]
   generalize wd.heap.size=Z at *;generalize wd.alloc (.cells #[.bool false,.slice none 0 0,.bool false,.slice none 0 0] 62)=an at *;refine wpAnyL_on (i:=3) rfl (fun K hK=>?_)
   go_simp
   refine hK.out _ _ (Kp.alloc' aM (.cells #[.bool false,.slice none 0 0,.bool false,.slice none 0 0] 62)) (fun bj=>?_);clear hK K;have af:=Blk.new an #[.bool false,.slice none 0 0,.bool false,.slice none 0 0] 62;have bu:x0.heap.size≤an.heap.size:=aM.size;have cB:Z<an.heap.size:=ae.lt;replace ae:=ae.alloc (.cells #[.bool false,.slice none 0 0,.bool false,.slice none 0 0] 62)
   try simp only[sq]
   generalize an.heap.size=A8 at *;generalize an.alloc (.cells #[.bool false,.slice none 0 0,.bool false,.slice none 0 0] 62)=aU at *;have ai:=ae.cell;have aj:=ae.frozen;have ak:=ae.lt;refine wpAnyL_on (i:=4) rfl (fun K hK=>?_)
   go_simp
   refine hK.out _ _ (kp4 (A:=Z) (.bool N) (.slice c O c4) (.bool P) (.slice f Q c5) bj (by omega)) (fun bm=>?_);clear hK K ai aj ak;replace af:=ot4 (A:=Z) (.bool N) (.slice c O c4) (.bool P) (.slice f Q c5) af (by omega);replace ae:=bl4 (.bool N) (.slice c O c4) (.bool P) (.slice f Q c5) ae;generalize ((((aU.setCell ⟨Z,0,none⟩ (.bool N)).setCell ⟨Z,1,none⟩ (.slice c O c4)).setCell ⟨Z,2,none⟩ (.bool P)).setCell ⟨Z,3,none⟩ (.slice f Q c5))=bv at *;have ai:=af.cell;have aj:=af.frozen;have ak:=af.lt;refine wpAnyL_last (i:=5) rfl (by kernel_rfl) (by kernel_rfl) (by kernel_rfl) (fun K hK=>?_)
   go_simp
   refine hK.out _ _ ?_;clear hK K
   go_wp2_with fail
   go_meet
   case rel=>exact⟨Z,A8,rfl,rfl,by omega,by omega,by omega,ot4 (A:=A8) (.bool R) (.slice g T U) (.bool V) (.slice h W X) ae (by omega),bl4 (.bool R) (.slice g T U) (.bool V) (.slice h W X) af,kp4 (A:=A8) (.bool R) (.slice g T U) (.bool V) (.slice h W X) bm (by omega)⟩
  refine AllReadyL.cons rfl (fun K hK=>?_) ?_
  ·go_simp
   refine hK.out _ _ (Kp.alloc' aw (.cells #[.bool false,.slice none 0 0,.bool false,.slice none 0 0] 62)) (fun aM=>?_);clear hK K;have af:=Blk.new wd #[.bool false,.slice none 0 0,.bool false,.slice none 0 0] 62;have bu:x0.heap.size≤wd.heap.size:=aw.size
   try simp only[sq]
   generalize wd.heap.size=A8 at *;generalize wd.alloc (.cells #[.bool false,.slice none 0 0,.bool false,.slice none 0 0] 62)=an at *;refine wpAnyL_on (i:=2) rfl (fun K hK=>?_)
   go_simp
   refine hK.out _ _ (Kp.alloc' aM (.cells #[.bool false,.slice none 0 0,.bool false,.slice none 0 0] 62)) (fun bj=>?_);clear hK K;have ae:=Blk.new an #[.bool false,.slice none 0 0,.bool false,.slice none 0 0] 62;have bt:x0.heap.size≤an.heap.size:=aM.size;have cC:A8<an.heap.size:=af.lt;replace af:=af.alloc (.cells #[.bool false,.slice none 0 0,.bool false,.slice none 0 0] 62)
   try simp only[sq]
   generalize an.heap.size=Z at *;generalize an.alloc (.cells #[.bool false,.slice none 0 0,.bool false,.slice none 0 0] 62)=aU at *;have ai:=ae.cell;have aj:=ae.frozen;have ak:=ae.lt;refine wpAnyL_on (i:=4) rfl (fun K hK=>?_)
   go_simp
   refine hK.out _ _ (kp4 (A:=Z) (.bool N) (.slice c O c4) (.bool P) (.slice f Q c5) bj (by omega)) (fun bm=>?_);clear hK K ai aj ak;replace af:=ot4 (A:=Z) (.bool N) (.slice c O c4) (.bool P) (.slice f Q c5) af (by omega);replace ae:=bl4 (.bool N) (.slice c O c4) (.bool P) (.slice f Q c5) ae;generalize ((((aU.setCell ⟨Z,0,none⟩ (.bool N)).setCell ⟨Z,1,none⟩ (.slice c O c4)).setCell ⟨Z,2,none⟩ (.bool P)).setCell ⟨Z,3,none⟩ (.slice f Q c5))=bv at *;have ai:=af.cell;have aj:=af.frozen;have ak:=af.lt;refine wpAnyL_last (i:=5) rfl (by kernel_rfl) (by kernel_rfl) (by kernel_rfl) (fun K hK=>?_)
   go_simp
   refine hK.out _ _ ?_;clear hK K
   go_wp2_with fail
   go_meet
   case rel=>exact⟨Z,A8,rfl,rfl,by omega,by omega,by omega,ot4 (A:=A8) (.bool R) (.slice g T U) (.bool V) (.slice h W X) ae (by omega),bl4 (.bool R) (.slice g T U) (.bool V) (.slice h W X) af,kp4 (A:=A8) (.bool R) (.slice g T U) (.bool V) (.slice h W X) bm (by omega)⟩
  exact AllReadyL.nil
 case rest =>
  obtain⟨Z,A8,rfl,rfl,cy,cz,cA,G,H,aq⟩:=hcut;have cD:=B.lt;replace Bx:=Bx.keep aq;replace L:=L.keep aq;replace M:=M.keep aq;replace B:=B.keep aq;replace hx:=hx.keep aq;replace n:=n.keep aq;replace j:=j.keep aq;replace p:=p.keep aq;replace l:=l.keep aq;replace b:=b.trans' aq;have cE:w.heap.size+4≤x0.heap.size:=by omega
  clear aq;have ac:=L.cell;have al:=L.lt;have bc:=M.cell;have bl:=M.lt
  go_wp2_with fail
  refine(multiply_any lp F _ _ _ n l (f1.fit (by omega)) (f4.fit (by omega))).mono ?_;rintro e ax ⟨v8,rfl,ah,ap⟩;obtain⟨b8,aV,n8,c8,rfl⟩:=ah.shape';clear ac bc al bl;have aN:Kp ax (ax.alloc (.cells #[.bool b8,.slice aV n8 c8] 38)):=kp_alloc ax _;have I:=ap.trans' aN;have bw:=(Bx.keep ap).lt;have bx:=(L.keep ap).lt;have bz:=(M.keep ap).lt;have bA:=(B.keep ap).lt;have bB:=(G.keep ap).lt;have bC:=(H.keep ap).lt;replace Bx:=Bx.keep I;replace L:=L.keep I;replace M:=M.keep I;replace B:=B.keep I;replace G:=G.keep I;replace H:=H.keep I;replace hx:=hx.keep I;replace n:=n.keep I;replace j:=j.keep I;replace p:=p.keep I;replace l:=l.keep I;replace b:=b.trans' I;replace ah:=ah.keep aN;have Bf:Blk (ax.alloc (.cells #[.bool b8,.slice aV n8 c8] 38)) ax.heap.size #[.bool b8,.slice aV n8 c8] 38:=Blk.new ax _ _;have cF:w.heap.size≤ax.heap.size:=by have:=(b.size);simp only[World.size_alloc] at this;omega
  clear ap aN I;have ac:=L.cell;have al:=L.lt;have bc:=M.cell;have bl:=M.lt
  go_wp2_with fail
  generalize (ax.alloc (.cells #[.bool b8,.slice aV n8 c8] 38))=cG at *;generalize ax.heap.size=Af at *;refine(multiply_any op lq _ _ _ p j (f3.fit (by omega)) (f2.fit (by omega))).mono ?_;rintro e ay ⟨v9,rfl,ao,am⟩;obtain⟨b9,aW,n9,c9,rfl⟩:=ao.shape';clear ac bc al bl;have aO:Kp ay (ay.alloc (.cells #[.bool b9,.slice aW n9 c9] 38)):=kp_alloc ay _;have C:=am.trans' aO;have bD:=(Bx.keep am).lt;have bE:=(L.keep am).lt;have bF:=(M.keep am).lt;have bG:=(B.keep am).lt;have bH:=(G.keep am).lt;have bI:=(H.keep am).lt;have bJ:=(Bf.keep am).lt;replace Bx:=Bx.keep C;replace L:=L.keep C;replace M:=M.keep C;replace B:=B.keep C;replace G:=G.keep C;replace H:=H.keep C;replace Bf:=Bf.keep C;replace hx:=hx.keep C;replace n:=n.keep C;replace j:=j.keep C;replace p:=p.keep C;replace l:=l.keep C;replace ah:=ah.keep C;replace b:=b.trans' C;replace ao:=ao.keep aO;have Bs:Blk (ay.alloc (.cells #[.bool b9,.slice aW n9 c9] 38)) ay.heap.size #[.bool b9,.slice aW n9 c9] 38:=Blk.new ay _ _;have cH:w.heap.size≤ay.heap.size:=by have:=(b.size);simp only[World.size_alloc] at this;omega
  clear am aO C;have fc:=Bf.cell;have fl:=Bf.lt;have sc:=Bs.cell;have sl:=Bs.lt
  go_wp2_with fail
  generalize (ay.alloc (.cells #[.bool b9,.slice aW n9 c9] 38))=cI at *;generalize ay.heap.size=As at *;refine(wcompare_any (lp*F) (op*lq) _ _ _ ah ao).mono ?_;rintro e bn ⟨rfl,y⟩;clear fc sc fl sl;replace Bx:=Bx.keep y;replace L:=L.keep y;replace M:=M.keep y;replace B:=B.keep y;replace G:=G.keep y;replace H:=H.keep y;replace Bf:=Bf.keep y;replace Bs:=Bs.keep y;replace hx:=hx.keep y;replace n:=n.keep y;replace j:=j.keep y;replace p:=p.keep y;replace l:=l.keep y;replace ah:=ah.keep y;replace ao:=ao.keep y;replace b:=b.trans' y;clear y;rw[bq]
  go_wp2_with fail
  have kd:Kp bn bn.drew:=Kp.drew' (Below.refl _ _);replace Bx:=Bx.keep kd;replace L:=L.keep kd;replace M:=M.keep kd;replace B:=B.keep kd;replace G:=G.keep kd;replace H:=H.keep kd;replace Bf:=Bf.keep kd;replace Bs:=Bs.keep kd;replace hx:=hx.keep kd;replace n:=n.keep kd;replace j:=j.keep kd;replace p:=p.keep kd;replace l:=l.keep kd;replace ah:=ah.keep kd;replace ao:=ao.keep kd;replace b:=b.trans' kd;clear kd;refine wp_region_l (S:=fun w'=>Blk w' (w.heap.size+1) #[.bool N,.slice c O c4,.bool P,.slice f Q c5] 62∧Blk w' (w.heap.size+1+1) #[.bool R,.slice g T U,.bool V,.slice h W X] 62∧Kp w w') (by kernel_rfl) ⟨L,M,b⟩ (fun aw=>?_);generalize bn.drew=wd at *;refine wpAnyL_tk (i:=0) (k:=2) (v:=.agg #[.bool R,.slice g T U,.bool V,.slice h W X]) rfl ?_ aw ?_
  ·intro w' aE;have hc:=aE.2.1.cell;go_simp
  simp only[sq];refine wpAnyL_tk (i:=1) (k:=3) (v:=.agg #[.bool N,.slice c O c4,.bool P,.slice f Q c5]) rfl ?_ aw ?_
  ·intro w' aE;have hc:=aE.1.cell;go_simp
  simp only[sq];have ai:=G.cell;have aj:=G.frozen;have ak:=G.lt;refine wpAnyL_on (i:=2) rfl (fun K hK=>?_)
  go_simp
  refine hK.out _ _ ⟨ot4 (A:=Z) (.bool R) (.slice g T U) (.bool V) (.slice h W X) L (by omega),ot4 (A:=Z) (.bool R) (.slice g T U) (.bool V) (.slice h W X) M (by omega),kp4 (A:=Z) (.bool R) (.slice g T U) (.bool V) (.slice h W X) b (by omega)⟩ (fun aM=>?_);clear hK K ai aj ak;have aa:=sf4 (E:=2) (.bool R) (.slice g T U) (.bool V) (.slice h W X) G (by decide);replace b:=kp4 (A:=Z) (.bool R) (.slice g T U) (.bool V) (.slice h W X) b (by omega);replace Bx:=ot4 (A:=Z) (.bool R) (.slice g T U) (.bool V) (.slice h W X) Bx (by omega);replace L:=ot4 (A:=Z) (.bool R) (.slice g T U) (.bool V) (.slice h W X) L (by omega);replace M:=ot4 (A:=Z) (.bool R) (.slice g T U) (.bool V) (.slice h W X) M (by omega);replace B:=ot4 (A:=Z) (.bool R) (.slice g T U) (.bool V) (.slice h W X) B (by omega);replace H:=ot4 (A:=Z) (.bool R) (.slice g T U) (.bool V) (.slice h W X) H (by omega);replace Bf:=ot4 (A:=Z) (.bool R) (.slice g T U) (.bool V) (.slice h W X) Bf (by omega);replace Bs:=ot4 (A:=Z) (.bool R) (.slice g T U) (.bool V) (.slice h W X) Bs (by omega);replace G:=bl4 (.bool R) (.slice g T U) (.bool V) (.slice h W X) G;replace hx:=hx.soft aa;replace n:=n.soft aa;replace j:=j.soft aa;replace p:=p.soft aa;replace l:=l.soft aa;replace ah:=ah.soft aa;replace ao:=ao.soft aa;clear aa;generalize ((((wd.setCell ⟨Z,0,none⟩ (.bool R)).setCell ⟨Z,1,none⟩ (.slice g T U)).setCell ⟨Z,2,none⟩ (.bool V)).setCell ⟨Z,3,none⟩ (.slice h W X))=an at *;have ai:=H.cell;have aj:=H.frozen;have ak:=H.lt;refine wpAnyL_last (i:=3) rfl (by kernel_rfl) (by kernel_rfl) (by kernel_rfl) (fun K hK=>?_)
  go_simp
  refine hK.out _ _ ?_;clear hK K ai aj ak;have aa:=sf4 (E:=2) (.bool N) (.slice c O c4) (.bool P) (.slice f Q c5) H (by decide);replace b:=kp4 (A:=A8) (.bool N) (.slice c O c4) (.bool P) (.slice f Q c5) b (by omega);replace Bx:=ot4 (A:=A8) (.bool N) (.slice c O c4) (.bool P) (.slice f Q c5) Bx (by omega);replace L:=ot4 (A:=A8) (.bool N) (.slice c O c4) (.bool P) (.slice f Q c5) L (by omega);replace M:=ot4 (A:=A8) (.bool N) (.slice c O c4) (.bool P) (.slice f Q c5) M (by omega);replace B:=ot4 (A:=A8) (.bool N) (.slice c O c4) (.bool P) (.slice f Q c5) B (by omega);replace G:=ot4 (A:=A8) (.bool N) (.slice c O c4) (.bool P) (.slice f Q c5) G (by omega);replace Bf:=ot4 (A:=A8) (.bool N) (.slice c O c4) (.bool P) (.slice f Q c5) Bf (by omega);replace Bs:=ot4 (A:=A8) (.bool N) (.slice c O c4) (.bool P) (.slice f Q c5) Bs (by omega);replace H:=bl4 (.bool N) (.slice c O c4) (.bool P) (.slice f Q c5) H;replace hx:=hx.soft aa;replace n:=n.soft aa;replace j:=j.soft aa;replace p:=p.soft aa;replace l:=l.soft aa;replace ah:=ah.soft aa;replace ao:=ao.soft aa;clear aa;generalize ((((an.setCell ⟨A8,0,none⟩ (.bool N)).setCell ⟨A8,1,none⟩ (.slice c O c4)).setCell ⟨A8,2,none⟩ (.bool P)).setCell ⟨A8,3,none⟩ (.slice f Q c5))=aU at *;have fc:=Bf.cell;have fl:=Bf.lt;have sc:=Bs.cell;have sl:=Bs.lt
  go_wp2_with fail
  refine(add_any (lp*F) (op*lq) _ _ _ ah ao ((f1.mul f4).fit (by omega)) ((f3.mul f2).fit (by omega))).mono ?_;rintro e az ⟨cJ,rfl,aD,ag⟩;obtain⟨aX,aG,aY,aZ,rfl⟩:=aD.shape';clear fc sc fl sl;have aP:Kp az (az.alloc (.cells #[.bool aX,.slice aG aY aZ] 38)):=kp_alloc az _;have D:=ag.trans' aP;have bK:=(Bx.keep ag).lt;have bL:=(L.keep ag).lt;have bM:=(M.keep ag).lt;have bN:=(B.keep ag).lt;have bO:=(G.keep ag).lt;have bP:=(H.keep ag).lt;have bQ:=(Bf.keep ag).lt;have bR:=(Bs.keep ag).lt;replace Bx:=Bx.keep D;replace L:=L.keep D;replace M:=M.keep D;replace B:=B.keep D;replace G:=G.keep D;replace H:=H.keep D;replace Bf:=Bf.keep D;replace Bs:=Bs.keep D;replace hx:=hx.keep D;replace n:=n.keep D;replace j:=j.keep D;replace p:=p.keep D;replace l:=l.keep D;replace b:=b.trans' D;replace aD:=aD.keep aP;have Bu:Blk (az.alloc (.cells #[.bool aX,.slice aG aY aZ] 38)) az.heap.size #[.bool aX,.slice aG aY aZ] 38:=Blk.new az _ _;have cK:w.heap.size≤az.heap.size:=by have:=(b.size);simp only[World.size_alloc] at this;omega
  clear ag aP D;have ac:=L.cell;have al:=L.lt;have bc:=M.cell;have bl:=M.lt
  go_wp2_with fail
  generalize (az.alloc (.cells #[.bool aX,.slice aG aY aZ] 38))=cL at *;generalize az.heap.size=Au at *;refine(multiply_any lq F _ _ _ j l (f2.fit (by omega)) (f4.fit (by omega))).mono ?_;rintro e aA ⟨cM,rfl,aQ,ad⟩;obtain⟨a0,aH,a1,a2,rfl⟩:=aQ.shape';clear ac bc al bl;have aR:Kp aA (aA.alloc (.cells #[.bool a0,.slice aH a1 a2] 38)):=kp_alloc aA _;have z:=ad.trans' aR;have bS:=(Bx.keep ad).lt;have bT:=(L.keep ad).lt;have bU:=(M.keep ad).lt;have bV:=(B.keep ad).lt;have bW:=(G.keep ad).lt;have bX:=(H.keep ad).lt;have bY:=(Bf.keep ad).lt;have bZ:=(Bs.keep ad).lt;have b0:=(Bu.keep ad).lt;replace Bx:=Bx.keep z;replace L:=L.keep z;replace M:=M.keep z;replace B:=B.keep z;replace G:=G.keep z;replace H:=H.keep z;replace Bf:=Bf.keep z;replace Bs:=Bs.keep z;replace Bu:=Bu.keep z;replace hx:=hx.keep z;replace n:=n.keep z;replace j:=j.keep z;replace p:=p.keep z;replace l:=l.keep z;replace aD:=aD.keep z;replace b:=b.trans' z;replace aQ:=aQ.keep aR;have Be:Blk (aA.alloc (.cells #[.bool a0,.slice aH a1 a2] 38)) aA.heap.size #[.bool a0,.slice aH a1 a2] 38:=Blk.new aA _ _;have cN:w.heap.size≤aA.heap.size:=by have:=(b.size);simp only[World.size_alloc] at this;omega
  clear ad aR z;have ec:=Be.cell;have el:=Be.lt
  go_wp2_with fail
  generalize (aA.alloc (.cells #[.bool a0,.slice aH a1 a2] 38))=cO at *;generalize aA.heap.size=Ae at *;refine(add_any (lq*F) (lq*F) _ _ _ aQ aQ ((f2.mul f4).fit (by omega)) ((f2.mul f4).fit (by omega))).mono ?_;rintro e aB ⟨cP,rfl,a3,Y⟩;obtain⟨a4,aI,a5,a6,rfl⟩:=a3.shape';clear ec el;have aS:Kp aB (aB.alloc (.cells #[.bool a4,.slice aI a5 a6] 38)):=kp_alloc aB _;have r:=Y.trans' aS;have ca:=(Bx.keep Y).lt;have cb:=(L.keep Y).lt;have cc:=(M.keep Y).lt;have cd:=(B.keep Y).lt;have ce:=(G.keep Y).lt;have cf:=(H.keep Y).lt;have cg:=(Bf.keep Y).lt;have ch:=(Bs.keep Y).lt;have ci:=(Bu.keep Y).lt;have cj:=(Be.keep Y).lt;replace Bx:=Bx.keep r;replace L:=L.keep r;replace M:=M.keep r;replace B:=B.keep r;replace G:=G.keep r;replace H:=H.keep r;replace Bf:=Bf.keep r;replace Bs:=Bs.keep r;replace Bu:=Bu.keep r;replace Be:=Be.keep r;replace hx:=hx.keep r;replace n:=n.keep r;replace j:=j.keep r;replace p:=p.keep r;replace l:=l.keep r;replace aD:=aD.keep r;replace b:=b.trans' r;replace a3:=a3.keep aS;have Bt:Blk (aB.alloc (.cells #[.bool a4,.slice aI a5 a6] 38)) aB.heap.size #[.bool a4,.slice aI a5 a6] 38:=Blk.new aB _ _;have cQ:w.heap.size≤aB.heap.size:=by have:=(b.size);simp only[World.size_alloc] at this;omega
  clear Y aS r;have uc:=Bu.cell;have ul:=Bu.lt;have tc:=Bt.cell;have tl:=Bt.lt
  go_wp2_with fail
  generalize (aB.alloc (.cells #[.bool a4,.slice aI a5 a6] 38))=cR at *;generalize aB.heap.size=At at *;refine(quotient_any (lp*F+op*lq) (lq*F+lq*F) (m+m+1) _ _ _ aD a3 (by omega) bo bp).mono ?_;rintro e aC ⟨cS,rfl,a7,J⟩;obtain⟨a8,aJ,a9,ba,bb,aK,be,bf,bg,aL,bh,bi,rfl,_,_,_⟩:=id a7;clear uc tc ul tl;have aT:Kp aC (aC.alloc (.cells #[.bool a8,.slice aJ a9 ba,.bool bb,.slice aK be bf,.bool bg,.slice aL bh bi,.int .i64 (qreduce (lp*F+op*lq) 0 (lq*F+lq*F) 1).d] 40)):=kp_alloc aC _;have s:=J.trans' aT;have ck:=(Bx.keep J).lt;have cl:=(L.keep J).lt;have cm:=(M.keep J).lt;have cn:=(B.keep J).lt;have co:=(G.keep J).lt;have cp:=(H.keep J).lt;have cq:=(Bf.keep J).lt;have cr:=(Bs.keep J).lt;have ct:=(Bu.keep J).lt;have cu:=(Be.keep J).lt;have cw:=(Bt.keep J).lt;replace Bx:=Bx.keep s;replace L:=L.keep s;replace M:=M.keep s;replace B:=B.keep s;replace G:=G.keep s;replace H:=H.keep s;replace Bf:=Bf.keep s;replace Bs:=Bs.keep s;replace Bu:=Bu.keep s;replace Be:=Be.keep s;replace Bt:=Bt.keep s;replace hx:=hx.keep s;replace n:=n.keep s;replace j:=j.keep s;replace p:=p.keep s;replace l:=l.keep s;replace b:=b.trans' s;replace a7:=a7.keep aT;have Bd:Blk (aC.alloc (.cells #[.bool a8,.slice aJ a9 ba,.bool bb,.slice aK be bf,.bool bg,.slice aL bh bi,.int .i64 (qreduce (lp*F+op*lq) 0 (lq*F+lq*F) 1).d] 40)) aC.heap.size #[.bool a8,.slice aJ a9 ba,.bool bb,.slice aK be bf,.bool bg,.slice aL bh bi,.int .i64 (qreduce (lp*F+op*lq) 0 (lq*F+lq*F) 1).d] 40:=Blk.new aC _ _;have cT:w.heap.size≤aC.heap.size:=by have:=(b.size);simp only[World.size_alloc] at this;omega
  clear J aT s;have xc:=Bx.cell;have xl:=Bx.lt;have dc:=Bd.cell;have dl:=Bd.lt
  go_wp2_with fail
  generalize (aC.alloc (.cells #[.bool a8,.slice aJ a9 ba,.bool bb,.slice aK be bf,.bool bg,.slice aL bh bi,.int .i64 (qreduce (lp*F+op*lq) 0 (lq*F+lq*F) 1).d] 40))=cU at *;generalize aC.heap.size=Ad at *;refine(xcompare_any a (md lp lq op F) 9000000 _ _ _ hx a7 (by decide) fx br dx bs).mono ?_;rintro e cV ⟨rfl,x⟩;clear xc dc xl dl;replace Bx:=Bx.keep x;replace L:=L.keep x;replace M:=M.keep x;replace B:=B.keep x;replace G:=G.keep x;replace H:=H.keep x;replace Bf:=Bf.keep x;replace Bs:=Bs.keep x;replace Bu:=Bu.keep x;replace Be:=Be.keep x;replace Bt:=Bt.keep x;replace Bd:=Bd.keep x;replace n:=n.keep x;replace j:=j.keep x;replace p:=p.keep x;replace l:=l.keep x;replace b:=b.trans' x;clear x;generalize qcmp a (md lp lq op F)=o at *;by_cases ho:o=0
  ·subst ho;by_cases hs:0<(F - lq).sign
   ·have aF:Hid (nq 0 (op,F) (lp,lq)=(lp,lq)):=by unfold Hid nq;rw[if_pos rfl,if_pos hs]
    have Lc:=G.cell;have Ll:=G.lt;have Gc:=H.cell;have Gl:=H.lt
    go_wp2_with fail
    refine(wcompare_any F lq _ _ _ l j).mono ?_;rintro e cx ⟨rfl,q⟩;clear Lc Ll Gc Gl;replace B:=B.keep q;replace G:=G.keep q;replace H:=H.keep q;replace n:=n.keep q;replace j:=j.keep q;replace p:=p.keep q;replace l:=l.keep q;replace b:=b.trans' q;clear q;generalize (F - lq).sign=S at *;have rc:=B.cell;have rl:=B.lt;have rf:=B.frozen;have kc:=H.cell;have kl:=H.lt
    go_wp2_with fail
    refine bodyPost_ret (v:=.agg #[.bool N,.slice c O c4,.bool P,.slice f Q c5]) (by simp[results,Tryz.results54,go_sem,rc]) rfl ?_;rw[aF.out];exact⟨_,rfl,FR.soft (sf4 (E:=2) (.bool N) (.slice c O c4) (.bool P) (.slice f Q c5) B (by decide)) ⟨_,_,_,_,_,_,_,_,rfl,n,j⟩,kp4 (A:=w.heap.size+1+1+1) (.bool N) (.slice c O c4) (.bool P) (.slice f Q c5) b (by omega)⟩
   ·have aF:Hid (nq 0 (op,F) (lp,lq)=(op,F)):=by unfold Hid nq;rw[if_pos rfl,if_neg hs]
    have Lc:=G.cell;have Ll:=G.lt;have Gc:=H.cell;have Gl:=H.lt
    go_wp2_with fail
    refine(wcompare_any F lq _ _ _ l j).mono ?_;rintro e cx ⟨rfl,q⟩;clear Lc Ll Gc Gl;replace B:=B.keep q;replace G:=G.keep q;replace H:=H.keep q;replace n:=n.keep q;replace j:=j.keep q;replace p:=p.keep q;replace l:=l.keep q;replace b:=b.trans' q;clear q;generalize (F - lq).sign=S at *;have rc:=B.cell;have rl:=B.lt;have rf:=B.frozen;have kc:=G.cell;have kl:=G.lt
    go_wp2_with fail
    refine bodyPost_ret (v:=.agg #[.bool R,.slice g T U,.bool V,.slice h W X]) (by simp[results,Tryz.results54,go_sem,rc]) rfl ?_;rw[aF.out];exact⟨_,rfl,FR.soft (sf4 (E:=2) (.bool R) (.slice g T U) (.bool V) (.slice h W X) B (by decide)) ⟨_,_,_,_,_,_,_,_,rfl,p,l⟩,kp4 (A:=w.heap.size+1+1+1) (.bool R) (.slice g T U) (.bool V) (.slice h W X) b (by omega)⟩
  ·have cW:(o == 0)=false:=by simp[ho]
   by_cases hs:0<o
   ·have aF:Hid (nq o (op,F) (lp,lq)=(lp,lq)):=by unfold Hid nq;rw[if_neg ho,if_pos hs]
    clear ho;have rc:=B.cell;have rl:=B.lt;have rf:=B.frozen;have kc:=H.cell;have kl:=H.lt
    go_wp2_with fail
    refine bodyPost_ret (v:=.agg #[.bool N,.slice c O c4,.bool P,.slice f Q c5]) (by simp[results,Tryz.results54,go_sem,rc]) rfl ?_;rw[aF.out];exact⟨_,rfl,FR.soft (sf4 (E:=2) (.bool N) (.slice c O c4) (.bool P) (.slice f Q c5) B (by decide)) ⟨_,_,_,_,_,_,_,_,rfl,n,j⟩,kp4 (A:=w.heap.size+1+1+1) (.bool N) (.slice c O c4) (.bool P) (.slice f Q c5) b (by omega)⟩
   ·have aF:Hid (nq o (op,F) (lp,lq)=(op,F)):=by unfold Hid nq;rw[if_neg ho,if_neg hs]
    clear ho;have rc:=B.cell;have rl:=B.lt;have rf:=B.frozen;have kc:=G.cell;have kl:=G.lt
    go_wp2_with fail
    refine bodyPost_ret (v:=.agg #[.bool R,.slice g T U,.bool V,.slice h W X]) (by simp[results,Tryz.results54,go_sem,rc]) rfl ?_;rw[aF.out];exact⟨_,rfl,FR.soft (sf4 (E:=2) (.bool R) (.slice g T U) (.bool V) (.slice h W X) B (by decide)) ⟨_,_,_,_,_,_,_,_,rfl,p,l⟩,kp4 (A:=w.heap.size+1+1+1) (.bool R) (.slice g T U) (.bool V) (.slice h W X) b (by omega)⟩
end
section
open Go.RowKit
theorem lp_bd {p q n:Int} {k:Nat} (h:∀ j,j+1<k→1≤tm p q n (j+1)):∀ i,i+1≤k→tm p q n 0*(cv p q n (i+1)).lq≤(cv p q n (i+1)).lp∧(cv p q n (i+1)).lp≤(tm p q n 0+1)*(cv p q n (i+1)).lq
 | 0,_=>by simp[cv];omega
 | 1,hi=>by
  have g:=h 0 (by omega);simp only[cv,Int.mul_one,Int.mul_zero,Int.add_zero,Int.zero_add,Nat.zero_add] at *;rw[Int.add_mul,Int.one_mul,Int.mul_comm (tm p q n 0)];omega
 | i+2,hi=>by
  obtain⟨b,d⟩:=lp_bd h (i+1) (by omega);obtain⟨l,m⟩:=lp_bd h i (by omega);have a:=h (i+1) (by omega);have e:(cv p q n (i+2+1)).lp=tm p q n (i+2)*(cv p q n (i+2)).lp+(cv p q n (i+1)).lp:=rfl;have f:(cv p q n (i+2+1)).lq=tm p q n (i+2)*(cv p q n (i+2)).lq+(cv p q n (i+1)).lq:=rfl;rw[e,f];have c1:=Int.mul_le_mul_of_nonneg_left b (show 0≤tm p q n (i+2) from Int.le_trans (by decide) a);have c2:=Int.mul_le_mul_of_nonneg_left d (show 0≤tm p q n (i+2) from Int.le_trans (by decide) a);generalize tm p q n 0=c at *;generalize tm p q n (i+2)=t at *;generalize (cv p q n (i+2)).lp=A at *;generalize (cv p q n (i+2)).lq=B at *;generalize (cv p q n (i+1)).lp=C at *;generalize (cv p q n (i+1)).lq=D at *;constructor
  ·rw[show c*(t*B+D)=t*(c*B)+c*D by grind];omega
  ·rw[show (c+1)*(t*B+D)=t*((c+1)*B)+(c+1)*D by grind];omega
theorem lq_lin {p q n:Int} {k:Nat} (h:∀ j,j+1<k→1≤tm p q n (j+1)):∀ i,i+1≤k→(i:Int)≤(cv p q n (i+1)).lq
 | 0,hi=>by have:=(cvq_pos h 0 hi).1;omega
 | 1,hi=>by have:=(cvq_pos h 1 hi).1;omega
 | i+2,hi=>by
  have b:=lq_lin h (i+1) (by omega);have a:=lq_step h (i+1) (by omega);rw[show i+1+2=i+2+1 by omega] at a;have c:=(cvq_pos h i (by omega)).1;omega
theorem fst_not (P:Nat→Prop):∀ N,(∀ j,j<N→P j)∨∃ j,¬ P j∧∀ i,i<j→P i
 | 0=>Or.inl fun j a=>absurd a (by omega)
 | N+1=>by
  rcases fst_not P N with h | h
  ·by_cases e:P N
   ·refine Or.inl fun j a=>?_;by_cases c:j<N
    ·exact h j c
    ·rw[show j=N by omega];exact e
   ·exact Or.inr ⟨N,e,h⟩
  ·exact Or.inr h
structure BAt (a:Qn) (n:Int) (J:Nat):Prop where
 on:∀ j,j<J→(rs a j).2≠0∧(cv (p0 a) (q0 a) (n0 a) (j+1)).lq≤n
 stop:¬ ((rs a J).2≠0∧(cv (p0 a) (q0 a) (n0 a) (J+1)).lq≤n)
theorem bat_ex {a:Qn} (h:Cn a) (n:Int):∃ J,BAt a n J:=by
 rcases fst_not (fun j=>(rs a j).2≠0∧(cv (p0 a) (q0 a) (n0 a) (j+1)).lq≤n) (n.toNat+2) with b | ⟨J,b,c⟩
 ·exfalso
  have c:=lq_lin (k:=n.toNat+2) (rl_tms (rl_start h) (fun j d=>(b j d).1)) (n.toNat+1) (by omega);have e:=(b (n.toNat+1) (by omega)).2;omega
 ·exact⟨J,c,b⟩
theorem BAt.tms {a:Qn} {n:Int} {J:Nat} (h:Cn a) (b:BAt a n J):∀ j,j+1<J→1≤tm (p0 a) (q0 a) (n0 a) (j+1):=rl_tms (rl_start h) (fun j c=>(b.on j c).1)
theorem BAt.pos {a:Qn} {n:Int} {J:Nat} (h:Cn a) (c:1≤n) (b:BAt a n J):1≤J:=by
 refine Nat.not_lt.1 fun d=>b.stop ?_;have e:J=0:=by omega
 subst e;exact⟨(rl_start h).q0,by simp[cv];omega⟩
theorem BAt.le {a:Qn} {n:Int} {J:Nat} (h:Cn a) (c:1≤n) (b:BAt a n J):(J:Int)≤n+1:=by
 have d:=b.pos h c;obtain⟨i,rfl⟩:∃ i,J=i+1:=⟨J - 1,by omega⟩;have e:=lq_lin (b.tms h) i (by omega);have f:=(b.on i (by omega)).2;omega
theorem BAt.lq {a:Qn} {n:Int} {J:Nat} (h:Cn a) (c:1≤n) (b:BAt a n J):∀ j,j≤J→0≤(cv (p0 a) (q0 a) (n0 a) j).lq∧(cv (p0 a) (q0 a) (n0 a) j).lq≤n
 | 0,_=>by simp[cv];omega
 | j+1,hj=>⟨by have:=(cvq_pos (b.tms h) j hj).1;omega,(b.on j (by omega)).2⟩
theorem abs_bd {c L x n:Int} (a:0≤L) (b:L≤n) (f:c*L≤x) (g:x≤(c+1)*L):x.natAbs≤(((c.natAbs:Int)+1)*n).natAbs:=by
 have d:(0:Int)≤(c.natAbs:Int)+1:=by omega
 have h:((c.natAbs:Int)+1)*L≤((c.natAbs:Int)+1)*n:=Int.mul_le_mul_of_nonneg_left b d;have i:(c+1)*L≤((c.natAbs:Int)+1)*L:=Int.mul_le_mul_of_nonneg_right (by omega) a;have e:(-((c.natAbs:Int)+1))*L≤c*L:=Int.mul_le_mul_of_nonneg_right (by omega) a;rw[Int.neg_mul] at e;omega
theorem BAt.ft {a:Qn} {n:Int} {J:Nat} (h:Cn a) (f:QF 1100000 a) (d:1≤n) (e:n≤1000) (c:BAt a n J):∀ j,j≤J→Ft 2400005 (cv (p0 a) (q0 a) (n0 a) j).lp∧Ft 2400005 (cv (p0 a) (q0 a) (n0 a) j).lq
 | 0,_=>by
  have:Ft 1 (1:Int):=by unfold Ft;decide
  exact⟨this.mono (by decide),Ft.zero _⟩
 | j+1,hj=>by
  obtain⟨g,l⟩:=c.lq h d (j+1) hj;obtain⟨o,p⟩:=lp_bd (c.tms h) j hj;have b:(rs a 0).2≠0:=(rl_start h).q0;have ft:=(sz_num h f (i:=0) (by decide) (fun k r=>by rw[show k=0 by omega];exact b)).2
  have f1:Ft 4 n:=by unfold Ft;omega
  have q:Ft 2400000 (1:Int):=Ft.mono (m:=1) (by unfold Ft;decide) (by decide)
  have fb:Ft (2400000+1+4) (((tm (p0 a) (q0 a) (n0 a) 0).natAbs+1:Int)*n):=Ft.mul (Ft.add ft.abs q) f1;refine⟨fb.le (abs_bd g l o p),?_⟩;have:Ft 4 (cv (p0 a) (q0 a) (n0 a) (j+1)).lq:=by unfold Ft;omega
  exact this.mono (by decide)
theorem BAt.ft' {a:Qn} {n:Int} {J:Nat} (h:Cn a) (f:QF 1100000 a) (c:1≤n) (b:n≤1000) (d:BAt a n J):∀ j,j≤J→Ft 2400005 (cv (p0 a) (q0 a) (n0 a) j).ap∧Ft 2400005 (cv (p0 a) (q0 a) (n0 a) j).aq
 | 0,_=>by
  have:Ft 1 (1:Int):=by unfold Ft;decide
  exact⟨Ft.zero _,this.mono (by decide)⟩
 | j+1,hj=>d.ft h f c b j (by omega)
def oth (a:Qn) (n:Int) (J:Nat):Int × Int:=(fl (n - (cv (p0 a) (q0 a) (n0 a) J).aq) (cv (p0 a) (q0 a) (n0 a) J).lq*(cv (p0 a) (q0 a) (n0 a) J).lp+(cv (p0 a) (q0 a) (n0 a) J).ap,fl (n - (cv (p0 a) (q0 a) (n0 a) J).aq) (cv (p0 a) (q0 a) (n0 a) J).lq*(cv (p0 a) (q0 a) (n0 a) J).lq+(cv (p0 a) (q0 a) (n0 a) J).aq)
def lst' (a:Qn) (J:Nat):Int × Int:=((cv (p0 a) (q0 a) (n0 a) J).lp,(cv (p0 a) (q0 a) (n0 a) J).lq)
def bst (a:Qn) (n:Int) (J:Nat):Int × Int :=
 if (rs a J).2=0 then lst' a J else if alt J=1 then nq (qcmp a (md (lst' a J).1 (lst' a J).2 (oth a n J).1 (oth a n J).2)) (oth a n J) (lst' a J) else nq (qcmp a (md (lst' a J).1 (lst' a J).2 (oth a n J).1 (oth a n J).2)) (lst' a J) (oth a n J)
theorem oth_det (a:Qn) (n:Int) (J:Nat):(lst' a J).1*(oth a n J).2 - (oth a n J).1*(lst' a J).2=alt J:=by
 rw[← cv_det (p0 a) (q0 a) (n0 a) J];unfold lst' oth
 grind
theorem oth_ft {a:Qn} {n:Int} {J:Nat} (h:Cn a) (f:QF 1100000 a) (c:1≤n) (b:n≤1000) (d:BAt a n J):Ft 2400010 (oth a n J).1∧Ft 2400010 (oth a n J).2:=by
 obtain⟨f1,f2⟩:=d.ft h f c b J (Nat.le_refl _);obtain⟨f3,f4⟩:=d.ft' h f c b J (Nat.le_refl _);have k:=d.pos h c;obtain⟨i,rfl⟩:∃ i,J=i+1:=⟨J - 1,by omega⟩;obtain⟨l,m⟩:=d.lq h c i (by omega);have e:(cv (p0 a) (q0 a) (n0 a) (i+1)).aq=(cv (p0 a) (q0 a) (n0 a) i).lq:=rfl;have ft:Ft 4 (fl (n - (cv (p0 a) (q0 a) (n0 a) (i+1)).aq) (cv (p0 a) (q0 a) (n0 a) (i+1)).lq):=by
  have g:Ft 4 (n - (cv (p0 a) (q0 a) (n0 a) (i+1)).aq):=by unfold Ft;omega
  exact g.le (fl_abs _ _)
 have:=Ft.add ((ft.mul f1)) (f3.mono (show 2400005≤4+2400005 by decide));have j:=Ft.add ((ft.mul f2)) (f4.mono (show 2400005≤4+2400005 by decide));exact⟨this.mono (by decide),j.mono (by decide)⟩
end
end Go.Proofs.YtjahbjjekednfaaGreatDoor
