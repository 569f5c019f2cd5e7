import Derived.Test.YtjahbjjekednfaaGreatDoorJ1
import Derived.Test.YtjahbjjekednfaaGreatDoorR10
import Derived.Deep.LoopGhost
namespace Go.Proofs.YtjahbjjekednfaaGreatDoor
set_option maxHeartbeats 6400000
set_option maxRecDepth 100000
open Go.RowKit
theorem ft_two {m:Nat} {t x:Int} (h:Ft m t) (a:x.natAbs≤2*t.natAbs+1):Ft (m+1) x:=by
 unfold Ft at *;rw[Nat.pow_succ];omega
theorem sign_one {x:Int} (h:0<x):x.sign=1:=Int.sign_eq_one_of_pos h
theorem sign_le {x:Int} (h:x≤0):x.sign≤0:=by
 rcases Int.lt_or_eq_of_le h with e | e
 ·rw[Int.sign_eq_neg_one_of_neg e];decide
 ·rw[e];decide
theorem floor_ref (a:Qn) (t:Int) (m:Nat) (u:Value) (w:World) (ha:NN w u a) (hm:m≤30000000) (f:QF m a) (ft:Ft m t) (d0:0≤a.d) (d1:a.d≤1000000) (hP:∀ x,0≤ovr a x↔x≤t) :
  Calls Tryz.prog 28 #[u] w (RetI w t):=by
 obtain⟨b1,aR,n1,c1,b2,aS,n2,c2,b3,aT,n3,c3,rfl,hp,hq,hr⟩:=id ha;clear hp hq hr;have HP:=Hid.mk hP;clear hP;have f2:Fit 2:=⟨1,by decide,by decide⟩;have f1:Fit 1:=⟨1,by decide,by decide⟩;have az:Ft (m+2) 2:=Ft.mono (m:=1) (by unfold Ft;decide) (by omega)
 have HF:=fun(x:Int) (h:x.natAbs≤2*t.natAbs+1)=>ft_two ft h;have HO:=Hid.mk (fun(x:Int) (vv:Value) (W:World) (hk:Kp w W) (h:IN W vv x) (hx:Ft (m+1) x)=>over_any a x (m+1) _ vv W (ha.keep hk) h (by omega) (f.mono (by omega)) hx d0 d1);have HF:=Hid.mk HF;clear f ft d0 d1 ha;have bn:Kp w ((w.alloc (.cells #[.bool b1,.slice aR n1 c1,.bool b2,.slice aS n2 c2,.bool b3,.slice aT n3 c3,.int .i64 a.d] 54)).alloc (.cells #[.bool false,.slice none 0 0] 52)):=Kp.alloc' (kp_alloc w _) _;have aG:Blk ((w.alloc (.cells #[.bool b1,.slice aR n1 c1,.bool b2,.slice aS n2 c2,.bool b3,.slice aT n3 c3,.int .i64 a.d] 54)).alloc (.cells #[.bool false,.slice none 0 0] 52)) w.heap.size #[.bool b1,.slice aR n1 c1,.bool b2,.slice aS n2 c2,.bool b3,.slice aT n3 c3,.int .i64 a.d] 54:=Blk.alloc (Blk.new w _ _) _;have aH:Blk ((w.alloc (.cells #[.bool b1,.slice aR n1 c1,.bool b2,.slice aS n2 c2,.bool b3,.slice aT n3 c3,.int .i64 a.d] 54)).alloc (.cells #[.bool false,.slice none 0 0] 52)) (w.heap.size+1) #[.bool false,.slice none 0 0] 52:=Blk.at (Blk.new (w.alloc (.cells #[.bool b1,.slice aR n1 c1,.bool b2,.slice aS n2 c2,.bool b3,.slice aT n3 c3,.int .i64 a.d] 54)) _ _) (by simp)
 go_enter Tryz.func28,Tryz.ntmps28
 go_wp2_with fail
 refine(of_m1 _).mono ?_;rintro e w1 ⟨v5,rfl,hL,aZ⟩;obtain⟨b5,ao,n5,c5,rfl⟩:=hL.shape';have a3:=bn.trans' aZ;replace aG:=(aG.keep aZ).alloc (.cells #[.bool b5,.slice ao n5 c5] 52);replace aH:=(aH.keep aZ).alloc (.cells #[.bool b5,.slice ao n5 c5] 52);have aU:=Blk.new w1 #[.bool b5,.slice ao n5 c5] 52;replace hL:=hL.keep (kp_alloc w1 (.cells #[.bool b5,.slice ao n5 c5] 52));replace a3:=a3.alloc' (.cells #[.bool b5,.slice ao n5 c5] 52);have bj:w.heap.size≤w1.heap.size:=(bn.trans' aZ).size;have bV:w.heap.size≠w1.heap.size:=by have:=aZ.size;simp only[World.size_alloc] at this;omega
 have bW:w.heap.size+1≠w1.heap.size:=by have:=aZ.size;simp only[World.size_alloc] at this;omega
 clear bn aZ
 go_wp2_with fail
 generalize w1.alloc (.cells #[.bool b5,.slice ao n5 c5] 52)=wa at *;generalize w1.heap.size=A3 at *
 go_loopg [] ((-1 - t).toNat) (fun k wr=>∃(L:Int) (b5:Bool) (ao:Option Addr) (n5 c5:Nat),Blk wr A3 #[.bool b5,.slice ao n5 c5] 52∧IN wr (.agg #[.bool b5,.slice ao n5 c5]) L∧Blk wr w.heap.size #[.bool b1,.slice aR n1 c1,.bool b2,.slice aS n2 c2,.bool b3,.slice aT n3 c3,.int .i64 a.d] 54∧Blk wr (w.heap.size+1) #[.bool false,.slice none 0 0] 52∧Kp w wr∧L≤-1∧(L = -1∨2*t<L)∧(L - t).toNat≤k)
 case atStart=>exact⟨-1,_,_,_,_,aU,hL,aG,aH,a3,by omega,by omega,by omega⟩
 case round =>
  clear aU hL aG aH a3;obtain⟨L,bL,aI,nL,cL,BL,hL,BX,BE,aq,bD,bE,bi⟩:=hrel;have a0:=BX.cell;have aJ:=BL.cell;have a8:=BX.lt;have aK:=BL.lt;have HC:=HO.out L _ wr aq hL (HF.out L (by omega));have a9:=HP.out L;have fL:Fit L:=(HF.out L (by omega)).fit (by omega);generalize ovr a L=o at HC a9;by_cases h:0≤o
  ·have a5:=a9.1 h;clear a9 bi fL
   go_wp2_with fail
   refine HC.mono ?_;rintro e w2 ⟨rfl,ar⟩;replace BL:=BL.keep ar;replace BX:=BX.keep ar;replace BE:=BE.keep ar;replace hL:=hL.keep ar;have aA:=aq.trans' ar;clear a0 aJ a8 aK HC ar aq
   go_wp2_with fail
   refine(of_any 1 _ (by decide) (by decide)).mono ?_;rintro e w3 ⟨v6,rfl,hH,aL⟩;obtain⟨b6,aV,n6,c6,rfl⟩:=hH.shape';have bm:w.heap.size≤w3.heap.size:=(aA.trans' aL).size;have bP:w.heap.size≠w3.heap.size:=by have:=(BX.keep aL).lt;omega
   have bQ:w.heap.size+1≠w3.heap.size:=by have:=(BE.keep aL).lt;omega
   have bR:A3≠w3.heap.size:=by have:=(BL.keep aL).lt;omega
   replace BX:=(BX.keep aL).alloc (.cells #[.bool b6,.slice aV n6 c6] 52);replace BE:=(BE.keep aL).alloc (.cells #[.bool b6,.slice aV n6 c6] 52);replace BL:=(BL.keep aL).alloc (.cells #[.bool b6,.slice aV n6 c6] 52);replace hL:=(hL.keep aL).keep (kp_alloc w3 (.cells #[.bool b6,.slice aV n6 c6] 52));have ba:=Blk.new w3 #[.bool b6,.slice aV n6 c6] 52;replace hH:=hH.keep (kp_alloc w3 (.cells #[.bool b6,.slice aV n6 c6] 52));replace aA:=(aA.trans' aL).alloc' (.cells #[.bool b6,.slice aV n6 c6] 52);clear aL
   go_wp2_with fail
   generalize w3.alloc (.cells #[.bool b6,.slice aV n6 c6] 52)=wb at *;generalize w3.heap.size=A5 at *;clear h;have aG:=BX;have aH:=BE;have aU:=BL;have bc:=hL;clear BX BE BL hL
   go_loopg [] (t.toNat) (fun k wr=>∃(H:Int) (b5:Bool) (ao:Option Addr) (n5 c5:Nat),Blk wr A5 #[.bool b5,.slice ao n5 c5] 52∧IN wr (.agg #[.bool b5,.slice ao n5 c5]) H∧Blk wr w.heap.size #[.bool b1,.slice aR n1 c1,.bool b2,.slice aS n2 c2,.bool b3,.slice aT n3 c3,.int .i64 a.d] 54∧Blk wr (w.heap.size+1) #[.bool false,.slice none 0 0] 52∧Blk wr A3 #[.bool bL,.slice aI nL cL] 52∧IN wr (.agg #[.bool bL,.slice aI nL cL]) L∧Kp w wr∧1≤H∧(H=1∨H≤2*t)∧(t+1 - H).toNat≤k)
   case atStart=>exact⟨1,_,_,_,_,ba,hH,aG,aH,aU,bc,aA,by omega,by omega,by omega⟩
   case round =>
    clear ba hH aG aH aU bc aA;obtain⟨H,b5,ao,n5,c5,BH,hH,BX,BE,BL,hL,aq,bF,bG,bi⟩:=hrel;have a0:=BX.cell;have a1:=BH.cell;have a8:=BX.lt;have a2:=BH.lt;have HC:=HO.out H _ wr aq hH (HF.out H (by omega));have be:=HP.out H;have fH:Fit H:=(HF.out H (by omega)).fit (by omega);generalize ovr a H=o at HC be;by_cases h:o<0
    ·have bf:t<H:=by have:=be.2;omega
     clear be bi fH
     go_wp2_with fail
     refine HC.mono ?_;rintro e w4 ⟨rfl,ap⟩;replace BL:=BL.keep ap;replace BH:=BH.keep ap;replace BX:=BX.keep ap;replace BE:=BE.keep ap;replace hL:=hL.keep ap;replace hH:=hH.keep ap;have a4:=aq.trans' ap;clear a0 a1 a8 a2 HC ap aq
     go_wp2_with fail
     clear h;have aG:=BX;have aH:=BE;have aU:=BL;have bc:=hL;have ba:=BH;have bx:=hH;clear BX BE BL hL BH hH;have a6:L.natAbs≤2*t.natAbs+1:=by omega
     have a7:H.natAbs≤2*t.natAbs+1:=by omega
     go_loopg [] ((H - L).toNat) (fun k wr=>∃(L H:Int) (bL:Bool) (aI:Option Addr) (nL cL:Nat) (b5:Bool) (ao:Option Addr) (n5 c5:Nat),Blk wr A5 #[.bool b5,.slice ao n5 c5] 52∧IN wr (.agg #[.bool b5,.slice ao n5 c5]) H∧Blk wr w.heap.size #[.bool b1,.slice aR n1 c1,.bool b2,.slice aS n2 c2,.bool b3,.slice aT n3 c3,.int .i64 a.d] 54∧Blk wr (w.heap.size+1) #[.bool false,.slice none 0 0] 52∧Blk wr A3 #[.bool bL,.slice aI nL cL] 52∧IN wr (.agg #[.bool bL,.slice aI nL cL]) L∧Kp w wr∧L≤t∧t<H∧L.natAbs≤2*t.natAbs+1∧H.natAbs≤2*t.natAbs+1∧(H - L).toNat≤k)
     case atStart=>exact⟨L,H,_,_,_,_,_,_,_,_,ba,bx,aG,aH,aU,bc,a4,a5,bf,a6,a7,Nat.le_refl _⟩
     case round =>
      clear bD bE bF bG ba bx aG aH aU bc a4 a5 bf a6 a7;obtain⟨L,H,bL,aI,nL,cL,b5,ao,n5,c5,BH,hH,BX,BE,BL,hL,aq,a5,bf,a6,a7,bi⟩:=hrel;have a1:=BH.cell;have aJ:=BL.cell;have a2:=BH.lt;have aK:=BL.lt;have fL:Fit L:=(HF.out L a6).fit (by omega);have fH:Fit H:=(HF.out H a7).fit (by omega);have fD:Ft (m+2) (H - L):=by
       have:=Ft.add (HF.out H a7) (HF.out L a6).neg
       rwa [← Int.sub_eq_add_neg] at this
      have bH:Fit (H - L):=fD.fit (by omega)
      go_wp2_with fail
      refine(rminus_any H L _ _ _ hH hL fH fL).mono ?_;rintro e w5 ⟨v7,rfl,hD,aB⟩;obtain⟨b7,aw,n7,c7,rfl⟩:=hD.shape'
      go_wp2_with fail
      refine(of_any 1 _ (by decide) (by decide)).mono ?_;rintro e w6 ⟨v8,rfl,h1,bo⟩;obtain⟨b8,bI,n8,c8,rfl⟩:=h1.shape'
      go_wp2_with fail
      refine(rcmp_any (H - L) 1 _ _ _ (hD.keep bo) h1 bH f1).mono ?_;rintro e w7 ⟨rfl,bz⟩;have av:=(aB.trans' bo).trans' bz;replace BL:=BL.keep av;replace BH:=BH.keep av;replace BX:=BX.keep av;replace BE:=BE.keep av;replace hL:=hL.keep av;replace hH:=hH.keep av;have am:=aq.trans' av;clear a1 aJ a2 aK aB bo bz av aq hD h1;by_cases hd:1<H - L
      ·have hs:=Hid.mk (sign_one (x:=H - L - 1) (by omega));have bA:0<(H - L - 1).sign:=by rw[hs.out];decide
       clear hs;generalize (H - L - 1).sign=sg at *;have a1:=BH.cell;have aJ:=BL.cell;have a2:=BH.lt;have aK:=BL.lt
       go_wp2_with fail
       refine(rminus_any H L _ _ _ hH hL fH fL).mono ?_;rintro e w5 ⟨v7,rfl,hD,aB⟩;obtain⟨b7,aw,n7,c7,rfl⟩:=hD.shape';replace BL:=(BL.keep aB).alloc (.cells #[.bool b7,.slice aw n7 c7] 52);replace BH:=(BH.keep aB).alloc (.cells #[.bool b7,.slice aw n7 c7] 52);replace BX:=(BX.keep aB).alloc (.cells #[.bool b7,.slice aw n7 c7] 52);replace BE:=(BE.keep aB).alloc (.cells #[.bool b7,.slice aw n7 c7] 52);replace hL:=(hL.keep aB).keep (kp_alloc w5 (.cells #[.bool b7,.slice aw n7 c7] 52));replace hH:=(hH.keep aB).keep (kp_alloc w5 (.cells #[.bool b7,.slice aw n7 c7] 52));have BD:=Blk.new w5 #[.bool b7,.slice aw n7 c7] 52;replace hD:=hD.keep (kp_alloc w5 (.cells #[.bool b7,.slice aw n7 c7] 52));replace am:=(am.trans' aB).alloc' (.cells #[.bool b7,.slice aw n7 c7] 52);clear a1 aJ a2 aK aB bA
       go_wp2_with fail
       generalize w5.alloc (.cells #[.bool b7,.slice aw n7 c7] 52)=ai at *;generalize w5.heap.size=A7 at *;have ax:0≤H - L:=by omega
       have bX:Hid (∃ D:Int,D=H - L):=⟨_,rfl⟩;generalize bg:H - L=D at hD ax fD;replace bg:=Hid.mk bg
       go_cut [8,9] from 30 to 54 (fun p _ wx=>∃(bp:Nat) (bb:Bool) (aa:Option Addr) (nn cc:Nat),p=.pointer (some ⟨bp,0,none⟩)∧Blk wx bp #[.bool bb,.slice aa nn cc] 52∧IN wx (.agg #[.bool bb,.slice aa nn cc]) (D / 2)∧Kp ai wx∧ai.heap.size≤bp)
       case first =>
        refine wp_region_l (S:=fun w'=>Kp ai w') (by kernel_rfl) (Kp.drew' (Below.refl _ _)) (fun ay=>?_);generalize ai.drew=wd at *;refine wpAnyL_tk (i:=0) (k:=2) (v:=.agg #[.bool b7,.slice aw n7 c7]) rfl ?_ ay ?_
        ·intro w' ac;have hc:=((BD).keep ac).cell;go_simp
        simp only[sq];refine wpAnyL_ready (rs:=[1,6,7]) (by kernel_rfl) (by simp) ?_;refine AllReadyL.cons rfl (fun K I=>?_) ?_
        ·go_simp
         refine(of_any 2 _ (by decide) (by decide)).mono ?_;rintro e U ⟨aN,rfl,N,Z⟩;obtain⟨aO,au,aP,aQ,rfl⟩:=N.shape'
         go_wp2_with fail
         refine I.out _ _ (ay.trans' Z) (fun ak=>?_);clear I K;refine wpAnyL_ready (rs:=[2,6,7]) (by kernel_rfl) (by simp) ?_;refine AllReadyL.cons rfl (fun K I=>?_) ?_
         ·go_simp
          refine(rdiv_any D 2 (m+2) _ _ _ (hD.keep ak) N ax (by decide) (by omega) fD az).mono ?_;rintro e G ⟨an,aj,rfl,q,C,J⟩;obtain⟨j,b,l,n,rfl⟩:=q.shape';obtain⟨s,g,z,B,rfl⟩:=C.shape'
          go_wp2_with fail
          refine I.out _ _ (ak.trans' J) (fun V=>?_);clear I K;refine wpAnyL_tk (i:=3) (k:=4) (v:=.tuple #[.agg #[.bool j,.slice b l n],.agg #[.bool s,.slice g z B]]) rfl ?_ V ?_
          ·intro w' ac;go_simp
          simp only[sq];refine wpAnyL_tk (i:=4) (k:=8) (v:=.agg #[.bool j,.slice b l n]) rfl ?_ V ?_
          ·intro w' ac;go_simp
          simp only[sq];refine wpAnyL_tk (i:=5) (k:=9) (v:=.agg #[.bool s,.slice g z B]) rfl ?_ V ?_
          ·intro w' ac;go_simp
          simp only[sq];refine wpAnyL_ready (rs:=[6,7]) (by kernel_rfl) (by simp) ?_;refine AllReadyL.cons rfl (fun K I=>?_) ?_
          ·go_simp
           refine I.out _ _ (Kp.alloc' V (.cells #[.bool false,.slice none 0 0] 52)) (fun T=>?_);clear I K;have r:=Blk.new G #[.bool false,.slice none 0 0] 52;have ad:ai.heap.size≤G.heap.size:=V.size;replace q:=q.keep (kp_alloc G (.cells #[.bool false,.slice none 0 0] 52));replace C:=C.keep (kp_alloc G (.cells #[.bool false,.slice none 0 0] 52))
           try simp only[sq]
           generalize aW:G.heap.size=X at *;generalize G.alloc (.cells #[.bool false,.slice none 0 0] 52)=ae at *;refine wpAnyL_on (i:=7) rfl (fun K I=>?_)
           go_simp
           refine I.out _ _ (Kp.alloc' T (.cells #[.bool false,.slice none 0 0] 52)) (fun Y=>?_);clear I K;have F:=Blk.new ae #[.bool false,.slice none 0 0] 52;have al:ai.heap.size≤ae.heap.size:=T.size;have aC:X≠ae.heap.size:=by have:=r.lt;omega
           replace q:=q.keep (kp_alloc ae (.cells #[.bool false,.slice none 0 0] 52));replace C:=C.keep (kp_alloc ae (.cells #[.bool false,.slice none 0 0] 52));replace r:=r.keep (kp_alloc ae (.cells #[.bool false,.slice none 0 0] 52))
           try simp only[sq]
           generalize aX:ae.heap.size=A7 at *;generalize ae.alloc (.cells #[.bool false,.slice none 0 0] 52)=af at *;refine wpAnyL_on (i:=8) rfl (fun K I=>?_);have O:=r.cell;have P:=r.frozen;have Q:=r.lt
           go_simp
           refine I.out _ _ (stK2 (A:=X) (.bool j) (.slice b l n) Y ad) (fun ah=>?_);clear I K;have R:=(stS2 (E:=3) (.bool j) (.slice b l n) r (by decide));replace q:=q.soft R;replace C:=C.soft R;replace F:=(Blk.other (c:=X) (o:=1) (y:=.slice b l n) (Blk.other (c:=X) (o:=0) (y:=.bool j) F (by omega)) (by omega));replace r:=(Blk.set (o:=1) (y:=.slice b l n) (Blk.set (o:=0) (y:=.bool j) r));clear R O P Q
           try simp only[sq]
           generalize ((af.setCell ⟨X,0,none⟩ (.bool j)).setCell ⟨X,1,none⟩ (.slice b l n))=aD at *;simp only[List.setIfInBounds_toArray,List.set_cons_zero,List.set_cons_succ] at r;have O:=F.cell;have P:=F.frozen;have Q:=F.lt;refine wpAnyL_last (i:=9) rfl (by kernel_rfl) (by kernel_rfl) (by kernel_rfl) (fun K I=>?_)
           go_simp
           refine I.out _ _ ?_;clear I K
           go_wp2_with fail
           go_meet
           case rel=>exact⟨X,_,_,_,_,rfl,(ot2 (A:=A7) (.bool s) (.slice g z B) r (by omega)),q.soft (sf2 (.bool s) (.slice g z B) F (by decide)),(kp2 (A:=A7) (.bool s) (.slice g z B) ah al),ad⟩
          refine AllReadyL.cons rfl (fun K I=>?_) ?_
          ·go_simp
           refine I.out _ _ (Kp.alloc' V (.cells #[.bool false,.slice none 0 0] 52)) (fun T=>?_);clear I K;have F:=Blk.new G #[.bool false,.slice none 0 0] 52;have al:ai.heap.size≤G.heap.size:=V.size;replace q:=q.keep (kp_alloc G (.cells #[.bool false,.slice none 0 0] 52));replace C:=C.keep (kp_alloc G (.cells #[.bool false,.slice none 0 0] 52))
           try simp only[sq]
           generalize aX:G.heap.size=A7 at *;generalize G.alloc (.cells #[.bool false,.slice none 0 0] 52)=af at *;refine wpAnyL_on (i:=6) rfl (fun K I=>?_)
           go_simp
           refine I.out _ _ (Kp.alloc' T (.cells #[.bool false,.slice none 0 0] 52)) (fun Y=>?_);clear I K;have r:=Blk.new af #[.bool false,.slice none 0 0] 52;have ad:ai.heap.size≤af.heap.size:=T.size;have aE:A7≠af.heap.size:=by have:=F.lt;omega
           replace q:=q.keep (kp_alloc af (.cells #[.bool false,.slice none 0 0] 52));replace C:=C.keep (kp_alloc af (.cells #[.bool false,.slice none 0 0] 52));replace F:=F.keep (kp_alloc af (.cells #[.bool false,.slice none 0 0] 52))
           try simp only[sq]
           generalize aW:af.heap.size=X at *;generalize af.alloc (.cells #[.bool false,.slice none 0 0] 52)=ae at *;refine wpAnyL_on (i:=8) rfl (fun K I=>?_);have O:=r.cell;have P:=r.frozen;have Q:=r.lt
           go_simp
           refine I.out _ _ (stK2 (A:=X) (.bool j) (.slice b l n) Y ad) (fun ah=>?_);clear I K;have R:=(stS2 (E:=3) (.bool j) (.slice b l n) r (by decide));replace q:=q.soft R;replace C:=C.soft R;replace F:=(Blk.other (c:=X) (o:=1) (y:=.slice b l n) (Blk.other (c:=X) (o:=0) (y:=.bool j) F (by omega)) (by omega));replace r:=(Blk.set (o:=1) (y:=.slice b l n) (Blk.set (o:=0) (y:=.bool j) r));clear R O P Q
           try simp only[sq]
           generalize ((ae.setCell ⟨X,0,none⟩ (.bool j)).setCell ⟨X,1,none⟩ (.slice b l n))=aD at *;simp only[List.setIfInBounds_toArray,List.set_cons_zero,List.set_cons_succ] at r;have O:=F.cell;have P:=F.frozen;have Q:=F.lt;refine wpAnyL_last (i:=9) rfl (by kernel_rfl) (by kernel_rfl) (by kernel_rfl) (fun K I=>?_)
           go_simp
           refine I.out _ _ ?_;clear I K
           go_wp2_with fail
           go_meet
           case rel=>exact⟨X,_,_,_,_,rfl,(ot2 (A:=A7) (.bool s) (.slice g z B) r (by omega)),q.soft (sf2 (.bool s) (.slice g z B) F (by decide)),(kp2 (A:=A7) (.bool s) (.slice g z B) ah al),ad⟩
          exact AllReadyL.nil
         refine AllReadyL.cons rfl (fun K I=>?_) ?_
         ·go_simp
          refine I.out _ _ (Kp.alloc' ak (.cells #[.bool false,.slice none 0 0] 52)) (fun V=>?_);clear I K;have r:=Blk.new U #[.bool false,.slice none 0 0] 52;have ad:ai.heap.size≤U.heap.size:=ak.size;replace N:=N.keep (kp_alloc U (.cells #[.bool false,.slice none 0 0] 52))
          try simp only[sq]
          generalize aW:U.heap.size=X at *;generalize U.alloc (.cells #[.bool false,.slice none 0 0] 52)=ae at *;refine wpAnyL_ready (rs:=[2,7]) (by kernel_rfl) (by simp) ?_;refine AllReadyL.cons rfl (fun K I=>?_) ?_
          ·go_simp
           refine(rdiv_any D 2 (m+2) _ _ _ (hD.keep V) N ax (by decide) (by omega) fD az).mono ?_;rintro e G ⟨an,aj,rfl,q,C,J⟩;obtain⟨j,b,l,n,rfl⟩:=q.shape';obtain⟨s,g,z,B,rfl⟩:=C.shape';replace r:=r.keep J
           go_wp2_with fail
           refine I.out _ _ (V.trans' J) (fun T=>?_);clear I K;refine wpAnyL_tk (i:=3) (k:=4) (v:=.tuple #[.agg #[.bool j,.slice b l n],.agg #[.bool s,.slice g z B]]) rfl ?_ T ?_
           ·intro w' ac;go_simp
           simp only[sq];refine wpAnyL_tk (i:=4) (k:=8) (v:=.agg #[.bool j,.slice b l n]) rfl ?_ T ?_
           ·intro w' ac;go_simp
           simp only[sq];refine wpAnyL_tk (i:=5) (k:=9) (v:=.agg #[.bool s,.slice g z B]) rfl ?_ T ?_
           ·intro w' ac;go_simp
           simp only[sq];refine wpAnyL_on (i:=7) rfl (fun K I=>?_)
           go_simp
           refine I.out _ _ (Kp.alloc' T (.cells #[.bool false,.slice none 0 0] 52)) (fun Y=>?_);clear I K;have F:=Blk.new G #[.bool false,.slice none 0 0] 52;have al:ai.heap.size≤G.heap.size:=T.size;have aC:X≠G.heap.size:=by have:=r.lt;omega
           replace r:=r.keep (kp_alloc G (.cells #[.bool false,.slice none 0 0] 52));replace q:=q.keep (kp_alloc G (.cells #[.bool false,.slice none 0 0] 52));replace C:=C.keep (kp_alloc G (.cells #[.bool false,.slice none 0 0] 52))
           try simp only[sq]
           generalize aX:G.heap.size=A7 at *;generalize G.alloc (.cells #[.bool false,.slice none 0 0] 52)=af at *;refine wpAnyL_on (i:=8) rfl (fun K I=>?_);have O:=r.cell;have P:=r.frozen;have Q:=r.lt
           go_simp
           refine I.out _ _ (stK2 (A:=X) (.bool j) (.slice b l n) Y ad) (fun ah=>?_);clear I K;have R:=(stS2 (E:=3) (.bool j) (.slice b l n) r (by decide));replace q:=q.soft R;replace C:=C.soft R;replace F:=(Blk.other (c:=X) (o:=1) (y:=.slice b l n) (Blk.other (c:=X) (o:=0) (y:=.bool j) F (by omega)) (by omega));replace r:=(Blk.set (o:=1) (y:=.slice b l n) (Blk.set (o:=0) (y:=.bool j) r));clear R O P Q
           try simp only[sq]
           generalize ((af.setCell ⟨X,0,none⟩ (.bool j)).setCell ⟨X,1,none⟩ (.slice b l n))=aD at *;simp only[List.setIfInBounds_toArray,List.set_cons_zero,List.set_cons_succ] at r;have O:=F.cell;have P:=F.frozen;have Q:=F.lt;refine wpAnyL_last (i:=9) rfl (by kernel_rfl) (by kernel_rfl) (by kernel_rfl) (fun K I=>?_)
           go_simp
           refine I.out _ _ ?_;clear I K
           go_wp2_with fail
           go_meet
           case rel=>exact⟨X,_,_,_,_,rfl,(ot2 (A:=A7) (.bool s) (.slice g z B) r (by omega)),q.soft (sf2 (.bool s) (.slice g z B) F (by decide)),(kp2 (A:=A7) (.bool s) (.slice g z B) ah al),ad⟩
          refine AllReadyL.cons rfl (fun K I=>?_) ?_
          ·go_simp
           refine I.out _ _ (Kp.alloc' V (.cells #[.bool false,.slice none 0 0] 52)) (fun T=>?_);clear I K;have F:=Blk.new ae #[.bool false,.slice none 0 0] 52;have al:ai.heap.size≤ae.heap.size:=V.size;have aC:X≠ae.heap.size:=by have:=r.lt;omega
           replace N:=N.keep (kp_alloc ae (.cells #[.bool false,.slice none 0 0] 52));replace r:=r.keep (kp_alloc ae (.cells #[.bool false,.slice none 0 0] 52))
           try simp only[sq]
           generalize aX:ae.heap.size=A7 at *;generalize ae.alloc (.cells #[.bool false,.slice none 0 0] 52)=af at *;refine wpAnyL_on (i:=2) rfl (fun K I=>?_)
           go_simp
           refine(rdiv_any D 2 (m+2) _ _ _ (hD.keep T) N ax (by decide) (by omega) fD az).mono ?_;rintro e G ⟨an,aj,rfl,q,C,J⟩;obtain⟨j,b,l,n,rfl⟩:=q.shape';obtain⟨s,g,z,B,rfl⟩:=C.shape';replace r:=r.keep J;replace F:=F.keep J
           go_wp2_with fail
           refine I.out _ _ (T.trans' J) (fun Y=>?_);clear I K;refine wpAnyL_tk (i:=3) (k:=4) (v:=.tuple #[.agg #[.bool j,.slice b l n],.agg #[.bool s,.slice g z B]]) rfl ?_ Y ?_
           ·intro w' ac;go_simp
           simp only[sq];refine wpAnyL_tk (i:=4) (k:=8) (v:=.agg #[.bool j,.slice b l n]) rfl ?_ Y ?_
           ·intro w' ac;go_simp
           simp only[sq];refine wpAnyL_tk (i:=5) (k:=9) (v:=.agg #[.bool s,.slice g z B]) rfl ?_ Y ?_
           ·intro w' ac;go_simp
           simp only[sq];refine wpAnyL_on (i:=8) rfl (fun K I=>?_);have O:=r.cell;have P:=r.frozen;have Q:=r.lt
           go_simp
           refine I.out _ _ (stK2 (A:=X) (.bool j) (.slice b l n) Y ad) (fun ah=>?_);clear I K;have R:=(stS2 (E:=3) (.bool j) (.slice b l n) r (by decide));replace F:=(Blk.other (c:=X) (o:=1) (y:=.slice b l n) (Blk.other (c:=X) (o:=0) (y:=.bool j) F (by omega)) (by omega));replace q:=q.soft R;replace C:=C.soft R;replace r:=(Blk.set (o:=1) (y:=.slice b l n) (Blk.set (o:=0) (y:=.bool j) r));clear R O P Q
           try simp only[sq]
           generalize ((G.setCell ⟨X,0,none⟩ (.bool j)).setCell ⟨X,1,none⟩ (.slice b l n))=aD at *;simp only[List.setIfInBounds_toArray,List.set_cons_zero,List.set_cons_succ] at r;have O:=F.cell;have P:=F.frozen;have Q:=F.lt;refine wpAnyL_last (i:=9) rfl (by kernel_rfl) (by kernel_rfl) (by kernel_rfl) (fun K I=>?_)
           go_simp
           refine I.out _ _ ?_;clear I K
           go_wp2_with fail
           go_meet
           case rel=>exact⟨X,_,_,_,_,rfl,(ot2 (A:=A7) (.bool s) (.slice g z B) r (by omega)),q.soft (sf2 (.bool s) (.slice g z B) F (by decide)),(kp2 (A:=A7) (.bool s) (.slice g z B) ah al),ad⟩
          exact AllReadyL.nil
         refine AllReadyL.cons rfl (fun K I=>?_) ?_
         ·go_simp
          refine I.out _ _ (Kp.alloc' ak (.cells #[.bool false,.slice none 0 0] 52)) (fun V=>?_);clear I K;have F:=Blk.new U #[.bool false,.slice none 0 0] 52;have al:ai.heap.size≤U.heap.size:=ak.size;replace N:=N.keep (kp_alloc U (.cells #[.bool false,.slice none 0 0] 52))
          try simp only[sq]
          generalize aX:U.heap.size=A7 at *;generalize U.alloc (.cells #[.bool false,.slice none 0 0] 52)=af at *;refine wpAnyL_ready (rs:=[2,6]) (by kernel_rfl) (by simp) ?_;refine AllReadyL.cons rfl (fun K I=>?_) ?_
          ·go_simp
           refine(rdiv_any D 2 (m+2) _ _ _ (hD.keep V) N ax (by decide) (by omega) fD az).mono ?_;rintro e G ⟨an,aj,rfl,q,C,J⟩;obtain⟨j,b,l,n,rfl⟩:=q.shape';obtain⟨s,g,z,B,rfl⟩:=C.shape';replace F:=F.keep J
           go_wp2_with fail
           refine I.out _ _ (V.trans' J) (fun T=>?_);clear I K;refine wpAnyL_tk (i:=3) (k:=4) (v:=.tuple #[.agg #[.bool j,.slice b l n],.agg #[.bool s,.slice g z B]]) rfl ?_ T ?_
           ·intro w' ac;go_simp
           simp only[sq];refine wpAnyL_tk (i:=4) (k:=8) (v:=.agg #[.bool j,.slice b l n]) rfl ?_ T ?_
           ·intro w' ac;go_simp
           simp only[sq];refine wpAnyL_tk (i:=5) (k:=9) (v:=.agg #[.bool s,.slice g z B]) rfl ?_ T ?_
           ·intro w' ac;go_simp
           simp only[sq];refine wpAnyL_on (i:=6) rfl (fun K I=>?_)
           go_simp
           refine I.out _ _ (Kp.alloc' T (.cells #[.bool false,.slice none 0 0] 52)) (fun Y=>?_);clear I K;have r:=Blk.new G #[.bool false,.slice none 0 0] 52;have ad:ai.heap.size≤G.heap.size:=T.size;have aE:A7≠G.heap.size:=by have:=F.lt;omega
           replace F:=F.keep (kp_alloc G (.cells #[.bool false,.slice none 0 0] 52));replace q:=q.keep (kp_alloc G (.cells #[.bool false,.slice none 0 0] 52));replace C:=C.keep (kp_alloc G (.cells #[.bool false,.slice none 0 0] 52))
           try simp only[sq]
           generalize aW:G.heap.size=X at *;generalize G.alloc (.cells #[.bool false,.slice none 0 0] 52)=ae at *;refine wpAnyL_on (i:=8) rfl (fun K I=>?_);have O:=r.cell;have P:=r.frozen;have Q:=r.lt
           go_simp
           refine I.out _ _ (stK2 (A:=X) (.bool j) (.slice b l n) Y ad) (fun ah=>?_);clear I K;have R:=(stS2 (E:=3) (.bool j) (.slice b l n) r (by decide));replace F:=(Blk.other (c:=X) (o:=1) (y:=.slice b l n) (Blk.other (c:=X) (o:=0) (y:=.bool j) F (by omega)) (by omega));replace q:=q.soft R;replace C:=C.soft R;replace r:=(Blk.set (o:=1) (y:=.slice b l n) (Blk.set (o:=0) (y:=.bool j) r));clear R O P Q
           try simp only[sq]
           generalize ((ae.setCell ⟨X,0,none⟩ (.bool j)).setCell ⟨X,1,none⟩ (.slice b l n))=aD at *;simp only[List.setIfInBounds_toArray,List.set_cons_zero,List.set_cons_succ] at r;have O:=F.cell;have P:=F.frozen;have Q:=F.lt;refine wpAnyL_last (i:=9) rfl (by kernel_rfl) (by kernel_rfl) (by kernel_rfl) (fun K I=>?_)
           go_simp
           refine I.out _ _ ?_;clear I K
           go_wp2_with fail
           go_meet
           case rel=>exact⟨X,_,_,_,_,rfl,(ot2 (A:=A7) (.bool s) (.slice g z B) r (by omega)),q.soft (sf2 (.bool s) (.slice g z B) F (by decide)),(kp2 (A:=A7) (.bool s) (.slice g z B) ah al),ad⟩
          refine AllReadyL.cons rfl (fun K I=>?_) ?_
          ·go_simp
           refine I.out _ _ (Kp.alloc' V (.cells #[.bool false,.slice none 0 0] 52)) (fun T=>?_);clear I K;have r:=Blk.new af #[.bool false,.slice none 0 0] 52;have ad:ai.heap.size≤af.heap.size:=V.size;have aE:A7≠af.heap.size:=by have:=F.lt;omega
           replace N:=N.keep (kp_alloc af (.cells #[.bool false,.slice none 0 0] 52));replace F:=F.keep (kp_alloc af (.cells #[.bool false,.slice none 0 0] 52))
           try simp only[sq]
           generalize aW:af.heap.size=X at *;generalize af.alloc (.cells #[.bool false,.slice none 0 0] 52)=ae at *;refine wpAnyL_on (i:=2) rfl (fun K I=>?_)
           go_simp
           refine(rdiv_any D 2 (m+2) _ _ _ (hD.keep T) N ax (by decide) (by omega) fD az).mono ?_;rintro e G ⟨an,aj,rfl,q,C,J⟩;obtain⟨j,b,l,n,rfl⟩:=q.shape';obtain⟨s,g,z,B,rfl⟩:=C.shape';replace F:=F.keep J;replace r:=r.keep J
           go_wp2_with fail
           refine I.out _ _ (T.trans' J) (fun Y=>?_);clear I K;refine wpAnyL_tk (i:=3) (k:=4) (v:=.tuple #[.agg #[.bool j,.slice b l n],.agg #[.bool s,.slice g z B]]) rfl ?_ Y ?_
           ·intro w' ac;go_simp
           simp only[sq];refine wpAnyL_tk (i:=4) (k:=8) (v:=.agg #[.bool j,.slice b l n]) rfl ?_ Y ?_
           ·intro w' ac;go_simp
           simp only[sq];refine wpAnyL_tk (i:=5) (k:=9) (v:=.agg #[.bool s,.slice g z B]) rfl ?_ Y ?_
           ·intro w' ac;go_simp
           simp only[sq];refine wpAnyL_on (i:=8) rfl (fun K I=>?_);have O:=r.cell;have P:=r.frozen;have Q:=r.lt
           go_simp
           refine I.out _ _ (stK2 (A:=X) (.bool j) (.slice b l n) Y ad) (fun ah=>?_);clear I K;have R:=(stS2 (E:=3) (.bool j) (.slice b l n) r (by decide));replace F:=(Blk.other (c:=X) (o:=1) (y:=.slice b l n) (Blk.other (c:=X) (o:=0) (y:=.bool j) F (by omega)) (by omega));replace q:=q.soft R;replace C:=C.soft R;replace r:=(Blk.set (o:=1) (y:=.slice b l n) (Blk.set (o:=0) (y:=.bool j) r));clear R O P Q
           try simp only[sq]
           generalize ((G.setCell ⟨X,0,none⟩ (.bool j)).setCell ⟨X,1,none⟩ (.slice b l n))=aD at *;simp only[List.setIfInBounds_toArray,List.set_cons_zero,List.set_cons_succ] at r;have O:=F.cell;have P:=F.frozen;have Q:=F.lt;refine wpAnyL_last (i:=9) rfl (by kernel_rfl) (by kernel_rfl) (by kernel_rfl) (fun K I=>?_)
           go_simp
           refine I.out _ _ ?_;clear I K
           go_wp2_with fail
           go_meet
           case rel=>exact⟨X,_,_,_,_,rfl,(ot2 (A:=A7) (.bool s) (.slice g z B) r (by omega)),q.soft (sf2 (.bool s) (.slice g z B) F (by decide)),(kp2 (A:=A7) (.bool s) (.slice g z B) ah al),ad⟩
          exact AllReadyL.nil
         exact AllReadyL.nil
        refine AllReadyL.cons rfl (fun K I=>?_) ?_
        ·go_simp
         refine I.out _ _ (Kp.alloc' ay (.cells #[.bool false,.slice none 0 0] 52)) (fun ak=>?_);clear I K;have r:=Blk.new wd #[.bool false,.slice none 0 0] 52;have ad:ai.heap.size≤wd.heap.size:=ay.size
         try simp only[sq]
         generalize aW:wd.heap.size=X at *;generalize wd.alloc (.cells #[.bool false,.slice none 0 0] 52)=ae at *;refine wpAnyL_ready (rs:=[1,7]) (by kernel_rfl) (by simp) ?_;refine AllReadyL.cons rfl (fun K I=>?_) ?_
         ·go_simp
          refine(of_any 2 _ (by decide) (by decide)).mono ?_;rintro e U ⟨aN,rfl,N,Z⟩;obtain⟨aO,au,aP,aQ,rfl⟩:=N.shape';replace r:=r.keep Z
          go_wp2_with fail
          refine I.out _ _ (ak.trans' Z) (fun V=>?_);clear I K;refine wpAnyL_ready (rs:=[2,7]) (by kernel_rfl) (by simp) ?_;refine AllReadyL.cons rfl (fun K I=>?_) ?_
          ·go_simp
           refine(rdiv_any D 2 (m+2) _ _ _ (hD.keep V) N ax (by decide) (by omega) fD az).mono ?_;rintro e G ⟨an,aj,rfl,q,C,J⟩;obtain⟨j,b,l,n,rfl⟩:=q.shape';obtain⟨s,g,z,B,rfl⟩:=C.shape';replace r:=r.keep J
           go_wp2_with fail
           refine I.out _ _ (V.trans' J) (fun T=>?_);clear I K;refine wpAnyL_tk (i:=3) (k:=4) (v:=.tuple #[.agg #[.bool j,.slice b l n],.agg #[.bool s,.slice g z B]]) rfl ?_ T ?_
           ·intro w' ac;go_simp
           simp only[sq];refine wpAnyL_tk (i:=4) (k:=8) (v:=.agg #[.bool j,.slice b l n]) rfl ?_ T ?_
           ·intro w' ac;go_simp
           simp only[sq];refine wpAnyL_tk (i:=5) (k:=9) (v:=.agg #[.bool s,.slice g z B]) rfl ?_ T ?_
           ·intro w' ac;go_simp
           simp only[sq];refine wpAnyL_on (i:=7) rfl (fun K I=>?_)
           go_simp
           refine I.out _ _ (Kp.alloc' T (.cells #[.bool false,.slice none 0 0] 52)) (fun Y=>?_);clear I K;have F:=Blk.new G #[.bool false,.slice none 0 0] 52;have al:ai.heap.size≤G.heap.size:=T.size;have aC:X≠G.heap.size:=by have:=r.lt;omega
           replace r:=r.keep (kp_alloc G (.cells #[.bool false,.slice none 0 0] 52));replace q:=q.keep (kp_alloc G (.cells #[.bool false,.slice none 0 0] 52));replace C:=C.keep (kp_alloc G (.cells #[.bool false,.slice none 0 0] 52))
           try simp only[sq]
           generalize aX:G.heap.size=A7 at *;generalize G.alloc (.cells #[.bool false,.slice none 0 0] 52)=af at *;refine wpAnyL_on (i:=8) rfl (fun K I=>?_);have O:=r.cell;have P:=r.frozen;have Q:=r.lt
           go_simp
           refine I.out _ _ (stK2 (A:=X) (.bool j) (.slice b l n) Y ad) (fun ah=>?_);clear I K;have R:=(stS2 (E:=3) (.bool j) (.slice b l n) r (by decide));replace q:=q.soft R;replace C:=C.soft R;replace F:=(Blk.other (c:=X) (o:=1) (y:=.slice b l n) (Blk.other (c:=X) (o:=0) (y:=.bool j) F (by omega)) (by omega));replace r:=(Blk.set (o:=1) (y:=.slice b l n) (Blk.set (o:=0) (y:=.bool j) r));clear R O P Q
           try simp only[sq]
           generalize ((af.setCell ⟨X,0,none⟩ (.bool j)).setCell ⟨X,1,none⟩ (.slice b l n))=aD at *;simp only[List.setIfInBounds_toArray,List.set_cons_zero,List.set_cons_succ] at r;have O:=F.cell;have P:=F.frozen;have Q:=F.lt;refine wpAnyL_last (i:=9) rfl (by kernel_rfl) (by kernel_rfl) (by kernel_rfl) (fun K I=>?_)
           go_simp
           refine I.out _ _ ?_;clear I K
           go_wp2_with fail
           go_meet
           case rel=>exact⟨X,_,_,_,_,rfl,(ot2 (A:=A7) (.bool s) (.slice g z B) r (by omega)),q.soft (sf2 (.bool s) (.slice g z B) F (by decide)),(kp2 (A:=A7) (.bool s) (.slice g z B) ah al),ad⟩
          refine AllReadyL.cons rfl (fun K I=>?_) ?_
          ·go_simp
           refine I.out _ _ (Kp.alloc' V (.cells #[.bool false,.slice none 0 0] 52)) (fun T=>?_);clear I K;have F:=Blk.new U #[.bool false,.slice none 0 0] 52;have al:ai.heap.size≤U.heap.size:=V.size;have aC:X≠U.heap.size:=by have:=r.lt;omega
           replace r:=r.keep (kp_alloc U (.cells #[.bool false,.slice none 0 0] 52));replace N:=N.keep (kp_alloc U (.cells #[.bool false,.slice none 0 0] 52))
           try simp only[sq]
           generalize aX:U.heap.size=A7 at *;generalize U.alloc (.cells #[.bool false,.slice none 0 0] 52)=af at *;refine wpAnyL_on (i:=2) rfl (fun K I=>?_)
           go_simp
           refine(rdiv_any D 2 (m+2) _ _ _ (hD.keep T) N ax (by decide) (by omega) fD az).mono ?_;rintro e G ⟨an,aj,rfl,q,C,J⟩;obtain⟨j,b,l,n,rfl⟩:=q.shape';obtain⟨s,g,z,B,rfl⟩:=C.shape';replace r:=r.keep J;replace F:=F.keep J
           go_wp2_with fail
           refine I.out _ _ (T.trans' J) (fun Y=>?_);clear I K;refine wpAnyL_tk (i:=3) (k:=4) (v:=.tuple #[.agg #[.bool j,.slice b l n],.agg #[.bool s,.slice g z B]]) rfl ?_ Y ?_
           ·intro w' ac;go_simp
           simp only[sq];refine wpAnyL_tk (i:=4) (k:=8) (v:=.agg #[.bool j,.slice b l n]) rfl ?_ Y ?_
           ·intro w' ac;go_simp
           simp only[sq];refine wpAnyL_tk (i:=5) (k:=9) (v:=.agg #[.bool s,.slice g z B]) rfl ?_ Y ?_
           ·intro w' ac;go_simp
           simp only[sq];refine wpAnyL_on (i:=8) rfl (fun K I=>?_);have O:=r.cell;have P:=r.frozen;have Q:=r.lt
           go_simp
           refine I.out _ _ (stK2 (A:=X) (.bool j) (.slice b l n) Y ad) (fun ah=>?_);clear I K;have R:=(stS2 (E:=3) (.bool j) (.slice b l n) r (by decide));replace F:=(Blk.other (c:=X) (o:=1) (y:=.slice b l n) (Blk.other (c:=X) (o:=0) (y:=.bool j) F (by omega)) (by omega));replace q:=q.soft R;replace C:=C.soft R;replace r:=(Blk.set (o:=1) (y:=.slice b l n) (Blk.set (o:=0) (y:=.bool j) r));clear R O P Q
           try simp only[sq]
           generalize ((G.setCell ⟨X,0,none⟩ (.bool j)).setCell ⟨X,1,none⟩ (.slice b l n))=aD at *;simp only[List.setIfInBounds_toArray,List.set_cons_zero,List.set_cons_succ] at r;have O:=F.cell;have P:=F.frozen;have Q:=F.lt;refine wpAnyL_last (i:=9) rfl (by kernel_rfl) (by kernel_rfl) (by kernel_rfl) (fun K I=>?_)
           go_simp
           refine I.out _ _ ?_;clear I K
           go_wp2_with fail
           go_meet
           case rel=>exact⟨X,_,_,_,_,rfl,(ot2 (A:=A7) (.bool s) (.slice g z B) r (by omega)),q.soft (sf2 (.bool s) (.slice g z B) F (by decide)),(kp2 (A:=A7) (.bool s) (.slice g z B) ah al),ad⟩
          exact AllReadyL.nil
         refine AllReadyL.cons rfl (fun K I=>?_) ?_
         ·go_simp
          refine I.out _ _ (Kp.alloc' ak (.cells #[.bool false,.slice none 0 0] 52)) (fun V=>?_);clear I K;have F:=Blk.new ae #[.bool false,.slice none 0 0] 52;have al:ai.heap.size≤ae.heap.size:=ak.size;have aC:X≠ae.heap.size:=by have:=r.lt;omega
          replace r:=r.keep (kp_alloc ae (.cells #[.bool false,.slice none 0 0] 52))
          try simp only[sq]
          generalize aX:ae.heap.size=A7 at *;generalize ae.alloc (.cells #[.bool false,.slice none 0 0] 52)=af at *;refine wpAnyL_on (i:=1) rfl (fun K I=>?_)
          go_simp
          refine(of_any 2 _ (by decide) (by decide)).mono ?_;rintro e U ⟨aN,rfl,N,Z⟩;obtain⟨aO,au,aP,aQ,rfl⟩:=N.shape';replace r:=r.keep Z;replace F:=F.keep Z
          go_wp2_with fail
          refine I.out _ _ (V.trans' Z) (fun T=>?_);clear I K;refine wpAnyL_on (i:=2) rfl (fun K I=>?_)
          go_simp
          refine(rdiv_any D 2 (m+2) _ _ _ (hD.keep T) N ax (by decide) (by omega) fD az).mono ?_;rintro e G ⟨an,aj,rfl,q,C,J⟩;obtain⟨j,b,l,n,rfl⟩:=q.shape';obtain⟨s,g,z,B,rfl⟩:=C.shape';replace r:=r.keep J;replace F:=F.keep J
          go_wp2_with fail
          refine I.out _ _ (T.trans' J) (fun Y=>?_);clear I K;refine wpAnyL_tk (i:=3) (k:=4) (v:=.tuple #[.agg #[.bool j,.slice b l n],.agg #[.bool s,.slice g z B]]) rfl ?_ Y ?_
          ·intro w' ac;go_simp
          simp only[sq];refine wpAnyL_tk (i:=4) (k:=8) (v:=.agg #[.bool j,.slice b l n]) rfl ?_ Y ?_
          ·intro w' ac;go_simp
          simp only[sq];refine wpAnyL_tk (i:=5) (k:=9) (v:=.agg #[.bool s,.slice g z B]) rfl ?_ Y ?_
          ·intro w' ac;go_simp
          simp only[sq];refine wpAnyL_on (i:=8) rfl (fun K I=>?_);have O:=r.cell;have P:=r.frozen;have Q:=r.lt
          go_simp
          refine I.out _ _ (stK2 (A:=X) (.bool j) (.slice b l n) Y ad) (fun ah=>?_);clear I K;have R:=(stS2 (E:=3) (.bool j) (.slice b l n) r (by decide));replace F:=(Blk.other (c:=X) (o:=1) (y:=.slice b l n) (Blk.other (c:=X) (o:=0) (y:=.bool j) F (by omega)) (by omega));replace q:=q.soft R;replace C:=C.soft R;replace r:=(Blk.set (o:=1) (y:=.slice b l n) (Blk.set (o:=0) (y:=.bool j) r));clear R O P Q
          try simp only[sq]
          generalize ((G.setCell ⟨X,0,none⟩ (.bool j)).setCell ⟨X,1,none⟩ (.slice b l n))=aD at *;simp only[List.setIfInBounds_toArray,List.set_cons_zero,List.set_cons_succ] at r;have O:=F.cell;have P:=F.frozen;have Q:=F.lt;refine wpAnyL_last (i:=9) rfl (by kernel_rfl) (by kernel_rfl) (by kernel_rfl) (fun K I=>?_)
          go_simp
          refine I.out _ _ ?_;clear I K
          go_wp2_with fail
          go_meet
          case rel=>exact⟨X,_,_,_,_,rfl,(ot2 (A:=A7) (.bool s) (.slice g z B) r (by omega)),q.soft (sf2 (.bool s) (.slice g z B) F (by decide)),(kp2 (A:=A7) (.bool s) (.slice g z B) ah al),ad⟩
         exact AllReadyL.nil
        refine AllReadyL.cons rfl (fun K I=>?_) ?_
        ·go_simp
         refine I.out _ _ (Kp.alloc' ay (.cells #[.bool false,.slice none 0 0] 52)) (fun ak=>?_);clear I K;have F:=Blk.new wd #[.bool false,.slice none 0 0] 52;have al:ai.heap.size≤wd.heap.size:=ay.size
         try simp only[sq]
         generalize aX:wd.heap.size=A7 at *;generalize wd.alloc (.cells #[.bool false,.slice none 0 0] 52)=af at *;refine wpAnyL_ready (rs:=[1,6]) (by kernel_rfl) (by simp) ?_;refine AllReadyL.cons rfl (fun K I=>?_) ?_
         ·go_simp
          refine(of_any 2 _ (by decide) (by decide)).mono ?_;rintro e U ⟨aN,rfl,N,Z⟩;obtain⟨aO,au,aP,aQ,rfl⟩:=N.shape';replace F:=F.keep Z
          go_wp2_with fail
          refine I.out _ _ (ak.trans' Z) (fun V=>?_);clear I K;refine wpAnyL_ready (rs:=[2,6]) (by kernel_rfl) (by simp) ?_;refine AllReadyL.cons rfl (fun K I=>?_) ?_
          ·go_simp
           refine(rdiv_any D 2 (m+2) _ _ _ (hD.keep V) N ax (by decide) (by omega) fD az).mono ?_;rintro e G ⟨an,aj,rfl,q,C,J⟩;obtain⟨j,b,l,n,rfl⟩:=q.shape';obtain⟨s,g,z,B,rfl⟩:=C.shape';replace F:=F.keep J
           go_wp2_with fail
           refine I.out _ _ (V.trans' J) (fun T=>?_);clear I K;refine wpAnyL_tk (i:=3) (k:=4) (v:=.tuple #[.agg #[.bool j,.slice b l n],.agg #[.bool s,.slice g z B]]) rfl ?_ T ?_
           ·intro w' ac;go_simp
           simp only[sq];refine wpAnyL_tk (i:=4) (k:=8) (v:=.agg #[.bool j,.slice b l n]) rfl ?_ T ?_
           ·intro w' ac;go_simp
           simp only[sq];refine wpAnyL_tk (i:=5) (k:=9) (v:=.agg #[.bool s,.slice g z B]) rfl ?_ T ?_
           ·intro w' ac;go_simp
           simp only[sq];refine wpAnyL_on (i:=6) rfl (fun K I=>?_)
           go_simp
           refine I.out _ _ (Kp.alloc' T (.cells #[.bool false,.slice none 0 0] 52)) (fun Y=>?_);clear I K;have r:=Blk.new G #[.bool false,.slice none 0 0] 52;have ad:ai.heap.size≤G.heap.size:=T.size;have aE:A7≠G.heap.size:=by have:=F.lt;omega
           replace F:=F.keep (kp_alloc G (.cells #[.bool false,.slice none 0 0] 52));replace q:=q.keep (kp_alloc G (.cells #[.bool false,.slice none 0 0] 52));replace C:=C.keep (kp_alloc G (.cells #[.bool false,.slice none 0 0] 52))
           try simp only[sq]
           generalize aW:G.heap.size=X at *;generalize G.alloc (.cells #[.bool false,.slice none 0 0] 52)=ae at *;refine wpAnyL_on (i:=8) rfl (fun K I=>?_);have O:=r.cell;have P:=r.frozen;have Q:=r.lt
           go_simp
           refine I.out _ _ (stK2 (A:=X) (.bool j) (.slice b l n) Y ad) (fun ah=>?_);clear I K;have R:=(stS2 (E:=3) (.bool j) (.slice b l n) r (by decide));replace F:=(Blk.other (c:=X) (o:=1) (y:=.slice b l n) (Blk.other (c:=X) (o:=0) (y:=.bool j) F (by omega)) (by omega));replace q:=q.soft R;replace C:=C.soft R;replace r:=(Blk.set (o:=1) (y:=.slice b l n) (Blk.set (o:=0) (y:=.bool j) r));clear R O P Q
           try simp only[sq]
           generalize ((ae.setCell ⟨X,0,none⟩ (.bool j)).setCell ⟨X,1,none⟩ (.slice b l n))=aD at *;simp only[List.setIfInBounds_toArray,List.set_cons_zero,List.set_cons_succ] at r;have O:=F.cell;have P:=F.frozen;have Q:=F.lt;refine wpAnyL_last (i:=9) rfl (by kernel_rfl) (by kernel_rfl) (by kernel_rfl) (fun K I=>?_)
           go_simp
           refine I.out _ _ ?_;clear I K
           go_wp2_with fail
           go_meet
           case rel=>exact⟨X,_,_,_,_,rfl,(ot2 (A:=A7) (.bool s) (.slice g z B) r (by omega)),q.soft (sf2 (.bool s) (.slice g z B) F (by decide)),(kp2 (A:=A7) (.bool s) (.slice g z B) ah al),ad⟩
          refine AllReadyL.cons rfl (fun K I=>?_) ?_
          ·go_simp
           refine I.out _ _ (Kp.alloc' V (.cells #[.bool false,.slice none 0 0] 52)) (fun T=>?_);clear I K;have r:=Blk.new U #[.bool false,.slice none 0 0] 52;have ad:ai.heap.size≤U.heap.size:=V.size;have aE:A7≠U.heap.size:=by have:=F.lt;omega
           replace F:=F.keep (kp_alloc U (.cells #[.bool false,.slice none 0 0] 52));replace N:=N.keep (kp_alloc U (.cells #[.bool false,.slice none 0 0] 52))
           try simp only[sq]
           generalize aW:U.heap.size=X at *;generalize U.alloc (.cells #[.bool false,.slice none 0 0] 52)=ae at *;refine wpAnyL_on (i:=2) rfl (fun K I=>?_)
           go_simp
           refine(rdiv_any D 2 (m+2) _ _ _ (hD.keep T) N ax (by decide) (by omega) fD az).mono ?_;rintro e G ⟨an,aj,rfl,q,C,J⟩;obtain⟨j,b,l,n,rfl⟩:=q.shape';obtain⟨s,g,z,B,rfl⟩:=C.shape';replace F:=F.keep J;replace r:=r.keep J
           go_wp2_with fail
           refine I.out _ _ (T.trans' J) (fun Y=>?_);clear I K;refine wpAnyL_tk (i:=3) (k:=4) (v:=.tuple #[.agg #[.bool j,.slice b l n],.agg #[.bool s,.slice g z B]]) rfl ?_ Y ?_
           ·intro w' ac;go_simp
           simp only[sq];refine wpAnyL_tk (i:=4) (k:=8) (v:=.agg #[.bool j,.slice b l n]) rfl ?_ Y ?_
           ·intro w' ac;go_simp
           simp only[sq];refine wpAnyL_tk (i:=5) (k:=9) (v:=.agg #[.bool s,.slice g z B]) rfl ?_ Y ?_
           ·intro w' ac;go_simp
           simp only[sq];refine wpAnyL_on (i:=8) rfl (fun K I=>?_);have O:=r.cell;have P:=r.frozen;have Q:=r.lt
           go_simp
           refine I.out _ _ (stK2 (A:=X) (.bool j) (.slice b l n) Y ad) (fun ah=>?_);clear I K;have R:=(stS2 (E:=3) (.bool j) (.slice b l n) r (by decide));replace F:=(Blk.other (c:=X) (o:=1) (y:=.slice b l n) (Blk.other (c:=X) (o:=0) (y:=.bool j) F (by omega)) (by omega));replace q:=q.soft R;replace C:=C.soft R;replace r:=(Blk.set (o:=1) (y:=.slice b l n) (Blk.set (o:=0) (y:=.bool j) r));clear R O P Q
           try simp only[sq]
           generalize ((G.setCell ⟨X,0,none⟩ (.bool j)).setCell ⟨X,1,none⟩ (.slice b l n))=aD at *;simp only[List.setIfInBounds_toArray,List.set_cons_zero,List.set_cons_succ] at r;have O:=F.cell;have P:=F.frozen;have Q:=F.lt;refine wpAnyL_last (i:=9) rfl (by kernel_rfl) (by kernel_rfl) (by kernel_rfl) (fun K I=>?_)
           go_simp
           refine I.out _ _ ?_;clear I K
           go_wp2_with fail
           go_meet
           case rel=>exact⟨X,_,_,_,_,rfl,(ot2 (A:=A7) (.bool s) (.slice g z B) r (by omega)),q.soft (sf2 (.bool s) (.slice g z B) F (by decide)),(kp2 (A:=A7) (.bool s) (.slice g z B) ah al),ad⟩
          exact AllReadyL.nil
         refine AllReadyL.cons rfl (fun K I=>?_) ?_
         ·go_simp
          refine I.out _ _ (Kp.alloc' ak (.cells #[.bool false,.slice none 0 0] 52)) (fun V=>?_);clear I K;have r:=Blk.new af #[.bool false,.slice none 0 0] 52;have ad:ai.heap.size≤af.heap.size:=ak.size;have aE:A7≠af.heap.size:=by have:=F.lt;omega
          replace F:=F.keep (kp_alloc af (.cells #[.bool false,.slice none 0 0] 52))
          try simp only[sq]
          generalize aW:af.heap.size=X at *;generalize af.alloc (.cells #[.bool false,.slice none 0 0] 52)=ae at *;refine wpAnyL_on (i:=1) rfl (fun K I=>?_)
          go_simp
          refine(of_any 2 _ (by decide) (by decide)).mono ?_;rintro e U ⟨aN,rfl,N,Z⟩;obtain⟨aO,au,aP,aQ,rfl⟩:=N.shape';replace F:=F.keep Z;replace r:=r.keep Z
          go_wp2_with fail
          refine I.out _ _ (V.trans' Z) (fun T=>?_);clear I K;refine wpAnyL_on (i:=2) rfl (fun K I=>?_)
          go_simp
          refine(rdiv_any D 2 (m+2) _ _ _ (hD.keep T) N ax (by decide) (by omega) fD az).mono ?_;rintro e G ⟨an,aj,rfl,q,C,J⟩;obtain⟨j,b,l,n,rfl⟩:=q.shape';obtain⟨s,g,z,B,rfl⟩:=C.shape';replace F:=F.keep J;replace r:=r.keep J
          go_wp2_with fail
          refine I.out _ _ (T.trans' J) (fun Y=>?_);clear I K;refine wpAnyL_tk (i:=3) (k:=4) (v:=.tuple #[.agg #[.bool j,.slice b l n],.agg #[.bool s,.slice g z B]]) rfl ?_ Y ?_
          ·intro w' ac;go_simp
          simp only[sq];refine wpAnyL_tk (i:=4) (k:=8) (v:=.agg #[.bool j,.slice b l n]) rfl ?_ Y ?_
          ·intro w' ac;go_simp
          simp only[sq];refine wpAnyL_tk (i:=5) (k:=9) (v:=.agg #[.bool s,.slice g z B]) rfl ?_ Y ?_
          ·intro w' ac;go_simp
          simp only[sq];refine wpAnyL_on (i:=8) rfl (fun K I=>?_);have O:=r.cell;have P:=r.frozen;have Q:=r.lt
          go_simp
          refine I.out _ _ (stK2 (A:=X) (.bool j) (.slice b l n) Y ad) (fun ah=>?_);clear I K;have R:=(stS2 (E:=3) (.bool j) (.slice b l n) r (by decide));replace F:=(Blk.other (c:=X) (o:=1) (y:=.slice b l n) (Blk.other (c:=X) (o:=0) (y:=.bool j) F (by omega)) (by omega));replace q:=q.soft R;replace C:=C.soft R;replace r:=(Blk.set (o:=1) (y:=.slice b l n) (Blk.set (o:=0) (y:=.bool j) r));clear R O P Q
          try simp only[sq]
          generalize ((G.setCell ⟨X,0,none⟩ (.bool j)).setCell ⟨X,1,none⟩ (.slice b l n))=aD at *;simp only[List.setIfInBounds_toArray,List.set_cons_zero,List.set_cons_succ] at r;have O:=F.cell;have P:=F.frozen;have Q:=F.lt;refine wpAnyL_last (i:=9) rfl (by kernel_rfl) (by kernel_rfl) (by kernel_rfl) (fun K I=>?_)
          go_simp
          refine I.out _ _ ?_;clear I K
          go_wp2_with fail
          go_meet
          case rel=>exact⟨X,_,_,_,_,rfl,(ot2 (A:=A7) (.bool s) (.slice g z B) r (by omega)),q.soft (sf2 (.bool s) (.slice g z B) F (by decide)),(kp2 (A:=A7) (.bool s) (.slice g z B) ah al),ad⟩
         exact AllReadyL.nil
        exact AllReadyL.nil
       case rest =>
        obtain⟨bp,b8,bI,n8,c8,rfl,BP,hq,aY,bY⟩:=hcut;replace BL:=BL.keep aY;replace BH:=BH.keep aY;replace BX:=BX.keep aY;replace BE:=BE.keep aY;replace hL:=hL.keep aY;replace hH:=hH.keep aY;replace am:=am.trans' aY;have bJ:=BP.cell;have aJ:=BL.cell;have bK:=BP.lt;have aK:=BL.lt;have bZ:L<L+D / 2:=by have:=bg.out;omega
        have b0:L+D / 2<H:=by have:=bg.out;omega
        have fq:Fit (D / 2):=(Ft.le (y:=D) fD (by omega)).fit (by omega);clear bg fD hD BD hd
        go_wp2_with fail
        refine(rplus_any L (D / 2) _ _ _ hL hq fL fq).mono ?_;rintro e w8 ⟨v9,rfl,hM,aF⟩;obtain⟨b9,ag,n9,c9,rfl⟩:=hM.shape';generalize L+D / 2=M at *;clear hq BP bJ bK fq;have bq:M.natAbs≤2*t.natAbs+1:=by omega
        have bS:w.heap.size≠w8.heap.size:=by have:=(BX.keep aF).lt;omega
        have bT:A3≠w8.heap.size:=by have:=(BL.keep aF).lt;omega
        have bU:A5≠w8.heap.size:=by have:=(BH.keep aF).lt;omega
        replace BL:=(BL.keep aF).alloc (.cells #[.bool b9,.slice ag n9 c9] 52);replace BH:=(BH.keep aF).alloc (.cells #[.bool b9,.slice ag n9 c9] 52);replace BX:=(BX.keep aF).alloc (.cells #[.bool b9,.slice ag n9 c9] 52);replace BE:=(BE.keep aF).alloc (.cells #[.bool b9,.slice ag n9 c9] 52);replace hL:=(hL.keep aF).keep (kp_alloc w8 (.cells #[.bool b9,.slice ag n9 c9] 52));replace hH:=(hH.keep aF).keep (kp_alloc w8 (.cells #[.bool b9,.slice ag n9 c9] 52));have BM:=Blk.new w8 #[.bool b9,.slice ag n9 c9] 52;replace hM:=hM.keep (kp_alloc w8 (.cells #[.bool b9,.slice ag n9 c9] 52));replace am:=(am.trans' aF).alloc' (.cells #[.bool b9,.slice ag n9 c9] 52);have HC:=HO.out M _ _ am hM (HF.out M bq);have bh:=HP.out M;generalize ovr a M=o at HC bh;have a0:=BX.cell;have bB:=BM.cell;clear aJ aK aY aF
        go_wp2_with fail
        refine HC.mono ?_;rintro e w9 ⟨rfl,aM⟩;generalize w8.alloc (.cells #[.bool b9,.slice ag n9 c9] 52)=wm at *;generalize w8.heap.size=b4 at *;replace BL:=BL.keep aM;replace BH:=BH.keep aM;replace BX:=BX.keep aM;replace BE:=BE.keep aM;replace BM:=BM.keep aM;replace hL:=hL.keep aM;replace hH:=hH.keep aM;replace hM:=hM.keep aM;replace am:=am.trans' aM;clear a0 bB HC aM;have bB:=BM.cell;have ca:=BM.lt;by_cases ho:0≤o
        ·have br:=bh.1 ho;clear bh;have aJ:=BL.cell;have cb:=BL.frozen;have aK:=BL.lt
         go_wp2_with fail
         go_roundg ((H - M).toNat)
         case rel=>exact⟨M,H,_,_,_,_,_,_,_,_,(ot2 (A:=A3) (.bool b9) (.slice ag n9 c9) BH (by omega)),hH.soft (sf2 (.bool b9) (.slice ag n9 c9) BL (by decide)),(ot2 (A:=A3) (.bool b9) (.slice ag n9 c9) BX (by omega)),(ot2 (A:=A3) (.bool b9) (.slice ag n9 c9) BE (by omega)),(bl2 (.bool b9) (.slice ag n9 c9) BL),hM.soft (sf2 (.bool b9) (.slice ag n9 c9) BL (by decide)),(kp2 (A:=A3) (.bool b9) (.slice ag n9 c9) am bj),br,bf,bq,a7,Nat.le_refl _⟩
         case measure=>omega
        ·have br:t<M:=by have:=bh.2;omega
         clear bh;have a1:=BH.cell;have cd:=BH.frozen;have a2:=BH.lt
         go_wp2_with fail
         go_roundg ((M - L).toNat)
         case rel=>exact⟨L,M,_,_,_,_,_,_,_,_,(bl2 (.bool b9) (.slice ag n9 c9) BH),hM.soft (sf2 (.bool b9) (.slice ag n9 c9) BH (by decide)),(ot2 (A:=A5) (.bool b9) (.slice ag n9 c9) BX (by omega)),(ot2 (A:=A5) (.bool b9) (.slice ag n9 c9) BE (by omega)),(ot2 (A:=A5) (.bool b9) (.slice ag n9 c9) BL (by omega)),hL.soft (sf2 (.bool b9) (.slice ag n9 c9) BH (by decide)),(kp2 (A:=A5) (.bool b9) (.slice ag n9 c9) am bm),a5,br,a6,bq,Nat.le_refl _⟩
         case measure=>omega
      ·have bC:L=t:=by omega
       have hs:=Hid.mk (sign_le (x:=H - L - 1) (by omega));have bA:(H - L - 1).sign≤0:=hs.out;clear hs;generalize (H - L - 1).sign=sg at *;have aJ:=BL.cell;have aK:=BL.lt;have bM:=BE.cell;have ce:=BE.frozen;have cf:=BE.lt;rw[bC] at hL;clear bC a5
       go_wp2_with fail
       refine bodyPost_ret (v:=.agg #[.bool bL,.slice aI nL cL]) (by simp[results,Tryz.results28,go_sem,bM]) rfl ?_;exact retI_mk hL (sf2 (.bool bL) (.slice aI nL cL) BE (by decide)) (kp2 (A:=w.heap.size+1) (.bool bL) (.slice aI nL cL) am (by omega))
    ·have bf:H≤t:=be.1 (by omega);clear be
     go_wp2_with fail
     refine HC.mono ?_;rintro e w4 ⟨rfl,ap⟩;replace BL:=BL.keep ap;replace BH:=BH.keep ap;replace BX:=BX.keep ap;replace BE:=BE.keep ap;replace hL:=hL.keep ap;replace hH:=hH.keep ap;have a4:=aq.trans' ap;clear a0 a1 a8 a2 HC ap aq
     go_wp2_with fail
     clear h;refine wp_region_l (S:=fun w'=>Kp w4 w') (by kernel_rfl) (Kp.drew' (Below.refl _ _)) (fun ay=>?_);generalize w4.drew=wd at *;refine wpAnyL_tk (i:=0) (k:=2) (v:=.agg #[.bool b5,.slice ao n5 c5]) rfl ?_ ay ?_
     ·intro w' ac;have hc:=((BH).keep ac).cell;go_simp
     simp only[sq];refine wpAnyL_on (i:=1) rfl (fun K I=>?_)
     go_simp
     refine(of_any 2 _ (by decide) (by decide)).mono ?_;rintro e U ⟨aN,rfl,N,Z⟩;obtain⟨aO,au,aP,aQ,rfl⟩:=N.shape'
     go_wp2_with fail
     refine I.out _ _ (ay.trans' Z) (fun ak=>?_);clear I K;refine wpAnyL_on (i:=2) rfl (fun K I=>?_)
     go_simp
     refine(rtimes_any H 2 _ _ _ (hH.keep ak) N fH f2).mono ?_;rintro e G ⟨an,rfl,q,J⟩;obtain⟨j,b,l,n,rfl⟩:=q.shape'
     go_wp2_with fail
     refine I.out _ _ (ak.trans' J) (fun V=>?_);clear I K;have TB:=(BH).keep V;have O:=TB.cell;have P:=TB.frozen;have Q:=TB.lt;refine wpAnyL_last (i:=3) rfl (by kernel_rfl) (by kernel_rfl) (by kernel_rfl) (fun K I=>?_)
     go_simp
     refine I.out _ _ ?_;clear I K;have R:=(sf2 (E:=3) (.bool j) (.slice b l n) TB (by decide));have bN:=(bl2 (.bool j) (.slice b l n) TB);have bs:=(ot2 (A:=A5) (.bool j) (.slice b l n) (BX.keep V) (by omega));have bt:=(ot2 (A:=A5) (.bool j) (.slice b l n) (BE.keep V) (by omega));have bu:=(ot2 (A:=A5) (.bool j) (.slice b l n) (BL.keep V) (by omega));have bO:=q.soft R;have bv:=(kp2 (A:=A5) (.bool j) (.slice b l n) (a4.trans' V) bm);have bw:=(hL.keep V).soft R;clear R;clear O P Q TB;generalize ((G.setCell ⟨A5,0,none⟩ (.bool j)).setCell ⟨A5,1,none⟩ (.slice b l n))=wk at *
     go_wp2_with fail
     go_roundg ((t+1 - H*2).toNat)
     case rel=>exact⟨H*2,j,b,l,n,bN,bO,bs,bt,bu,bw,bv,by omega,by omega,by omega⟩
     case measure=>omega
  ·have a5:t<L:=by have:=a9.2;omega
   clear a9
   go_wp2_with fail
   refine HC.mono ?_;rintro e w2 ⟨rfl,ar⟩;replace BL:=BL.keep ar;replace BX:=BX.keep ar;replace BE:=BE.keep ar;replace hL:=hL.keep ar;have aA:=aq.trans' ar;clear a0 aJ a8 aK HC ar aq
   go_wp2_with fail
   clear h;refine wp_region_l (S:=fun w'=>Kp w2 w') (by kernel_rfl) (Kp.drew' (Below.refl _ _)) (fun ay=>?_);generalize w2.drew=wd at *;refine wpAnyL_tk (i:=0) (k:=2) (v:=.agg #[.bool bL,.slice aI nL cL]) rfl ?_ ay ?_
   ·intro w' ac;have hc:=((BL).keep ac).cell;go_simp
   simp only[sq];refine wpAnyL_on (i:=1) rfl (fun K I=>?_)
   go_simp
   refine(of_any 2 _ (by decide) (by decide)).mono ?_;rintro e U ⟨aN,rfl,N,Z⟩;obtain⟨aO,au,aP,aQ,rfl⟩:=N.shape'
   go_wp2_with fail
   refine I.out _ _ (ay.trans' Z) (fun ak=>?_);clear I K;refine wpAnyL_on (i:=2) rfl (fun K I=>?_)
   go_simp
   refine(rtimes_any L 2 _ _ _ (hL.keep ak) N fL f2).mono ?_;rintro e G ⟨an,rfl,q,J⟩;obtain⟨j,b,l,n,rfl⟩:=q.shape'
   go_wp2_with fail
   refine I.out _ _ (ak.trans' J) (fun V=>?_);clear I K;have TB:=(BL).keep V;have O:=TB.cell;have P:=TB.frozen;have Q:=TB.lt;refine wpAnyL_last (i:=3) rfl (by kernel_rfl) (by kernel_rfl) (by kernel_rfl) (fun K I=>?_)
   go_simp
   refine I.out _ _ ?_;clear I K;have R:=(sf2 (E:=3) (.bool j) (.slice b l n) TB (by decide));have bu:=(bl2 (.bool j) (.slice b l n) TB);have bs:=(ot2 (A:=A3) (.bool j) (.slice b l n) (BX.keep V) (by omega));have bt:=(ot2 (A:=A3) (.bool j) (.slice b l n) (BE.keep V) (by omega));have bw:=q.soft R;have bv:=(kp2 (A:=A3) (.bool j) (.slice b l n) (aA.trans' V) bj);clear R O P Q TB;generalize ((G.setCell ⟨A3,0,none⟩ (.bool j)).setCell ⟨A3,1,none⟩ (.slice b l n))=wk at *
   go_wp2_with fail
   go_roundg ((L*2 - t).toNat)
   case rel=>exact⟨L*2,j,b,l,n,bu,bw,bs,bt,bv,by omega,by omega,by omega⟩
   case measure=>omega
end Go.Proofs.YtjahbjjekednfaaGreatDoor
