import Derived.Test.YtjahbjjekednfaaGreatDoorRg
import Derived.Test.YtjahbjjekednfaaGreatDoorRn
import Derived.Test.YtjahbjjekednfaaGreatDoorBu
import Derived.Test.YtjahbjjekednfaaGreatDoorJ3
import Derived.Test.YtjahbjjekednfaaGreatDoorR19
import Derived.Test.YtjahbjjekednfaaGreatDoorV1
import Derived.Deep.LoopGhost
import Derived.Deep.DeepCutAuto
namespace Go.Proofs.YtjahbjjekednfaaGreatDoor
set_option maxHeartbeats 12800000
set_option maxRecDepth 100000
open Go.RowKit
theorem gpN_qf {a:Qn} {p k:Int} (f:QF 1100000 a) (g:Ft 1100021 p) (h:0≤k) (i:k≤1000):QF 2300000 (gpN a p k):=by
 have b:Ft 4 k:=by unfold Ft;omega
 have c:Ft 2300000 (a.p*k - p*a.r):=by
  have:=Ft.add ((f.1.mul b).mono (show 1100000+4≤2299999 by decide)) ((g.mul f.2.2).mono (show 1100021+1100000≤2299999 by decide)).neg;rw[← Int.sub_eq_add_neg] at this;exact this
 have d:Ft 2300000 (a.q*k):=(f.2.1.mul b).mono (by decide);have e:Ft 2300000 (a.r*k):=(f.2.2.mul b).mono (by decide);unfold gpN
 split
 ·exact⟨c.neg,d.neg,e⟩
 ·exact⟨c,d,e⟩
theorem rbest_at (s:ByteArray) (r:Rs) (n:Int) (F:Int→Int) (w:World) (h:Rk s r) (he:r.e=0) (n0:1≤n) (n1:n≤1000) (hF:∀ k,1≤k→k≤1000→Flo r.v k (F k)∧Ft 1100020 (F k)) :
 Calls Tryz.prog 13 #[.string s,.int .i64 n] w (fun e w'=>∃ P Q,Srch r.v F P Q (n+1) 0∧RetV w (.tuple #[.string (strOf (Go.Lib.itoa P)),.string (strOf (Go.Lib.itoa Q)),.int .i64 0]) e w'):=by
 have HR:=Hid.mk (rread_any s r w h);have bH:=Hid.mk (rk_cn h he);have aZ:=Hid.mk (rk_size h he);have HF:=Hid.mk hF;have Hh:=Hid.mk he;have hb:(r.e != 0)=false:=by simp[he]
 have cA:¬ n<1:=by omega
 have cB:¬ 1000<n:=by omega
 have f1:Hid (Fit r.v.p):=aZ.out.1.fit (by decide);have f2:Hid (Fit r.v.q):=aZ.out.2.1.fit (by decide);have bo:Hid (Fit 1):=Ft.fit (m:=1) (by unfold Ft;decide) (by decide)
 have bn:Hid (0≤r.v.d∧r.v.d≤1000000):=⟨by have:=bH.out.ok.d0;omega,by have:=bH.out.ok.d1;omega⟩
 clear he hF h
 go_enter Tryz.func13,Tryz.ntmps13
 go_wp2_with fail
 refine HR.out.mono ?_;rintro e w1 ⟨v1,a1,rfl,hv,bU,bV⟩;obtain rfl:=bU Hh.out;obtain⟨b1,aG,n1,c1,b2,aH,n2,c2,b3,aq,n3,c3,rfl,_,_,_⟩:=id hv;clear bU;have ka:Kp w1 (((w1.alloc (.cells #[.bool b1,.slice aG n1 c1,.bool b2,.slice aH n2 c2,.bool b3,.slice aq n3 c3,.int .i64 r.v.d] 54)).alloc (.cells #[.bool false,.slice none 0 0] 52)).alloc (.cells #[.bool false,.slice none 0 0,.bool false,.slice none 0 0,.bool false,.slice none 0 0,.int .i64 0] 54)):=Kp.alloc' (Kp.alloc' (kp_alloc w1 _) _) _;have BX:Blk (((w1.alloc (.cells #[.bool b1,.slice aG n1 c1,.bool b2,.slice aH n2 c2,.bool b3,.slice aq n3 c3,.int .i64 r.v.d] 54)).alloc (.cells #[.bool false,.slice none 0 0] 52)).alloc (.cells #[.bool false,.slice none 0 0,.bool false,.slice none 0 0,.bool false,.slice none 0 0,.int .i64 0] 54)) w1.heap.size #[.bool b1,.slice aG n1 c1,.bool b2,.slice aH n2 c2,.bool b3,.slice aq n3 c3,.int .i64 r.v.d] 54:=Blk.alloc (Blk.alloc (Blk.new w1 _ _) _) _;have U:Blk (((w1.alloc (.cells #[.bool b1,.slice aG n1 c1,.bool b2,.slice aH n2 c2,.bool b3,.slice aq n3 c3,.int .i64 r.v.d] 54)).alloc (.cells #[.bool false,.slice none 0 0] 52)).alloc (.cells #[.bool false,.slice none 0 0,.bool false,.slice none 0 0,.bool false,.slice none 0 0,.int .i64 0] 54)) (w1.heap.size+1) #[.bool false,.slice none 0 0] 52:=Blk.alloc (Blk.at (Blk.new (w1.alloc (.cells #[.bool b1,.slice aG n1 c1,.bool b2,.slice aH n2 c2,.bool b3,.slice aq n3 c3,.int .i64 r.v.d] 54)) _ _) (by simp)) _
 have V:Blk (((w1.alloc (.cells #[.bool b1,.slice aG n1 c1,.bool b2,.slice aH n2 c2,.bool b3,.slice aq n3 c3,.int .i64 r.v.d] 54)).alloc (.cells #[.bool false,.slice none 0 0] 52)).alloc (.cells #[.bool false,.slice none 0 0,.bool false,.slice none 0 0,.bool false,.slice none 0 0,.int .i64 0] 54)) (w1.heap.size+1+1) #[.bool false,.slice none 0 0,.bool false,.slice none 0 0,.bool false,.slice none 0 0,.int .i64 0] 54:=Blk.at (Blk.new ((w1.alloc (.cells #[.bool b1,.slice aG n1 c1,.bool b2,.slice aH n2 c2,.bool b3,.slice aq n3 c3,.int .i64 r.v.d] 54)).alloc (.cells #[.bool false,.slice none 0 0] 52)) _ _) (by simp);have hX:=hv.keep ka;have o:=bV.trans' ka;have bW:=in_zero (((w1.alloc (.cells #[.bool b1,.slice aG n1 c1,.bool b2,.slice aH n2 c2,.bool b3,.slice aq n3 c3,.int .i64 r.v.d] 54)).alloc (.cells #[.bool false,.slice none 0 0] 52)).alloc (.cells #[.bool false,.slice none 0 0,.bool false,.slice none 0 0,.bool false,.slice none 0 0,.int .i64 0] 54));have lw:=bV.size;clear hv ka
 go_wp2_with fail
 generalize (((w1.alloc (.cells #[.bool b1,.slice aG n1 c1,.bool b2,.slice aH n2 c2,.bool b3,.slice aq n3 c3,.int .i64 r.v.d] 54)).alloc (.cells #[.bool false,.slice none 0 0] 52)).alloc (.cells #[.bool false,.slice none 0 0,.bool false,.slice none 0 0,.bool false,.slice none 0 0,.int .i64 0] 54))=wa at *;generalize hAL:w1.heap.size+1+1=AL at *;generalize hAP:w1.heap.size+1=AP at *;generalize hAX:w1.heap.size=AX at *;have lA:w.heap.size≤AX∧AX<AP∧AP<AL:=by omega
 obtain⟨cC,cD,cE⟩:=lA;clear hAL hAP hAX lw
 go_loopg [11,13] (n.toNat+1) (fun g tq tk wr=>∃(k P Q D:Int) (b4:Bool) (a8:Option Addr) (n4 c4:Nat) (b5:Bool) (a9:Option Addr) (n5 c5:Nat) (b6:Bool) (ba:Option Addr) (n6 c6:Nat) (b7:Bool) (bb:Option Addr) (n7 c7:Nat),tk=.int .i64 k∧tq=.int .i64 Q∧1≤k∧k≤n+1∧k.toNat+g=n.toNat+2∧Blk wr AX #[.bool b1,.slice aG n1 c1,.bool b2,.slice aH n2 c2,.bool b3,.slice aq n3 c3,.int .i64 r.v.d] 54∧NN wr (.agg #[.bool b1,.slice aG n1 c1,.bool b2,.slice aH n2 c2,.bool b3,.slice aq n3 c3,.int .i64 r.v.d]) r.v∧Blk wr AP #[.bool b4,.slice a8 n4 c4] 52∧IN wr (.agg #[.bool b4,.slice a8 n4 c4]) P∧Blk wr AL #[.bool b5,.slice a9 n5 c5,.bool b6,.slice ba n6 c6,.bool b7,.slice bb n7 c7,.int .i64 D] 54∧Hid (Q≠0→NN wr (.agg #[.bool b5,.slice a9 n5 c5,.bool b6,.slice ba n6 c6,.bool b7,.slice bb n7 c7,.int .i64 D]) (gpN r.v P Q))∧Hid (Srch r.v F P Q k 0)∧Hid (True→0≤Q∧Q≤1000∧Ft 1100021 P)∧Kp w wr)
 case atStart=>exact⟨1,0,0,0,_,_,_,_,_,_,_,_,_,_,_,_,_,_,_,_,rfl,rfl,by omega,by omega,by omega,BX,hX,U,bW,V,fun h=>absurd rfl h,Srch.first _ _,fun _=>⟨by omega,by omega,Ft.zero _⟩,o⟩
 case round =>
  clear BX hX U bW V o;obtain⟨k,P,Q,D,b4,a8,n4,c4,b5,a9,n5,c5,b6,ba,n6,c6,b7,bb,n7,c7,rfl,rfl,bX,cy,cF,BX,hX,U,hP,V,y,bc,be,o⟩:=hrel;by_cases hkn:k≤n
  ·obtain⟨_,_,_,_,_,_,_,_,_,_,_,_,eX,hp,hq,hr⟩:=id hX;simp only[Value.agg.injEq,Array.mk.injEq,List.cons.injEq,Value.bool.injEq,Value.slice.injEq] at eX;obtain⟨rfl,⟨rfl,rfl,rfl⟩,rfl,⟨rfl,rfl,rfl⟩,rfl,⟨rfl,rfl,rfl⟩,_⟩:=eX;have fk:Hid (Fit k):=Ft.fit (m:=4) (by unfold Ft;omega) (by decide)
   have bI:Hid (True→Flo r.v k (F k)∧Ft 1100020 (F k)):=fun _=>HF.out k bX (by omega);have bg:Hid (∀(ad:Bool) (H:Option Addr) (ae af:Nat) ( bJ:Bool) (bp:Option Addr) (bK bL:Nat) ( bM:Bool) (bq:Option Addr) (bN bO:Nat) (W:World),IN W (.agg #[.bool ad,.slice H ae af]) (r.v.p*k)→IN W (.agg #[.bool bJ,.slice bp bK bL]) (r.v.q*k)→IN W (.agg #[.bool bM,.slice bq bN bO]) r.v.r→Calls Tryz.prog 28 #[.agg #[.bool ad,.slice H ae af,.bool bJ,.slice bp bK bL,.bool bM,.slice bq bN bO,.int .i64 r.v.d]] W (RetI W (F k))):=by
    intro ad H ae af bJ bp bK bL bM bq bN bO W k1 k2 k3;have bY:Ft 4 k:=by unfold Ft;omega
    exact floor_ref ⟨r.v.p*k,r.v.q*k,r.v.r,r.v.d⟩ (F k) 1100030 _ W ⟨_,_,_,_,_,_,_,_,_,_,_,_,rfl,k1,k2,k3⟩ (by decide) ⟨(aZ.out.1.mul bY).mono (by decide),(aZ.out.2.1.mul bY).mono (by decide),aZ.out.2.2.mono (by decide)⟩ ((bI.out trivial).2.mono (by decide)) bn.out.1 bn.out.2 (fun x=>(bI.out trivial).1 x)
   go_wp2_with fail
   go_cut [14] (fun q wx=>∃(bf:Nat) (b8:Bool) (aa:Option Addr) (n8 c8:Nat),q=.pointer (some ⟨bf,0,none⟩)∧Blk wx bf #[.bool b8,.slice aa n8 c8] 52∧IN wx (.agg #[.bool b8,.slice aa n8 c8]) (F k)∧Kp wr wx∧wr.heap.size≤bf)
   case first =>
    refine wp_region_l (S:=fun w'=>Kp wr w') (by kernel_rfl) (Kp.drew' (Below.refl _ _)) (fun ak=>?_);generalize wr.drew=wd at *;refine wpAnyL_tk (i:=0) (k:=1) (v:=.pointer (some ⟨AX,0,none⟩)) rfl ?_ ak ?_
    · intro w' ag;go_simp
    simp only[List.getElem_toArray,List.getElem_cons_zero,Act.put,List.setIfInBounds_toArray,List.set_cons_zero,List.set_cons_succ];refine wpAnyL_tk (i:=1) (k:=4) (v:=.agg #[.bool b1,.slice aG n1 c1]) rfl ?_ ak ?_
    · intro w' ag;have hc:=((BX).keep ag).cell;go_simp
    simp only[sq];refine wpAnyL_tk (i:=2) (k:=3) (v:=.int .i64 k) rfl ?_ ak ?_
    · intro w' ag;go_simp
    simp only[sq];refine wpAnyL_tk (i:=5) (k:=6) (v:=.pointer (some ⟨AX,2,none⟩)) rfl ?_ ak ?_
    · intro w' ag;go_simp
    simp only[sq];refine wpAnyL_tk (i:=6) (k:=9) (v:=.agg #[.bool b2,.slice aH n2 c2]) rfl ?_ ak ?_
    · intro w' ag;have hc:=((BX).keep ag).cell;go_simp
    simp only[sq];refine wpAnyL_tk (i:=7) (k:=8) (v:=.int .i64 k) rfl ?_ ak ?_
    · intro w' ag;go_simp
    simp only[sq];refine wpAnyL_tk (i:=10) (k:=11) (v:=.pointer (some ⟨AX,4,none⟩)) rfl ?_ ak ?_
    · intro w' ag;go_simp
    simp only[sq];refine wpAnyL_tk (i:=11) (k:=14) (v:=.agg #[.bool b3,.slice aq n3 c3]) rfl ?_ ak ?_
    · intro w' ag;have hc:=((BX).keep ag).cell;go_simp
    simp only[sq];refine wpAnyL_tk (i:=12) (k:=13) (v:=.pointer (some ⟨AX,6,none⟩)) rfl ?_ ak ?_
    · intro w' ag;go_simp
    simp only[sq];refine wpAnyL_tk (i:=13) (k:=14) (v:=.int .i64 r.v.d) rfl ?_ ak ?_
    · intro w' ag;have hc:=((BX).keep ag).cell;go_simp
    simp only[sq];refine wpAnyL_ready (rs:=[3,16]) (by kernel_rfl) (by simp) ?_;refine AllReadyL.cons rfl (fun K f=>?_) ?_
    · go_simp
      refine(of_any k _ (by omega) (by omega)).mono ?_;rintro e aM ⟨bZ,rfl,ax,aX⟩;obtain⟨b0,bP,ca,cb,rfl⟩:=ax.shape'
      go_wp2_with fail
      refine f.out _ _ (ak.trans' aX) (fun ar=>?_);clear f K;refine wpAnyL_ready (rs:=[4,16]) (by kernel_rfl) (by simp) ?_;refine AllReadyL.cons rfl (fun K f=>?_) ?_
      · go_simp
        refine(rtimes_any r.v.p k _ _ _ (hp.keep ar) ax f1.out fk.out).mono ?_;rintro e aI ⟨bE,rfl,c,aE⟩;obtain⟨aN,aF,aO,aP,rfl⟩:=c.shape'
        go_wp2_with fail
        refine f.out _ _ (ar.trans' aE) (fun aD=>?_);clear f K;refine wpAnyL_ready (rs:=[8,16]) (by kernel_rfl) (by simp) ?_;refine AllReadyL.cons rfl (fun K f=>?_) ?_
        · go_simp
          refine(of_any k _ (by omega) (by omega)).mono ?_;rintro e ay ⟨br,rfl,X,Y⟩;obtain⟨bs,bh,bt,bu,rfl⟩:=X.shape';replace c:=c.keep Y
          go_wp2_with fail
          refine f.out _ _ (aD.trans' Y) (fun aV=>?_);clear f K;refine wpAnyL_ready (rs:=[9,16]) (by kernel_rfl) (by simp) ?_;refine AllReadyL.cons rfl (fun K f=>?_) ?_
          · go_simp
            refine(rtimes_any r.v.q k _ _ _ (hq.keep aV) X f2.out fk.out).mono ?_;rintro e av ⟨bm,rfl,J,I⟩;obtain⟨aJ,au,aK,aL,rfl⟩:=J.shape';replace c:=c.keep I
            go_wp2_with fail
            refine f.out _ _ (aV.trans' I) (fun az=>?_);clear f K;refine wpAnyL_tk (i:=14) (k:=15) (v:=.agg #[.bool aN,.slice aF aO aP,.bool aJ,.slice au aK aL,.bool b3,.slice aq n3 c3,.int .i64 r.v.d]) rfl ?_ az ?_
            · intro w' ag;go_simp
            simp only[sq];refine wpAnyL_ready (rs:=[15,16]) (by kernel_rfl) (by simp) ?_;refine AllReadyL.cons rfl (fun K f=>?_) ?_
            · go_simp
              refine(bg.out _ _ _ _ _ _ _ _ _ _ _ _ _ c J (hr.keep az)).mono ?_;rintro e O ⟨a0,rfl,G,R⟩;obtain⟨z,l,B,C,rfl⟩:=G.shape'
              go_wp2_with fail
              refine f.out _ _ (az.trans' R) (fun al=>?_);clear f K;refine wpAnyL_on (i:=16) rfl (fun K f=>?_)
              go_simp
              refine f.out _ _ (Kp.alloc' al (.cells #[.bool false,.slice none 0 0] 52)) (fun aQ=>?_);clear f K;have a:Blk (O.alloc (.cells #[.bool false,.slice none 0 0] 52)) O.heap.size #[.bool false,.slice none 0 0] 52:=Blk.new O _ _;have ac:wr.heap.size≤O.heap.size:=al.size;replace G:=G.keep (kp_alloc O (.cells #[.bool false,.slice none 0 0] 52))
              try simp only[sq]
              generalize a2:O.heap.size=Z at *;generalize O.alloc (.cells #[.bool false,.slice none 0 0] 52)=aR at *;have a3:=a.cell;have a4:=a.frozen;have a5:=a.lt;refine wpAnyL_last (i:=17) rfl (by kernel_rfl) (by kernel_rfl) (by kernel_rfl) (fun K f=>?_)
              go_simp
              refine f.out _ _ ?_;clear f K;have aS:Sf 3 aR ((aR.setCell ⟨Z,0,none⟩ (.bool z)).setCell ⟨Z,1,none⟩ (.slice l B C)):=(sf2 (.bool z) (.slice l B C) a (by decide))
              go_wp2_with fail
              go_meet
              case rel=>exact⟨Z,_,_,_,_,rfl,(bl2 (.bool z) (.slice l B C) a),G.soft aS,(kp2 (A:=Z) (.bool z) (.slice l B C) aQ ac),ac⟩
            refine AllReadyL.cons rfl (fun K f=>?_) ?_
            · go_simp
              refine f.out _ _ (Kp.alloc' az (.cells #[.bool false,.slice none 0 0] 52)) (fun al=>?_);clear f K;have a:Blk (av.alloc (.cells #[.bool false,.slice none 0 0] 52)) av.heap.size #[.bool false,.slice none 0 0] 52:=Blk.new av _ _;have ac:wr.heap.size≤av.heap.size:=az.size;replace c:=c.keep (kp_alloc av (.cells #[.bool false,.slice none 0 0] 52));replace J:=J.keep (kp_alloc av (.cells #[.bool false,.slice none 0 0] 52))
              try simp only[sq]
              generalize a2:av.heap.size=Z at *;generalize av.alloc (.cells #[.bool false,.slice none 0 0] 52)=aR at *;refine wpAnyL_on (i:=15) rfl (fun K f=>?_)
              go_simp
              refine(bg.out _ _ _ _ _ _ _ _ _ _ _ _ _ c J (hr.keep al)).mono ?_;rintro e O ⟨a0,rfl,G,R⟩;obtain⟨z,l,B,C,rfl⟩:=G.shape';replace a:=a.keep R
              go_wp2_with fail
              refine f.out _ _ (al.trans' R) (fun aQ=>?_);clear f K;have a3:=a.cell;have a4:=a.frozen;have a5:=a.lt;refine wpAnyL_last (i:=17) rfl (by kernel_rfl) (by kernel_rfl) (by kernel_rfl) (fun K f=>?_)
              go_simp
              refine f.out _ _ ?_;clear f K;have aS:Sf 3 O ((O.setCell ⟨Z,0,none⟩ (.bool z)).setCell ⟨Z,1,none⟩ (.slice l B C)):=(sf2 (.bool z) (.slice l B C) a (by decide))
              go_wp2_with fail
              go_meet
              case rel=>exact⟨Z,_,_,_,_,rfl,(bl2 (.bool z) (.slice l B C) a),G.soft aS,(kp2 (A:=Z) (.bool z) (.slice l B C) aQ ac),ac⟩
            exact AllReadyL.nil
          refine AllReadyL.cons rfl (fun K f=>?_) ?_
          · go_simp
            refine f.out _ _ (Kp.alloc' aV (.cells #[.bool false,.slice none 0 0] 52)) (fun az=>?_);clear f K;have a:Blk (ay.alloc (.cells #[.bool false,.slice none 0 0] 52)) ay.heap.size #[.bool false,.slice none 0 0] 52:=Blk.new ay _ _;have ac:wr.heap.size≤ay.heap.size:=aV.size;replace c:=c.keep (kp_alloc ay (.cells #[.bool false,.slice none 0 0] 52));replace X:=X.keep (kp_alloc ay (.cells #[.bool false,.slice none 0 0] 52))
            try simp only[sq]
            generalize a2:ay.heap.size=Z at *;generalize ay.alloc (.cells #[.bool false,.slice none 0 0] 52)=aR at *;refine wpAnyL_on (i:=9) rfl (fun K f=>?_)
            go_simp
            refine(rtimes_any r.v.q k _ _ _ (hq.keep az) X f2.out fk.out).mono ?_;rintro e av ⟨bm,rfl,J,I⟩;obtain⟨aJ,au,aK,aL,rfl⟩:=J.shape';replace c:=c.keep I;replace a:=a.keep I
            go_wp2_with fail
            refine f.out _ _ (az.trans' I) (fun al=>?_);clear f K;refine wpAnyL_tk (i:=14) (k:=15) (v:=.agg #[.bool aN,.slice aF aO aP,.bool aJ,.slice au aK aL,.bool b3,.slice aq n3 c3,.int .i64 r.v.d]) rfl ?_ al ?_
            · intro w' ag;go_simp
            simp only[sq];refine wpAnyL_on (i:=15) rfl (fun K f=>?_)
            go_simp
            refine(bg.out _ _ _ _ _ _ _ _ _ _ _ _ _ c J (hr.keep al)).mono ?_;rintro e O ⟨a0,rfl,G,R⟩;obtain⟨z,l,B,C,rfl⟩:=G.shape';replace a:=a.keep R
            go_wp2_with fail
            refine f.out _ _ (al.trans' R) (fun aQ=>?_);clear f K;have a3:=a.cell;have a4:=a.frozen;have a5:=a.lt;refine wpAnyL_last (i:=17) rfl (by kernel_rfl) (by kernel_rfl) (by kernel_rfl) (fun K f=>?_)
            go_simp
            refine f.out _ _ ?_;clear f K;have aS:Sf 3 O ((O.setCell ⟨Z,0,none⟩ (.bool z)).setCell ⟨Z,1,none⟩ (.slice l B C)):=(sf2 (.bool z) (.slice l B C) a (by decide))
            go_wp2_with fail
            go_meet
            case rel=>exact⟨Z,_,_,_,_,rfl,(bl2 (.bool z) (.slice l B C) a),G.soft aS,(kp2 (A:=Z) (.bool z) (.slice l B C) aQ ac),ac⟩
          exact AllReadyL.nil
        refine AllReadyL.cons rfl (fun K f=>?_) ?_
        · go_simp
          refine f.out _ _ (Kp.alloc' aD (.cells #[.bool false,.slice none 0 0] 52)) (fun aV=>?_);clear f K;have a:Blk (aI.alloc (.cells #[.bool false,.slice none 0 0] 52)) aI.heap.size #[.bool false,.slice none 0 0] 52:=Blk.new aI _ _;have ac:wr.heap.size≤aI.heap.size:=aD.size;replace c:=c.keep (kp_alloc aI (.cells #[.bool false,.slice none 0 0] 52))
          try simp only[sq]
          generalize a2:aI.heap.size=Z at *;generalize aI.alloc (.cells #[.bool false,.slice none 0 0] 52)=aR at *;refine wpAnyL_on (i:=8) rfl (fun K f=>?_)
          go_simp
          refine(of_any k _ (by omega) (by omega)).mono ?_;rintro e ay ⟨br,rfl,X,Y⟩;obtain⟨bs,bh,bt,bu,rfl⟩:=X.shape';replace c:=c.keep Y;replace a:=a.keep Y
          go_wp2_with fail
          refine f.out _ _ (aV.trans' Y) (fun az=>?_);clear f K;refine wpAnyL_on (i:=9) rfl (fun K f=>?_)
          go_simp
          refine(rtimes_any r.v.q k _ _ _ (hq.keep az) X f2.out fk.out).mono ?_;rintro e av ⟨bm,rfl,J,I⟩;obtain⟨aJ,au,aK,aL,rfl⟩:=J.shape';replace c:=c.keep I;replace a:=a.keep I
          go_wp2_with fail
          refine f.out _ _ (az.trans' I) (fun al=>?_);clear f K;refine wpAnyL_tk (i:=14) (k:=15) (v:=.agg #[.bool aN,.slice aF aO aP,.bool aJ,.slice au aK aL,.bool b3,.slice aq n3 c3,.int .i64 r.v.d]) rfl ?_ al ?_
          · intro w' ag;go_simp
          simp only[sq];refine wpAnyL_on (i:=15) rfl (fun K f=>?_)
          go_simp
          refine(bg.out _ _ _ _ _ _ _ _ _ _ _ _ _ c J (hr.keep al)).mono ?_;rintro e O ⟨a0,rfl,G,R⟩;obtain⟨z,l,B,C,rfl⟩:=G.shape';replace a:=a.keep R
          go_wp2_with fail
          refine f.out _ _ (al.trans' R) (fun aQ=>?_);clear f K;have a3:=a.cell;have a4:=a.frozen;have a5:=a.lt;refine wpAnyL_last (i:=17) rfl (by kernel_rfl) (by kernel_rfl) (by kernel_rfl) (fun K f=>?_)
          go_simp
          refine f.out _ _ ?_;clear f K;have aS:Sf 3 O ((O.setCell ⟨Z,0,none⟩ (.bool z)).setCell ⟨Z,1,none⟩ (.slice l B C)):=(sf2 (.bool z) (.slice l B C) a (by decide))
          go_wp2_with fail
          go_meet
          case rel=>exact⟨Z,_,_,_,_,rfl,(bl2 (.bool z) (.slice l B C) a),G.soft aS,(kp2 (A:=Z) (.bool z) (.slice l B C) aQ ac),ac⟩
        exact AllReadyL.nil
      refine AllReadyL.cons rfl (fun K f=>?_) ?_
      · go_simp
        refine f.out _ _ (Kp.alloc' ar (.cells #[.bool false,.slice none 0 0] 52)) (fun aD=>?_);clear f K;have a:Blk (aM.alloc (.cells #[.bool false,.slice none 0 0] 52)) aM.heap.size #[.bool false,.slice none 0 0] 52:=Blk.new aM _ _;have ac:wr.heap.size≤aM.heap.size:=ar.size;replace ax:=ax.keep (kp_alloc aM (.cells #[.bool false,.slice none 0 0] 52))
        try simp only[sq]
        generalize a2:aM.heap.size=Z at *;generalize aM.alloc (.cells #[.bool false,.slice none 0 0] 52)=aR at *;refine wpAnyL_on (i:=4) rfl (fun K f=>?_)
        go_simp
        refine(rtimes_any r.v.p k _ _ _ (hp.keep aD) ax f1.out fk.out).mono ?_;rintro e aI ⟨bE,rfl,c,aE⟩;obtain⟨aN,aF,aO,aP,rfl⟩:=c.shape';replace a:=a.keep aE
        go_wp2_with fail
        refine f.out _ _ (aD.trans' aE) (fun aV=>?_);clear f K;refine wpAnyL_on (i:=8) rfl (fun K f=>?_)
        go_simp
        refine(of_any k _ (by omega) (by omega)).mono ?_;rintro e ay ⟨br,rfl,X,Y⟩;obtain⟨bs,bh,bt,bu,rfl⟩:=X.shape';replace a:=a.keep Y;replace c:=c.keep Y
        go_wp2_with fail
        refine f.out _ _ (aV.trans' Y) (fun az=>?_);clear f K;refine wpAnyL_on (i:=9) rfl (fun K f=>?_)
        go_simp
        refine(rtimes_any r.v.q k _ _ _ (hq.keep az) X f2.out fk.out).mono ?_;rintro e av ⟨bm,rfl,J,I⟩;obtain⟨aJ,au,aK,aL,rfl⟩:=J.shape';replace a:=a.keep I;replace c:=c.keep I
        go_wp2_with fail
        refine f.out _ _ (az.trans' I) (fun al=>?_);clear f K;refine wpAnyL_tk (i:=14) (k:=15) (v:=.agg #[.bool aN,.slice aF aO aP,.bool aJ,.slice au aK aL,.bool b3,.slice aq n3 c3,.int .i64 r.v.d]) rfl ?_ al ?_
        · intro w' ag;go_simp
        simp only[sq];refine wpAnyL_on (i:=15) rfl (fun K f=>?_)
        go_simp
        refine(bg.out _ _ _ _ _ _ _ _ _ _ _ _ _ c J (hr.keep al)).mono ?_;rintro e O ⟨a0,rfl,G,R⟩;obtain⟨z,l,B,C,rfl⟩:=G.shape';replace a:=a.keep R
        go_wp2_with fail
        refine f.out _ _ (al.trans' R) (fun aQ=>?_);clear f K;have a3:=a.cell;have a4:=a.frozen;have a5:=a.lt;refine wpAnyL_last (i:=17) rfl (by kernel_rfl) (by kernel_rfl) (by kernel_rfl) (fun K f=>?_)
        go_simp
        refine f.out _ _ ?_;clear f K;have aS:Sf 3 O ((O.setCell ⟨Z,0,none⟩ (.bool z)).setCell ⟨Z,1,none⟩ (.slice l B C)):=(sf2 (.bool z) (.slice l B C) a (by decide))
        go_wp2_with fail
        go_meet
        case rel=>exact⟨Z,_,_,_,_,rfl,(bl2 (.bool z) (.slice l B C) a),G.soft aS,(kp2 (A:=Z) (.bool z) (.slice l B C) aQ ac),ac⟩
      exact AllReadyL.nil
    refine AllReadyL.cons rfl (fun K f=>?_) ?_
    · go_simp
      refine f.out _ _ (Kp.alloc' ak (.cells #[.bool false,.slice none 0 0] 52)) (fun ar=>?_);clear f K;have a:Blk (wd.alloc (.cells #[.bool false,.slice none 0 0] 52)) wd.heap.size #[.bool false,.slice none 0 0] 52:=Blk.new wd _ _;have ac:wr.heap.size≤wd.heap.size:=ak.size
      try simp only[sq]
      generalize a2:wd.heap.size=Z at *;generalize wd.alloc (.cells #[.bool false,.slice none 0 0] 52)=aR at *;refine wpAnyL_on (i:=3) rfl (fun K f=>?_)
      go_simp
      refine(of_any k _ (by omega) (by omega)).mono ?_;rintro e aM ⟨bZ,rfl,ax,aX⟩;obtain⟨b0,bP,ca,cb,rfl⟩:=ax.shape';replace a:=a.keep aX
      go_wp2_with fail
      refine f.out _ _ (ar.trans' aX) (fun aD=>?_);clear f K;refine wpAnyL_on (i:=4) rfl (fun K f=>?_)
      go_simp
      refine(rtimes_any r.v.p k _ _ _ (hp.keep aD) ax f1.out fk.out).mono ?_;rintro e aI ⟨bE,rfl,c,aE⟩;obtain⟨aN,aF,aO,aP,rfl⟩:=c.shape';replace a:=a.keep aE
      go_wp2_with fail
      refine f.out _ _ (aD.trans' aE) (fun aV=>?_);clear f K;refine wpAnyL_on (i:=8) rfl (fun K f=>?_)
      go_simp
      refine(of_any k _ (by omega) (by omega)).mono ?_;rintro e ay ⟨br,rfl,X,Y⟩;obtain⟨bs,bh,bt,bu,rfl⟩:=X.shape';replace a:=a.keep Y;replace c:=c.keep Y
      go_wp2_with fail
      refine f.out _ _ (aV.trans' Y) (fun az=>?_);clear f K;refine wpAnyL_on (i:=9) rfl (fun K f=>?_)
      go_simp
      refine(rtimes_any r.v.q k _ _ _ (hq.keep az) X f2.out fk.out).mono ?_;rintro e av ⟨bm,rfl,J,I⟩;obtain⟨aJ,au,aK,aL,rfl⟩:=J.shape';replace a:=a.keep I;replace c:=c.keep I
      go_wp2_with fail
      refine f.out _ _ (az.trans' I) (fun al=>?_);clear f K;refine wpAnyL_tk (i:=14) (k:=15) (v:=.agg #[.bool aN,.slice aF aO aP,.bool aJ,.slice au aK aL,.bool b3,.slice aq n3 c3,.int .i64 r.v.d]) rfl ?_ al ?_
      · intro w' ag;go_simp
      simp only[sq];refine wpAnyL_on (i:=15) rfl (fun K f=>?_)
      go_simp
      refine(bg.out _ _ _ _ _ _ _ _ _ _ _ _ _ c J (hr.keep al)).mono ?_;rintro e O ⟨a0,rfl,G,R⟩;obtain⟨z,l,B,C,rfl⟩:=G.shape';replace a:=a.keep R
      go_wp2_with fail
      refine f.out _ _ (al.trans' R) (fun aQ=>?_);clear f K;have a3:=a.cell;have a4:=a.frozen;have a5:=a.lt;refine wpAnyL_last (i:=17) rfl (by kernel_rfl) (by kernel_rfl) (by kernel_rfl) (fun K f=>?_)
      go_simp
      refine f.out _ _ ?_;clear f K;have aS:Sf 3 O ((O.setCell ⟨Z,0,none⟩ (.bool z)).setCell ⟨Z,1,none⟩ (.slice l B C)):=(sf2 (.bool z) (.slice l B C) a (by decide))
      go_wp2_with fail
      go_meet
      case rel=>exact⟨Z,_,_,_,_,rfl,(bl2 (.bool z) (.slice l B C) a),G.soft aS,(kp2 (A:=Z) (.bool z) (.slice l B C) aQ ac),ac⟩
    exact AllReadyL.nil
   case rest =>
    obtain⟨bf,b8,aa,n8,c8,rfl,M,hf,a6,cq⟩:=hcut;have lL:=V.lt;replace BX:=BX.keep a6;replace hX:=hX.keep a6;replace U:=U.keep a6;replace hP:=hP.keep a6;replace V:=V.keep a6;replace y:=Hid.mk (fun h=>(y.out h).keep a6);replace o:=o.trans' a6;have lf:AL<bf:=by omega
    have cc:IN wc (.agg #[.bool b8,.slice aa n8 c8]) (F k+0):=by rw[Int.add_zero];exact hf
    clear hp hq hr a6 bg hf lL cq
    go_wp2_with fail
    go_loopg [11,15] 3 (fun g tq ts wr=>∃(j P Q D:Int) (b8:Bool) (aa:Option Addr) (n8 c8:Nat) (b4:Bool) (a8:Option Addr) (n4 c4:Nat) (b5:Bool) (a9:Option Addr) (n5 c5:Nat) (b6:Bool) (ba:Option Addr) (n6 c6:Nat) (b7:Bool) (bb:Option Addr) (n7 c7:Nat),ts=.int .i64 j∧tq=.int .i64 Q∧0≤j∧j≤2∧j.toNat+g=3∧Blk wr bf #[.bool b8,.slice aa n8 c8] 52∧IN wr (.agg #[.bool b8,.slice aa n8 c8]) (F k+j)∧Blk wr AX #[.bool b1,.slice aG n1 c1,.bool b2,.slice aH n2 c2,.bool b3,.slice aq n3 c3,.int .i64 r.v.d] 54∧NN wr (.agg #[.bool b1,.slice aG n1 c1,.bool b2,.slice aH n2 c2,.bool b3,.slice aq n3 c3,.int .i64 r.v.d]) r.v∧Blk wr AP #[.bool b4,.slice a8 n4 c4] 52∧IN wr (.agg #[.bool b4,.slice a8 n4 c4]) P∧Blk wr AL #[.bool b5,.slice a9 n5 c5,.bool b6,.slice ba n6 c6,.bool b7,.slice bb n7 c7,.int .i64 D] 54∧Hid (Q≠0→NN wr (.agg #[.bool b5,.slice a9 n5 c5,.bool b6,.slice ba n6 c6,.bool b7,.slice bb n7 c7,.int .i64 D]) (gpN r.v P Q))∧Hid (Srch r.v F P Q k j)∧Hid (True→0≤Q∧Q≤1000∧Ft 1100021 P)∧Kp w wr)
    case atStart=>exact⟨0,P,Q,D,_,_,_,_,_,_,_,_,_,_,_,_,_,_,_,_,_,_,_,_,rfl,rfl,by omega,by omega,by omega,M,cc,BX,hX,U,hP,V,y,bc,be,o⟩
    case round =>
     clear M cc BX hX U hP V y bc be o;obtain⟨j,P,Q,D,b8,aa,n8,c8,b4,a8,n4,c4,b5,a9,n5,c5,b6,ba,n6,c6,b7,bb,n7,c7,rfl,rfl,cG,cH,cI,M,hf,BX,hX,U,hP,V,y,bc,be,o⟩:=hrel;by_cases hj:j<2
     ·have bv:Hid (True→Ft 1100021 (F k+j)):=fun _=>(Ft.add (bI.out trivial).2 (Ft.mono (m:=1) (by unfold Ft;omega) (by decide))).mono (by decide)
      have bQ:Hid (Fit (F k+j)):=(bv.out trivial).fit (by decide);have bF:j=0∨j=1:=by omega
      have HJ:=Hid.mk bF;have cr:Hid (True→QF 2300000 (gpN r.v (F k+j) k)):=fun _=>(gpN_qf (k:=k) aZ.out (bv.out trivial) (by omega) (by omega));have bR:=Hid.mk (gp_d r.v (F k+j) k).1;have bC:Hid ((Q=0∨EvP (fun N=>Dg r.v P Q N - Dg r.v (F k+j) k N))→Srch r.v F (F k+j) k k (j+1)):=fun hn=>Srch.take bc.out bX HJ.out hn;have bD:Hid (Q≠0→Lq r.v P Q (F k+j) k→Srch r.v F P Q k (j+1)):=fun h1 h2=>Srch.pass bc.out h1 h2;have bS:Hid (Q≠0→∀(uu vv:Value) (W:World),NN W uu (gpN r.v (F k+j) k)→NN W vv (gpN r.v P Q)→∃ b:Bool,Calls Tryz.prog 30 #[uu,vv] W (RetV W (.bool b))∧(b=true→EvP (fun N=>Dg r.v P Q N - Dg r.v (F k+j) k N))∧(b=false→Lq r.v P Q (F k+j) k)):=by
       intro hQ uu vv W h1 h2;obtain⟨q0,q1,fP⟩:=be.out trivial;have hc:=nearer_ref (gpN r.v (F k+j) k) (gpN r.v P Q) 2300000 uu vv W h1 h2 (by decide) (cr.out trivial) (gpN_qf (k:=Q) aZ.out fP q0 q1) (by rw[bR.out];exact bn.out.1) (by rw[bR.out];exact bn.out.2)
       rw[bR.out] at hc;obtain⟨o1,o2⟩:=nr_rsg bH.out (p:=F k+j) (k:=k) (P:=P) (Q:=Q) (by omega) (by omega) rfl;exact⟨_,hc,fun e=>o1 (of_decide_eq_true e),fun e=>o2 (of_decide_eq_false e)⟩
      clear bF;have xc:=BX.cell;have xl:=BX.lt;have fc:=M.cell;have aT:=M.lt
      go_wp2_with fail
      refine(gap_ref r.v (F k+j) k 1100021 _ _ _ hX hf (by decide) (aZ.out.mono (by decide)) (bv.out trivial) (by omega) (by omega) bn.out.1 bn.out.2).mono ?_;rintro e a7 ⟨cJ,rfl,hG,aA⟩;obtain⟨b9,am,n9,c9,an,T,ao,ap,ad,H,ae,af,rfl,_,_,_⟩:=id hG;generalize (gpN r.v (F k+j) k).d=DG at *;have lg:=(V.keep aA).lt;have cK:AP<a7.heap.size:=by omega
      replace BX:=BX.keep aA;replace hX:=hX.keep aA;replace U:=U.keep aA;replace hP:=hP.keep aA;replace V:=V.keep aA;replace M:=M.keep aA;replace hf:=hf.keep aA;replace y:=Hid.mk (fun h=>(y.out h).keep aA);replace o:=o.trans' aA;clear xc xl fc aT aA;by_cases hQ:Q=0
      ·subst hQ;clear bS bD;have fc:=M.cell;have aT:=M.lt;have pc:=U.cell;have pf:=U.frozen;have pl:=U.lt;have lc:=V.cell;have lf:=V.frozen;have ll:=V.lt
       go_wp2_with fail
       have bw:=sf2 (E:=3) (.bool b8) (.slice aa n8 c8) U (by decide);have bi:=ot2 (A:=AP) (.bool b8) (.slice aa n8 c8) V (by omega);have aY:=bw.trans (sf7 (E:=3) (.bool b9) (.slice am n9 c9) (.bool an) (.slice T ao ap) (.bool ad) (.slice H ae af) (.int .i64 DG) bi (by decide));replace o:=kp7 (A:=AL) (.bool b9) (.slice am n9 c9) (.bool an) (.slice T ao ap) (.bool ad) (.slice H ae af) (.int .i64 DG) (kp2 (A:=AP) (.bool b8) (.slice aa n8 c8) o (by omega)) (by omega);have bx:=ot7 (A:=AL) (.bool b9) (.slice am n9 c9) (.bool an) (.slice T ao ap) (.bool ad) (.slice H ae af) (.int .i64 DG) (bl2 (.bool b8) (.slice aa n8 c8) U) (by omega);have bz:=bl7 (.bool b9) (.slice am n9 c9) (.bool an) (.slice T ao ap) (.bool ad) (.slice H ae af) (.int .i64 DG) bi;replace BX:=ot7 (A:=AL) (.bool b9) (.slice am n9 c9) (.bool an) (.slice T ao ap) (.bool ad) (.slice H ae af) (.int .i64 DG) (ot2 (A:=AP) (.bool b8) (.slice aa n8 c8) BX (by omega)) (by omega);replace M:=ot7 (A:=AL) (.bool b9) (.slice am n9 c9) (.bool an) (.slice T ao ap) (.bool ad) (.slice H ae af) (.int .i64 DG) (ot2 (A:=AP) (.bool b8) (.slice aa n8 c8) M (by omega)) (by omega);replace hX:=hX.soft aY;replace hf:=hf.soft aY;replace hG:=hG.soft aY;clear fc aT pc pf pl lc lf ll U V bi bw aY hP y;generalize (((((((((a7.setCell ⟨AP,0,none⟩ (.bool b8)).setCell ⟨AP,1,none⟩ (.slice aa n8 c8)).setCell ⟨AL,0,none⟩ (.bool b9)).setCell ⟨AL,1,none⟩ (.slice am n9 c9)).setCell ⟨AL,2,none⟩ (.bool an)).setCell ⟨AL,3,none⟩ (.slice T ao ap)).setCell ⟨AL,4,none⟩ (.bool ad)).setCell ⟨AL,5,none⟩ (.slice H ae af)).setCell ⟨AL,6,none⟩ (.int .i64 DG))=wq at *;have U:=bx;have V:=bz;clear bx bz;have hP:=hf;have y:Hid (k≠0→NN wq (.agg #[.bool b9,.slice am n9 c9,.bool an,.slice T ao ap,.bool ad,.slice H ae af,.int .i64 DG]) (gpN r.v (F k+j) k)):=fun _=>hG;have ka:Kp wq (wq.alloc (.cells #[.bool b9,.slice am n9 c9,.bool an,.slice T ao ap,.bool ad,.slice H ae af,.int .i64 DG] 54)):=kp_alloc wq _;replace BX:=BX.keep ka;replace hX:=hX.keep ka
       replace U:=U.keep ka;replace hP:=hP.keep ka;replace V:=V.keep ka;replace M:=M.keep ka;replace hf:=hf.keep ka;replace y:=Hid.mk (fun h=>(y.out h).keep ka);replace o:=o.trans' ka;clear ka;generalize wq.alloc (.cells #[.bool b9,.slice am n9 c9,.bool an,.slice T ao ap,.bool ad,.slice H ae af,.int .i64 DG] 54)=aW at *;have kd:Kp aW aW.drew:=Kp.drew' (Below.refl _ _);replace BX:=BX.keep kd;replace hX:=hX.keep kd;replace U:=U.keep kd;replace hP:=hP.keep kd;replace V:=V.keep kd;replace M:=M.keep kd;replace hf:=hf.keep kd;replace y:=Hid.mk (fun h=>(y.out h).keep kd);replace o:=o.trans' kd;clear kd
       go_wp2_with fail
       refine wp_region_l (S:=fun w'=>Blk w' bf #[.bool b8,.slice aa n8 c8] 52∧Kp aW.drew w') (by kernel_rfl) ⟨M,Below.refl _ _⟩ (fun ak=>?_);generalize aW.drew=wd at *;refine wpAnyL_tk (i:=0) (k:=2) (v:=(.agg #[.bool b8,.slice aa n8 c8])) rfl ?_ ak ?_
       ·intro w' ag;have hc:=ag.1.cell;go_simp
       simp only[sq];refine wpAnyL_on (i:=1) rfl (fun K f=>?_)
       go_simp
       refine(of_any 1 _ (by decide) (by decide)).mono ?_;rintro e cd ⟨ce,rfl,aU,t⟩;obtain⟨cf,bG,cg,ch,rfl⟩:=aU.shape';replace BX:=BX.keep t;replace hX:=hX.keep t;replace U:=U.keep t;replace hP:=hP.keep t;replace V:=V.keep t;replace M:=M.keep t;replace hf:=hf.keep t;replace y:=Hid.mk (fun h=>(y.out h).keep t);replace o:=o.trans' t
       go_wp2_with fail
       refine f.out _ _ ⟨M,t⟩ (fun ar=>?_);clear f K ak;refine wpAnyL_on (i:=2) rfl (fun K f=>?_)
       go_simp
       refine(rplus_any (F k+j) 1 _ _ _ hf aU bQ.out bo.out).mono ?_;rintro e bA ⟨ci,rfl,aB,u⟩;obtain⟨ah,L,ai,aj,rfl⟩:=aB.shape';replace BX:=BX.keep u;replace hX:=hX.keep u;replace U:=U.keep u;replace hP:=hP.keep u;replace V:=V.keep u;replace M:=M.keep u;replace hf:=hf.keep u;replace y:=Hid.mk (fun h=>(y.out h).keep u);replace o:=o.trans' u
       go_wp2_with fail
       refine f.out _ _ ⟨M,ar.2.trans' u⟩ (fun aD=>?_);clear f K ar aU;have fc:=M.cell;have ff:=M.frozen;have aT:=M.lt;refine wpAnyL_last (i:=3) rfl (by kernel_rfl) (by kernel_rfl) (by kernel_rfl) (fun K f=>?_)
       go_simp
       refine f.out _ _ ?_;clear f K fc ff aT;have aC:=sf2 (E:=3) (.bool ah) (.slice L ai aj) M (by decide);replace hX:=hX.soft aC;replace hP:=hP.soft aC;replace aB:=aB.soft aC;replace y:=Hid.mk (fun h=>(y.out h).soft aC);replace o:=kp2 (A:=bf) (.bool ah) (.slice L ai aj) o (by omega);replace BX:=ot2 (A:=bf) (.bool ah) (.slice L ai aj) BX (by omega);replace U:=ot2 (A:=bf) (.bool ah) (.slice L ai aj) U (by omega);replace V:=ot2 (A:=bf) (.bool ah) (.slice L ai aj) V (by omega);replace M:=bl2 (.bool ah) (.slice L ai aj) M;clear aC;generalize ((bA.setCell ⟨bf,0,none⟩ (.bool ah)).setCell ⟨bf,1,none⟩ (.slice L ai aj))=wz at *;have e1:F k+j+1=F k+(j+1):=by omega
       rw[e1] at aB;clear e1 hf
       go_wp2_with fail
       go_roundg (2 - j.toNat)
       case rel=>exact⟨j+1,F k+j,k,_,_,_,_,_,_,_,_,_,_,_,_,_,_,_,_,_,_,_,_,_,by go_num,rfl,by omega,by omega,by omega,M,aB,BX,hX,U,hP,V,y,bC.out (Or.inl (by trivial)),fun _=>⟨by omega,by omega,bv.out trivial⟩,o⟩
       case measure=>omega
      ·have ka:Kp a7 (a7.alloc (.cells #[.bool b9,.slice am n9 c9,.bool an,.slice T ao ap,.bool ad,.slice H ae af,.int .i64 DG] 54)):=kp_alloc a7 _;have Bg:Blk (a7.alloc (.cells #[.bool b9,.slice am n9 c9,.bool an,.slice T ao ap,.bool ad,.slice H ae af,.int .i64 DG] 54)) a7.heap.size #[.bool b9,.slice am n9 c9,.bool an,.slice T ao ap,.bool ad,.slice H ae af,.int .i64 DG] 54:=Blk.new a7 _ _;replace BX:=BX.keep ka;replace hX:=hX.keep ka;replace U:=U.keep ka;replace hP:=hP.keep ka;replace V:=V.keep ka;replace M:=M.keep ka;replace hf:=hf.keep ka;replace y:=Hid.mk (fun h=>(y.out h).keep ka);replace o:=o.trans' ka;replace hG:=hG.keep ka;clear ka;obtain⟨b,cj,hT,ck⟩:=bS.out hQ _ _ _ hG (y.out hQ);have HT:=Hid.mk hT;have bT:=Hid.mk ck;have cL:(Q == 0)=false:=by simp[hQ]
       have ct:=Hid.mk hQ;clear hT ck bS hQ;have gc:=Bg.cell;have gl:=Bg.lt;have lc:=V.cell;have ll:=V.lt
       go_wp2_with fail
       refine cj.mono ?_;rintro e bB ⟨rfl,aw⟩;replace BX:=BX.keep aw;replace hX:=hX.keep aw;replace U:=U.keep aw;replace hP:=hP.keep aw;replace V:=V.keep aw;replace M:=M.keep aw;replace hf:=hf.keep aw;replace Bg:=Bg.keep aw;replace hG:=hG.keep aw;replace y:=Hid.mk (fun h=>(y.out h).keep aw);replace o:=o.trans' aw;clear gc gl lc ll cj aw
       cases b
       ·have bj:Hid (Srch r.v F P Q k (j+1)):=bD.out ct.out (bT.out rfl);clear HT bT bC bD Bg hG;have kd:Kp bB bB.drew:=Kp.drew' (Below.refl _ _);replace BX:=BX.keep kd;replace hX:=hX.keep kd;replace U:=U.keep kd;replace hP:=hP.keep kd;replace V:=V.keep kd;replace M:=M.keep kd;replace hf:=hf.keep kd;replace y:=Hid.mk (fun h=>(y.out h).keep kd);replace o:=o.trans' kd;clear kd
        go_wp2_with fail
        refine wp_region_l (S:=fun w'=>Blk w' bf #[.bool b8,.slice aa n8 c8] 52∧Kp bB.drew w') (by kernel_rfl) ⟨M,Below.refl _ _⟩ (fun ak=>?_);generalize bB.drew=wd at *;refine wpAnyL_tk (i:=0) (k:=2) (v:=(.agg #[.bool b8,.slice aa n8 c8])) rfl ?_ ak ?_
        ·intro w' ag;have hc:=ag.1.cell;go_simp
        simp only[sq];refine wpAnyL_on (i:=1) rfl (fun K f=>?_)
        go_simp
        refine(of_any 1 _ (by decide) (by decide)).mono ?_;rintro e cd ⟨ce,rfl,aU,t⟩;obtain⟨cf,bG,cg,ch,rfl⟩:=aU.shape';replace BX:=BX.keep t;replace hX:=hX.keep t;replace U:=U.keep t;replace hP:=hP.keep t;replace V:=V.keep t;replace M:=M.keep t;replace hf:=hf.keep t;replace y:=Hid.mk (fun h=>(y.out h).keep t);replace o:=o.trans' t
        go_wp2_with fail
        refine f.out _ _ ⟨M,t⟩ (fun ar=>?_);clear f K ak;refine wpAnyL_on (i:=2) rfl (fun K f=>?_)
        go_simp
        refine(rplus_any (F k+j) 1 _ _ _ hf aU bQ.out bo.out).mono ?_;rintro e bA ⟨ci,rfl,aB,u⟩;obtain⟨ah,L,ai,aj,rfl⟩:=aB.shape';replace BX:=BX.keep u;replace hX:=hX.keep u;replace U:=U.keep u;replace hP:=hP.keep u;replace V:=V.keep u;replace M:=M.keep u;replace hf:=hf.keep u;replace y:=Hid.mk (fun h=>(y.out h).keep u);replace o:=o.trans' u
        go_wp2_with fail
        refine f.out _ _ ⟨M,ar.2.trans' u⟩ (fun aD=>?_);clear f K ar aU;have fc:=M.cell;have ff:=M.frozen;have aT:=M.lt;refine wpAnyL_last (i:=3) rfl (by kernel_rfl) (by kernel_rfl) (by kernel_rfl) (fun K f=>?_)
        go_simp
        refine f.out _ _ ?_;clear f K fc ff aT;have aC:=sf2 (E:=3) (.bool ah) (.slice L ai aj) M (by decide);replace hX:=hX.soft aC;replace hP:=hP.soft aC;replace aB:=aB.soft aC;replace y:=Hid.mk (fun h=>(y.out h).soft aC);replace o:=kp2 (A:=bf) (.bool ah) (.slice L ai aj) o (by omega);replace BX:=ot2 (A:=bf) (.bool ah) (.slice L ai aj) BX (by omega);replace U:=ot2 (A:=bf) (.bool ah) (.slice L ai aj) U (by omega);replace V:=ot2 (A:=bf) (.bool ah) (.slice L ai aj) V (by omega);replace M:=bl2 (.bool ah) (.slice L ai aj) M;clear aC;generalize ((bA.setCell ⟨bf,0,none⟩ (.bool ah)).setCell ⟨bf,1,none⟩ (.slice L ai aj))=wz at *;have e1:F k+j+1=F k+(j+1):=by omega
        rw[e1] at aB;clear e1 hf
        go_wp2_with fail
        go_roundg (2 - j.toNat)
        case rel=>exact⟨j+1,P,Q,_,_,_,_,_,_,_,_,_,_,_,_,_,_,_,_,_,_,_,_,_,by go_num,rfl,by omega,by omega,by omega,M,aB,BX,hX,U,hP,V,y,bj,be,o⟩
        case measure=>omega
       ·have bj:Hid (Srch r.v F (F k+j) k k (j+1)):=bC.out (Or.inr (HT.out rfl));clear HT bT bC bD;have fc:=M.cell;have aT:=M.lt;have gc:=Bg.cell;have gl:=Bg.lt;have pc:=U.cell;have pf:=U.frozen;have pl:=U.lt;have lc:=V.cell;have lf:=V.frozen;have ll:=V.lt
        go_wp2_with fail
        have bw:=sf2 (E:=3) (.bool b8) (.slice aa n8 c8) U (by decide);have bi:=ot2 (A:=AP) (.bool b8) (.slice aa n8 c8) V (by omega);have aY:=bw.trans (sf7 (E:=3) (.bool b9) (.slice am n9 c9) (.bool an) (.slice T ao ap) (.bool ad) (.slice H ae af) (.int .i64 DG) bi (by decide));replace o:=kp7 (A:=AL) (.bool b9) (.slice am n9 c9) (.bool an) (.slice T ao ap) (.bool ad) (.slice H ae af) (.int .i64 DG) (kp2 (A:=AP) (.bool b8) (.slice aa n8 c8) o (by omega)) (by omega);have bx:=ot7 (A:=AL) (.bool b9) (.slice am n9 c9) (.bool an) (.slice T ao ap) (.bool ad) (.slice H ae af) (.int .i64 DG) (bl2 (.bool b8) (.slice aa n8 c8) U) (by omega);have bz:=bl7 (.bool b9) (.slice am n9 c9) (.bool an) (.slice T ao ap) (.bool ad) (.slice H ae af) (.int .i64 DG) bi;replace BX:=ot7 (A:=AL) (.bool b9) (.slice am n9 c9) (.bool an) (.slice T ao ap) (.bool ad) (.slice H ae af) (.int .i64 DG) (ot2 (A:=AP) (.bool b8) (.slice aa n8 c8) BX (by omega)) (by omega);replace M:=ot7 (A:=AL) (.bool b9) (.slice am n9 c9) (.bool an) (.slice T ao ap) (.bool ad) (.slice H ae af) (.int .i64 DG) (ot2 (A:=AP) (.bool b8) (.slice aa n8 c8) M (by omega)) (by omega);replace hX:=hX.soft aY;replace hf:=hf.soft aY;replace hG:=hG.soft aY;clear fc aT gc gl pc pf pl lc lf ll U V bi bw aY hP y Bg;generalize (((((((((bB.setCell ⟨AP,0,none⟩ (.bool b8)).setCell ⟨AP,1,none⟩ (.slice aa n8 c8)).setCell ⟨AL,0,none⟩ (.bool b9)).setCell ⟨AL,1,none⟩ (.slice am n9 c9)).setCell ⟨AL,2,none⟩ (.bool an)).setCell ⟨AL,3,none⟩ (.slice T ao ap)).setCell ⟨AL,4,none⟩ (.bool ad)).setCell ⟨AL,5,none⟩ (.slice H ae af)).setCell ⟨AL,6,none⟩ (.int .i64 DG))=aW at *;have U:=bx;have V:=bz;clear bx bz;have hP:=hf;have y:Hid (k≠0→NN aW (.agg #[.bool b9,.slice am n9 c9,.bool an,.slice T ao ap,.bool ad,.slice H ae af,.int .i64 DG]) (gpN r.v (F k+j) k)):=fun _=>hG;have kd:Kp aW aW.drew:=Kp.drew' (Below.refl _ _);replace BX:=BX.keep kd;replace hX:=hX.keep kd;replace U:=U.keep kd;replace hP:=hP.keep kd;replace V:=V.keep kd;replace M:=M.keep kd
        replace hf:=hf.keep kd;replace y:=Hid.mk (fun h=>(y.out h).keep kd);replace o:=o.trans' kd;clear kd
        go_wp2_with fail
        refine wp_region_l (S:=fun w'=>Blk w' bf #[.bool b8,.slice aa n8 c8] 52∧Kp aW.drew w') (by kernel_rfl) ⟨M,Below.refl _ _⟩ (fun ak=>?_);generalize aW.drew=wd at *;refine wpAnyL_tk (i:=0) (k:=2) (v:=(.agg #[.bool b8,.slice aa n8 c8])) rfl ?_ ak ?_
        ·intro w' ag;have hc:=ag.1.cell;go_simp
        simp only[sq];refine wpAnyL_on (i:=1) rfl (fun K f=>?_)
        go_simp
        refine(of_any 1 _ (by decide) (by decide)).mono ?_;rintro e cd ⟨ce,rfl,aU,t⟩;obtain⟨cf,bG,cg,ch,rfl⟩:=aU.shape';replace BX:=BX.keep t;replace hX:=hX.keep t;replace U:=U.keep t;replace hP:=hP.keep t;replace V:=V.keep t;replace M:=M.keep t;replace hf:=hf.keep t;replace y:=Hid.mk (fun h=>(y.out h).keep t);replace o:=o.trans' t
        go_wp2_with fail
        refine f.out _ _ ⟨M,t⟩ (fun ar=>?_);clear f K ak;refine wpAnyL_on (i:=2) rfl (fun K f=>?_)
        go_simp
        refine(rplus_any (F k+j) 1 _ _ _ hf aU bQ.out bo.out).mono ?_;rintro e bA ⟨ci,rfl,aB,u⟩;obtain⟨ah,L,ai,aj,rfl⟩:=aB.shape';replace BX:=BX.keep u;replace hX:=hX.keep u;replace U:=U.keep u;replace hP:=hP.keep u;replace V:=V.keep u;replace M:=M.keep u;replace hf:=hf.keep u;replace y:=Hid.mk (fun h=>(y.out h).keep u);replace o:=o.trans' u
        go_wp2_with fail
        refine f.out _ _ ⟨M,ar.2.trans' u⟩ (fun aD=>?_);clear f K ar aU;have fc:=M.cell;have ff:=M.frozen;have aT:=M.lt;refine wpAnyL_last (i:=3) rfl (by kernel_rfl) (by kernel_rfl) (by kernel_rfl) (fun K f=>?_)
        go_simp
        refine f.out _ _ ?_;clear f K fc ff aT;have aC:=sf2 (E:=3) (.bool ah) (.slice L ai aj) M (by decide);replace hX:=hX.soft aC;replace hP:=hP.soft aC;replace aB:=aB.soft aC;replace y:=Hid.mk (fun h=>(y.out h).soft aC);replace o:=kp2 (A:=bf) (.bool ah) (.slice L ai aj) o (by omega);replace BX:=ot2 (A:=bf) (.bool ah) (.slice L ai aj) BX (by omega);replace U:=ot2 (A:=bf) (.bool ah) (.slice L ai aj) U (by omega);replace V:=ot2 (A:=bf) (.bool ah) (.slice L ai aj) V (by omega);replace M:=bl2 (.bool ah) (.slice L ai aj) M;clear aC;generalize ((bA.setCell ⟨bf,0,none⟩ (.bool ah)).setCell ⟨bf,1,none⟩ (.slice L ai aj))=wz at *;have e1:F k+j+1=F k+(j+1):=by omega
        rw[e1] at aB;clear e1 hf
        go_wp2_with fail
        go_roundg (2 - j.toNat)
        case rel=>exact⟨j+1,F k+j,k,_,_,_,_,_,_,_,_,_,_,_,_,_,_,_,_,_,_,_,_,_,by go_num,rfl,by omega,by omega,by omega,M,aB,BX,hX,U,hP,V,y,bj,fun _=>⟨by omega,by omega,bv.out trivial⟩,o⟩
        case measure=>omega
     ·have cl:j=2:=by omega
      subst cl;have bj:=Hid.mk (Srch.next bc.out)
      go_wp2_with fail
      go_roundg (n.toNat+1 - k.toNat)
      case rel=>exact⟨k+1,P,Q,D,_,_,_,_,_,_,_,_,_,_,_,_,_,_,_,_,by go_num,rfl,by omega,by omega,by omega,BX,hX,U,hP,V,y,bj,be,o⟩
      case measure=>omega
  ·have cu:k=n+1:=by omega
   have bj:Hid (Srch r.v F P Q (n+1) 0):=by unfold Hid;rw[← cu];exact bc.out
   obtain⟨q0,q1,fP⟩:=be.out trivial;have cw:Hid (Fit P):=fP.fit (by decide);have cx:Hid (Fit Q):=Ft.fit (m:=4) (by unfold Ft;omega) (by decide)
   clear fP;have pc:=U.cell;have pl:=U.lt
   go_wp2_with fail
   refine(text_ref P _ _ hP cw.out).mono ?_;rintro e cM ⟨rfl,cm⟩
   go_wp2_with fail
   refine(of_any Q _ (by omega) (by omega)).mono ?_;rintro e cN ⟨cO,rfl,cn,co⟩;obtain⟨cP,cz,cQ,cR,rfl⟩:=cn.shape'
   go_wp2_with fail
   refine(text_ref Q _ _ cn cx.out).mono ?_;rintro e cS ⟨rfl,cp⟩;generalize ar:strOf (Go.Lib.itoa P)=S1 at *;generalize aD:strOf (Go.Lib.itoa Q)=S2 at *;replace ar:=Hid.mk ar;replace aD:=Hid.mk aD
   go_wp2_with fail
   refine bodyPost_ret (v:=.tuple #[.string S1,.string S2,.int .i64 0]) (by simp[results,Tryz.results13,go_sem]) rfl ?_;exact⟨P,Q,bj.out,by rw[ar.out,aD.out],((o.trans' cm).trans' co).trans' cp⟩
end Go.Proofs.YtjahbjjekednfaaGreatDoor
