import Derived.Test.YtjahbjjekednfaaGreatDoorR11
namespace Go.Proofs.YtjahbjjekednfaaGreatDoor
set_option maxHeartbeats 6400000
set_option maxRecDepth 100000
open Go.RowKit
theorem worked_mul (a b:Qn) (m:Nat) (D:Int) (u v:Value) (w:World) (ha:NN w u a) (hb:NN w v b) (hm:m≤10000000) (V:QF m a) (fb:QF m b) (hD:D=if 1<a.d then a.d else b.d) (D0:0≤D) (D2:D≤1000000) (bv:a.r*b.r≠0) :
  Calls Tryz.prog 76 #[u,.int .u8 42,v] w (RetNN w (qreduce ((a.p*b.p)+((a.q*b.q)*D)) ((a.p*b.q)+(a.q*b.p)) (a.r*b.r) D)):=by
 have D1:D≤9223372036854775807:=by omega
 have fD:Ft 7 D:=by unfold Ft;omega
 have aQ:=Hid.mk (fun w' (h1:NN w' u a) (h2:NN w' v b)=>root_ref a b u v w' h1 h2);rw[← hD] at aQ;clear hD;obtain⟨b1,au,n1,c1,b2,av,n2,c2,b3,aB,n3,c3,rfl,aq,al,aD⟩:=id ha;obtain⟨b4,aw,n4,c4,b5,ax,n5,c5,b6,aC,n6,c6,rfl,am,an,aE⟩:=id hb;have ak:Kp w (((w.alloc (.cells #[.bool b1,.slice au n1 c1,.bool b2,.slice av n2 c2,.bool b3,.slice aB n3 c3,.int .i64 a.d] 54)).alloc (.cells #[.bool b4,.slice aw n4 c4,.bool b5,.slice ax n5 c5,.bool b6,.slice aC n6 c6,.int .i64 b.d] 54)).alloc (.cells #[.bool false,.slice none 0 0,.bool false,.slice none 0 0,.bool false,.slice none 0 0,.int .i64 0] 54)):=(Kp.alloc' (Kp.alloc' (Kp.alloc' (Below.refl w.heap.size w) (.cells #[.bool b1,.slice au n1 c1,.bool b2,.slice av n2 c2,.bool b3,.slice aB n3 c3,.int .i64 a.d] 54)) (.cells #[.bool b4,.slice aw n4 c4,.bool b5,.slice ax n5 c5,.bool b6,.slice aC n6 c6,.int .i64 b.d] 54)) (.cells #[.bool false,.slice none 0 0,.bool false,.slice none 0 0,.bool false,.slice none 0 0,.int .i64 0] 54));have BA:Blk (((w.alloc (.cells #[.bool b1,.slice au n1 c1,.bool b2,.slice av n2 c2,.bool b3,.slice aB n3 c3,.int .i64 a.d] 54)).alloc (.cells #[.bool b4,.slice aw n4 c4,.bool b5,.slice ax n5 c5,.bool b6,.slice aC n6 c6,.int .i64 b.d] 54)).alloc (.cells #[.bool false,.slice none 0 0,.bool false,.slice none 0 0,.bool false,.slice none 0 0,.int .i64 0] 54)) (w.heap.size) #[.bool b1,.slice au n1 c1,.bool b2,.slice av n2 c2,.bool b3,.slice aB n3 c3,.int .i64 a.d] 54:=(Blk.alloc (Blk.alloc (Blk.new w _ _) (.cells #[.bool b4,.slice aw n4 c4,.bool b5,.slice ax n5 c5,.bool b6,.slice aC n6 c6,.int .i64 b.d] 54)) (.cells #[.bool false,.slice none 0 0,.bool false,.slice none 0 0,.bool false,.slice none 0 0,.int .i64 0] 54))
 have BB:Blk (((w.alloc (.cells #[.bool b1,.slice au n1 c1,.bool b2,.slice av n2 c2,.bool b3,.slice aB n3 c3,.int .i64 a.d] 54)).alloc (.cells #[.bool b4,.slice aw n4 c4,.bool b5,.slice ax n5 c5,.bool b6,.slice aC n6 c6,.int .i64 b.d] 54)).alloc (.cells #[.bool false,.slice none 0 0,.bool false,.slice none 0 0,.bool false,.slice none 0 0,.int .i64 0] 54)) (w.heap.size+1) #[.bool b4,.slice aw n4 c4,.bool b5,.slice ax n5 c5,.bool b6,.slice aC n6 c6,.int .i64 b.d] 54:=(Blk.alloc (Blk.at (Blk.new (w.alloc (.cells #[.bool b1,.slice au n1 c1,.bool b2,.slice av n2 c2,.bool b3,.slice aB n3 c3,.int .i64 a.d] 54)) _ _) (by simp)) (.cells #[.bool false,.slice none 0 0,.bool false,.slice none 0 0,.bool false,.slice none 0 0,.int .i64 0] 54));have BE:Blk (((w.alloc (.cells #[.bool b1,.slice au n1 c1,.bool b2,.slice av n2 c2,.bool b3,.slice aB n3 c3,.int .i64 a.d] 54)).alloc (.cells #[.bool b4,.slice aw n4 c4,.bool b5,.slice ax n5 c5,.bool b6,.slice aC n6 c6,.int .i64 b.d] 54)).alloc (.cells #[.bool false,.slice none 0 0,.bool false,.slice none 0 0,.bool false,.slice none 0 0,.int .i64 0] 54)) (w.heap.size+1+1) #[.bool false,.slice none 0 0,.bool false,.slice none 0 0,.bool false,.slice none 0 0,.int .i64 0] 54:=(Blk.at (Blk.new ((w.alloc (.cells #[.bool b1,.slice au n1 c1,.bool b2,.slice av n2 c2,.bool b3,.slice aB n3 c3,.int .i64 a.d] 54)).alloc (.cells #[.bool b4,.slice aw n4 c4,.bool b5,.slice ax n5 c5,.bool b6,.slice aC n6 c6,.int .i64 b.d] 54)) _ _) (by simp));replace aq:=aq.keep ak;replace al:=al.keep ak;replace aD:=aD.keep ak;replace am:=am.keep ak;replace an:=an.keep ak;replace aE:=aE.keep ak;replace ha:=ha.keep ak;replace hb:=hb.keep ak;have l1:=BA.lt;have l2:=BB.lt;have l3:=BE.lt
 go_enter Tryz.func76,Tryz.ntmps76
 go_wp2_with fail
 refine(aQ.out _ ha hb).mono ?_;rintro e w0 ⟨rfl,ao⟩;replace aq:=aq.keep ao;replace al:=al.keep ao;replace aD:=aD.keep ao;replace am:=am.keep ao;replace an:=an.keep ao;replace aE:=aE.keep ao;replace BA:=BA.keep ao;replace BB:=BB.keep ao;replace BE:=BE.keep ao;replace ha:=ha.keep ao;replace hb:=hb.keep ao;replace ak:=ak.trans' ao;have bR:=ao.size;clear aQ;generalize (((w.alloc (.cells #[.bool b1,.slice au n1 c1,.bool b2,.slice av n2 c2,.bool b3,.slice aB n3 c3,.int .i64 a.d] 54)).alloc (.cells #[.bool b4,.slice aw n4 c4,.bool b5,.slice ax n5 c5,.bool b6,.slice aC n6 c6,.int .i64 b.d] 54)).alloc (.cells #[.bool false,.slice none 0 0,.bool false,.slice none 0 0,.bool false,.slice none 0 0,.int .i64 0] 54))=wz at *
 go_wp2_with fail
 go_cut [10] from 69 to 82 (fun p' wx=>∃(bg:Nat) (bb:Bool) (aa:Option Addr) (nn cc:Nat),p'=.pointer (some ⟨bg,0,none⟩)∧Blk wx bg #[.bool bb,.slice aa nn cc] 52∧IN wx (.agg #[.bool bb,.slice aa nn cc]) ((a.p*b.p)+((a.q*b.q)*D))∧Kp w0 wx∧w0.heap.size≤bg)
 case first =>
  refine wp_region_l (S:=fun w'=>Kp w0 w') (by kernel_rfl) (Kp.drew' (Below.refl _ _)) (fun s=>?_);generalize w0.drew=wd at *;refine wpAnyL_tk (i:=0) (k:=1) (v:=.pointer (some ⟨w.heap.size,0,none⟩)) rfl ?_ s ?_
  ·intro w' z;go_simp
  simp only[sq];refine wpAnyL_tk (i:=1) (k:=4) (v:=.agg #[.bool b1,.slice au n1 c1]) rfl ?_ s ?_
  ·intro w' z;have hc:=((BA).keep z).cell;go_simp
  simp only[sq];refine wpAnyL_tk (i:=2) (k:=3) (v:=.pointer (some ⟨w.heap.size+1,0,none⟩)) rfl ?_ s ?_
  ·intro w' z;go_simp
  simp only[sq];refine wpAnyL_tk (i:=3) (k:=4) (v:=.agg #[.bool b4,.slice aw n4 c4]) rfl ?_ s ?_
  ·intro w' z;have hc:=((BB).keep z).cell;go_simp
  simp only[sq];refine wpAnyL_tk (i:=5) (k:=6) (v:=.pointer (some ⟨w.heap.size,2,none⟩)) rfl ?_ s ?_
  ·intro w' z;go_simp
  simp only[sq];refine wpAnyL_tk (i:=6) (k:=9) (v:=.agg #[.bool b2,.slice av n2 c2]) rfl ?_ s ?_
  ·intro w' z;have hc:=((BA).keep z).cell;go_simp
  simp only[sq];refine wpAnyL_tk (i:=7) (k:=8) (v:=.pointer (some ⟨w.heap.size+1,2,none⟩)) rfl ?_ s ?_
  ·intro w' z;go_simp
  simp only[sq];refine wpAnyL_tk (i:=8) (k:=9) (v:=.agg #[.bool b5,.slice ax n5 c5]) rfl ?_ s ?_
  ·intro w' z;have hc:=((BB).keep z).cell;go_simp
  simp only[sq];refine wpAnyL_tk (i:=10) (k:=11) (v:=.int .i64 D) rfl ?_ s ?_
  ·intro w' z;go_simp
  simp only[sq];refine wpAnyL_ready (rs:=[4,14]) (by kernel_rfl) (by simp) ?_;refine AllReadyL.cons rfl (fun K g=>?_) ?_
  ·go_simp
   refine(rtimes_any a.p b.p _ _ _ (aq.keep s) (am.keep s) (Ft.fit V.1 (by omega)) (Ft.fit fb.1 (by omega))).mono ?_;rintro e W ⟨a6,rfl,c,X⟩;obtain⟨a7,aR,a8,a9,rfl⟩:=c.shape'
   go_wp2_with fail
   refine g.out _ _ (s.trans' X) (fun P=>?_);clear g K;refine wpAnyL_ready (rs:=[9,14]) (by kernel_rfl) (by simp) ?_;refine AllReadyL.cons rfl (fun K g=>?_) ?_
   ·go_simp
    refine(rtimes_any a.q b.q _ _ _ (al.keep P) (an.keep P) (Ft.fit V.2.1 (by omega)) (Ft.fit fb.2.1 (by omega))).mono ?_;rintro e M ⟨aJ,rfl,h,o⟩;obtain⟨aK,ay,aL,aM,rfl⟩:=h.shape';replace c:=c.keep o
    go_wp2_with fail
    refine g.out _ _ (P.trans' o) (fun N=>?_);clear g K;refine wpAnyL_ready (rs:=[11,14]) (by kernel_rfl) (by simp) ?_;refine AllReadyL.cons rfl (fun K g=>?_) ?_
    ·go_simp
     refine(of_any D _ D0 D1).mono ?_;rintro e af ⟨ba,rfl,I,x⟩;obtain⟨bc,aS,be,bf,rfl⟩:=I.shape';replace c:=c.keep x;replace h:=h.keep x
     go_wp2_with fail
     refine g.out _ _ (N.trans' x) (fun Z=>?_);clear g K;refine wpAnyL_ready (rs:=[12,14]) (by kernel_rfl) (by simp) ?_;refine AllReadyL.cons rfl (fun K g=>?_) ?_
     ·go_simp
      refine(rtimes_any (a.q*b.q) D _ _ _ h I (Ft.fit (Ft.mono (n:=2*m+0) (Ft.mul V.2.1 fb.2.1) (by omega)) (by omega)) (Ft.fit fD (by omega))).mono ?_;rintro e ag ⟨a2,rfl,B,y⟩;obtain⟨a3,aF,a4,a5,rfl⟩:=B.shape';replace c:=c.keep y
      go_wp2_with fail
      refine g.out _ _ (Z.trans' y) (fun Y=>?_);clear g K;refine wpAnyL_ready (rs:=[13,14]) (by kernel_rfl) (by simp) ?_;refine AllReadyL.cons rfl (fun K g=>?_) ?_
      ·go_simp
       refine(rplus_any (a.p*b.p) ((a.q*b.q)*D) _ _ _ c B (Ft.fit (Ft.mono (n:=2*m+0) (Ft.mul V.1 fb.1) (by omega)) (by omega)) (Ft.fit (Ft.mono (n:=2*m+7) (Ft.mul (Ft.mono (n:=2*m+0) (Ft.mul V.2.1 fb.2.1) (by omega)) fD) (by omega)) (by omega))).mono ?_;rintro e ah ⟨aN,rfl,t,G⟩;obtain⟨C,l,E,F,rfl⟩:=t.shape'
       go_wp2_with fail
       refine g.out _ _ (Y.trans' G) (fun ar=>?_);clear g K;refine wpAnyL_on (i:=14) rfl (fun K g=>?_)
       go_simp
       refine g.out _ _ (Kp.alloc' ar (.cells #[.bool false,.slice none 0 0] 52)) (fun az=>?_);clear g K;have f:=Blk.new ah #[.bool false,.slice none 0 0] 52;have O:w0.heap.size≤ah.heap.size:=ar.size;replace t:=t.keep (kp_alloc ah (.cells #[.bool false,.slice none 0 0] 52))
       try simp only[sq]
       generalize aO:ah.heap.size=ac at *;generalize ah.alloc (.cells #[.bool false,.slice none 0 0] 52)=aP at *;have ad:=f.cell;have ai:=f.frozen;have aj:=f.lt;refine wpAnyL_last (i:=15) rfl (by kernel_rfl) (by kernel_rfl) (by kernel_rfl) (fun K g=>?_)
       go_simp
       refine g.out _ _ ?_;clear g K
       go_wp2_with fail
       go_meet
       case rel=>exact⟨ac,_,_,_,_,rfl,(bl2 (.bool C) (.slice l E F) f),t.soft (sf2 (.bool C) (.slice l E F) f (by decide)),(kp2 (A:=ac) (.bool C) (.slice l E F) az O),O⟩
      refine AllReadyL.cons rfl (fun K g=>?_) ?_
      ·go_simp
       refine g.out _ _ (Kp.alloc' Y (.cells #[.bool false,.slice none 0 0] 52)) (fun ar=>?_);clear g K;have f:=Blk.new ag #[.bool false,.slice none 0 0] 52;have O:w0.heap.size≤ag.heap.size:=Y.size;replace c:=c.keep (kp_alloc ag (.cells #[.bool false,.slice none 0 0] 52));replace B:=B.keep (kp_alloc ag (.cells #[.bool false,.slice none 0 0] 52))
       try simp only[sq]
       generalize aO:ag.heap.size=ac at *;generalize ag.alloc (.cells #[.bool false,.slice none 0 0] 52)=aP at *;refine wpAnyL_on (i:=13) rfl (fun K g=>?_)
       go_simp
       refine(rplus_any (a.p*b.p) ((a.q*b.q)*D) _ _ _ c B (Ft.fit (Ft.mono (n:=2*m+0) (Ft.mul V.1 fb.1) (by omega)) (by omega)) (Ft.fit (Ft.mono (n:=2*m+7) (Ft.mul (Ft.mono (n:=2*m+0) (Ft.mul V.2.1 fb.2.1) (by omega)) fD) (by omega)) (by omega))).mono ?_;rintro e ah ⟨aN,rfl,t,G⟩;obtain⟨C,l,E,F,rfl⟩:=t.shape';replace f:=f.keep G
       go_wp2_with fail
       refine g.out _ _ (ar.trans' G) (fun az=>?_);clear g K;have ad:=f.cell;have ai:=f.frozen;have aj:=f.lt;refine wpAnyL_last (i:=15) rfl (by kernel_rfl) (by kernel_rfl) (by kernel_rfl) (fun K g=>?_)
       go_simp
       refine g.out _ _ ?_;clear g K
       go_wp2_with fail
       go_meet
       case rel=>exact⟨ac,_,_,_,_,rfl,(bl2 (.bool C) (.slice l E F) f),t.soft (sf2 (.bool C) (.slice l E F) f (by decide)),(kp2 (A:=ac) (.bool C) (.slice l E F) az O),O⟩
      exact AllReadyL.nil
     refine AllReadyL.cons rfl (fun K g=>?_) ?_
     ·go_simp
      refine g.out _ _ (Kp.alloc' Z (.cells #[.bool false,.slice none 0 0] 52)) (fun Y=>?_);clear g K;have f:=Blk.new af #[.bool false,.slice none 0 0] 52;have O:w0.heap.size≤af.heap.size:=Z.size;replace c:=c.keep (kp_alloc af (.cells #[.bool false,.slice none 0 0] 52));replace h:=h.keep (kp_alloc af (.cells #[.bool false,.slice none 0 0] 52));replace I:=I.keep (kp_alloc af (.cells #[.bool false,.slice none 0 0] 52))
      try simp only[sq]
      generalize aO:af.heap.size=ac at *;generalize af.alloc (.cells #[.bool false,.slice none 0 0] 52)=aP at *;refine wpAnyL_on (i:=12) rfl (fun K g=>?_)
      go_simp
      refine(rtimes_any (a.q*b.q) D _ _ _ h I (Ft.fit (Ft.mono (n:=2*m+0) (Ft.mul V.2.1 fb.2.1) (by omega)) (by omega)) (Ft.fit fD (by omega))).mono ?_;rintro e ag ⟨a2,rfl,B,y⟩;obtain⟨a3,aF,a4,a5,rfl⟩:=B.shape';replace c:=c.keep y;replace f:=f.keep y
      go_wp2_with fail
      refine g.out _ _ (Y.trans' y) (fun ar=>?_);clear g K;refine wpAnyL_on (i:=13) rfl (fun K g=>?_)
      go_simp
      refine(rplus_any (a.p*b.p) ((a.q*b.q)*D) _ _ _ c B (Ft.fit (Ft.mono (n:=2*m+0) (Ft.mul V.1 fb.1) (by omega)) (by omega)) (Ft.fit (Ft.mono (n:=2*m+7) (Ft.mul (Ft.mono (n:=2*m+0) (Ft.mul V.2.1 fb.2.1) (by omega)) fD) (by omega)) (by omega))).mono ?_;rintro e ah ⟨aN,rfl,t,G⟩;obtain⟨C,l,E,F,rfl⟩:=t.shape';replace f:=f.keep G
      go_wp2_with fail
      refine g.out _ _ (ar.trans' G) (fun az=>?_);clear g K;have ad:=f.cell;have ai:=f.frozen;have aj:=f.lt;refine wpAnyL_last (i:=15) rfl (by kernel_rfl) (by kernel_rfl) (by kernel_rfl) (fun K g=>?_)
      go_simp
      refine g.out _ _ ?_;clear g K
      go_wp2_with fail
      go_meet
      case rel=>exact⟨ac,_,_,_,_,rfl,(bl2 (.bool C) (.slice l E F) f),t.soft (sf2 (.bool C) (.slice l E F) f (by decide)),(kp2 (A:=ac) (.bool C) (.slice l E F) az O),O⟩
     exact AllReadyL.nil
    refine AllReadyL.cons rfl (fun K g=>?_) ?_
    ·go_simp
     refine g.out _ _ (Kp.alloc' N (.cells #[.bool false,.slice none 0 0] 52)) (fun Z=>?_);clear g K;have f:=Blk.new M #[.bool false,.slice none 0 0] 52;have O:w0.heap.size≤M.heap.size:=N.size;replace c:=c.keep (kp_alloc M (.cells #[.bool false,.slice none 0 0] 52));replace h:=h.keep (kp_alloc M (.cells #[.bool false,.slice none 0 0] 52))
     try simp only[sq]
     generalize aO:M.heap.size=ac at *;generalize M.alloc (.cells #[.bool false,.slice none 0 0] 52)=aP at *;refine wpAnyL_on (i:=11) rfl (fun K g=>?_)
     go_simp
     refine(of_any D _ D0 D1).mono ?_;rintro e af ⟨ba,rfl,I,x⟩;obtain⟨bc,aS,be,bf,rfl⟩:=I.shape';replace c:=c.keep x;replace h:=h.keep x;replace f:=f.keep x
     go_wp2_with fail
     refine g.out _ _ (Z.trans' x) (fun Y=>?_);clear g K;refine wpAnyL_on (i:=12) rfl (fun K g=>?_)
     go_simp
     refine(rtimes_any (a.q*b.q) D _ _ _ h I (Ft.fit (Ft.mono (n:=2*m+0) (Ft.mul V.2.1 fb.2.1) (by omega)) (by omega)) (Ft.fit fD (by omega))).mono ?_;rintro e ag ⟨a2,rfl,B,y⟩;obtain⟨a3,aF,a4,a5,rfl⟩:=B.shape';replace c:=c.keep y;replace f:=f.keep y
     go_wp2_with fail
     refine g.out _ _ (Y.trans' y) (fun ar=>?_);clear g K;refine wpAnyL_on (i:=13) rfl (fun K g=>?_)
     go_simp
     refine(rplus_any (a.p*b.p) ((a.q*b.q)*D) _ _ _ c B (Ft.fit (Ft.mono (n:=2*m+0) (Ft.mul V.1 fb.1) (by omega)) (by omega)) (Ft.fit (Ft.mono (n:=2*m+7) (Ft.mul (Ft.mono (n:=2*m+0) (Ft.mul V.2.1 fb.2.1) (by omega)) fD) (by omega)) (by omega))).mono ?_;rintro e ah ⟨aN,rfl,t,G⟩;obtain⟨C,l,E,F,rfl⟩:=t.shape';replace f:=f.keep G
     go_wp2_with fail
     refine g.out _ _ (ar.trans' G) (fun az=>?_);clear g K;have ad:=f.cell;have ai:=f.frozen;have aj:=f.lt;refine wpAnyL_last (i:=15) rfl (by kernel_rfl) (by kernel_rfl) (by kernel_rfl) (fun K g=>?_)
     go_simp
     refine g.out _ _ ?_;clear g K
     go_wp2_with fail
     go_meet
     case rel=>exact⟨ac,_,_,_,_,rfl,(bl2 (.bool C) (.slice l E F) f),t.soft (sf2 (.bool C) (.slice l E F) f (by decide)),(kp2 (A:=ac) (.bool C) (.slice l E F) az O),O⟩
    exact AllReadyL.nil
   refine AllReadyL.cons rfl (fun K g=>?_) ?_
   ·go_simp
    refine g.out _ _ (Kp.alloc' P (.cells #[.bool false,.slice none 0 0] 52)) (fun N=>?_);clear g K;have f:=Blk.new W #[.bool false,.slice none 0 0] 52;have O:w0.heap.size≤W.heap.size:=P.size;replace c:=c.keep (kp_alloc W (.cells #[.bool false,.slice none 0 0] 52))
    try simp only[sq]
    generalize aO:W.heap.size=ac at *;generalize W.alloc (.cells #[.bool false,.slice none 0 0] 52)=aP at *;refine wpAnyL_on (i:=9) rfl (fun K g=>?_)
    go_simp
    refine(rtimes_any a.q b.q _ _ _ (al.keep N) (an.keep N) (Ft.fit V.2.1 (by omega)) (Ft.fit fb.2.1 (by omega))).mono ?_;rintro e M ⟨aJ,rfl,h,o⟩;obtain⟨aK,ay,aL,aM,rfl⟩:=h.shape';replace c:=c.keep o;replace f:=f.keep o
    go_wp2_with fail
    refine g.out _ _ (N.trans' o) (fun Z=>?_);clear g K;refine wpAnyL_on (i:=11) rfl (fun K g=>?_)
    go_simp
    refine(of_any D _ D0 D1).mono ?_;rintro e af ⟨ba,rfl,I,x⟩;obtain⟨bc,aS,be,bf,rfl⟩:=I.shape';replace c:=c.keep x;replace f:=f.keep x;replace h:=h.keep x
    go_wp2_with fail
    refine g.out _ _ (Z.trans' x) (fun Y=>?_);clear g K;refine wpAnyL_on (i:=12) rfl (fun K g=>?_)
    go_simp
    refine(rtimes_any (a.q*b.q) D _ _ _ h I (Ft.fit (Ft.mono (n:=2*m+0) (Ft.mul V.2.1 fb.2.1) (by omega)) (by omega)) (Ft.fit fD (by omega))).mono ?_;rintro e ag ⟨a2,rfl,B,y⟩;obtain⟨a3,aF,a4,a5,rfl⟩:=B.shape';replace c:=c.keep y;replace f:=f.keep y
    go_wp2_with fail
    refine g.out _ _ (Y.trans' y) (fun ar=>?_);clear g K;refine wpAnyL_on (i:=13) rfl (fun K g=>?_)
    go_simp
    refine(rplus_any (a.p*b.p) ((a.q*b.q)*D) _ _ _ c B (Ft.fit (Ft.mono (n:=2*m+0) (Ft.mul V.1 fb.1) (by omega)) (by omega)) (Ft.fit (Ft.mono (n:=2*m+7) (Ft.mul (Ft.mono (n:=2*m+0) (Ft.mul V.2.1 fb.2.1) (by omega)) fD) (by omega)) (by omega))).mono ?_;rintro e ah ⟨aN,rfl,t,G⟩;obtain⟨C,l,E,F,rfl⟩:=t.shape';replace f:=f.keep G
    go_wp2_with fail
    refine g.out _ _ (ar.trans' G) (fun az=>?_);clear g K;have ad:=f.cell;have ai:=f.frozen;have aj:=f.lt;refine wpAnyL_last (i:=15) rfl (by kernel_rfl) (by kernel_rfl) (by kernel_rfl) (fun K g=>?_)
    go_simp
    refine g.out _ _ ?_;clear g K
    go_wp2_with fail
    go_meet
    case rel=>exact⟨ac,_,_,_,_,rfl,(bl2 (.bool C) (.slice l E F) f),t.soft (sf2 (.bool C) (.slice l E F) f (by decide)),(kp2 (A:=ac) (.bool C) (.slice l E F) az O),O⟩
   exact AllReadyL.nil
  refine AllReadyL.cons rfl (fun K g=>?_) ?_
  ·go_simp
   refine g.out _ _ (Kp.alloc' s (.cells #[.bool false,.slice none 0 0] 52)) (fun P=>?_);clear g K;have f:=Blk.new wd #[.bool false,.slice none 0 0] 52;have O:w0.heap.size≤wd.heap.size:=s.size
   try simp only[sq]
   generalize aO:wd.heap.size=ac at *;generalize wd.alloc (.cells #[.bool false,.slice none 0 0] 52)=aP at *;refine wpAnyL_on (i:=4) rfl (fun K g=>?_)
   go_simp
   refine(rtimes_any a.p b.p _ _ _ (aq.keep P) (am.keep P) (Ft.fit V.1 (by omega)) (Ft.fit fb.1 (by omega))).mono ?_;rintro e W ⟨a6,rfl,c,X⟩;obtain⟨a7,aR,a8,a9,rfl⟩:=c.shape';replace f:=f.keep X
   go_wp2_with fail
   refine g.out _ _ (P.trans' X) (fun N=>?_);clear g K;refine wpAnyL_on (i:=9) rfl (fun K g=>?_)
   go_simp
   refine(rtimes_any a.q b.q _ _ _ (al.keep N) (an.keep N) (Ft.fit V.2.1 (by omega)) (Ft.fit fb.2.1 (by omega))).mono ?_;rintro e M ⟨aJ,rfl,h,o⟩;obtain⟨aK,ay,aL,aM,rfl⟩:=h.shape';replace f:=f.keep o;replace c:=c.keep o
   go_wp2_with fail
   refine g.out _ _ (N.trans' o) (fun Z=>?_);clear g K;refine wpAnyL_on (i:=11) rfl (fun K g=>?_)
   go_simp
   refine(of_any D _ D0 D1).mono ?_;rintro e af ⟨ba,rfl,I,x⟩;obtain⟨bc,aS,be,bf,rfl⟩:=I.shape';replace f:=f.keep x;replace c:=c.keep x;replace h:=h.keep x
   go_wp2_with fail
   refine g.out _ _ (Z.trans' x) (fun Y=>?_);clear g K;refine wpAnyL_on (i:=12) rfl (fun K g=>?_)
   go_simp
   refine(rtimes_any (a.q*b.q) D _ _ _ h I (Ft.fit (Ft.mono (n:=2*m+0) (Ft.mul V.2.1 fb.2.1) (by omega)) (by omega)) (Ft.fit fD (by omega))).mono ?_;rintro e ag ⟨a2,rfl,B,y⟩;obtain⟨a3,aF,a4,a5,rfl⟩:=B.shape';replace f:=f.keep y;replace c:=c.keep y
   go_wp2_with fail
   refine g.out _ _ (Y.trans' y) (fun ar=>?_);clear g K;refine wpAnyL_on (i:=13) rfl (fun K g=>?_)
   go_simp
   refine(rplus_any (a.p*b.p) ((a.q*b.q)*D) _ _ _ c B (Ft.fit (Ft.mono (n:=2*m+0) (Ft.mul V.1 fb.1) (by omega)) (by omega)) (Ft.fit (Ft.mono (n:=2*m+7) (Ft.mul (Ft.mono (n:=2*m+0) (Ft.mul V.2.1 fb.2.1) (by omega)) fD) (by omega)) (by omega))).mono ?_;rintro e ah ⟨aN,rfl,t,G⟩;obtain⟨C,l,E,F,rfl⟩:=t.shape';replace f:=f.keep G
   go_wp2_with fail
   refine g.out _ _ (ar.trans' G) (fun az=>?_);clear g K;have ad:=f.cell;have ai:=f.frozen;have aj:=f.lt;refine wpAnyL_last (i:=15) rfl (by kernel_rfl) (by kernel_rfl) (by kernel_rfl) (fun K g=>?_)
   go_simp
   refine g.out _ _ ?_;clear g K
   go_wp2_with fail
   go_meet
   case rel=>exact⟨ac,_,_,_,_,rfl,(bl2 (.bool C) (.slice l E F) f),t.soft (sf2 (.bool C) (.slice l E F) f (by decide)),(kp2 (A:=ac) (.bool C) (.slice l E F) az O),O⟩
  exact AllReadyL.nil
 case rest =>
  obtain⟨bI,bw,bq,bx,bz,rfl,BP,hP,J,bA⟩:=hcut;replace aq:=aq.keep J;replace al:=al.keep J;replace aD:=aD.keep J;replace am:=am.keep J;replace an:=an.keep J;replace aE:=aE.keep J;replace BA:=BA.keep J;replace BB:=BB.keep J;replace BE:=BE.keep J;replace ak:=ak.trans' J;have bB:=J.size;clear J;generalize wc=w1 at *
  go_wp2_with fail
  go_cut [11] from 83 to 93 (fun p' wx=>∃(bg:Nat) (bb:Bool) (aa:Option Addr) (nn cc:Nat),p'=.pointer (some ⟨bg,0,none⟩)∧Blk wx bg #[.bool bb,.slice aa nn cc] 52∧IN wx (.agg #[.bool bb,.slice aa nn cc]) ((a.p*b.q)+(a.q*b.p))∧Kp w1 wx∧w1.heap.size≤bg)
  case first =>
   refine wp_region_l (S:=fun w'=>Kp w1 w') (by kernel_rfl) (Kp.drew' (Below.refl _ _)) (fun s=>?_);generalize w1.drew=wd at *;refine wpAnyL_tk (i:=0) (k:=1) (v:=.pointer (some ⟨w.heap.size,0,none⟩)) rfl ?_ s ?_
   ·intro w' z;go_simp
   simp only[sq];refine wpAnyL_tk (i:=1) (k:=4) (v:=.agg #[.bool b1,.slice au n1 c1]) rfl ?_ s ?_
   ·intro w' z;have hc:=((BA).keep z).cell;go_simp
   simp only[sq];refine wpAnyL_tk (i:=2) (k:=3) (v:=.pointer (some ⟨w.heap.size+1,2,none⟩)) rfl ?_ s ?_
   ·intro w' z;go_simp
   simp only[sq];refine wpAnyL_tk (i:=3) (k:=4) (v:=.agg #[.bool b5,.slice ax n5 c5]) rfl ?_ s ?_
   ·intro w' z;have hc:=((BB).keep z).cell;go_simp
   simp only[sq];refine wpAnyL_tk (i:=5) (k:=6) (v:=.pointer (some ⟨w.heap.size,2,none⟩)) rfl ?_ s ?_
   ·intro w' z;go_simp
   simp only[sq];refine wpAnyL_tk (i:=6) (k:=9) (v:=.agg #[.bool b2,.slice av n2 c2]) rfl ?_ s ?_
   ·intro w' z;have hc:=((BA).keep z).cell;go_simp
   simp only[sq];refine wpAnyL_tk (i:=7) (k:=8) (v:=.pointer (some ⟨w.heap.size+1,0,none⟩)) rfl ?_ s ?_
   ·intro w' z;go_simp
   simp only[sq];refine wpAnyL_tk (i:=8) (k:=9) (v:=.agg #[.bool b4,.slice aw n4 c4]) rfl ?_ s ?_
   ·intro w' z;have hc:=((BB).keep z).cell;go_simp
   simp only[sq];refine wpAnyL_ready (rs:=[4,11]) (by kernel_rfl) (by simp) ?_;refine AllReadyL.cons rfl (fun K g=>?_) ?_
   ·go_simp
    refine(rtimes_any a.p b.q _ _ _ (aq.keep s) (an.keep s) (Ft.fit V.1 (by omega)) (Ft.fit fb.2.1 (by omega))).mono ?_;rintro e W ⟨a6,rfl,c,X⟩;obtain⟨a7,aR,a8,a9,rfl⟩:=c.shape'
    go_wp2_with fail
    refine g.out _ _ (s.trans' X) (fun P=>?_);clear g K;refine wpAnyL_ready (rs:=[9,11]) (by kernel_rfl) (by simp) ?_;refine AllReadyL.cons rfl (fun K g=>?_) ?_
    ·go_simp
     refine(rtimes_any a.q b.p _ _ _ (al.keep P) (am.keep P) (Ft.fit V.2.1 (by omega)) (Ft.fit fb.1 (by omega))).mono ?_;rintro e M ⟨aJ,rfl,h,o⟩;obtain⟨aK,ay,aL,aM,rfl⟩:=h.shape';replace c:=c.keep o
     go_wp2_with fail
     refine g.out _ _ (P.trans' o) (fun N=>?_);clear g K;refine wpAnyL_ready (rs:=[10,11]) (by kernel_rfl) (by simp) ?_;refine AllReadyL.cons rfl (fun K g=>?_) ?_
     ·go_simp
      refine(rplus_any (a.p*b.q) (a.q*b.p) _ _ _ c h (Ft.fit (Ft.mono (n:=2*m+0) (Ft.mul V.1 fb.2.1) (by omega)) (by omega)) (Ft.fit (Ft.mono (n:=2*m+0) (Ft.mul V.2.1 fb.1) (by omega)) (by omega))).mono ?_;rintro e ap ⟨bh,rfl,L,U⟩;obtain⟨Q,H,R,T,rfl⟩:=L.shape'
      go_wp2_with fail
      refine g.out _ _ (N.trans' U) (fun Z=>?_);clear g K;refine wpAnyL_on (i:=11) rfl (fun K g=>?_)
      go_simp
      refine g.out _ _ (Kp.alloc' Z (.cells #[.bool false,.slice none 0 0] 52)) (fun Y=>?_);clear g K;have j:=Blk.new ap #[.bool false,.slice none 0 0] 52;have ae:w1.heap.size≤ap.heap.size:=Z.size;replace L:=L.keep (kp_alloc ap (.cells #[.bool false,.slice none 0 0] 52))
      try simp only[sq]
      generalize bi:ap.heap.size=aA at *;generalize ap.alloc (.cells #[.bool false,.slice none 0 0] 52)=bj at *;have ad:=j.cell;have ai:=j.frozen;have aj:=j.lt;refine wpAnyL_last (i:=12) rfl (by kernel_rfl) (by kernel_rfl) (by kernel_rfl) (fun K g=>?_)
      go_simp
      refine g.out _ _ ?_;clear g K
      go_wp2_with fail
      go_meet
      case rel=>exact⟨aA,_,_,_,_,rfl,(bl2 (.bool Q) (.slice H R T) j),L.soft (sf2 (.bool Q) (.slice H R T) j (by decide)),(kp2 (A:=aA) (.bool Q) (.slice H R T) Y ae),ae⟩
     refine AllReadyL.cons rfl (fun K g=>?_) ?_
     ·go_simp
      refine g.out _ _ (Kp.alloc' N (.cells #[.bool false,.slice none 0 0] 52)) (fun Z=>?_);clear g K;have j:=Blk.new M #[.bool false,.slice none 0 0] 52;have ae:w1.heap.size≤M.heap.size:=N.size;replace c:=c.keep (kp_alloc M (.cells #[.bool false,.slice none 0 0] 52));replace h:=h.keep (kp_alloc M (.cells #[.bool false,.slice none 0 0] 52))
      try simp only[sq]
      generalize bi:M.heap.size=aA at *;generalize M.alloc (.cells #[.bool false,.slice none 0 0] 52)=bj at *;refine wpAnyL_on (i:=10) rfl (fun K g=>?_)
      go_simp
      refine(rplus_any (a.p*b.q) (a.q*b.p) _ _ _ c h (Ft.fit (Ft.mono (n:=2*m+0) (Ft.mul V.1 fb.2.1) (by omega)) (by omega)) (Ft.fit (Ft.mono (n:=2*m+0) (Ft.mul V.2.1 fb.1) (by omega)) (by omega))).mono ?_;rintro e ap ⟨bh,rfl,L,U⟩;obtain⟨Q,H,R,T,rfl⟩:=L.shape';replace j:=j.keep U
      go_wp2_with fail
      refine g.out _ _ (Z.trans' U) (fun Y=>?_);clear g K;have ad:=j.cell;have ai:=j.frozen;have aj:=j.lt;refine wpAnyL_last (i:=12) rfl (by kernel_rfl) (by kernel_rfl) (by kernel_rfl) (fun K g=>?_)
      go_simp
      refine g.out _ _ ?_;clear g K
      go_wp2_with fail
      go_meet
      case rel=>exact⟨aA,_,_,_,_,rfl,(bl2 (.bool Q) (.slice H R T) j),L.soft (sf2 (.bool Q) (.slice H R T) j (by decide)),(kp2 (A:=aA) (.bool Q) (.slice H R T) Y ae),ae⟩
     exact AllReadyL.nil
    refine AllReadyL.cons rfl (fun K g=>?_) ?_
    ·go_simp
     refine g.out _ _ (Kp.alloc' P (.cells #[.bool false,.slice none 0 0] 52)) (fun N=>?_);clear g K;have j:=Blk.new W #[.bool false,.slice none 0 0] 52;have ae:w1.heap.size≤W.heap.size:=P.size;replace c:=c.keep (kp_alloc W (.cells #[.bool false,.slice none 0 0] 52))
     try simp only[sq]
     generalize bi:W.heap.size=aA at *;generalize W.alloc (.cells #[.bool false,.slice none 0 0] 52)=bj at *;refine wpAnyL_on (i:=9) rfl (fun K g=>?_)
     go_simp
     refine(rtimes_any a.q b.p _ _ _ (al.keep N) (am.keep N) (Ft.fit V.2.1 (by omega)) (Ft.fit fb.1 (by omega))).mono ?_;rintro e M ⟨aJ,rfl,h,o⟩;obtain⟨aK,ay,aL,aM,rfl⟩:=h.shape';replace c:=c.keep o;replace j:=j.keep o
     go_wp2_with fail
     refine g.out _ _ (N.trans' o) (fun Z=>?_);clear g K;refine wpAnyL_on (i:=10) rfl (fun K g=>?_)
     go_simp
     refine(rplus_any (a.p*b.q) (a.q*b.p) _ _ _ c h (Ft.fit (Ft.mono (n:=2*m+0) (Ft.mul V.1 fb.2.1) (by omega)) (by omega)) (Ft.fit (Ft.mono (n:=2*m+0) (Ft.mul V.2.1 fb.1) (by omega)) (by omega))).mono ?_;rintro e ap ⟨bh,rfl,L,U⟩;obtain⟨Q,H,R,T,rfl⟩:=L.shape';replace j:=j.keep U
     go_wp2_with fail
     refine g.out _ _ (Z.trans' U) (fun Y=>?_);clear g K;have ad:=j.cell;have ai:=j.frozen;have aj:=j.lt;refine wpAnyL_last (i:=12) rfl (by kernel_rfl) (by kernel_rfl) (by kernel_rfl) (fun K g=>?_)
     go_simp
     refine g.out _ _ ?_;clear g K
     go_wp2_with fail
     go_meet
     case rel=>exact⟨aA,_,_,_,_,rfl,(bl2 (.bool Q) (.slice H R T) j),L.soft (sf2 (.bool Q) (.slice H R T) j (by decide)),(kp2 (A:=aA) (.bool Q) (.slice H R T) Y ae),ae⟩
    exact AllReadyL.nil
   refine AllReadyL.cons rfl (fun K g=>?_) ?_
   ·go_simp
    refine g.out _ _ (Kp.alloc' s (.cells #[.bool false,.slice none 0 0] 52)) (fun P=>?_);clear g K;have j:=Blk.new wd #[.bool false,.slice none 0 0] 52;have ae:w1.heap.size≤wd.heap.size:=s.size
    try simp only[sq]
    generalize bi:wd.heap.size=aA at *;generalize wd.alloc (.cells #[.bool false,.slice none 0 0] 52)=bj at *;refine wpAnyL_on (i:=4) rfl (fun K g=>?_)
    go_simp
    refine(rtimes_any a.p b.q _ _ _ (aq.keep P) (an.keep P) (Ft.fit V.1 (by omega)) (Ft.fit fb.2.1 (by omega))).mono ?_;rintro e W ⟨a6,rfl,c,X⟩;obtain⟨a7,aR,a8,a9,rfl⟩:=c.shape';replace j:=j.keep X
    go_wp2_with fail
    refine g.out _ _ (P.trans' X) (fun N=>?_);clear g K;refine wpAnyL_on (i:=9) rfl (fun K g=>?_)
    go_simp
    refine(rtimes_any a.q b.p _ _ _ (al.keep N) (am.keep N) (Ft.fit V.2.1 (by omega)) (Ft.fit fb.1 (by omega))).mono ?_;rintro e M ⟨aJ,rfl,h,o⟩;obtain⟨aK,ay,aL,aM,rfl⟩:=h.shape';replace j:=j.keep o;replace c:=c.keep o
    go_wp2_with fail
    refine g.out _ _ (N.trans' o) (fun Z=>?_);clear g K;refine wpAnyL_on (i:=10) rfl (fun K g=>?_)
    go_simp
    refine(rplus_any (a.p*b.q) (a.q*b.p) _ _ _ c h (Ft.fit (Ft.mono (n:=2*m+0) (Ft.mul V.1 fb.2.1) (by omega)) (by omega)) (Ft.fit (Ft.mono (n:=2*m+0) (Ft.mul V.2.1 fb.1) (by omega)) (by omega))).mono ?_;rintro e ap ⟨bh,rfl,L,U⟩;obtain⟨Q,H,R,T,rfl⟩:=L.shape';replace j:=j.keep U
    go_wp2_with fail
    refine g.out _ _ (Z.trans' U) (fun Y=>?_);clear g K;have ad:=j.cell;have ai:=j.frozen;have aj:=j.lt;refine wpAnyL_last (i:=12) rfl (by kernel_rfl) (by kernel_rfl) (by kernel_rfl) (fun K g=>?_)
    go_simp
    refine g.out _ _ ?_;clear g K
    go_wp2_with fail
    go_meet
    case rel=>exact⟨aA,_,_,_,_,rfl,(bl2 (.bool Q) (.slice H R T) j),L.soft (sf2 (.bool Q) (.slice H R T) j (by decide)),(kp2 (A:=aA) (.bool Q) (.slice H R T) Y ae),ae⟩
   exact AllReadyL.nil
  case rest =>
   obtain⟨bJ,bC,br,bD,bE,rfl,BQ,hQ,J,bF⟩:=hcut;replace aq:=aq.keep J;replace al:=al.keep J;replace aD:=aD.keep J;replace am:=am.keep J;replace an:=an.keep J;replace aE:=aE.keep J;replace BA:=BA.keep J;replace BB:=BB.keep J;replace BE:=BE.keep J;replace BP:=BP.keep J;replace hP:=hP.keep J;replace ak:=ak.trans' J;have bG:=J.size;clear J;generalize wc=w2 at *
   go_wp2_with fail
   refine wp_region_l (S:=fun w'=>Kp w2 w') (by kernel_rfl) (Kp.drew' (Below.refl _ _)) (fun s=>?_);generalize w2.drew=wd at *;refine wpAnyL_tk (i:=0) (k:=8) (v:=.agg #[.bool bw,.slice bq bx bz]) rfl ?_ s ?_
   ·intro w' z;have hc:=((BP).keep z).cell;go_simp
   simp only[sq];refine wpAnyL_tk (i:=1) (k:=8) (v:=.agg #[.bool bC,.slice br bD bE]) rfl ?_ s ?_
   ·intro w' z;have hc:=((BQ).keep z).cell;go_simp
   simp only[sq];refine wpAnyL_tk (i:=2) (k:=3) (v:=.pointer (some ⟨w.heap.size,4,none⟩)) rfl ?_ s ?_
   ·intro w' z;go_simp
   simp only[sq];refine wpAnyL_tk (i:=3) (k:=6) (v:=.agg #[.bool b3,.slice aB n3 c3]) rfl ?_ s ?_
   ·intro w' z;have hc:=((BA).keep z).cell;go_simp
   simp only[sq];refine wpAnyL_tk (i:=4) (k:=5) (v:=.pointer (some ⟨w.heap.size+1,4,none⟩)) rfl ?_ s ?_
   ·intro w' z;go_simp
   simp only[sq];refine wpAnyL_tk (i:=5) (k:=6) (v:=.agg #[.bool b6,.slice aC n6 c6]) rfl ?_ s ?_
   ·intro w' z;have hc:=((BB).keep z).cell;go_simp
   simp only[sq];refine wpAnyL_tk (i:=7) (k:=8) (v:=.int .i64 D) rfl ?_ s ?_
   ·intro w' z;go_simp
   simp only[sq];refine wpAnyL_on (i:=6) rfl (fun K g=>?_)
   go_simp
   refine(rtimes_any a.r b.r _ _ _ (aD.keep s) (aE.keep s) (Ft.fit V.2.2 (by omega)) (Ft.fit fb.2.2 (by omega))).mono ?_;rintro e bK ⟨bL,rfl,bm,bo⟩;obtain⟨bM,bH,bN,bO,rfl⟩:=bm.shape'
   go_wp2_with fail
   refine g.out _ _ (s.trans' bo) (fun P=>?_);clear g K;refine wpAnyL_on (i:=8) rfl (fun K g=>?_)
   go_simp
   refine(formed_any ((a.p*b.p)+((a.q*b.q)*D)) ((a.p*b.q)+(a.q*b.p)) (a.r*b.r) D (2*m+8) _ _ _ _ (hP.keep P) (hQ.keep P) bm bv (by omega) (Ft.mono (n:=2*m+8) (Ft.mono (n:=2*m+8) (Ft.add (Ft.mono (n:=2*m+7) (Ft.mono (n:=2*m+0) (Ft.mul V.1 fb.1) (by omega)) (by omega)) (Ft.mono (n:=2*m+7) (Ft.mono (n:=2*m+7) (Ft.mul (Ft.mono (n:=2*m+0) (Ft.mul V.2.1 fb.2.1) (by omega)) fD) (by omega)) (by omega))) (by omega)) (by omega)) (Ft.mono (n:=2*m+8) (Ft.mono (n:=2*m+1) (Ft.add (Ft.mono (n:=2*m+0) (Ft.mono (n:=2*m+0) (Ft.mul V.1 fb.2.1) (by omega)) (by omega)) (Ft.mono (n:=2*m+0) (Ft.mono (n:=2*m+0) (Ft.mul V.2.1 fb.1) (by omega)) (by omega))) (by omega)) (by omega)) (Ft.mono (n:=2*m+8) (Ft.mono (n:=2*m+0) (Ft.mul V.2.2 fb.2.2) (by omega)) (by omega))).mono ?_;rintro e bP ⟨bQ,rfl,bn,bp⟩;obtain⟨aT,aG,aU,aV,aW,aH,aX,aY,aZ,aI,a0,a1,rfl,bs,bt,bu⟩:=id bn
   go_wp2_with fail
   refine g.out _ _ (P.trans' bp) (fun N=>?_);clear g K;have TB:=(BE).keep N;have ad:=TB.cell;have ai:=TB.frozen;have aj:=TB.lt;refine wpAnyL_last (i:=9) rfl (by kernel_rfl) (by kernel_rfl) (by kernel_rfl) (fun K g=>?_)
   go_simp
   refine g.out _ _ ?_;clear g K
   go_wp2_with fail
   refine bodyPost_ret (v:=.agg #[.bool aT,.slice aG aU aV,.bool aW,.slice aH aX aY,.bool aZ,.slice aI a0 a1,.int .i64 (qreduce ((a.p*b.p)+((a.q*b.q)*D)) ((a.p*b.q)+(a.q*b.p)) (a.r*b.r) D).d]) (by simp[results,Tryz.results76,go_sem,ad]) rfl ?_;exact⟨_,rfl,bn.soft (sf7 (.bool aT) (.slice aG aU aV) (.bool aW) (.slice aH aX aY) (.bool aZ) (.slice aI a0 a1) (.int .i64 (qreduce ((a.p*b.p)+((a.q*b.q)*D)) ((a.p*b.q)+(a.q*b.p)) (a.r*b.r) D).d) TB (by decide)),(kp7 (A:=w.heap.size+1+1) (.bool aT) (.slice aG aU aV) (.bool aW) (.slice aH aX aY) (.bool aZ) (.slice aI a0 a1) (.int .i64 (qreduce ((a.p*b.p)+((a.q*b.q)*D)) ((a.p*b.q)+(a.q*b.p)) (a.r*b.r) D).d) (ak.trans' N) (by show w.heap.size≤w.heap.size+1+1;omega))⟩
end Go.Proofs.YtjahbjjekednfaaGreatDoor
