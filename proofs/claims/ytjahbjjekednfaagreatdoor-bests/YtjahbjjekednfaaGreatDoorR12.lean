import Derived.Test.YtjahbjjekednfaaGreatDoorR11
namespace Go.Proofs.YtjahbjjekednfaaGreatDoor
set_option maxHeartbeats 6400000
set_option maxRecDepth 100000
open Go.RowKit
theorem worked_add (a b:Qn) (m:Nat) (D:Int) (u v:Value) (w:World) (ha:NN w u a) (hb:NN w v b) (hm:m≤10000000) (O:QF m a) (fb:QF m b) (hD:D=if 1<a.d then a.d else b.d) (D0:0≤D) (D2:D≤1000000) (aW:a.r*b.r≠0) :
  Calls Tryz.prog 76 #[u,.int .u8 43,v] w (RetNN w (qreduce ((a.p*b.r)+(b.p*a.r)) ((a.q*b.r)+(b.q*a.r)) (a.r*b.r) D)):=by
 have D1:D≤9223372036854775807:=by omega
 have fD:Ft 7 D:=by unfold Ft;omega
 have ay:=Hid.mk (fun P (h1:NN P u a) (h2:NN P v b)=>root_ref a b u v P h1 h2);rw[← hD] at ay;clear hD;obtain⟨b1,aj,n1,c1,b2,ak,n2,c2,b3,Z,n3,c3,rfl,al,am,Q⟩:=id ha;obtain⟨b4,an,n4,c4,b5,ao,n5,c5,b6,ac,n6,c6,rfl,ad,ae,V⟩:=id hb;have R:Kp w (((w.alloc (.cells #[.bool b1,.slice aj n1 c1,.bool b2,.slice ak n2 c2,.bool b3,.slice Z n3 c3,.int .i64 a.d] 54)).alloc (.cells #[.bool b4,.slice an n4 c4,.bool b5,.slice ao n5 c5,.bool b6,.slice ac n6 c6,.int .i64 b.d] 54)).alloc (.cells #[.bool false,.slice none 0 0,.bool false,.slice none 0 0,.bool false,.slice none 0 0,.int .i64 0] 54)):=(Kp.alloc' (Kp.alloc' (Kp.alloc' (Below.refl w.heap.size w) (.cells #[.bool b1,.slice aj n1 c1,.bool b2,.slice ak n2 c2,.bool b3,.slice Z n3 c3,.int .i64 a.d] 54)) (.cells #[.bool b4,.slice an n4 c4,.bool b5,.slice ao n5 c5,.bool b6,.slice ac n6 c6,.int .i64 b.d] 54)) (.cells #[.bool false,.slice none 0 0,.bool false,.slice none 0 0,.bool false,.slice none 0 0,.int .i64 0] 54));have BA:Blk (((w.alloc (.cells #[.bool b1,.slice aj n1 c1,.bool b2,.slice ak n2 c2,.bool b3,.slice Z n3 c3,.int .i64 a.d] 54)).alloc (.cells #[.bool b4,.slice an n4 c4,.bool b5,.slice ao n5 c5,.bool b6,.slice ac n6 c6,.int .i64 b.d] 54)).alloc (.cells #[.bool false,.slice none 0 0,.bool false,.slice none 0 0,.bool false,.slice none 0 0,.int .i64 0] 54)) (w.heap.size) #[.bool b1,.slice aj n1 c1,.bool b2,.slice ak n2 c2,.bool b3,.slice Z n3 c3,.int .i64 a.d] 54:=(Blk.alloc (Blk.alloc (Blk.new w _ _) (.cells #[.bool b4,.slice an n4 c4,.bool b5,.slice ao n5 c5,.bool b6,.slice ac n6 c6,.int .i64 b.d] 54)) (.cells #[.bool false,.slice none 0 0,.bool false,.slice none 0 0,.bool false,.slice none 0 0,.int .i64 0] 54))
 have BB:Blk (((w.alloc (.cells #[.bool b1,.slice aj n1 c1,.bool b2,.slice ak n2 c2,.bool b3,.slice Z n3 c3,.int .i64 a.d] 54)).alloc (.cells #[.bool b4,.slice an n4 c4,.bool b5,.slice ao n5 c5,.bool b6,.slice ac n6 c6,.int .i64 b.d] 54)).alloc (.cells #[.bool false,.slice none 0 0,.bool false,.slice none 0 0,.bool false,.slice none 0 0,.int .i64 0] 54)) (w.heap.size+1) #[.bool b4,.slice an n4 c4,.bool b5,.slice ao n5 c5,.bool b6,.slice ac n6 c6,.int .i64 b.d] 54:=(Blk.alloc (Blk.at (Blk.new (w.alloc (.cells #[.bool b1,.slice aj n1 c1,.bool b2,.slice ak n2 c2,.bool b3,.slice Z n3 c3,.int .i64 a.d] 54)) _ _) (by simp)) (.cells #[.bool false,.slice none 0 0,.bool false,.slice none 0 0,.bool false,.slice none 0 0,.int .i64 0] 54));have BE:Blk (((w.alloc (.cells #[.bool b1,.slice aj n1 c1,.bool b2,.slice ak n2 c2,.bool b3,.slice Z n3 c3,.int .i64 a.d] 54)).alloc (.cells #[.bool b4,.slice an n4 c4,.bool b5,.slice ao n5 c5,.bool b6,.slice ac n6 c6,.int .i64 b.d] 54)).alloc (.cells #[.bool false,.slice none 0 0,.bool false,.slice none 0 0,.bool false,.slice none 0 0,.int .i64 0] 54)) (w.heap.size+1+1) #[.bool false,.slice none 0 0,.bool false,.slice none 0 0,.bool false,.slice none 0 0,.int .i64 0] 54:=(Blk.at (Blk.new ((w.alloc (.cells #[.bool b1,.slice aj n1 c1,.bool b2,.slice ak n2 c2,.bool b3,.slice Z n3 c3,.int .i64 a.d] 54)).alloc (.cells #[.bool b4,.slice an n4 c4,.bool b5,.slice ao n5 c5,.bool b6,.slice ac n6 c6,.int .i64 b.d] 54)) _ _) (by simp));replace al:=al.keep R;replace am:=am.keep R;replace Q:=Q.keep R;replace ad:=ad.keep R;replace ae:=ae.keep R;replace V:=V.keep R;replace ha:=ha.keep R;replace hb:=hb.keep R;have l1:=BA.lt;have l2:=BB.lt;have l3:=BE.lt
 go_enter Tryz.func76,Tryz.ntmps76
 go_wp2_with fail
 refine(ay.out _ ha hb).mono ?_;rintro e w0 ⟨rfl,W⟩;replace al:=al.keep W;replace am:=am.keep W;replace Q:=Q.keep W;replace ad:=ad.keep W;replace ae:=ae.keep W;replace V:=V.keep W;replace BA:=BA.keep W;replace BB:=BB.keep W;replace BE:=BE.keep W;replace ha:=ha.keep W;replace hb:=hb.keep W;replace R:=R.trans' W;have bm:=W.size;clear ay;generalize (((w.alloc (.cells #[.bool b1,.slice aj n1 c1,.bool b2,.slice ak n2 c2,.bool b3,.slice Z n3 c3,.int .i64 a.d] 54)).alloc (.cells #[.bool b4,.slice an n4 c4,.bool b5,.slice ao n5 c5,.bool b6,.slice ac n6 c6,.int .i64 b.d] 54)).alloc (.cells #[.bool false,.slice none 0 0,.bool false,.slice none 0 0,.bool false,.slice none 0 0,.int .i64 0] 54))=wz at *
 go_wp2_with fail
 go_cut [8] from 36 to 46 (fun p' wx=>∃(bg:Nat) (bb:Bool) (aa:Option Addr) (nn cc:Nat),p'=.pointer (some ⟨bg,0,none⟩)∧Blk wx bg #[.bool bb,.slice aa nn cc] 52∧IN wx (.agg #[.bool bb,.slice aa nn cc]) ((a.p*b.r)+(b.p*a.r))∧Kp w0 wx∧w0.heap.size≤bg)
 case first =>
  refine wp_region_l (S:=fun P=>Kp w0 P) (by kernel_rfl) (Kp.drew' (Below.refl _ _)) (fun z=>?_);generalize w0.drew=wd at *;refine wpAnyL_tk (i:=0) (k:=1) (v:=.pointer (some ⟨w.heap.size,0,none⟩)) rfl ?_ z ?_
  ·intro P C;go_simp
  simp only[sq];refine wpAnyL_tk (i:=1) (k:=4) (v:=.agg #[.bool b1,.slice aj n1 c1]) rfl ?_ z ?_
  ·intro P C;have hc:=((BA).keep C).cell;go_simp
  simp only[sq];refine wpAnyL_tk (i:=2) (k:=3) (v:=.pointer (some ⟨w.heap.size+1,4,none⟩)) rfl ?_ z ?_
  ·intro P C;go_simp
  simp only[sq];refine wpAnyL_tk (i:=3) (k:=4) (v:=.agg #[.bool b6,.slice ac n6 c6]) rfl ?_ z ?_
  ·intro P C;have hc:=((BB).keep C).cell;go_simp
  simp only[sq];refine wpAnyL_tk (i:=5) (k:=6) (v:=.pointer (some ⟨w.heap.size+1,0,none⟩)) rfl ?_ z ?_
  ·intro P C;go_simp
  simp only[sq];refine wpAnyL_tk (i:=6) (k:=9) (v:=.agg #[.bool b4,.slice an n4 c4]) rfl ?_ z ?_
  ·intro P C;have hc:=((BB).keep C).cell;go_simp
  simp only[sq];refine wpAnyL_tk (i:=7) (k:=8) (v:=.pointer (some ⟨w.heap.size,4,none⟩)) rfl ?_ z ?_
  ·intro P C;go_simp
  simp only[sq];refine wpAnyL_tk (i:=8) (k:=9) (v:=.agg #[.bool b3,.slice Z n3 c3]) rfl ?_ z ?_
  ·intro P C;have hc:=((BA).keep C).cell;go_simp
  simp only[sq];refine wpAnyL_ready (rs:=[4,11]) (by kernel_rfl) (by simp) ?_;refine AllReadyL.cons rfl (fun K j=>?_) ?_
  ·go_simp
   refine(rtimes_any a.p b.r _ _ _ (al.keep z) (V.keep z) (Ft.fit O.1 (by omega)) (Ft.fit fb.2.2 (by omega))).mono ?_;rintro e L ⟨aJ,rfl,f,M⟩;obtain⟨aK,az,aL,aM,rfl⟩:=f.shape'
   go_wp2_with fail
   refine j.out _ _ (z.trans' M) (fun I=>?_);clear j K;refine wpAnyL_ready (rs:=[9,11]) (by kernel_rfl) (by simp) ?_;refine AllReadyL.cons rfl (fun K j=>?_) ?_
   ·go_simp
    refine(rtimes_any b.p a.r _ _ _ (ad.keep I) (Q.keep I) (Ft.fit fb.1 (by omega)) (Ft.fit O.2.2 (by omega))).mono ?_;rintro e F ⟨au,rfl,l,x⟩;obtain⟨av,af,aw,ax,rfl⟩:=l.shape';replace f:=f.keep x
    go_wp2_with fail
    refine j.out _ _ (I.trans' x) (fun G=>?_);clear j K;refine wpAnyL_ready (rs:=[10,11]) (by kernel_rfl) (by simp) ?_;refine AllReadyL.cons rfl (fun K j=>?_) ?_
    ·go_simp
     refine(rplus_any (a.p*b.r) (b.p*a.r) _ _ _ f l (Ft.fit (Ft.mono (n:=2*m+0) (Ft.mul O.1 fb.2.2) (by omega)) (by omega)) (Ft.fit (Ft.mono (n:=2*m+0) (Ft.mul fb.1 O.2.2) (by omega)) (by omega))).mono ?_;rintro e H ⟨ag,rfl,h,y⟩;obtain⟨o,g,s,t,rfl⟩:=h.shape'
     go_wp2_with fail
     refine j.out _ _ (G.trans' y) (fun N=>?_);clear j K;refine wpAnyL_on (i:=11) rfl (fun K j=>?_)
     go_simp
     refine j.out _ _ (Kp.alloc' N (.cells #[.bool false,.slice none 0 0] 52)) (fun T=>?_);clear j K;have c:=Blk.new H #[.bool false,.slice none 0 0] 52;have B:w0.heap.size≤H.heap.size:=N.size;replace h:=h.keep (kp_alloc H (.cells #[.bool false,.slice none 0 0] 52))
     try simp only[sq]
     generalize ah:H.heap.size=J at *;generalize H.alloc (.cells #[.bool false,.slice none 0 0] 52)=ai at *;have U:=c.cell;have X:=c.frozen;have Y:=c.lt;refine wpAnyL_last (i:=12) rfl (by kernel_rfl) (by kernel_rfl) (by kernel_rfl) (fun K j=>?_)
     go_simp
     refine j.out _ _ ?_;clear j K
     go_wp2_with fail
     go_meet
     case rel=>exact⟨J,_,_,_,_,rfl,(bl2 (.bool o) (.slice g s t) c),h.soft (sf2 (.bool o) (.slice g s t) c (by decide)),(kp2 (A:=J) (.bool o) (.slice g s t) T B),B⟩
    refine AllReadyL.cons rfl (fun K j=>?_) ?_
    ·go_simp
     refine j.out _ _ (Kp.alloc' G (.cells #[.bool false,.slice none 0 0] 52)) (fun N=>?_);clear j K;have c:=Blk.new F #[.bool false,.slice none 0 0] 52;have B:w0.heap.size≤F.heap.size:=G.size;replace f:=f.keep (kp_alloc F (.cells #[.bool false,.slice none 0 0] 52));replace l:=l.keep (kp_alloc F (.cells #[.bool false,.slice none 0 0] 52))
     try simp only[sq]
     generalize ah:F.heap.size=J at *;generalize F.alloc (.cells #[.bool false,.slice none 0 0] 52)=ai at *;refine wpAnyL_on (i:=10) rfl (fun K j=>?_)
     go_simp
     refine(rplus_any (a.p*b.r) (b.p*a.r) _ _ _ f l (Ft.fit (Ft.mono (n:=2*m+0) (Ft.mul O.1 fb.2.2) (by omega)) (by omega)) (Ft.fit (Ft.mono (n:=2*m+0) (Ft.mul fb.1 O.2.2) (by omega)) (by omega))).mono ?_;rintro e H ⟨ag,rfl,h,y⟩;obtain⟨o,g,s,t,rfl⟩:=h.shape';replace c:=c.keep y
     go_wp2_with fail
     refine j.out _ _ (N.trans' y) (fun T=>?_);clear j K;have U:=c.cell;have X:=c.frozen;have Y:=c.lt;refine wpAnyL_last (i:=12) rfl (by kernel_rfl) (by kernel_rfl) (by kernel_rfl) (fun K j=>?_)
     go_simp
     refine j.out _ _ ?_;clear j K
     go_wp2_with fail
     go_meet
     case rel=>exact⟨J,_,_,_,_,rfl,(bl2 (.bool o) (.slice g s t) c),h.soft (sf2 (.bool o) (.slice g s t) c (by decide)),(kp2 (A:=J) (.bool o) (.slice g s t) T B),B⟩
    exact AllReadyL.nil
   refine AllReadyL.cons rfl (fun K j=>?_) ?_
   ·go_simp
    refine j.out _ _ (Kp.alloc' I (.cells #[.bool false,.slice none 0 0] 52)) (fun G=>?_);clear j K;have c:=Blk.new L #[.bool false,.slice none 0 0] 52;have B:w0.heap.size≤L.heap.size:=I.size;replace f:=f.keep (kp_alloc L (.cells #[.bool false,.slice none 0 0] 52))
    try simp only[sq]
    generalize ah:L.heap.size=J at *;generalize L.alloc (.cells #[.bool false,.slice none 0 0] 52)=ai at *;refine wpAnyL_on (i:=9) rfl (fun K j=>?_)
    go_simp
    refine(rtimes_any b.p a.r _ _ _ (ad.keep G) (Q.keep G) (Ft.fit fb.1 (by omega)) (Ft.fit O.2.2 (by omega))).mono ?_;rintro e F ⟨au,rfl,l,x⟩;obtain⟨av,af,aw,ax,rfl⟩:=l.shape';replace f:=f.keep x;replace c:=c.keep x
    go_wp2_with fail
    refine j.out _ _ (G.trans' x) (fun N=>?_);clear j K;refine wpAnyL_on (i:=10) rfl (fun K j=>?_)
    go_simp
    refine(rplus_any (a.p*b.r) (b.p*a.r) _ _ _ f l (Ft.fit (Ft.mono (n:=2*m+0) (Ft.mul O.1 fb.2.2) (by omega)) (by omega)) (Ft.fit (Ft.mono (n:=2*m+0) (Ft.mul fb.1 O.2.2) (by omega)) (by omega))).mono ?_;rintro e H ⟨ag,rfl,h,y⟩;obtain⟨o,g,s,t,rfl⟩:=h.shape';replace c:=c.keep y
    go_wp2_with fail
    refine j.out _ _ (N.trans' y) (fun T=>?_);clear j K;have U:=c.cell;have X:=c.frozen;have Y:=c.lt;refine wpAnyL_last (i:=12) rfl (by kernel_rfl) (by kernel_rfl) (by kernel_rfl) (fun K j=>?_)
    go_simp
    refine j.out _ _ ?_;clear j K
    go_wp2_with fail
    go_meet
    case rel=>exact⟨J,_,_,_,_,rfl,(bl2 (.bool o) (.slice g s t) c),h.soft (sf2 (.bool o) (.slice g s t) c (by decide)),(kp2 (A:=J) (.bool o) (.slice g s t) T B),B⟩
   exact AllReadyL.nil
  refine AllReadyL.cons rfl (fun K j=>?_) ?_
  ·go_simp
   refine j.out _ _ (Kp.alloc' z (.cells #[.bool false,.slice none 0 0] 52)) (fun I=>?_);clear j K;have c:=Blk.new wd #[.bool false,.slice none 0 0] 52;have B:w0.heap.size≤wd.heap.size:=z.size
   try simp only[sq]
   generalize ah:wd.heap.size=J at *;generalize wd.alloc (.cells #[.bool false,.slice none 0 0] 52)=ai at *;refine wpAnyL_on (i:=4) rfl (fun K j=>?_)
   go_simp
   refine(rtimes_any a.p b.r _ _ _ (al.keep I) (V.keep I) (Ft.fit O.1 (by omega)) (Ft.fit fb.2.2 (by omega))).mono ?_;rintro e L ⟨aJ,rfl,f,M⟩;obtain⟨aK,az,aL,aM,rfl⟩:=f.shape';replace c:=c.keep M
   go_wp2_with fail
   refine j.out _ _ (I.trans' M) (fun G=>?_);clear j K;refine wpAnyL_on (i:=9) rfl (fun K j=>?_)
   go_simp
   refine(rtimes_any b.p a.r _ _ _ (ad.keep G) (Q.keep G) (Ft.fit fb.1 (by omega)) (Ft.fit O.2.2 (by omega))).mono ?_;rintro e F ⟨au,rfl,l,x⟩;obtain⟨av,af,aw,ax,rfl⟩:=l.shape';replace c:=c.keep x;replace f:=f.keep x
   go_wp2_with fail
   refine j.out _ _ (G.trans' x) (fun N=>?_);clear j K;refine wpAnyL_on (i:=10) rfl (fun K j=>?_)
   go_simp
   refine(rplus_any (a.p*b.r) (b.p*a.r) _ _ _ f l (Ft.fit (Ft.mono (n:=2*m+0) (Ft.mul O.1 fb.2.2) (by omega)) (by omega)) (Ft.fit (Ft.mono (n:=2*m+0) (Ft.mul fb.1 O.2.2) (by omega)) (by omega))).mono ?_;rintro e H ⟨ag,rfl,h,y⟩;obtain⟨o,g,s,t,rfl⟩:=h.shape';replace c:=c.keep y
   go_wp2_with fail
   refine j.out _ _ (N.trans' y) (fun T=>?_);clear j K;have U:=c.cell;have X:=c.frozen;have Y:=c.lt;refine wpAnyL_last (i:=12) rfl (by kernel_rfl) (by kernel_rfl) (by kernel_rfl) (fun K j=>?_)
   go_simp
   refine j.out _ _ ?_;clear j K
   go_wp2_with fail
   go_meet
   case rel=>exact⟨J,_,_,_,_,rfl,(bl2 (.bool o) (.slice g s t) c),h.soft (sf2 (.bool o) (.slice g s t) c (by decide)),(kp2 (A:=J) (.bool o) (.slice g s t) T B),B⟩
  exact AllReadyL.nil
 case rest =>
  obtain⟨a8,aX,aR,aY,aZ,rfl,BP,hP,E,a0⟩:=hcut;replace al:=al.keep E;replace am:=am.keep E;replace Q:=Q.keep E;replace ad:=ad.keep E;replace ae:=ae.keep E;replace V:=V.keep E;replace BA:=BA.keep E;replace BB:=BB.keep E;replace BE:=BE.keep E;replace R:=R.trans' E;have a1:=E.size;clear E;generalize wc=w1 at *
  go_wp2_with fail
  go_cut [9] from 47 to 57 (fun p' wx=>∃(bg:Nat) (bb:Bool) (aa:Option Addr) (nn cc:Nat),p'=.pointer (some ⟨bg,0,none⟩)∧Blk wx bg #[.bool bb,.slice aa nn cc] 52∧IN wx (.agg #[.bool bb,.slice aa nn cc]) ((a.q*b.r)+(b.q*a.r))∧Kp w1 wx∧w1.heap.size≤bg)
  case first =>
   refine wp_region_l (S:=fun P=>Kp w1 P) (by kernel_rfl) (Kp.drew' (Below.refl _ _)) (fun z=>?_);generalize w1.drew=wd at *;refine wpAnyL_tk (i:=0) (k:=1) (v:=.pointer (some ⟨w.heap.size,2,none⟩)) rfl ?_ z ?_
   ·intro P C;go_simp
   simp only[sq];refine wpAnyL_tk (i:=1) (k:=4) (v:=.agg #[.bool b2,.slice ak n2 c2]) rfl ?_ z ?_
   ·intro P C;have hc:=((BA).keep C).cell;go_simp
   simp only[sq];refine wpAnyL_tk (i:=2) (k:=3) (v:=.pointer (some ⟨w.heap.size+1,4,none⟩)) rfl ?_ z ?_
   ·intro P C;go_simp
   simp only[sq];refine wpAnyL_tk (i:=3) (k:=4) (v:=.agg #[.bool b6,.slice ac n6 c6]) rfl ?_ z ?_
   ·intro P C;have hc:=((BB).keep C).cell;go_simp
   simp only[sq];refine wpAnyL_tk (i:=5) (k:=6) (v:=.pointer (some ⟨w.heap.size+1,2,none⟩)) rfl ?_ z ?_
   ·intro P C;go_simp
   simp only[sq];refine wpAnyL_tk (i:=6) (k:=9) (v:=.agg #[.bool b5,.slice ao n5 c5]) rfl ?_ z ?_
   ·intro P C;have hc:=((BB).keep C).cell;go_simp
   simp only[sq];refine wpAnyL_tk (i:=7) (k:=8) (v:=.pointer (some ⟨w.heap.size,4,none⟩)) rfl ?_ z ?_
   ·intro P C;go_simp
   simp only[sq];refine wpAnyL_tk (i:=8) (k:=9) (v:=.agg #[.bool b3,.slice Z n3 c3]) rfl ?_ z ?_
   ·intro P C;have hc:=((BA).keep C).cell;go_simp
   simp only[sq];refine wpAnyL_ready (rs:=[4,11]) (by kernel_rfl) (by simp) ?_;refine AllReadyL.cons rfl (fun K j=>?_) ?_
   ·go_simp
    refine(rtimes_any a.q b.r _ _ _ (am.keep z) (V.keep z) (Ft.fit O.2.1 (by omega)) (Ft.fit fb.2.2 (by omega))).mono ?_;rintro e L ⟨aJ,rfl,f,M⟩;obtain⟨aK,az,aL,aM,rfl⟩:=f.shape'
    go_wp2_with fail
    refine j.out _ _ (z.trans' M) (fun I=>?_);clear j K;refine wpAnyL_ready (rs:=[9,11]) (by kernel_rfl) (by simp) ?_;refine AllReadyL.cons rfl (fun K j=>?_) ?_
    ·go_simp
     refine(rtimes_any b.q a.r _ _ _ (ae.keep I) (Q.keep I) (Ft.fit fb.2.1 (by omega)) (Ft.fit O.2.2 (by omega))).mono ?_;rintro e F ⟨au,rfl,l,x⟩;obtain⟨av,af,aw,ax,rfl⟩:=l.shape';replace f:=f.keep x
     go_wp2_with fail
     refine j.out _ _ (I.trans' x) (fun G=>?_);clear j K;refine wpAnyL_ready (rs:=[10,11]) (by kernel_rfl) (by simp) ?_;refine AllReadyL.cons rfl (fun K j=>?_) ?_
     ·go_simp
      refine(rplus_any (a.q*b.r) (b.q*a.r) _ _ _ f l (Ft.fit (Ft.mono (n:=2*m+0) (Ft.mul O.2.1 fb.2.2) (by omega)) (by omega)) (Ft.fit (Ft.mono (n:=2*m+0) (Ft.mul fb.2.1 O.2.2) (by omega)) (by omega))).mono ?_;rintro e H ⟨ag,rfl,h,y⟩;obtain⟨o,g,s,t,rfl⟩:=h.shape'
      go_wp2_with fail
      refine j.out _ _ (G.trans' y) (fun N=>?_);clear j K;refine wpAnyL_on (i:=11) rfl (fun K j=>?_)
      go_simp
      refine j.out _ _ (Kp.alloc' N (.cells #[.bool false,.slice none 0 0] 52)) (fun T=>?_);clear j K;have c:=Blk.new H #[.bool false,.slice none 0 0] 52;have B:w1.heap.size≤H.heap.size:=N.size;replace h:=h.keep (kp_alloc H (.cells #[.bool false,.slice none 0 0] 52))
      try simp only[sq]
      generalize ah:H.heap.size=J at *;generalize H.alloc (.cells #[.bool false,.slice none 0 0] 52)=ai at *;have U:=c.cell;have X:=c.frozen;have Y:=c.lt;refine wpAnyL_last (i:=12) rfl (by kernel_rfl) (by kernel_rfl) (by kernel_rfl) (fun K j=>?_)
      go_simp
      refine j.out _ _ ?_;clear j K
      go_wp2_with fail
      go_meet
      case rel=>exact⟨J,_,_,_,_,rfl,(bl2 (.bool o) (.slice g s t) c),h.soft (sf2 (.bool o) (.slice g s t) c (by decide)),(kp2 (A:=J) (.bool o) (.slice g s t) T B),B⟩
     refine AllReadyL.cons rfl (fun K j=>?_) ?_
     ·go_simp
      refine j.out _ _ (Kp.alloc' G (.cells #[.bool false,.slice none 0 0] 52)) (fun N=>?_);clear j K;have c:=Blk.new F #[.bool false,.slice none 0 0] 52;have B:w1.heap.size≤F.heap.size:=G.size;replace f:=f.keep (kp_alloc F (.cells #[.bool false,.slice none 0 0] 52));replace l:=l.keep (kp_alloc F (.cells #[.bool false,.slice none 0 0] 52))
      try simp only[sq]
      generalize ah:F.heap.size=J at *;generalize F.alloc (.cells #[.bool false,.slice none 0 0] 52)=ai at *;refine wpAnyL_on (i:=10) rfl (fun K j=>?_)
      go_simp
      refine(rplus_any (a.q*b.r) (b.q*a.r) _ _ _ f l (Ft.fit (Ft.mono (n:=2*m+0) (Ft.mul O.2.1 fb.2.2) (by omega)) (by omega)) (Ft.fit (Ft.mono (n:=2*m+0) (Ft.mul fb.2.1 O.2.2) (by omega)) (by omega))).mono ?_;rintro e H ⟨ag,rfl,h,y⟩;obtain⟨o,g,s,t,rfl⟩:=h.shape';replace c:=c.keep y
      go_wp2_with fail
      refine j.out _ _ (N.trans' y) (fun T=>?_);clear j K;have U:=c.cell;have X:=c.frozen;have Y:=c.lt;refine wpAnyL_last (i:=12) rfl (by kernel_rfl) (by kernel_rfl) (by kernel_rfl) (fun K j=>?_)
      go_simp
      refine j.out _ _ ?_;clear j K
      go_wp2_with fail
      go_meet
      case rel=>exact⟨J,_,_,_,_,rfl,(bl2 (.bool o) (.slice g s t) c),h.soft (sf2 (.bool o) (.slice g s t) c (by decide)),(kp2 (A:=J) (.bool o) (.slice g s t) T B),B⟩
     exact AllReadyL.nil
    refine AllReadyL.cons rfl (fun K j=>?_) ?_
    ·go_simp
     refine j.out _ _ (Kp.alloc' I (.cells #[.bool false,.slice none 0 0] 52)) (fun G=>?_);clear j K;have c:=Blk.new L #[.bool false,.slice none 0 0] 52;have B:w1.heap.size≤L.heap.size:=I.size;replace f:=f.keep (kp_alloc L (.cells #[.bool false,.slice none 0 0] 52))
     try simp only[sq]
     generalize ah:L.heap.size=J at *;generalize L.alloc (.cells #[.bool false,.slice none 0 0] 52)=ai at *;refine wpAnyL_on (i:=9) rfl (fun K j=>?_)
     go_simp
     refine(rtimes_any b.q a.r _ _ _ (ae.keep G) (Q.keep G) (Ft.fit fb.2.1 (by omega)) (Ft.fit O.2.2 (by omega))).mono ?_;rintro e F ⟨au,rfl,l,x⟩;obtain⟨av,af,aw,ax,rfl⟩:=l.shape';replace f:=f.keep x;replace c:=c.keep x
     go_wp2_with fail
     refine j.out _ _ (G.trans' x) (fun N=>?_);clear j K;refine wpAnyL_on (i:=10) rfl (fun K j=>?_)
     go_simp
     refine(rplus_any (a.q*b.r) (b.q*a.r) _ _ _ f l (Ft.fit (Ft.mono (n:=2*m+0) (Ft.mul O.2.1 fb.2.2) (by omega)) (by omega)) (Ft.fit (Ft.mono (n:=2*m+0) (Ft.mul fb.2.1 O.2.2) (by omega)) (by omega))).mono ?_;rintro e H ⟨ag,rfl,h,y⟩;obtain⟨o,g,s,t,rfl⟩:=h.shape';replace c:=c.keep y
     go_wp2_with fail
     refine j.out _ _ (N.trans' y) (fun T=>?_);clear j K;have U:=c.cell;have X:=c.frozen;have Y:=c.lt;refine wpAnyL_last (i:=12) rfl (by kernel_rfl) (by kernel_rfl) (by kernel_rfl) (fun K j=>?_)
     go_simp
     refine j.out _ _ ?_;clear j K
     go_wp2_with fail
     go_meet
     case rel=>exact⟨J,_,_,_,_,rfl,(bl2 (.bool o) (.slice g s t) c),h.soft (sf2 (.bool o) (.slice g s t) c (by decide)),(kp2 (A:=J) (.bool o) (.slice g s t) T B),B⟩
    exact AllReadyL.nil
   refine AllReadyL.cons rfl (fun K j=>?_) ?_
   ·go_simp
    refine j.out _ _ (Kp.alloc' z (.cells #[.bool false,.slice none 0 0] 52)) (fun I=>?_);clear j K;have c:=Blk.new wd #[.bool false,.slice none 0 0] 52;have B:w1.heap.size≤wd.heap.size:=z.size
    try simp only[sq]
    generalize ah:wd.heap.size=J at *;generalize wd.alloc (.cells #[.bool false,.slice none 0 0] 52)=ai at *;refine wpAnyL_on (i:=4) rfl (fun K j=>?_)
    go_simp
    refine(rtimes_any a.q b.r _ _ _ (am.keep I) (V.keep I) (Ft.fit O.2.1 (by omega)) (Ft.fit fb.2.2 (by omega))).mono ?_;rintro e L ⟨aJ,rfl,f,M⟩;obtain⟨aK,az,aL,aM,rfl⟩:=f.shape';replace c:=c.keep M
    go_wp2_with fail
    refine j.out _ _ (I.trans' M) (fun G=>?_);clear j K;refine wpAnyL_on (i:=9) rfl (fun K j=>?_)
    go_simp
    refine(rtimes_any b.q a.r _ _ _ (ae.keep G) (Q.keep G) (Ft.fit fb.2.1 (by omega)) (Ft.fit O.2.2 (by omega))).mono ?_;rintro e F ⟨au,rfl,l,x⟩;obtain⟨av,af,aw,ax,rfl⟩:=l.shape';replace c:=c.keep x;replace f:=f.keep x
    go_wp2_with fail
    refine j.out _ _ (G.trans' x) (fun N=>?_);clear j K;refine wpAnyL_on (i:=10) rfl (fun K j=>?_)
    go_simp
    refine(rplus_any (a.q*b.r) (b.q*a.r) _ _ _ f l (Ft.fit (Ft.mono (n:=2*m+0) (Ft.mul O.2.1 fb.2.2) (by omega)) (by omega)) (Ft.fit (Ft.mono (n:=2*m+0) (Ft.mul fb.2.1 O.2.2) (by omega)) (by omega))).mono ?_;rintro e H ⟨ag,rfl,h,y⟩;obtain⟨o,g,s,t,rfl⟩:=h.shape';replace c:=c.keep y
    go_wp2_with fail
    refine j.out _ _ (N.trans' y) (fun T=>?_);clear j K;have U:=c.cell;have X:=c.frozen;have Y:=c.lt;refine wpAnyL_last (i:=12) rfl (by kernel_rfl) (by kernel_rfl) (by kernel_rfl) (fun K j=>?_)
    go_simp
    refine j.out _ _ ?_;clear j K
    go_wp2_with fail
    go_meet
    case rel=>exact⟨J,_,_,_,_,rfl,(bl2 (.bool o) (.slice g s t) c),h.soft (sf2 (.bool o) (.slice g s t) c (by decide)),(kp2 (A:=J) (.bool o) (.slice g s t) T B),B⟩
   exact AllReadyL.nil
  case rest =>
   obtain⟨a9,a2,aS,a3,a4,rfl,BQ,hQ,E,a5⟩:=hcut;replace al:=al.keep E;replace am:=am.keep E;replace Q:=Q.keep E;replace ad:=ad.keep E;replace ae:=ae.keep E;replace V:=V.keep E;replace BA:=BA.keep E;replace BB:=BB.keep E;replace BE:=BE.keep E;replace BP:=BP.keep E;replace hP:=hP.keep E;replace R:=R.trans' E;have a6:=E.size;clear E;generalize wc=w2 at *
   go_wp2_with fail
   refine wp_region_l (S:=fun P=>Kp w2 P) (by kernel_rfl) (Kp.drew' (Below.refl _ _)) (fun z=>?_);generalize w2.drew=wd at *;refine wpAnyL_tk (i:=0) (k:=8) (v:=.agg #[.bool aX,.slice aR aY aZ]) rfl ?_ z ?_
   ·intro P C;have hc:=((BP).keep C).cell;go_simp
   simp only[sq];refine wpAnyL_tk (i:=1) (k:=8) (v:=.agg #[.bool a2,.slice aS a3 a4]) rfl ?_ z ?_
   ·intro P C;have hc:=((BQ).keep C).cell;go_simp
   simp only[sq];refine wpAnyL_tk (i:=2) (k:=3) (v:=.pointer (some ⟨w.heap.size,4,none⟩)) rfl ?_ z ?_
   ·intro P C;go_simp
   simp only[sq];refine wpAnyL_tk (i:=3) (k:=6) (v:=.agg #[.bool b3,.slice Z n3 c3]) rfl ?_ z ?_
   ·intro P C;have hc:=((BA).keep C).cell;go_simp
   simp only[sq];refine wpAnyL_tk (i:=4) (k:=5) (v:=.pointer (some ⟨w.heap.size+1,4,none⟩)) rfl ?_ z ?_
   ·intro P C;go_simp
   simp only[sq];refine wpAnyL_tk (i:=5) (k:=6) (v:=.agg #[.bool b6,.slice ac n6 c6]) rfl ?_ z ?_
   ·intro P C;have hc:=((BB).keep C).cell;go_simp
   simp only[sq];refine wpAnyL_tk (i:=7) (k:=8) (v:=.int .i64 D) rfl ?_ z ?_
   ·intro P C;go_simp
   simp only[sq];refine wpAnyL_on (i:=6) rfl (fun K j=>?_)
   go_simp
   refine(rtimes_any a.r b.r _ _ _ (Q.keep z) (V.keep z) (Ft.fit O.2.2 (by omega)) (Ft.fit fb.2.2 (by omega))).mono ?_;rintro e ba ⟨bc,rfl,aN,aP⟩;obtain⟨be,a7,bf,bh,rfl⟩:=aN.shape'
   go_wp2_with fail
   refine j.out _ _ (z.trans' aP) (fun I=>?_);clear j K;refine wpAnyL_on (i:=8) rfl (fun K j=>?_)
   go_simp
   refine(formed_any ((a.p*b.r)+(b.p*a.r)) ((a.q*b.r)+(b.q*a.r)) (a.r*b.r) D (2*m+1) _ _ _ _ (hP.keep I) (hQ.keep I) aN aW (by omega) (Ft.mono (n:=2*m+1) (Ft.mono (n:=2*m+1) (Ft.add (Ft.mono (n:=2*m+0) (Ft.mono (n:=2*m+0) (Ft.mul O.1 fb.2.2) (by omega)) (by omega)) (Ft.mono (n:=2*m+0) (Ft.mono (n:=2*m+0) (Ft.mul fb.1 O.2.2) (by omega)) (by omega))) (by omega)) (by omega)) (Ft.mono (n:=2*m+1) (Ft.mono (n:=2*m+1) (Ft.add (Ft.mono (n:=2*m+0) (Ft.mono (n:=2*m+0) (Ft.mul O.2.1 fb.2.2) (by omega)) (by omega)) (Ft.mono (n:=2*m+0) (Ft.mono (n:=2*m+0) (Ft.mul fb.2.1 O.2.2) (by omega)) (by omega))) (by omega)) (by omega)) (Ft.mono (n:=2*m+1) (Ft.mono (n:=2*m+0) (Ft.mul O.2.2 fb.2.2) (by omega)) (by omega))).mono ?_;rintro e bi ⟨bj,rfl,aO,aQ⟩;obtain⟨aA,ap,aB,aC,aD,aq,aE,aF,aG,ar,aH,aI,rfl,aT,aU,aV⟩:=id aO
   go_wp2_with fail
   refine j.out _ _ (I.trans' aQ) (fun G=>?_);clear j K;have TB:=(BE).keep G;have U:=TB.cell;have X:=TB.frozen;have Y:=TB.lt;refine wpAnyL_last (i:=9) rfl (by kernel_rfl) (by kernel_rfl) (by kernel_rfl) (fun K j=>?_)
   go_simp
   refine j.out _ _ ?_;clear j K
   go_wp2_with fail
   refine bodyPost_ret (v:=.agg #[.bool aA,.slice ap aB aC,.bool aD,.slice aq aE aF,.bool aG,.slice ar aH aI,.int .i64 (qreduce ((a.p*b.r)+(b.p*a.r)) ((a.q*b.r)+(b.q*a.r)) (a.r*b.r) D).d]) (by simp[results,Tryz.results76,go_sem,U]) rfl ?_;exact⟨_,rfl,aO.soft (sf7 (.bool aA) (.slice ap aB aC) (.bool aD) (.slice aq aE aF) (.bool aG) (.slice ar aH aI) (.int .i64 (qreduce ((a.p*b.r)+(b.p*a.r)) ((a.q*b.r)+(b.q*a.r)) (a.r*b.r) D).d) TB (by decide)),(kp7 (A:=w.heap.size+1+1) (.bool aA) (.slice ap aB aC) (.bool aD) (.slice aq aE aF) (.bool aG) (.slice ar aH aI) (.int .i64 (qreduce ((a.p*b.r)+(b.p*a.r)) ((a.q*b.r)+(b.q*a.r)) (a.r*b.r) D).d) (R.trans' G) (by show w.heap.size≤w.heap.size+1+1;omega))⟩
end Go.Proofs.YtjahbjjekednfaaGreatDoor
