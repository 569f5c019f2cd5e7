import Derived.Test.YtjahbjjekednfaaGreatDoorR10
import Derived.Test.YtjahbjjekednfaaGreatDoorR9g
namespace Go.Proofs.YtjahbjjekednfaaGreatDoor
set_option maxHeartbeats 6400000
set_option maxRecDepth 100000
open Go.RowKit
theorem qcom_g (p q r:Int):(Int.gcd (Int.gcd r p) q:Int)=(Int.gcd (Int.gcd p q) r:Int):=by
 unfold Int.gcd;rw[Int.natAbs_natCast,Int.natAbs_natCast,Nat.gcd_assoc,Nat.gcd_comm]
theorem qreduce_neg {p q r:Int} (d:Int) (h:r<0):qreduce p q r d=⟨-(p.tdiv (Int.gcd (Int.gcd p q) r:Int)),-(q.tdiv (Int.gcd (Int.gcd p q) r:Int)),(r.natAbs:Int).tdiv (Int.gcd (Int.gcd p q) r:Int),if q=0 then 1 else d⟩:=by
 have b:q.tdiv (qcom p q r)=0↔q=0:=by
  have c:=(qreduce_back p q r d).2.1;have i:=qcom_ne p q r (by omega);constructor
  ·intro a;have e:(qreduce p q r d).q=0:=a;rw[c,e,Int.mul_zero]
  ·intro a;rw[a];exact Int.zero_tdiv _
 have f:qcom p q r = -(Int.gcd (Int.gcd p q) r:Int):=by unfold qcom;rw[if_pos h,qcom_g]
 have g:(r.natAbs:Int) = -r:=by omega
 unfold qreduce;rw[show (if q.tdiv (qcom p q r)=0 then (1:Int) else d)=if q=0 then 1 else d by by_cases a:q=0 <;> simp[b,a]]
 rw[f,Int.tdiv_neg,Int.tdiv_neg,Int.tdiv_neg,g,Int.neg_tdiv]
theorem qreduce_nn {p q r:Int} (d:Int) (h:0<r):qreduce p q r d=⟨p.tdiv (Int.gcd (Int.gcd p q) r:Int),q.tdiv (Int.gcd (Int.gcd p q) r:Int),(r.natAbs:Int).tdiv (Int.gcd (Int.gcd p q) r:Int),if q=0 then 1 else d⟩:=by
 have b:q.tdiv (qcom p q r)=0↔q=0:=by
  have c:=(qreduce_back p q r d).2.1;have i:=qcom_ne p q r (by omega);constructor
  ·intro a;have e:(qreduce p q r d).q=0:=a;rw[c,e,Int.mul_zero]
  ·intro a;rw[a];exact Int.zero_tdiv _
 have f:qcom p q r=(Int.gcd (Int.gcd p q) r:Int):=by unfold qcom;rw[if_neg (by omega),qcom_g]
 have g:(r.natAbs:Int)=r:=by omega
 unfold qreduce;rw[show (if q.tdiv (qcom p q r)=0 then (1:Int) else d)=if q=0 then 1 else d by by_cases a:q=0 <;> simp[b,a]]
 rw[f,g]
theorem formed_any (p q r d:Int) (m:Nat) (u v t:Value) (w:World) (hp:IN w u p) (hq:IN w v q) (hr:IN w t r) (r0:r≠0) (hm:m≤100000000) (fp:Ft m p) (fq:Ft m q) (fr:Ft m r) :
  Calls Tryz.prog 98 #[u,v,t,.int .i64 d] w (RetNN w (qreduce p q r d)):=by
 obtain⟨b1,ay,n1,c1,rfl⟩:=hp.shape';obtain⟨b2,az,n2,c2,rfl⟩:=hq.shape';obtain⟨b3,aA,n3,c3,rfl⟩:=hr.shape';have aW:=Hid.mk hr.neg;have aH:=hq.len;have aI:Kp w ((((w.alloc (.cells #[.bool b1,.slice ay n1 c1] 52)).alloc (.cells #[.bool b2,.slice az n2 c2] 52)).alloc (.cells #[.bool b3,.slice aA n3 c3] 52)).alloc (.cells #[.bool false,.slice none 0 0,.bool false,.slice none 0 0,.bool false,.slice none 0 0,.int .i64 0] 54)):=(Kp.alloc' (Kp.alloc' (Kp.alloc' (Kp.alloc' (Below.refl w.heap.size w) (.cells #[.bool b1,.slice ay n1 c1] 52)) (.cells #[.bool b2,.slice az n2 c2] 52)) (.cells #[.bool b3,.slice aA n3 c3] 52)) (.cells #[.bool false,.slice none 0 0,.bool false,.slice none 0 0,.bool false,.slice none 0 0,.int .i64 0] 54));have BP:Blk ((((w.alloc (.cells #[.bool b1,.slice ay n1 c1] 52)).alloc (.cells #[.bool b2,.slice az n2 c2] 52)).alloc (.cells #[.bool b3,.slice aA n3 c3] 52)).alloc (.cells #[.bool false,.slice none 0 0,.bool false,.slice none 0 0,.bool false,.slice none 0 0,.int .i64 0] 54)) (w.heap.size) #[.bool b1,.slice ay n1 c1] 52:=(Blk.alloc (Blk.alloc (Blk.alloc (Blk.new w _ _) (.cells #[.bool b2,.slice az n2 c2] 52)) (.cells #[.bool b3,.slice aA n3 c3] 52)) (.cells #[.bool false,.slice none 0 0,.bool false,.slice none 0 0,.bool false,.slice none 0 0,.int .i64 0] 54));have BQ:Blk ((((w.alloc (.cells #[.bool b1,.slice ay n1 c1] 52)).alloc (.cells #[.bool b2,.slice az n2 c2] 52)).alloc (.cells #[.bool b3,.slice aA n3 c3] 52)).alloc (.cells #[.bool false,.slice none 0 0,.bool false,.slice none 0 0,.bool false,.slice none 0 0,.int .i64 0] 54)) (w.heap.size+1) #[.bool b2,.slice az n2 c2] 52:=(Blk.alloc (Blk.alloc (Blk.at (Blk.new (w.alloc (.cells #[.bool b1,.slice ay n1 c1] 52)) _ _) (by simp)) (.cells #[.bool b3,.slice aA n3 c3] 52)) (.cells #[.bool false,.slice none 0 0,.bool false,.slice none 0 0,.bool false,.slice none 0 0,.int .i64 0] 54))
 have BR:Blk ((((w.alloc (.cells #[.bool b1,.slice ay n1 c1] 52)).alloc (.cells #[.bool b2,.slice az n2 c2] 52)).alloc (.cells #[.bool b3,.slice aA n3 c3] 52)).alloc (.cells #[.bool false,.slice none 0 0,.bool false,.slice none 0 0,.bool false,.slice none 0 0,.int .i64 0] 54)) (w.heap.size+1+1) #[.bool b3,.slice aA n3 c3] 52:=(Blk.alloc (Blk.at (Blk.new ((w.alloc (.cells #[.bool b1,.slice ay n1 c1] 52)).alloc (.cells #[.bool b2,.slice az n2 c2] 52)) _ _) (by simp)) (.cells #[.bool false,.slice none 0 0,.bool false,.slice none 0 0,.bool false,.slice none 0 0,.int .i64 0] 54));have BE:Blk ((((w.alloc (.cells #[.bool b1,.slice ay n1 c1] 52)).alloc (.cells #[.bool b2,.slice az n2 c2] 52)).alloc (.cells #[.bool b3,.slice aA n3 c3] 52)).alloc (.cells #[.bool false,.slice none 0 0,.bool false,.slice none 0 0,.bool false,.slice none 0 0,.int .i64 0] 54)) (w.heap.size+1+1+1) #[.bool false,.slice none 0 0,.bool false,.slice none 0 0,.bool false,.slice none 0 0,.int .i64 0] 54:=(Blk.at (Blk.new (((w.alloc (.cells #[.bool b1,.slice ay n1 c1] 52)).alloc (.cells #[.bool b2,.slice az n2 c2] 52)).alloc (.cells #[.bool b3,.slice aA n3 c3] 52)) _ _) (by simp));replace hp:=hp.keep aI;replace hq:=hq.keep aI;replace hr:=hr.keep aI;have l1:=BP.lt;have l2:=BQ.lt;have l3:=BR.lt;have l4:=BE.lt;have g0:0<(Int.gcd (Int.gcd p q) r:Int):=by
  have:Int.gcd (Int.gcd p q) r≠0:=fun h=>r0 (Int.gcd_eq_zero_iff.mp h).2;omega
 have fg:Ft m (Int.gcd (Int.gcd p q) r:Int):=(fp.gcd fq).gcd fr;have a6:=Hid.mk (fun h=>qreduce_neg (p:=p) (q:=q) (r:=r) d h);have a7:=Hid.mk (fun h=>qreduce_nn (p:=p) (q:=q) (r:=r) d h)
 go_enter Tryz.func98,Tryz.ntmps98
 go_wp2_with fail
 generalize ((((w.alloc (.cells #[.bool b1,.slice ay n1 c1] 52)).alloc (.cells #[.bool b2,.slice az n2 c2] 52)).alloc (.cells #[.bool b3,.slice aA n3 c3] 52)).alloc (.cells #[.bool false,.slice none 0 0,.bool false,.slice none 0 0,.bool false,.slice none 0 0,.int .i64 0] 54))=wb at *
 go_cut [9] from 11 to 15 (fun p' wx=>∃(bg:Nat) (bb:Bool) (aa:Option Addr) (nn cc:Nat),p'=.pointer (some ⟨bg,0,none⟩)∧Blk wx bg #[.bool bb,.slice aa nn cc] 52∧IN wx (.agg #[.bool bb,.slice aa nn cc]) (Int.gcd (Int.gcd p q) r:Int)∧Kp wb wx∧wb.heap.size≤bg)
 case first =>
  clear a6 a7 aW aH;refine wp_region_l (S:=fun w'=>Kp wb w') (by kernel_rfl) (Kp.drew' (Below.refl _ _)) (fun V=>?_);generalize wb.drew=wd at *;refine wpAnyL_tk (i:=0) (k:=2) (v:=.agg #[.bool b1,.slice ay n1 c1]) rfl ?_ V ?_
  ·intro w' Q;have hc:=((BP).keep Q).cell;go_simp
  simp only[sq];refine wpAnyL_tk (i:=1) (k:=2) (v:=.agg #[.bool b2,.slice az n2 c2]) rfl ?_ V ?_
  ·intro w' Q;have hc:=((BQ).keep Q).cell;go_simp
  simp only[sq];refine wpAnyL_tk (i:=3) (k:=4) (v:=.agg #[.bool b3,.slice aA n3 c3]) rfl ?_ V ?_
  ·intro w' Q;have hc:=((BR).keep Q).cell;go_simp
  simp only[sq];refine wpAnyL_ready (rs:=[2,5]) (by kernel_rfl) (by simp) ?_;refine AllReadyL.cons rfl (fun K s=>?_) ?_
  ·go_simp
   refine(rgcd_any _ p q m _ _ _ (Nat.le_refl _) (hp.keep V) (hq.keep V) hm fp fq).mono ?_;rintro e Z ⟨a8,rfl,a,ac⟩;obtain⟨C,l,D,F,rfl⟩:=a.shape'
   go_wp2_with fail
   refine s.out _ _ (V.trans' ac) (fun af=>?_);clear s K;refine wpAnyL_ready (rs:=[4,5]) (by kernel_rfl) (by simp) ?_;refine AllReadyL.cons rfl (fun K s=>?_) ?_
   ·go_simp
    refine(rgcd_any _ (Int.gcd p q:Int) r m _ _ _ (Nat.le_refl _) a (hr.keep af) hm (fp.gcd fq) fr).mono ?_;rintro e aJ ⟨bp,rfl,W,ar⟩;obtain⟨ag,R,ah,ai,rfl⟩:=W.shape'
    go_wp2_with fail
    refine s.out _ _ (af.trans' ar) (fun X=>?_);clear s K;refine wpAnyL_on (i:=5) rfl (fun K s=>?_)
    go_simp
    refine s.out _ _ (Kp.alloc' X (.cells #[.bool false,.slice none 0 0] 52)) (fun ad=>?_);clear s K;have T:=Blk.new aJ #[.bool false,.slice none 0 0] 52;have aX:wb.heap.size≤aJ.heap.size:=X.size;replace W:=W.keep (kp_alloc aJ (.cells #[.bool false,.slice none 0 0] 52))
    try simp only[sq]
    generalize bw:aJ.heap.size=A5 at *;generalize aJ.alloc (.cells #[.bool false,.slice none 0 0] 52)=bx at *;have aK:=T.cell;have aL:=T.frozen;have aM:=T.lt;refine wpAnyL_last (i:=6) rfl (by kernel_rfl) (by kernel_rfl) (by kernel_rfl) (fun K s=>?_)
    go_simp
    refine s.out _ _ ?_;clear s K
    go_wp2_with fail
    go_meet
    case rel=>exact⟨A5,_,_,_,_,rfl,(bl2 (.bool ag) (.slice R ah ai) T),W.soft (sf2 (.bool ag) (.slice R ah ai) T (by decide)),(kp2 (A:=A5) (.bool ag) (.slice R ah ai) ad aX),aX⟩
   refine AllReadyL.cons rfl (fun K s=>?_) ?_
   ·go_simp
    refine s.out _ _ (Kp.alloc' af (.cells #[.bool false,.slice none 0 0] 52)) (fun X=>?_);clear s K;have T:=Blk.new Z #[.bool false,.slice none 0 0] 52;have aX:wb.heap.size≤Z.heap.size:=af.size;replace a:=a.keep (kp_alloc Z (.cells #[.bool false,.slice none 0 0] 52))
    try simp only[sq]
    generalize bw:Z.heap.size=A5 at *;generalize Z.alloc (.cells #[.bool false,.slice none 0 0] 52)=bx at *;refine wpAnyL_on (i:=4) rfl (fun K s=>?_)
    go_simp
    refine(rgcd_any _ (Int.gcd p q:Int) r m _ _ _ (Nat.le_refl _) a (hr.keep X) hm (fp.gcd fq) fr).mono ?_;rintro e aJ ⟨bp,rfl,W,ar⟩;obtain⟨ag,R,ah,ai,rfl⟩:=W.shape';replace T:=T.keep ar
    go_wp2_with fail
    refine s.out _ _ (X.trans' ar) (fun ad=>?_);clear s K;have aK:=T.cell;have aL:=T.frozen;have aM:=T.lt;refine wpAnyL_last (i:=6) rfl (by kernel_rfl) (by kernel_rfl) (by kernel_rfl) (fun K s=>?_)
    go_simp
    refine s.out _ _ ?_;clear s K
    go_wp2_with fail
    go_meet
    case rel=>exact⟨A5,_,_,_,_,rfl,(bl2 (.bool ag) (.slice R ah ai) T),W.soft (sf2 (.bool ag) (.slice R ah ai) T (by decide)),(kp2 (A:=A5) (.bool ag) (.slice R ah ai) ad aX),aX⟩
   exact AllReadyL.nil
  refine AllReadyL.cons rfl (fun K s=>?_) ?_
  ·go_simp
   refine s.out _ _ (Kp.alloc' V (.cells #[.bool false,.slice none 0 0] 52)) (fun af=>?_);clear s K;have T:=Blk.new wd #[.bool false,.slice none 0 0] 52;have aX:wb.heap.size≤wd.heap.size:=V.size
   try simp only[sq]
   generalize bw:wd.heap.size=A5 at *;generalize wd.alloc (.cells #[.bool false,.slice none 0 0] 52)=bx at *;refine wpAnyL_on (i:=2) rfl (fun K s=>?_)
   go_simp
   refine(rgcd_any _ p q m _ _ _ (Nat.le_refl _) (hp.keep af) (hq.keep af) hm fp fq).mono ?_;rintro e Z ⟨a8,rfl,a,ac⟩;obtain⟨C,l,D,F,rfl⟩:=a.shape';replace T:=T.keep ac
   go_wp2_with fail
   refine s.out _ _ (af.trans' ac) (fun X=>?_);clear s K;refine wpAnyL_on (i:=4) rfl (fun K s=>?_)
   go_simp
   refine(rgcd_any _ (Int.gcd p q:Int) r m _ _ _ (Nat.le_refl _) a (hr.keep X) hm (fp.gcd fq) fr).mono ?_;rintro e aJ ⟨bp,rfl,W,ar⟩;obtain⟨ag,R,ah,ai,rfl⟩:=W.shape';replace T:=T.keep ar
   go_wp2_with fail
   refine s.out _ _ (X.trans' ar) (fun ad=>?_);clear s K;have aK:=T.cell;have aL:=T.frozen;have aM:=T.lt;refine wpAnyL_last (i:=6) rfl (by kernel_rfl) (by kernel_rfl) (by kernel_rfl) (fun K s=>?_)
   go_simp
   refine s.out _ _ ?_;clear s K
   go_wp2_with fail
   go_meet
   case rel=>exact⟨A5,_,_,_,_,rfl,(bl2 (.bool ag) (.slice R ah ai) T),W.soft (sf2 (.bool ag) (.slice R ah ai) T (by decide)),(kp2 (A:=A5) (.bool ag) (.slice R ah ai) ad aX),aX⟩
  exact AllReadyL.nil
 case rest =>
  obtain⟨bg,b9,bs,n9,c9,rfl,BG,hg,ak,bL⟩:=hcut;generalize (Int.gcd (Int.gcd p q) r:Int)=g at *;replace hp:=hp.keep ak;replace hq:=hq.keep ak;replace hr:=hr.keep ak;replace BP:=BP.keep ak;replace BQ:=BQ.keep ak;replace BR:=BR.keep ak;replace BE:=BE.keep ak;replace aI:=aI.trans' ak;have bK:=ak.size;clear ak;generalize wc=wq at *
  go_wp2_with fail
  go_cut [10] from 16 to 27 (fun p' wx=>∃(bn:Nat) (aT:Bool) (aw:Option Addr) (aU aV:Nat) (aN:Bool) (ao:Option Addr) (aO aP:Nat) (al:Bool) (P:Option Addr) (am an:Nat),p'=.pointer (some ⟨bn,0,none⟩)∧Blk wx bn #[.bool aT,.slice aw aU aV,.bool aN,.slice ao aO aP,.bool al,.slice P am an,.int .i64 d] 54∧IN wx (.agg #[.bool aT,.slice aw aU aV]) (p.tdiv g)∧IN wx (.agg #[.bool aN,.slice ao aO aP]) (q.tdiv g)∧IN wx (.agg #[.bool al,.slice P am an]) ((r.natAbs:Int).tdiv g)∧Kp wq wx∧wq.heap.size≤bn)
  case first =>
   clear a6 a7 aW aH;refine wp_region_l (S:=fun w'=>Kp wq w') (by kernel_rfl) (Kp.drew' (Below.refl _ _)) (fun V=>?_);generalize wq.drew=wd at *;refine wpAnyL_tk (i:=0) (k:=2) (v:=.agg #[.bool b1,.slice ay n1 c1]) rfl ?_ V ?_
   ·intro w' Q;have hc:=((BP).keep Q).cell;go_simp
   simp only[sq];refine wpAnyL_tk (i:=1) (k:=2) (v:=.agg #[.bool b9,.slice bs n9 c9]) rfl ?_ V ?_
   ·intro w' Q;have hc:=((BG).keep Q).cell;go_simp
   simp only[sq];refine wpAnyL_tk (i:=3) (k:=5) (v:=.agg #[.bool b2,.slice az n2 c2]) rfl ?_ V ?_
   ·intro w' Q;have hc:=((BQ).keep Q).cell;go_simp
   simp only[sq];refine wpAnyL_tk (i:=4) (k:=5) (v:=.agg #[.bool b9,.slice bs n9 c9]) rfl ?_ V ?_
   ·intro w' Q;have hc:=((BG).keep Q).cell;go_simp
   simp only[sq];refine wpAnyL_tk (i:=6) (k:=7) (v:=.agg #[.bool b3,.slice aA n3 c3]) rfl ?_ V ?_
   ·intro w' Q;have hc:=((BR).keep Q).cell;go_simp
   simp only[sq];refine wpAnyL_tk (i:=8) (k:=9) (v:=.agg #[.bool b9,.slice bs n9 c9]) rfl ?_ V ?_
   ·intro w' Q;have hc:=((BG).keep Q).cell;go_simp
   simp only[sq];refine wpAnyL_tk (i:=10) (k:=11) (v:=.int .i64 d) rfl ?_ V ?_
   ·intro w' Q;go_simp
   simp only[sq];refine wpAnyL_ready (rs:=[2,12]) (by kernel_rfl) (by simp) ?_;refine AllReadyL.cons rfl (fun K s=>?_) ?_
   ·go_simp
    refine(rexact_any p g m _ _ _ (hp.keep V) (hg.keep V) g0 hm fp fg).mono ?_;rintro e Z ⟨a8,rfl,a,ac⟩;obtain⟨C,l,D,F,rfl⟩:=a.shape'
    go_wp2_with fail
    refine s.out _ _ (V.trans' ac) (fun af=>?_);clear s K;refine wpAnyL_ready (rs:=[5,12]) (by kernel_rfl) (by simp) ?_;refine AllReadyL.cons rfl (fun K s=>?_) ?_
    ·go_simp
     refine(rexact_any q g m _ _ _ (hq.keep af) (hg.keep af) g0 hm fq fg).mono ?_;rintro e aD ⟨bq,rfl,f,Y⟩;obtain⟨G,n,H,I,rfl⟩:=f.shape';replace a:=a.keep Y
     go_wp2_with fail
     refine s.out _ _ (af.trans' Y) (fun X=>?_);clear s K;refine wpAnyL_ready (rs:=[7,12]) (by kernel_rfl) (by simp) ?_;refine AllReadyL.cons rfl (fun K s=>?_) ?_
     ·go_simp
      refine(size_any r _ _ (hr.keep X)).mono ?_;rintro e ap ⟨a9,rfl,O,L⟩;obtain⟨ba,aY,bc,be,rfl⟩:=O.shape';replace a:=a.keep L;replace f:=f.keep L
      go_wp2_with fail
      refine s.out _ _ (X.trans' L) (fun ad=>?_);clear s K;refine wpAnyL_ready (rs:=[9,12]) (by kernel_rfl) (by simp) ?_;refine AllReadyL.cons rfl (fun K s=>?_) ?_
      ·go_simp
       refine(rexact_any (r.natAbs:Int) g m _ _ _ O (hg.keep ad) g0 hm fr.abs fg).mono ?_;rintro e aj ⟨aZ,rfl,M,J⟩;obtain⟨x,j,z,B,rfl⟩:=M.shape';replace a:=a.keep J;replace f:=f.keep J
       go_wp2_with fail
       refine s.out _ _ (ad.trans' J) (fun au=>?_);clear s K;refine wpAnyL_tk (i:=11) (k:=13) (v:=.agg #[.bool C,.slice l D F,.bool G,.slice n H I,.bool x,.slice j z B,.int .i64 d]) rfl ?_ au ?_
       ·intro w' Q;go_simp
       simp only[sq];refine wpAnyL_on (i:=12) rfl (fun K s=>?_)
       go_simp
       refine s.out _ _ (Kp.alloc' au (.cells #[.bool false,.slice none 0 0,.bool false,.slice none 0 0,.bool false,.slice none 0 0,.int .i64 0] 54)) (fun aB=>?_);clear s K;have b:=Blk.new aj #[.bool false,.slice none 0 0,.bool false,.slice none 0 0,.bool false,.slice none 0 0,.int .i64 0] 54;have U:wq.heap.size≤aj.heap.size:=au.size;replace a:=a.keep (kp_alloc aj (.cells #[.bool false,.slice none 0 0,.bool false,.slice none 0 0,.bool false,.slice none 0 0,.int .i64 0] 54));replace f:=f.keep (kp_alloc aj (.cells #[.bool false,.slice none 0 0,.bool false,.slice none 0 0,.bool false,.slice none 0 0,.int .i64 0] 54));replace M:=M.keep (kp_alloc aj (.cells #[.bool false,.slice none 0 0,.bool false,.slice none 0 0,.bool false,.slice none 0 0,.int .i64 0] 54))
       try simp only[sq]
       generalize a0:aj.heap.size=ax at *;generalize aj.alloc (.cells #[.bool false,.slice none 0 0,.bool false,.slice none 0 0,.bool false,.slice none 0 0,.int .i64 0] 54)=a1 at *;have aK:=b.cell;have aL:=b.frozen;have aM:=b.lt;refine wpAnyL_last (i:=13) rfl (by kernel_rfl) (by kernel_rfl) (by kernel_rfl) (fun K s=>?_)
       go_simp
       refine s.out _ _ ?_;clear s K
       go_wp2_with fail
       go_meet
       case rel=>exact⟨ax,_,_,_,_,_,_,_,_,_,_,_,_,rfl,(bl7 (.bool C) (.slice l D F) (.bool G) (.slice n H I) (.bool x) (.slice j z B) (.int .i64 d) b),a.soft (sf7 (.bool C) (.slice l D F) (.bool G) (.slice n H I) (.bool x) (.slice j z B) (.int .i64 d) b (by decide)),f.soft (sf7 (.bool C) (.slice l D F) (.bool G) (.slice n H I) (.bool x) (.slice j z B) (.int .i64 d) b (by decide)),M.soft (sf7 (.bool C) (.slice l D F) (.bool G) (.slice n H I) (.bool x) (.slice j z B) (.int .i64 d) b (by decide)),(kp7 (A:=ax) (.bool C) (.slice l D F) (.bool G) (.slice n H I) (.bool x) (.slice j z B) (.int .i64 d) aB U),U⟩
      refine AllReadyL.cons rfl (fun K s=>?_) ?_
      ·go_simp
       refine s.out _ _ (Kp.alloc' ad (.cells #[.bool false,.slice none 0 0,.bool false,.slice none 0 0,.bool false,.slice none 0 0,.int .i64 0] 54)) (fun au=>?_);clear s K;have b:=Blk.new ap #[.bool false,.slice none 0 0,.bool false,.slice none 0 0,.bool false,.slice none 0 0,.int .i64 0] 54;have U:wq.heap.size≤ap.heap.size:=ad.size;replace a:=a.keep (kp_alloc ap (.cells #[.bool false,.slice none 0 0,.bool false,.slice none 0 0,.bool false,.slice none 0 0,.int .i64 0] 54));replace f:=f.keep (kp_alloc ap (.cells #[.bool false,.slice none 0 0,.bool false,.slice none 0 0,.bool false,.slice none 0 0,.int .i64 0] 54));replace O:=O.keep (kp_alloc ap (.cells #[.bool false,.slice none 0 0,.bool false,.slice none 0 0,.bool false,.slice none 0 0,.int .i64 0] 54))
       try simp only[sq]
       generalize a0:ap.heap.size=ax at *;generalize ap.alloc (.cells #[.bool false,.slice none 0 0,.bool false,.slice none 0 0,.bool false,.slice none 0 0,.int .i64 0] 54)=a1 at *;refine wpAnyL_on (i:=9) rfl (fun K s=>?_)
       go_simp
       refine(rexact_any (r.natAbs:Int) g m _ _ _ O (hg.keep au) g0 hm fr.abs fg).mono ?_;rintro e aj ⟨aZ,rfl,M,J⟩;obtain⟨x,j,z,B,rfl⟩:=M.shape';replace a:=a.keep J;replace f:=f.keep J;replace b:=b.keep J
       go_wp2_with fail
       refine s.out _ _ (au.trans' J) (fun aB=>?_);clear s K;refine wpAnyL_tk (i:=11) (k:=13) (v:=.agg #[.bool C,.slice l D F,.bool G,.slice n H I,.bool x,.slice j z B,.int .i64 d]) rfl ?_ aB ?_
       ·intro w' Q;go_simp
       simp only[sq];have aK:=b.cell;have aL:=b.frozen;have aM:=b.lt;refine wpAnyL_last (i:=13) rfl (by kernel_rfl) (by kernel_rfl) (by kernel_rfl) (fun K s=>?_)
       go_simp
       refine s.out _ _ ?_;clear s K
       go_wp2_with fail
       go_meet
       case rel=>exact⟨ax,_,_,_,_,_,_,_,_,_,_,_,_,rfl,(bl7 (.bool C) (.slice l D F) (.bool G) (.slice n H I) (.bool x) (.slice j z B) (.int .i64 d) b),a.soft (sf7 (.bool C) (.slice l D F) (.bool G) (.slice n H I) (.bool x) (.slice j z B) (.int .i64 d) b (by decide)),f.soft (sf7 (.bool C) (.slice l D F) (.bool G) (.slice n H I) (.bool x) (.slice j z B) (.int .i64 d) b (by decide)),M.soft (sf7 (.bool C) (.slice l D F) (.bool G) (.slice n H I) (.bool x) (.slice j z B) (.int .i64 d) b (by decide)),(kp7 (A:=ax) (.bool C) (.slice l D F) (.bool G) (.slice n H I) (.bool x) (.slice j z B) (.int .i64 d) aB U),U⟩
      exact AllReadyL.nil
     refine AllReadyL.cons rfl (fun K s=>?_) ?_
     ·go_simp
      refine s.out _ _ (Kp.alloc' X (.cells #[.bool false,.slice none 0 0,.bool false,.slice none 0 0,.bool false,.slice none 0 0,.int .i64 0] 54)) (fun ad=>?_);clear s K;have b:=Blk.new aD #[.bool false,.slice none 0 0,.bool false,.slice none 0 0,.bool false,.slice none 0 0,.int .i64 0] 54;have U:wq.heap.size≤aD.heap.size:=X.size;replace a:=a.keep (kp_alloc aD (.cells #[.bool false,.slice none 0 0,.bool false,.slice none 0 0,.bool false,.slice none 0 0,.int .i64 0] 54));replace f:=f.keep (kp_alloc aD (.cells #[.bool false,.slice none 0 0,.bool false,.slice none 0 0,.bool false,.slice none 0 0,.int .i64 0] 54))
      try simp only[sq]
      generalize a0:aD.heap.size=ax at *;generalize aD.alloc (.cells #[.bool false,.slice none 0 0,.bool false,.slice none 0 0,.bool false,.slice none 0 0,.int .i64 0] 54)=a1 at *;refine wpAnyL_on (i:=7) rfl (fun K s=>?_)
      go_simp
      refine(size_any r _ _ (hr.keep ad)).mono ?_;rintro e ap ⟨a9,rfl,O,L⟩;obtain⟨ba,aY,bc,be,rfl⟩:=O.shape';replace a:=a.keep L;replace f:=f.keep L;replace b:=b.keep L
      go_wp2_with fail
      refine s.out _ _ (ad.trans' L) (fun au=>?_);clear s K;refine wpAnyL_on (i:=9) rfl (fun K s=>?_)
      go_simp
      refine(rexact_any (r.natAbs:Int) g m _ _ _ O (hg.keep au) g0 hm fr.abs fg).mono ?_;rintro e aj ⟨aZ,rfl,M,J⟩;obtain⟨x,j,z,B,rfl⟩:=M.shape';replace a:=a.keep J;replace f:=f.keep J;replace b:=b.keep J
      go_wp2_with fail
      refine s.out _ _ (au.trans' J) (fun aB=>?_);clear s K;refine wpAnyL_tk (i:=11) (k:=13) (v:=.agg #[.bool C,.slice l D F,.bool G,.slice n H I,.bool x,.slice j z B,.int .i64 d]) rfl ?_ aB ?_
      ·intro w' Q;go_simp
      simp only[sq];have aK:=b.cell;have aL:=b.frozen;have aM:=b.lt;refine wpAnyL_last (i:=13) rfl (by kernel_rfl) (by kernel_rfl) (by kernel_rfl) (fun K s=>?_)
      go_simp
      refine s.out _ _ ?_;clear s K
      go_wp2_with fail
      go_meet
      case rel=>exact⟨ax,_,_,_,_,_,_,_,_,_,_,_,_,rfl,(bl7 (.bool C) (.slice l D F) (.bool G) (.slice n H I) (.bool x) (.slice j z B) (.int .i64 d) b),a.soft (sf7 (.bool C) (.slice l D F) (.bool G) (.slice n H I) (.bool x) (.slice j z B) (.int .i64 d) b (by decide)),f.soft (sf7 (.bool C) (.slice l D F) (.bool G) (.slice n H I) (.bool x) (.slice j z B) (.int .i64 d) b (by decide)),M.soft (sf7 (.bool C) (.slice l D F) (.bool G) (.slice n H I) (.bool x) (.slice j z B) (.int .i64 d) b (by decide)),(kp7 (A:=ax) (.bool C) (.slice l D F) (.bool G) (.slice n H I) (.bool x) (.slice j z B) (.int .i64 d) aB U),U⟩
     exact AllReadyL.nil
    refine AllReadyL.cons rfl (fun K s=>?_) ?_
    ·go_simp
     refine s.out _ _ (Kp.alloc' af (.cells #[.bool false,.slice none 0 0,.bool false,.slice none 0 0,.bool false,.slice none 0 0,.int .i64 0] 54)) (fun X=>?_);clear s K;have b:=Blk.new Z #[.bool false,.slice none 0 0,.bool false,.slice none 0 0,.bool false,.slice none 0 0,.int .i64 0] 54;have U:wq.heap.size≤Z.heap.size:=af.size;replace a:=a.keep (kp_alloc Z (.cells #[.bool false,.slice none 0 0,.bool false,.slice none 0 0,.bool false,.slice none 0 0,.int .i64 0] 54))
     try simp only[sq]
     generalize a0:Z.heap.size=ax at *;generalize Z.alloc (.cells #[.bool false,.slice none 0 0,.bool false,.slice none 0 0,.bool false,.slice none 0 0,.int .i64 0] 54)=a1 at *;refine wpAnyL_on (i:=5) rfl (fun K s=>?_)
     go_simp
     refine(rexact_any q g m _ _ _ (hq.keep X) (hg.keep X) g0 hm fq fg).mono ?_;rintro e aD ⟨bq,rfl,f,Y⟩;obtain⟨G,n,H,I,rfl⟩:=f.shape';replace a:=a.keep Y;replace b:=b.keep Y
     go_wp2_with fail
     refine s.out _ _ (X.trans' Y) (fun ad=>?_);clear s K;refine wpAnyL_on (i:=7) rfl (fun K s=>?_)
     go_simp
     refine(size_any r _ _ (hr.keep ad)).mono ?_;rintro e ap ⟨a9,rfl,O,L⟩;obtain⟨ba,aY,bc,be,rfl⟩:=O.shape';replace a:=a.keep L;replace b:=b.keep L;replace f:=f.keep L
     go_wp2_with fail
     refine s.out _ _ (ad.trans' L) (fun au=>?_);clear s K;refine wpAnyL_on (i:=9) rfl (fun K s=>?_)
     go_simp
     refine(rexact_any (r.natAbs:Int) g m _ _ _ O (hg.keep au) g0 hm fr.abs fg).mono ?_;rintro e aj ⟨aZ,rfl,M,J⟩;obtain⟨x,j,z,B,rfl⟩:=M.shape';replace a:=a.keep J;replace b:=b.keep J;replace f:=f.keep J
     go_wp2_with fail
     refine s.out _ _ (au.trans' J) (fun aB=>?_);clear s K;refine wpAnyL_tk (i:=11) (k:=13) (v:=.agg #[.bool C,.slice l D F,.bool G,.slice n H I,.bool x,.slice j z B,.int .i64 d]) rfl ?_ aB ?_
     ·intro w' Q;go_simp
     simp only[sq];have aK:=b.cell;have aL:=b.frozen;have aM:=b.lt;refine wpAnyL_last (i:=13) rfl (by kernel_rfl) (by kernel_rfl) (by kernel_rfl) (fun K s=>?_)
     go_simp
     refine s.out _ _ ?_;clear s K
     go_wp2_with fail
     go_meet
     case rel=>exact⟨ax,_,_,_,_,_,_,_,_,_,_,_,_,rfl,(bl7 (.bool C) (.slice l D F) (.bool G) (.slice n H I) (.bool x) (.slice j z B) (.int .i64 d) b),a.soft (sf7 (.bool C) (.slice l D F) (.bool G) (.slice n H I) (.bool x) (.slice j z B) (.int .i64 d) b (by decide)),f.soft (sf7 (.bool C) (.slice l D F) (.bool G) (.slice n H I) (.bool x) (.slice j z B) (.int .i64 d) b (by decide)),M.soft (sf7 (.bool C) (.slice l D F) (.bool G) (.slice n H I) (.bool x) (.slice j z B) (.int .i64 d) b (by decide)),(kp7 (A:=ax) (.bool C) (.slice l D F) (.bool G) (.slice n H I) (.bool x) (.slice j z B) (.int .i64 d) aB U),U⟩
    exact AllReadyL.nil
   refine AllReadyL.cons rfl (fun K s=>?_) ?_
   ·go_simp
    refine s.out _ _ (Kp.alloc' V (.cells #[.bool false,.slice none 0 0,.bool false,.slice none 0 0,.bool false,.slice none 0 0,.int .i64 0] 54)) (fun af=>?_);clear s K;have b:=Blk.new wd #[.bool false,.slice none 0 0,.bool false,.slice none 0 0,.bool false,.slice none 0 0,.int .i64 0] 54;have U:wq.heap.size≤wd.heap.size:=V.size
    try simp only[sq]
    generalize a0:wd.heap.size=ax at *;generalize wd.alloc (.cells #[.bool false,.slice none 0 0,.bool false,.slice none 0 0,.bool false,.slice none 0 0,.int .i64 0] 54)=a1 at *;refine wpAnyL_on (i:=2) rfl (fun K s=>?_)
    go_simp
    refine(rexact_any p g m _ _ _ (hp.keep af) (hg.keep af) g0 hm fp fg).mono ?_;rintro e Z ⟨a8,rfl,a,ac⟩;obtain⟨C,l,D,F,rfl⟩:=a.shape';replace b:=b.keep ac
    go_wp2_with fail
    refine s.out _ _ (af.trans' ac) (fun X=>?_);clear s K;refine wpAnyL_on (i:=5) rfl (fun K s=>?_)
    go_simp
    refine(rexact_any q g m _ _ _ (hq.keep X) (hg.keep X) g0 hm fq fg).mono ?_;rintro e aD ⟨bq,rfl,f,Y⟩;obtain⟨G,n,H,I,rfl⟩:=f.shape';replace b:=b.keep Y;replace a:=a.keep Y
    go_wp2_with fail
    refine s.out _ _ (X.trans' Y) (fun ad=>?_);clear s K;refine wpAnyL_on (i:=7) rfl (fun K s=>?_)
    go_simp
    refine(size_any r _ _ (hr.keep ad)).mono ?_;rintro e ap ⟨a9,rfl,O,L⟩;obtain⟨ba,aY,bc,be,rfl⟩:=O.shape';replace b:=b.keep L;replace a:=a.keep L;replace f:=f.keep L
    go_wp2_with fail
    refine s.out _ _ (ad.trans' L) (fun au=>?_);clear s K;refine wpAnyL_on (i:=9) rfl (fun K s=>?_)
    go_simp
    refine(rexact_any (r.natAbs:Int) g m _ _ _ O (hg.keep au) g0 hm fr.abs fg).mono ?_;rintro e aj ⟨aZ,rfl,M,J⟩;obtain⟨x,j,z,B,rfl⟩:=M.shape';replace b:=b.keep J;replace a:=a.keep J;replace f:=f.keep J
    go_wp2_with fail
    refine s.out _ _ (au.trans' J) (fun aB=>?_);clear s K;refine wpAnyL_tk (i:=11) (k:=13) (v:=.agg #[.bool C,.slice l D F,.bool G,.slice n H I,.bool x,.slice j z B,.int .i64 d]) rfl ?_ aB ?_
    ·intro w' Q;go_simp
    simp only[sq];have aK:=b.cell;have aL:=b.frozen;have aM:=b.lt;refine wpAnyL_last (i:=13) rfl (by kernel_rfl) (by kernel_rfl) (by kernel_rfl) (fun K s=>?_)
    go_simp
    refine s.out _ _ ?_;clear s K
    go_wp2_with fail
    go_meet
    case rel=>exact⟨ax,_,_,_,_,_,_,_,_,_,_,_,_,rfl,(bl7 (.bool C) (.slice l D F) (.bool G) (.slice n H I) (.bool x) (.slice j z B) (.int .i64 d) b),a.soft (sf7 (.bool C) (.slice l D F) (.bool G) (.slice n H I) (.bool x) (.slice j z B) (.int .i64 d) b (by decide)),f.soft (sf7 (.bool C) (.slice l D F) (.bool G) (.slice n H I) (.bool x) (.slice j z B) (.int .i64 d) b (by decide)),M.soft (sf7 (.bool C) (.slice l D F) (.bool G) (.slice n H I) (.bool x) (.slice j z B) (.int .i64 d) b (by decide)),(kp7 (A:=ax) (.bool C) (.slice l D F) (.bool G) (.slice n H I) (.bool x) (.slice j z B) (.int .i64 d) aB U),U⟩
   exact AllReadyL.nil
  case rest =>
   obtain⟨bn,aT,aw,aU,aV,aN,ao,aO,aP,al,P,am,an,rfl,BN,hP,hQ,hR,ak,bM⟩:=hcut;replace BQ:=BQ.keep ak;replace BR:=BR.keep ak;replace BE:=BE.keep ak;replace aI:=aI.trans' ak;clear hp hq hr BP BG hg ak;have bz:=BQ.cell;have bG:=BR.cell;have bA:=BQ.lt;have bH:=BR.lt;have bi:=BN.cell;have bj:=BN.frozen;have bm:=BN.lt;have bN:=aH.2;have a2:=aW.out;by_cases bt:r<0
   ·have bf:=Hid.mk (a6.out bt);rw[decide_eq_true bt] at a2;subst a2;clear a6 a7 aW
    go_wp2_with fail
    refine(less_any _ _ _ hP).mono ?_;rintro e w6 ⟨v6,rfl,bu,a3⟩;obtain⟨aE,ae,aF,aG,rfl⟩:=bu.shape';have a4:=BN.keep a3;have bB:=BQ.keep a3;have bC:=BE.keep a3;clear bz bG bA bH bi bj bm BR;have bi:=a4.cell;have bj:=a4.frozen;have bm:=a4.lt
    go_wp2_with fail
    have bo:=(sf2 (E:=3) (.bool aE) (.slice ae aF aG) a4 (by decide));refine(less_any _ _ _ ((hQ.keep a3).soft bo)).mono ?_;rintro e w7 ⟨v7,rfl,bv,a5⟩;obtain⟨aQ,aq,aR,aS,rfl⟩:=bv.shape';have aC:Blk w7 bn #[.bool aE,.slice ae aF aG,.bool aN,.slice ao aO aP,.bool al,.slice P am an,.int .i64 d] 54:=Blk.keep a5 (Blk.set (o:=1) (y:=.slice ae aF aG) (Blk.set (o:=0) (y:=.bool aE) a4));have bD:=Blk.keep a5 (ot2 (A:=bn) (.bool aE) (.slice ae aF aG) bB (by omega));have N:=Blk.keep a5 (ot2 (A:=bn) (.bool aE) (.slice ae aF aG) bC (by omega));have bE:=(bu.soft bo).keep a5;have bF:=((hR.keep a3).soft bo).keep a5;have br:Kp w w7:=Kp.trans' (kp2 (A:=bn) (.bool aE) (.slice ae aF aG) (aI.trans' a3) (by show w.heap.size≤bn;omega)) a5
    clear bi bj bm a4 bB bC BN BQ BE aI bo hP hQ hR bu;have bi:=aC.cell;have bj:=aC.frozen;have bm:=aC.lt;have bz:=bD.cell;have bA:=bD.lt;have bh:=N.cell;have bI:=N.frozen;have bJ:=N.lt;by_cases hqz:q=0
    ·have e2:n2=0:=aH.1.mpr hqz;subst e2;have e4:Hid (qreduce p q r d=⟨-(p.tdiv g),-(q.tdiv g),(r.natAbs:Int).tdiv g,1⟩):=by
      unfold Hid;rw[bf.out];rw[if_pos hqz]
     clear hqz aH
     go_wp2_with fail
     refine bodyPost_ret (v:=.agg #[.bool aE,.slice ae aF aG,.bool aQ,.slice aq aR aS,.bool al,.slice P am an,.int .i64 1]) (by simp[results,Tryz.results98,go_sem,bh]) rfl ?_;rw[e4.out];have av:Sf 3 w7 _:=(Sf.set (t:=54) (c:=w.heap.size+1+1+1) (o:=6) (y:=.int .i64 1) (Sf.set (t:=54) (c:=w.heap.size+1+1+1) (o:=5) (y:=.slice P am an) (Sf.set (t:=54) (c:=w.heap.size+1+1+1) (o:=4) (y:=.bool al) (Sf.set (t:=54) (c:=w.heap.size+1+1+1) (o:=3) (y:=.slice aq aR aS) (Sf.set (t:=54) (c:=w.heap.size+1+1+1) (o:=2) (y:=.bool aQ) (Sf.set (t:=54) (c:=w.heap.size+1+1+1) (o:=1) (y:=.slice ae aF aG) (Sf.set (t:=54) (c:=w.heap.size+1+1+1) (o:=0) (y:=.bool aE) (Sf.set (t:=54) (c:=bn) (o:=6) (y:=.int .i64 1) (Sf.set (t:=54) (c:=bn) (o:=3) (y:=.slice aq aR aS) (Sf.set (t:=54) (c:=bn) (o:=2) (y:=.bool aQ) (Sf.refl 3 w7) (by first | (simp only[elemOf_setCell];exact aC.elem) | exact aC.elem) (by decide)) (by first | (simp only[elemOf_setCell];exact aC.elem) | exact aC.elem) (by decide)) (by first | (simp only[elemOf_setCell];exact aC.elem) | exact aC.elem) (by decide)) (by first | (simp only[elemOf_setCell];exact N.elem) | exact N.elem) (by decide)) (by first | (simp only[elemOf_setCell];exact N.elem) | exact N.elem) (by decide)) (by first | (simp only[elemOf_setCell];exact N.elem) | exact N.elem) (by decide)) (by first | (simp only[elemOf_setCell];exact N.elem) | exact N.elem) (by decide)) (by first | (simp only[elemOf_setCell];exact N.elem) | exact N.elem) (by decide)) (by first | (simp only[elemOf_setCell];exact N.elem) | exact N.elem) (by decide)) (by first | (simp only[elemOf_setCell];exact N.elem) | exact N.elem) (by decide))
     exact⟨_,rfl,⟨_,_,_,_,_,_,_,_,_,_,_,_,rfl,bE.soft av,bv.soft av,bF.soft av⟩,(stK7 (A:=w.heap.size+1+1+1) (.bool aE) (.slice ae aF aG) (.bool aQ) (.slice aq aR aS) (.bool al) (.slice P am an) (.int .i64 1) (Below.setCell (Below.setCell (Below.setCell br (p:=⟨bn,2,none⟩) (by show w.heap.size≤bn;omega) (.bool aQ)) (p:=⟨bn,3,none⟩) (by show w.heap.size≤bn;omega) (.slice aq aR aS)) (p:=⟨bn,6,none⟩) (by show w.heap.size≤bn;omega) (.int .i64 1)) (by show w.heap.size≤w.heap.size+1+1+1;omega))⟩
    ·have e2:¬ n2=0:=fun h=>hqz (aH.1.mp h);have e3:((n2:Int) == 0)=false:=by simp;omega
     have e4:Hid (qreduce p q r d=⟨-(p.tdiv g),-(q.tdiv g),(r.natAbs:Int).tdiv g,d⟩):=by
      unfold Hid;rw[bf.out];rw[if_neg hqz]
     clear hqz aH
     go_wp2_with fail
     refine bodyPost_ret (v:=.agg #[.bool aE,.slice ae aF aG,.bool aQ,.slice aq aR aS,.bool al,.slice P am an,.int .i64 d]) (by simp[results,Tryz.results98,go_sem,bh]) rfl ?_;rw[e4.out];have av:Sf 3 w7 _:=(Sf.set (t:=54) (c:=w.heap.size+1+1+1) (o:=6) (y:=.int .i64 d) (Sf.set (t:=54) (c:=w.heap.size+1+1+1) (o:=5) (y:=.slice P am an) (Sf.set (t:=54) (c:=w.heap.size+1+1+1) (o:=4) (y:=.bool al) (Sf.set (t:=54) (c:=w.heap.size+1+1+1) (o:=3) (y:=.slice aq aR aS) (Sf.set (t:=54) (c:=w.heap.size+1+1+1) (o:=2) (y:=.bool aQ) (Sf.set (t:=54) (c:=w.heap.size+1+1+1) (o:=1) (y:=.slice ae aF aG) (Sf.set (t:=54) (c:=w.heap.size+1+1+1) (o:=0) (y:=.bool aE) (Sf.set (t:=54) (c:=bn) (o:=3) (y:=.slice aq aR aS) (Sf.set (t:=54) (c:=bn) (o:=2) (y:=.bool aQ) (Sf.refl 3 w7) (by first | (simp only[elemOf_setCell];exact aC.elem) | exact aC.elem) (by decide)) (by first | (simp only[elemOf_setCell];exact aC.elem) | exact aC.elem) (by decide)) (by first | (simp only[elemOf_setCell];exact N.elem) | exact N.elem) (by decide)) (by first | (simp only[elemOf_setCell];exact N.elem) | exact N.elem) (by decide)) (by first | (simp only[elemOf_setCell];exact N.elem) | exact N.elem) (by decide)) (by first | (simp only[elemOf_setCell];exact N.elem) | exact N.elem) (by decide)) (by first | (simp only[elemOf_setCell];exact N.elem) | exact N.elem) (by decide)) (by first | (simp only[elemOf_setCell];exact N.elem) | exact N.elem) (by decide)) (by first | (simp only[elemOf_setCell];exact N.elem) | exact N.elem) (by decide))
     exact⟨_,rfl,⟨_,_,_,_,_,_,_,_,_,_,_,_,rfl,bE.soft av,bv.soft av,bF.soft av⟩,(stK7 (A:=w.heap.size+1+1+1) (.bool aE) (.slice ae aF aG) (.bool aQ) (.slice aq aR aS) (.bool al) (.slice P am an) (.int .i64 d) (Below.setCell (Below.setCell br (p:=⟨bn,2,none⟩) (by show w.heap.size≤bn;omega) (.bool aQ)) (p:=⟨bn,3,none⟩) (by show w.heap.size≤bn;omega) (.slice aq aR aS)) (by show w.heap.size≤w.heap.size+1+1+1;omega))⟩
   ·have bf:=Hid.mk (a7.out (by omega));rw[decide_eq_false bt] at a2;subst a2;clear a6 a7 aW;have bh:=BE.cell;have bI:=BE.frozen;have bJ:=BE.lt;by_cases hqz:q=0
    ·have e2:n2=0:=aH.1.mpr hqz;subst e2;have e4:Hid (qreduce p q r d=⟨p.tdiv g,q.tdiv g,(r.natAbs:Int).tdiv g,1⟩):=by
      unfold Hid;rw[bf.out];rw[if_pos hqz]
     clear hqz aH
     go_wp2_with fail
     refine bodyPost_ret (v:=.agg #[.bool aT,.slice aw aU aV,.bool aN,.slice ao aO aP,.bool al,.slice P am an,.int .i64 1]) (by simp[results,Tryz.results98,go_sem,bh]) rfl ?_;rw[e4.out];have av:Sf 3 wc _:=(Sf.set (t:=54) (c:=w.heap.size+1+1+1) (o:=6) (y:=.int .i64 1) (Sf.set (t:=54) (c:=w.heap.size+1+1+1) (o:=5) (y:=.slice P am an) (Sf.set (t:=54) (c:=w.heap.size+1+1+1) (o:=4) (y:=.bool al) (Sf.set (t:=54) (c:=w.heap.size+1+1+1) (o:=3) (y:=.slice ao aO aP) (Sf.set (t:=54) (c:=w.heap.size+1+1+1) (o:=2) (y:=.bool aN) (Sf.set (t:=54) (c:=w.heap.size+1+1+1) (o:=1) (y:=.slice aw aU aV) (Sf.set (t:=54) (c:=w.heap.size+1+1+1) (o:=0) (y:=.bool aT) (Sf.set (t:=54) (c:=bn) (o:=6) (y:=.int .i64 1) (Sf.refl 3 wc) (by first | (simp only[elemOf_setCell];exact BN.elem) | exact BN.elem) (by decide)) (by first | (simp only[elemOf_setCell];exact BE.elem) | exact BE.elem) (by decide)) (by first | (simp only[elemOf_setCell];exact BE.elem) | exact BE.elem) (by decide)) (by first | (simp only[elemOf_setCell];exact BE.elem) | exact BE.elem) (by decide)) (by first | (simp only[elemOf_setCell];exact BE.elem) | exact BE.elem) (by decide)) (by first | (simp only[elemOf_setCell];exact BE.elem) | exact BE.elem) (by decide)) (by first | (simp only[elemOf_setCell];exact BE.elem) | exact BE.elem) (by decide)) (by first | (simp only[elemOf_setCell];exact BE.elem) | exact BE.elem) (by decide))
     exact⟨_,rfl,⟨_,_,_,_,_,_,_,_,_,_,_,_,rfl,hP.soft av,hQ.soft av,hR.soft av⟩,(stK7 (A:=w.heap.size+1+1+1) (.bool aT) (.slice aw aU aV) (.bool aN) (.slice ao aO aP) (.bool al) (.slice P am an) (.int .i64 1) (Below.setCell aI (p:=⟨bn,6,none⟩) (by show w.heap.size≤bn;omega) (.int .i64 1)) (by show w.heap.size≤w.heap.size+1+1+1;omega))⟩
    ·have e2:¬ n2=0:=fun h=>hqz (aH.1.mp h);have e3:((n2:Int) == 0)=false:=by simp;omega
     have e4:Hid (qreduce p q r d=⟨p.tdiv g,q.tdiv g,(r.natAbs:Int).tdiv g,d⟩):=by
      unfold Hid;rw[bf.out];rw[if_neg hqz]
     clear hqz aH
     go_wp2_with fail
     refine bodyPost_ret (v:=.agg #[.bool aT,.slice aw aU aV,.bool aN,.slice ao aO aP,.bool al,.slice P am an,.int .i64 d]) (by simp[results,Tryz.results98,go_sem,bh]) rfl ?_;rw[e4.out];have av:Sf 3 wc _:=(stS7 (E:=3) (.bool aT) (.slice aw aU aV) (.bool aN) (.slice ao aO aP) (.bool al) (.slice P am an) (.int .i64 d) BE (by decide));exact⟨_,rfl,⟨_,_,_,_,_,_,_,_,_,_,_,_,rfl,hP.soft av,hQ.soft av,hR.soft av⟩,(stK7 (A:=w.heap.size+1+1+1) (.bool aT) (.slice aw aU aV) (.bool aN) (.slice ao aO aP) (.bool al) (.slice P am an) (.int .i64 d) aI (by show w.heap.size≤w.heap.size+1+1+1;omega))⟩
end Go.Proofs.YtjahbjjekednfaaGreatDoor
