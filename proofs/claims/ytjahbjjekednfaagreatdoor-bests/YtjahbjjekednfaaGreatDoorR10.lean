import Derived.Test.YtjahbjjekednfaaGreatDoorR9g
import Derived.Test.YtjahbjjekednfaaGreatDoorSt
import Derived.Deep.CutRange
namespace Go.Proofs.YtjahbjjekednfaaGreatDoor
set_option maxHeartbeats 3200000
set_option maxRecDepth 100000
open Go.RowKit
theorem rexact_any (x y:Int) (m:Nat) (u v:Value) (w:World) (hx:IN w u x) (hy:IN w v y) (y0:0<y) (hm:m≤100000000) (fx:Ft m x) (fy:Ft m y):Calls Tryz.prog 117 #[u,v] w (RetI w (x.tdiv y)):=by
 obtain⟨b1,ah,n1,c1,rfl⟩:=hx.shape';obtain⟨b2,ai,n2,c2,rfl⟩:=hy.shape';have av:=Hid.mk hx.neg;have ax:Kp w (((w.alloc (.cells #[.bool b1,.slice ah n1 c1] 52)).alloc (.cells #[.bool b2,.slice ai n2 c2] 52)).alloc (.cells #[.bool false,.slice none 0 0] 52)):=(Kp.alloc' (Kp.alloc' (Kp.alloc' (Below.refl w.heap.size w) (.cells #[.bool b1,.slice ah n1 c1] 52)) (.cells #[.bool b2,.slice ai n2 c2] 52)) (.cells #[.bool false,.slice none 0 0] 52));have BX:Blk (((w.alloc (.cells #[.bool b1,.slice ah n1 c1] 52)).alloc (.cells #[.bool b2,.slice ai n2 c2] 52)).alloc (.cells #[.bool false,.slice none 0 0] 52)) (w.heap.size) #[.bool b1,.slice ah n1 c1] 52:=(Blk.alloc (Blk.alloc (Blk.new w _ _) (.cells #[.bool b2,.slice ai n2 c2] 52)) (.cells #[.bool false,.slice none 0 0] 52));have BY:Blk (((w.alloc (.cells #[.bool b1,.slice ah n1 c1] 52)).alloc (.cells #[.bool b2,.slice ai n2 c2] 52)).alloc (.cells #[.bool false,.slice none 0 0] 52)) (w.heap.size+1) #[.bool b2,.slice ai n2 c2] 52:=(Blk.alloc (Blk.at (Blk.new (w.alloc (.cells #[.bool b1,.slice ah n1 c1] 52)) _ _) (by simp)) (.cells #[.bool false,.slice none 0 0] 52));have BE:Blk (((w.alloc (.cells #[.bool b1,.slice ah n1 c1] 52)).alloc (.cells #[.bool b2,.slice ai n2 c2] 52)).alloc (.cells #[.bool false,.slice none 0 0] 52)) (w.heap.size+1+1) #[.bool false,.slice none 0 0] 52:=(Blk.at (Blk.new ((w.alloc (.cells #[.bool b1,.slice ah n1 c1] 52)).alloc (.cells #[.bool b2,.slice ai n2 c2] 52)) _ _) (by simp));replace hx:=hx.keep ax;replace hy:=hy.keep ax;have aI:=BE.lt;have aJ:=BX.lt;have aK:=BY.lt
 go_enter Tryz.func117,Tryz.ntmps117
 go_wp2_with fail
 generalize (((w.alloc (.cells #[.bool b1,.slice ah n1 c1] 52)).alloc (.cells #[.bool b2,.slice ai n2 c2] 52)).alloc (.cells #[.bool false,.slice none 0 0] 52))=wb at *
 go_cut [5,6] from 7 to 13 (fun p _ wx=>∃(bp:Nat) (bb:Bool) (aa:Option Addr) (nn cc:Nat),p=.pointer (some ⟨bp,0,none⟩)∧Blk wx bp #[.bool bb,.slice aa nn cc] 52∧IN wx (.agg #[.bool bb,.slice aa nn cc]) ((x.natAbs:Int) / y)∧Kp wb wx∧wb.heap.size≤bp)
 case first =>
  refine wp_region_l (S:=fun Z=>Kp wb Z) (by kernel_rfl) (Kp.drew' (Below.refl _ _)) (fun ak=>?_);generalize wb.drew=wd at *;refine wpAnyL_tk (i:=0) (k:=1) (v:=.agg #[.bool b1,.slice ah n1 c1]) rfl ?_ ak ?_
  ·intro Z O;have hc:=((BX).keep O).cell;go_simp
  simp only[sq];refine wpAnyL_tk (i:=2) (k:=3) (v:=.agg #[.bool b2,.slice ai n2 c2]) rfl ?_ ak ?_
  ·intro Z O;have hc:=((BY).keep O).cell;go_simp
  simp only[sq];refine wpAnyL_ready (rs:=[1,7,8]) (by kernel_rfl) (by simp) ?_;refine AllReadyL.cons rfl (fun K B=>?_) ?_
  ·go_simp
   refine(size_any x _ _ (hx.keep ak)).mono ?_;rintro e L ⟨ao,rfl,D,U⟩;obtain⟨ap,aj,aq,ar,rfl⟩:=D.shape'
   go_wp2_with fail
   refine B.out _ _ (ak.trans' U) (fun ac=>?_);clear B K;refine wpAnyL_ready (rs:=[3,7,8]) (by kernel_rfl) (by simp) ?_;refine AllReadyL.cons rfl (fun K B=>?_) ?_
   ·go_simp
    refine(rdiv_any (x.natAbs:Int) y m _ _ _ D (hy.keep ac) (by omega) y0 hm fx.abs fy).mono ?_;rintro e z ⟨ad,W,rfl,d,s,C⟩;obtain⟨g,a,j,l,rfl⟩:=d.shape';obtain⟨n,b,q,r,rfl⟩:=s.shape'
    go_wp2_with fail
    refine B.out _ _ (ac.trans' C) (fun P=>?_);clear B K;refine wpAnyL_tk (i:=4) (k:=5) (v:=.tuple #[.agg #[.bool g,.slice a j l],.agg #[.bool n,.slice b q r]]) rfl ?_ P ?_
    ·intro Z O;go_simp
    simp only[sq];refine wpAnyL_tk (i:=5) (k:=9) (v:=.agg #[.bool g,.slice a j l]) rfl ?_ P ?_
    ·intro Z O;go_simp
    simp only[sq];refine wpAnyL_tk (i:=6) (k:=10) (v:=.agg #[.bool n,.slice b q r]) rfl ?_ P ?_
    ·intro Z O;go_simp
    simp only[sq];refine wpAnyL_ready (rs:=[7,8]) (by kernel_rfl) (by simp) ?_;refine AllReadyL.cons rfl (fun K B=>?_) ?_
    ·go_simp
     refine B.out _ _ (Kp.alloc' P (.cells #[.bool false,.slice none 0 0] 52)) (fun I=>?_);clear B K;have f:=Blk.new z #[.bool false,.slice none 0 0] 52;have Q:wb.heap.size≤z.heap.size:=P.size;replace d:=d.keep (kp_alloc z (.cells #[.bool false,.slice none 0 0] 52));replace s:=s.keep (kp_alloc z (.cells #[.bool false,.slice none 0 0] 52))
     try simp only[sq]
     generalize al:z.heap.size=M at *;generalize z.alloc (.cells #[.bool false,.slice none 0 0] 52)=R at *;refine wpAnyL_on (i:=8) rfl (fun K B=>?_)
     go_simp
     refine B.out _ _ (Kp.alloc' I (.cells #[.bool false,.slice none 0 0] 52)) (fun N=>?_);clear B K;have t:=Blk.new R #[.bool false,.slice none 0 0] 52;have X:wb.heap.size≤R.heap.size:=I.size;have ae:M≠R.heap.size:=by have:=f.lt;omega
     replace d:=d.keep (kp_alloc R (.cells #[.bool false,.slice none 0 0] 52));replace s:=s.keep (kp_alloc R (.cells #[.bool false,.slice none 0 0] 52));replace f:=f.keep (kp_alloc R (.cells #[.bool false,.slice none 0 0] 52))
     try simp only[sq]
     generalize am:R.heap.size=Y at *;generalize R.alloc (.cells #[.bool false,.slice none 0 0] 52)=T at *;refine wpAnyL_on (i:=9) rfl (fun K B=>?_);have F:=f.cell;have G:=f.frozen;have H:=f.lt
     go_simp
     refine B.out _ _ (stK2 (A:=M) (.bool g) (.slice a j l) N Q) (fun V=>?_);clear B K;have J:=(stS2 (E:=3) (.bool g) (.slice a j l) f (by decide));replace d:=d.soft J;replace s:=s.soft J;replace t:=(Blk.other (c:=M) (o:=1) (y:=.slice a j l) (Blk.other (c:=M) (o:=0) (y:=.bool g) t (by omega)) (by omega));replace f:=(Blk.set (o:=1) (y:=.slice a j l) (Blk.set (o:=0) (y:=.bool g) f));clear J F G H
     try simp only[sq]
     generalize ((T.setCell ⟨M,0,none⟩ (.bool g)).setCell ⟨M,1,none⟩ (.slice a j l))=af at *;simp only[List.setIfInBounds_toArray,List.set_cons_zero,List.set_cons_succ] at f;have F:=t.cell;have G:=t.frozen;have H:=t.lt;refine wpAnyL_last (i:=10) rfl (by kernel_rfl) (by kernel_rfl) (by kernel_rfl) (fun K B=>?_)
     go_simp
     refine B.out _ _ ?_;clear B K
     go_wp2_with fail
     go_meet
     case rel=>exact⟨M,_,_,_,_,rfl,(ot2 (A:=Y) (.bool n) (.slice b q r) f (by omega)),d.soft (sf2 (.bool n) (.slice b q r) t (by decide)),(kp2 (A:=Y) (.bool n) (.slice b q r) V X),Q⟩
    refine AllReadyL.cons rfl (fun K B=>?_) ?_
    ·go_simp
     refine B.out _ _ (Kp.alloc' P (.cells #[.bool false,.slice none 0 0] 52)) (fun I=>?_);clear B K;have t:=Blk.new z #[.bool false,.slice none 0 0] 52;have X:wb.heap.size≤z.heap.size:=P.size;replace d:=d.keep (kp_alloc z (.cells #[.bool false,.slice none 0 0] 52));replace s:=s.keep (kp_alloc z (.cells #[.bool false,.slice none 0 0] 52))
     try simp only[sq]
     generalize am:z.heap.size=Y at *;generalize z.alloc (.cells #[.bool false,.slice none 0 0] 52)=T at *;refine wpAnyL_on (i:=7) rfl (fun K B=>?_)
     go_simp
     refine B.out _ _ (Kp.alloc' I (.cells #[.bool false,.slice none 0 0] 52)) (fun N=>?_);clear B K;have f:=Blk.new T #[.bool false,.slice none 0 0] 52;have Q:wb.heap.size≤T.heap.size:=I.size;have ag:Y≠T.heap.size:=by have:=t.lt;omega
     replace d:=d.keep (kp_alloc T (.cells #[.bool false,.slice none 0 0] 52));replace s:=s.keep (kp_alloc T (.cells #[.bool false,.slice none 0 0] 52));replace t:=t.keep (kp_alloc T (.cells #[.bool false,.slice none 0 0] 52))
     try simp only[sq]
     generalize al:T.heap.size=M at *;generalize T.alloc (.cells #[.bool false,.slice none 0 0] 52)=R at *;refine wpAnyL_on (i:=9) rfl (fun K B=>?_);have F:=f.cell;have G:=f.frozen;have H:=f.lt
     go_simp
     refine B.out _ _ (stK2 (A:=M) (.bool g) (.slice a j l) N Q) (fun V=>?_);clear B K;have J:=(stS2 (E:=3) (.bool g) (.slice a j l) f (by decide));replace d:=d.soft J;replace s:=s.soft J;replace t:=(Blk.other (c:=M) (o:=1) (y:=.slice a j l) (Blk.other (c:=M) (o:=0) (y:=.bool g) t (by omega)) (by omega));replace f:=(Blk.set (o:=1) (y:=.slice a j l) (Blk.set (o:=0) (y:=.bool g) f));clear J F G H
     try simp only[sq]
     generalize ((R.setCell ⟨M,0,none⟩ (.bool g)).setCell ⟨M,1,none⟩ (.slice a j l))=af at *;simp only[List.setIfInBounds_toArray,List.set_cons_zero,List.set_cons_succ] at f;have F:=t.cell;have G:=t.frozen;have H:=t.lt;refine wpAnyL_last (i:=10) rfl (by kernel_rfl) (by kernel_rfl) (by kernel_rfl) (fun K B=>?_)
     go_simp
     refine B.out _ _ ?_;clear B K
     go_wp2_with fail
     go_meet
     case rel=>exact⟨M,_,_,_,_,rfl,(ot2 (A:=Y) (.bool n) (.slice b q r) f (by omega)),d.soft (sf2 (.bool n) (.slice b q r) t (by decide)),(kp2 (A:=Y) (.bool n) (.slice b q r) V X),Q⟩
    exact AllReadyL.nil
   refine AllReadyL.cons rfl (fun K B=>?_) ?_
   ·go_simp
    refine B.out _ _ (Kp.alloc' ac (.cells #[.bool false,.slice none 0 0] 52)) (fun P=>?_);clear B K;have f:=Blk.new L #[.bool false,.slice none 0 0] 52;have Q:wb.heap.size≤L.heap.size:=ac.size;replace D:=D.keep (kp_alloc L (.cells #[.bool false,.slice none 0 0] 52))
    try simp only[sq]
    generalize al:L.heap.size=M at *;generalize L.alloc (.cells #[.bool false,.slice none 0 0] 52)=R at *;refine wpAnyL_ready (rs:=[3,8]) (by kernel_rfl) (by simp) ?_;refine AllReadyL.cons rfl (fun K B=>?_) ?_
    ·go_simp
     refine(rdiv_any (x.natAbs:Int) y m _ _ _ D (hy.keep P) (by omega) y0 hm fx.abs fy).mono ?_;rintro e z ⟨ad,W,rfl,d,s,C⟩;obtain⟨g,a,j,l,rfl⟩:=d.shape';obtain⟨n,b,q,r,rfl⟩:=s.shape';replace f:=f.keep C
     go_wp2_with fail
     refine B.out _ _ (P.trans' C) (fun I=>?_);clear B K;refine wpAnyL_tk (i:=4) (k:=5) (v:=.tuple #[.agg #[.bool g,.slice a j l],.agg #[.bool n,.slice b q r]]) rfl ?_ I ?_
     ·intro Z O;go_simp
     simp only[sq];refine wpAnyL_tk (i:=5) (k:=9) (v:=.agg #[.bool g,.slice a j l]) rfl ?_ I ?_
     ·intro Z O;go_simp
     simp only[sq];refine wpAnyL_tk (i:=6) (k:=10) (v:=.agg #[.bool n,.slice b q r]) rfl ?_ I ?_
     ·intro Z O;go_simp
     simp only[sq];refine wpAnyL_on (i:=8) rfl (fun K B=>?_)
     go_simp
     refine B.out _ _ (Kp.alloc' I (.cells #[.bool false,.slice none 0 0] 52)) (fun N=>?_);clear B K;have t:=Blk.new z #[.bool false,.slice none 0 0] 52;have X:wb.heap.size≤z.heap.size:=I.size;have ae:M≠z.heap.size:=by have:=f.lt;omega
     replace f:=f.keep (kp_alloc z (.cells #[.bool false,.slice none 0 0] 52));replace d:=d.keep (kp_alloc z (.cells #[.bool false,.slice none 0 0] 52));replace s:=s.keep (kp_alloc z (.cells #[.bool false,.slice none 0 0] 52))
     try simp only[sq]
     generalize am:z.heap.size=Y at *;generalize z.alloc (.cells #[.bool false,.slice none 0 0] 52)=T at *;refine wpAnyL_on (i:=9) rfl (fun K B=>?_);have F:=f.cell;have G:=f.frozen;have H:=f.lt
     go_simp
     refine B.out _ _ (stK2 (A:=M) (.bool g) (.slice a j l) N Q) (fun V=>?_);clear B K;have J:=(stS2 (E:=3) (.bool g) (.slice a j l) f (by decide));replace d:=d.soft J;replace s:=s.soft J;replace t:=(Blk.other (c:=M) (o:=1) (y:=.slice a j l) (Blk.other (c:=M) (o:=0) (y:=.bool g) t (by omega)) (by omega));replace f:=(Blk.set (o:=1) (y:=.slice a j l) (Blk.set (o:=0) (y:=.bool g) f));clear J F G H
     try simp only[sq]
     generalize ((T.setCell ⟨M,0,none⟩ (.bool g)).setCell ⟨M,1,none⟩ (.slice a j l))=af at *;simp only[List.setIfInBounds_toArray,List.set_cons_zero,List.set_cons_succ] at f;have F:=t.cell;have G:=t.frozen;have H:=t.lt;refine wpAnyL_last (i:=10) rfl (by kernel_rfl) (by kernel_rfl) (by kernel_rfl) (fun K B=>?_)
     go_simp
     refine B.out _ _ ?_;clear B K
     go_wp2_with fail
     go_meet
     case rel=>exact⟨M,_,_,_,_,rfl,(ot2 (A:=Y) (.bool n) (.slice b q r) f (by omega)),d.soft (sf2 (.bool n) (.slice b q r) t (by decide)),(kp2 (A:=Y) (.bool n) (.slice b q r) V X),Q⟩
    refine AllReadyL.cons rfl (fun K B=>?_) ?_
    ·go_simp
     refine B.out _ _ (Kp.alloc' P (.cells #[.bool false,.slice none 0 0] 52)) (fun I=>?_);clear B K;have t:=Blk.new R #[.bool false,.slice none 0 0] 52;have X:wb.heap.size≤R.heap.size:=P.size;have ae:M≠R.heap.size:=by have:=f.lt;omega
     replace D:=D.keep (kp_alloc R (.cells #[.bool false,.slice none 0 0] 52));replace f:=f.keep (kp_alloc R (.cells #[.bool false,.slice none 0 0] 52))
     try simp only[sq]
     generalize am:R.heap.size=Y at *;generalize R.alloc (.cells #[.bool false,.slice none 0 0] 52)=T at *;refine wpAnyL_on (i:=3) rfl (fun K B=>?_)
     go_simp
     refine(rdiv_any (x.natAbs:Int) y m _ _ _ D (hy.keep I) (by omega) y0 hm fx.abs fy).mono ?_;rintro e z ⟨ad,W,rfl,d,s,C⟩;obtain⟨g,a,j,l,rfl⟩:=d.shape';obtain⟨n,b,q,r,rfl⟩:=s.shape';replace f:=f.keep C;replace t:=t.keep C
     go_wp2_with fail
     refine B.out _ _ (I.trans' C) (fun N=>?_);clear B K;refine wpAnyL_tk (i:=4) (k:=5) (v:=.tuple #[.agg #[.bool g,.slice a j l],.agg #[.bool n,.slice b q r]]) rfl ?_ N ?_
     ·intro Z O;go_simp
     simp only[sq];refine wpAnyL_tk (i:=5) (k:=9) (v:=.agg #[.bool g,.slice a j l]) rfl ?_ N ?_
     ·intro Z O;go_simp
     simp only[sq];refine wpAnyL_tk (i:=6) (k:=10) (v:=.agg #[.bool n,.slice b q r]) rfl ?_ N ?_
     ·intro Z O;go_simp
     simp only[sq];refine wpAnyL_on (i:=9) rfl (fun K B=>?_);have F:=f.cell;have G:=f.frozen;have H:=f.lt
     go_simp
     refine B.out _ _ (stK2 (A:=M) (.bool g) (.slice a j l) N Q) (fun V=>?_);clear B K;have J:=(stS2 (E:=3) (.bool g) (.slice a j l) f (by decide));replace t:=(Blk.other (c:=M) (o:=1) (y:=.slice a j l) (Blk.other (c:=M) (o:=0) (y:=.bool g) t (by omega)) (by omega));replace d:=d.soft J;replace s:=s.soft J;replace f:=(Blk.set (o:=1) (y:=.slice a j l) (Blk.set (o:=0) (y:=.bool g) f));clear J F G H
     try simp only[sq]
     generalize ((z.setCell ⟨M,0,none⟩ (.bool g)).setCell ⟨M,1,none⟩ (.slice a j l))=af at *;simp only[List.setIfInBounds_toArray,List.set_cons_zero,List.set_cons_succ] at f;have F:=t.cell;have G:=t.frozen;have H:=t.lt;refine wpAnyL_last (i:=10) rfl (by kernel_rfl) (by kernel_rfl) (by kernel_rfl) (fun K B=>?_)
     go_simp
     refine B.out _ _ ?_;clear B K
     go_wp2_with fail
     go_meet
     case rel=>exact⟨M,_,_,_,_,rfl,(ot2 (A:=Y) (.bool n) (.slice b q r) f (by omega)),d.soft (sf2 (.bool n) (.slice b q r) t (by decide)),(kp2 (A:=Y) (.bool n) (.slice b q r) V X),Q⟩
    exact AllReadyL.nil
   refine AllReadyL.cons rfl (fun K B=>?_) ?_
   ·go_simp
    refine B.out _ _ (Kp.alloc' ac (.cells #[.bool false,.slice none 0 0] 52)) (fun P=>?_);clear B K;have t:=Blk.new L #[.bool false,.slice none 0 0] 52;have X:wb.heap.size≤L.heap.size:=ac.size;replace D:=D.keep (kp_alloc L (.cells #[.bool false,.slice none 0 0] 52))
    try simp only[sq]
    generalize am:L.heap.size=Y at *;generalize L.alloc (.cells #[.bool false,.slice none 0 0] 52)=T at *;refine wpAnyL_ready (rs:=[3,7]) (by kernel_rfl) (by simp) ?_;refine AllReadyL.cons rfl (fun K B=>?_) ?_
    ·go_simp
     refine(rdiv_any (x.natAbs:Int) y m _ _ _ D (hy.keep P) (by omega) y0 hm fx.abs fy).mono ?_;rintro e z ⟨ad,W,rfl,d,s,C⟩;obtain⟨g,a,j,l,rfl⟩:=d.shape';obtain⟨n,b,q,r,rfl⟩:=s.shape';replace t:=t.keep C
     go_wp2_with fail
     refine B.out _ _ (P.trans' C) (fun I=>?_);clear B K;refine wpAnyL_tk (i:=4) (k:=5) (v:=.tuple #[.agg #[.bool g,.slice a j l],.agg #[.bool n,.slice b q r]]) rfl ?_ I ?_
     ·intro Z O;go_simp
     simp only[sq];refine wpAnyL_tk (i:=5) (k:=9) (v:=.agg #[.bool g,.slice a j l]) rfl ?_ I ?_
     ·intro Z O;go_simp
     simp only[sq];refine wpAnyL_tk (i:=6) (k:=10) (v:=.agg #[.bool n,.slice b q r]) rfl ?_ I ?_
     ·intro Z O;go_simp
     simp only[sq];refine wpAnyL_on (i:=7) rfl (fun K B=>?_)
     go_simp
     refine B.out _ _ (Kp.alloc' I (.cells #[.bool false,.slice none 0 0] 52)) (fun N=>?_);clear B K;have f:=Blk.new z #[.bool false,.slice none 0 0] 52;have Q:wb.heap.size≤z.heap.size:=I.size;have ag:Y≠z.heap.size:=by have:=t.lt;omega
     replace t:=t.keep (kp_alloc z (.cells #[.bool false,.slice none 0 0] 52));replace d:=d.keep (kp_alloc z (.cells #[.bool false,.slice none 0 0] 52));replace s:=s.keep (kp_alloc z (.cells #[.bool false,.slice none 0 0] 52))
     try simp only[sq]
     generalize al:z.heap.size=M at *;generalize z.alloc (.cells #[.bool false,.slice none 0 0] 52)=R at *;refine wpAnyL_on (i:=9) rfl (fun K B=>?_);have F:=f.cell;have G:=f.frozen;have H:=f.lt
     go_simp
     refine B.out _ _ (stK2 (A:=M) (.bool g) (.slice a j l) N Q) (fun V=>?_);clear B K;have J:=(stS2 (E:=3) (.bool g) (.slice a j l) f (by decide));replace t:=(Blk.other (c:=M) (o:=1) (y:=.slice a j l) (Blk.other (c:=M) (o:=0) (y:=.bool g) t (by omega)) (by omega));replace d:=d.soft J;replace s:=s.soft J;replace f:=(Blk.set (o:=1) (y:=.slice a j l) (Blk.set (o:=0) (y:=.bool g) f));clear J F G H
     try simp only[sq]
     generalize ((R.setCell ⟨M,0,none⟩ (.bool g)).setCell ⟨M,1,none⟩ (.slice a j l))=af at *;simp only[List.setIfInBounds_toArray,List.set_cons_zero,List.set_cons_succ] at f;have F:=t.cell;have G:=t.frozen;have H:=t.lt;refine wpAnyL_last (i:=10) rfl (by kernel_rfl) (by kernel_rfl) (by kernel_rfl) (fun K B=>?_)
     go_simp
     refine B.out _ _ ?_;clear B K
     go_wp2_with fail
     go_meet
     case rel=>exact⟨M,_,_,_,_,rfl,(ot2 (A:=Y) (.bool n) (.slice b q r) f (by omega)),d.soft (sf2 (.bool n) (.slice b q r) t (by decide)),(kp2 (A:=Y) (.bool n) (.slice b q r) V X),Q⟩
    refine AllReadyL.cons rfl (fun K B=>?_) ?_
    ·go_simp
     refine B.out _ _ (Kp.alloc' P (.cells #[.bool false,.slice none 0 0] 52)) (fun I=>?_);clear B K;have f:=Blk.new T #[.bool false,.slice none 0 0] 52;have Q:wb.heap.size≤T.heap.size:=P.size;have ag:Y≠T.heap.size:=by have:=t.lt;omega
     replace D:=D.keep (kp_alloc T (.cells #[.bool false,.slice none 0 0] 52));replace t:=t.keep (kp_alloc T (.cells #[.bool false,.slice none 0 0] 52))
     try simp only[sq]
     generalize al:T.heap.size=M at *;generalize T.alloc (.cells #[.bool false,.slice none 0 0] 52)=R at *;refine wpAnyL_on (i:=3) rfl (fun K B=>?_)
     go_simp
     refine(rdiv_any (x.natAbs:Int) y m _ _ _ D (hy.keep I) (by omega) y0 hm fx.abs fy).mono ?_;rintro e z ⟨ad,W,rfl,d,s,C⟩;obtain⟨g,a,j,l,rfl⟩:=d.shape';obtain⟨n,b,q,r,rfl⟩:=s.shape';replace t:=t.keep C;replace f:=f.keep C
     go_wp2_with fail
     refine B.out _ _ (I.trans' C) (fun N=>?_);clear B K;refine wpAnyL_tk (i:=4) (k:=5) (v:=.tuple #[.agg #[.bool g,.slice a j l],.agg #[.bool n,.slice b q r]]) rfl ?_ N ?_
     ·intro Z O;go_simp
     simp only[sq];refine wpAnyL_tk (i:=5) (k:=9) (v:=.agg #[.bool g,.slice a j l]) rfl ?_ N ?_
     ·intro Z O;go_simp
     simp only[sq];refine wpAnyL_tk (i:=6) (k:=10) (v:=.agg #[.bool n,.slice b q r]) rfl ?_ N ?_
     ·intro Z O;go_simp
     simp only[sq];refine wpAnyL_on (i:=9) rfl (fun K B=>?_);have F:=f.cell;have G:=f.frozen;have H:=f.lt
     go_simp
     refine B.out _ _ (stK2 (A:=M) (.bool g) (.slice a j l) N Q) (fun V=>?_);clear B K;have J:=(stS2 (E:=3) (.bool g) (.slice a j l) f (by decide));replace t:=(Blk.other (c:=M) (o:=1) (y:=.slice a j l) (Blk.other (c:=M) (o:=0) (y:=.bool g) t (by omega)) (by omega));replace d:=d.soft J;replace s:=s.soft J;replace f:=(Blk.set (o:=1) (y:=.slice a j l) (Blk.set (o:=0) (y:=.bool g) f));clear J F G H
     try simp only[sq]
     generalize ((z.setCell ⟨M,0,none⟩ (.bool g)).setCell ⟨M,1,none⟩ (.slice a j l))=af at *;simp only[List.setIfInBounds_toArray,List.set_cons_zero,List.set_cons_succ] at f;have F:=t.cell;have G:=t.frozen;have H:=t.lt;refine wpAnyL_last (i:=10) rfl (by kernel_rfl) (by kernel_rfl) (by kernel_rfl) (fun K B=>?_)
     go_simp
     refine B.out _ _ ?_;clear B K
     go_wp2_with fail
     go_meet
     case rel=>exact⟨M,_,_,_,_,rfl,(ot2 (A:=Y) (.bool n) (.slice b q r) f (by omega)),d.soft (sf2 (.bool n) (.slice b q r) t (by decide)),(kp2 (A:=Y) (.bool n) (.slice b q r) V X),Q⟩
    exact AllReadyL.nil
   exact AllReadyL.nil
  refine AllReadyL.cons rfl (fun K B=>?_) ?_
  ·go_simp
   refine B.out _ _ (Kp.alloc' ak (.cells #[.bool false,.slice none 0 0] 52)) (fun ac=>?_);clear B K;have f:=Blk.new wd #[.bool false,.slice none 0 0] 52;have Q:wb.heap.size≤wd.heap.size:=ak.size
   try simp only[sq]
   generalize al:wd.heap.size=M at *;generalize wd.alloc (.cells #[.bool false,.slice none 0 0] 52)=R at *;refine wpAnyL_ready (rs:=[1,8]) (by kernel_rfl) (by simp) ?_;refine AllReadyL.cons rfl (fun K B=>?_) ?_
   ·go_simp
    refine(size_any x _ _ (hx.keep ac)).mono ?_;rintro e L ⟨ao,rfl,D,U⟩;obtain⟨ap,aj,aq,ar,rfl⟩:=D.shape';replace f:=f.keep U
    go_wp2_with fail
    refine B.out _ _ (ac.trans' U) (fun P=>?_);clear B K;refine wpAnyL_ready (rs:=[3,8]) (by kernel_rfl) (by simp) ?_;refine AllReadyL.cons rfl (fun K B=>?_) ?_
    ·go_simp
     refine(rdiv_any (x.natAbs:Int) y m _ _ _ D (hy.keep P) (by omega) y0 hm fx.abs fy).mono ?_;rintro e z ⟨ad,W,rfl,d,s,C⟩;obtain⟨g,a,j,l,rfl⟩:=d.shape';obtain⟨n,b,q,r,rfl⟩:=s.shape';replace f:=f.keep C
     go_wp2_with fail
     refine B.out _ _ (P.trans' C) (fun I=>?_);clear B K;refine wpAnyL_tk (i:=4) (k:=5) (v:=.tuple #[.agg #[.bool g,.slice a j l],.agg #[.bool n,.slice b q r]]) rfl ?_ I ?_
     ·intro Z O;go_simp
     simp only[sq];refine wpAnyL_tk (i:=5) (k:=9) (v:=.agg #[.bool g,.slice a j l]) rfl ?_ I ?_
     ·intro Z O;go_simp
     simp only[sq];refine wpAnyL_tk (i:=6) (k:=10) (v:=.agg #[.bool n,.slice b q r]) rfl ?_ I ?_
     ·intro Z O;go_simp
     simp only[sq];refine wpAnyL_on (i:=8) rfl (fun K B=>?_)
     go_simp
     refine B.out _ _ (Kp.alloc' I (.cells #[.bool false,.slice none 0 0] 52)) (fun N=>?_);clear B K;have t:=Blk.new z #[.bool false,.slice none 0 0] 52;have X:wb.heap.size≤z.heap.size:=I.size;have ae:M≠z.heap.size:=by have:=f.lt;omega
     replace f:=f.keep (kp_alloc z (.cells #[.bool false,.slice none 0 0] 52));replace d:=d.keep (kp_alloc z (.cells #[.bool false,.slice none 0 0] 52));replace s:=s.keep (kp_alloc z (.cells #[.bool false,.slice none 0 0] 52))
     try simp only[sq]
     generalize am:z.heap.size=Y at *;generalize z.alloc (.cells #[.bool false,.slice none 0 0] 52)=T at *;refine wpAnyL_on (i:=9) rfl (fun K B=>?_);have F:=f.cell;have G:=f.frozen;have H:=f.lt
     go_simp
     refine B.out _ _ (stK2 (A:=M) (.bool g) (.slice a j l) N Q) (fun V=>?_);clear B K;have J:=(stS2 (E:=3) (.bool g) (.slice a j l) f (by decide));replace d:=d.soft J;replace s:=s.soft J;replace t:=(Blk.other (c:=M) (o:=1) (y:=.slice a j l) (Blk.other (c:=M) (o:=0) (y:=.bool g) t (by omega)) (by omega));replace f:=(Blk.set (o:=1) (y:=.slice a j l) (Blk.set (o:=0) (y:=.bool g) f));clear J F G H
     try simp only[sq]
     generalize ((T.setCell ⟨M,0,none⟩ (.bool g)).setCell ⟨M,1,none⟩ (.slice a j l))=af at *;simp only[List.setIfInBounds_toArray,List.set_cons_zero,List.set_cons_succ] at f;have F:=t.cell;have G:=t.frozen;have H:=t.lt;refine wpAnyL_last (i:=10) rfl (by kernel_rfl) (by kernel_rfl) (by kernel_rfl) (fun K B=>?_)
     go_simp
     refine B.out _ _ ?_;clear B K
     go_wp2_with fail
     go_meet
     case rel=>exact⟨M,_,_,_,_,rfl,(ot2 (A:=Y) (.bool n) (.slice b q r) f (by omega)),d.soft (sf2 (.bool n) (.slice b q r) t (by decide)),(kp2 (A:=Y) (.bool n) (.slice b q r) V X),Q⟩
    refine AllReadyL.cons rfl (fun K B=>?_) ?_
    ·go_simp
     refine B.out _ _ (Kp.alloc' P (.cells #[.bool false,.slice none 0 0] 52)) (fun I=>?_);clear B K;have t:=Blk.new L #[.bool false,.slice none 0 0] 52;have X:wb.heap.size≤L.heap.size:=P.size;have ae:M≠L.heap.size:=by have:=f.lt;omega
     replace f:=f.keep (kp_alloc L (.cells #[.bool false,.slice none 0 0] 52));replace D:=D.keep (kp_alloc L (.cells #[.bool false,.slice none 0 0] 52))
     try simp only[sq]
     generalize am:L.heap.size=Y at *;generalize L.alloc (.cells #[.bool false,.slice none 0 0] 52)=T at *;refine wpAnyL_on (i:=3) rfl (fun K B=>?_)
     go_simp
     refine(rdiv_any (x.natAbs:Int) y m _ _ _ D (hy.keep I) (by omega) y0 hm fx.abs fy).mono ?_;rintro e z ⟨ad,W,rfl,d,s,C⟩;obtain⟨g,a,j,l,rfl⟩:=d.shape';obtain⟨n,b,q,r,rfl⟩:=s.shape';replace f:=f.keep C;replace t:=t.keep C
     go_wp2_with fail
     refine B.out _ _ (I.trans' C) (fun N=>?_);clear B K;refine wpAnyL_tk (i:=4) (k:=5) (v:=.tuple #[.agg #[.bool g,.slice a j l],.agg #[.bool n,.slice b q r]]) rfl ?_ N ?_
     ·intro Z O;go_simp
     simp only[sq];refine wpAnyL_tk (i:=5) (k:=9) (v:=.agg #[.bool g,.slice a j l]) rfl ?_ N ?_
     ·intro Z O;go_simp
     simp only[sq];refine wpAnyL_tk (i:=6) (k:=10) (v:=.agg #[.bool n,.slice b q r]) rfl ?_ N ?_
     ·intro Z O;go_simp
     simp only[sq];refine wpAnyL_on (i:=9) rfl (fun K B=>?_);have F:=f.cell;have G:=f.frozen;have H:=f.lt
     go_simp
     refine B.out _ _ (stK2 (A:=M) (.bool g) (.slice a j l) N Q) (fun V=>?_);clear B K;have J:=(stS2 (E:=3) (.bool g) (.slice a j l) f (by decide));replace t:=(Blk.other (c:=M) (o:=1) (y:=.slice a j l) (Blk.other (c:=M) (o:=0) (y:=.bool g) t (by omega)) (by omega));replace d:=d.soft J;replace s:=s.soft J;replace f:=(Blk.set (o:=1) (y:=.slice a j l) (Blk.set (o:=0) (y:=.bool g) f));clear J F G H
     try simp only[sq]
     generalize ((z.setCell ⟨M,0,none⟩ (.bool g)).setCell ⟨M,1,none⟩ (.slice a j l))=af at *;simp only[List.setIfInBounds_toArray,List.set_cons_zero,List.set_cons_succ] at f;have F:=t.cell;have G:=t.frozen;have H:=t.lt;refine wpAnyL_last (i:=10) rfl (by kernel_rfl) (by kernel_rfl) (by kernel_rfl) (fun K B=>?_)
     go_simp
     refine B.out _ _ ?_;clear B K
     go_wp2_with fail
     go_meet
     case rel=>exact⟨M,_,_,_,_,rfl,(ot2 (A:=Y) (.bool n) (.slice b q r) f (by omega)),d.soft (sf2 (.bool n) (.slice b q r) t (by decide)),(kp2 (A:=Y) (.bool n) (.slice b q r) V X),Q⟩
    exact AllReadyL.nil
   refine AllReadyL.cons rfl (fun K B=>?_) ?_
   ·go_simp
    refine B.out _ _ (Kp.alloc' ac (.cells #[.bool false,.slice none 0 0] 52)) (fun P=>?_);clear B K;have t:=Blk.new R #[.bool false,.slice none 0 0] 52;have X:wb.heap.size≤R.heap.size:=ac.size;have ae:M≠R.heap.size:=by have:=f.lt;omega
    replace f:=f.keep (kp_alloc R (.cells #[.bool false,.slice none 0 0] 52))
    try simp only[sq]
    generalize am:R.heap.size=Y at *;generalize R.alloc (.cells #[.bool false,.slice none 0 0] 52)=T at *;refine wpAnyL_on (i:=1) rfl (fun K B=>?_)
    go_simp
    refine(size_any x _ _ (hx.keep P)).mono ?_;rintro e L ⟨ao,rfl,D,U⟩;obtain⟨ap,aj,aq,ar,rfl⟩:=D.shape';replace f:=f.keep U;replace t:=t.keep U
    go_wp2_with fail
    refine B.out _ _ (P.trans' U) (fun I=>?_);clear B K;refine wpAnyL_on (i:=3) rfl (fun K B=>?_)
    go_simp
    refine(rdiv_any (x.natAbs:Int) y m _ _ _ D (hy.keep I) (by omega) y0 hm fx.abs fy).mono ?_;rintro e z ⟨ad,W,rfl,d,s,C⟩;obtain⟨g,a,j,l,rfl⟩:=d.shape';obtain⟨n,b,q,r,rfl⟩:=s.shape';replace f:=f.keep C;replace t:=t.keep C
    go_wp2_with fail
    refine B.out _ _ (I.trans' C) (fun N=>?_);clear B K;refine wpAnyL_tk (i:=4) (k:=5) (v:=.tuple #[.agg #[.bool g,.slice a j l],.agg #[.bool n,.slice b q r]]) rfl ?_ N ?_
    ·intro Z O;go_simp
    simp only[sq];refine wpAnyL_tk (i:=5) (k:=9) (v:=.agg #[.bool g,.slice a j l]) rfl ?_ N ?_
    ·intro Z O;go_simp
    simp only[sq];refine wpAnyL_tk (i:=6) (k:=10) (v:=.agg #[.bool n,.slice b q r]) rfl ?_ N ?_
    ·intro Z O;go_simp
    simp only[sq];refine wpAnyL_on (i:=9) rfl (fun K B=>?_);have F:=f.cell;have G:=f.frozen;have H:=f.lt
    go_simp
    refine B.out _ _ (stK2 (A:=M) (.bool g) (.slice a j l) N Q) (fun V=>?_);clear B K;have J:=(stS2 (E:=3) (.bool g) (.slice a j l) f (by decide));replace t:=(Blk.other (c:=M) (o:=1) (y:=.slice a j l) (Blk.other (c:=M) (o:=0) (y:=.bool g) t (by omega)) (by omega));replace d:=d.soft J;replace s:=s.soft J;replace f:=(Blk.set (o:=1) (y:=.slice a j l) (Blk.set (o:=0) (y:=.bool g) f));clear J F G H
    try simp only[sq]
    generalize ((z.setCell ⟨M,0,none⟩ (.bool g)).setCell ⟨M,1,none⟩ (.slice a j l))=af at *;simp only[List.setIfInBounds_toArray,List.set_cons_zero,List.set_cons_succ] at f;have F:=t.cell;have G:=t.frozen;have H:=t.lt;refine wpAnyL_last (i:=10) rfl (by kernel_rfl) (by kernel_rfl) (by kernel_rfl) (fun K B=>?_)
    go_simp
    refine B.out _ _ ?_;clear B K
    go_wp2_with fail
    go_meet
    case rel=>exact⟨M,_,_,_,_,rfl,(ot2 (A:=Y) (.bool n) (.slice b q r) f (by omega)),d.soft (sf2 (.bool n) (.slice b q r) t (by decide)),(kp2 (A:=Y) (.bool n) (.slice b q r) V X),Q⟩
   exact AllReadyL.nil
  refine AllReadyL.cons rfl (fun K B=>?_) ?_
  ·go_simp
   refine B.out _ _ (Kp.alloc' ak (.cells #[.bool false,.slice none 0 0] 52)) (fun ac=>?_);clear B K;have t:=Blk.new wd #[.bool false,.slice none 0 0] 52;have X:wb.heap.size≤wd.heap.size:=ak.size
   try simp only[sq]
   generalize am:wd.heap.size=Y at *;generalize wd.alloc (.cells #[.bool false,.slice none 0 0] 52)=T at *;refine wpAnyL_ready (rs:=[1,7]) (by kernel_rfl) (by simp) ?_;refine AllReadyL.cons rfl (fun K B=>?_) ?_
   ·go_simp
    refine(size_any x _ _ (hx.keep ac)).mono ?_;rintro e L ⟨ao,rfl,D,U⟩;obtain⟨ap,aj,aq,ar,rfl⟩:=D.shape';replace t:=t.keep U
    go_wp2_with fail
    refine B.out _ _ (ac.trans' U) (fun P=>?_);clear B K;refine wpAnyL_ready (rs:=[3,7]) (by kernel_rfl) (by simp) ?_;refine AllReadyL.cons rfl (fun K B=>?_) ?_
    ·go_simp
     refine(rdiv_any (x.natAbs:Int) y m _ _ _ D (hy.keep P) (by omega) y0 hm fx.abs fy).mono ?_;rintro e z ⟨ad,W,rfl,d,s,C⟩;obtain⟨g,a,j,l,rfl⟩:=d.shape';obtain⟨n,b,q,r,rfl⟩:=s.shape';replace t:=t.keep C
     go_wp2_with fail
     refine B.out _ _ (P.trans' C) (fun I=>?_);clear B K;refine wpAnyL_tk (i:=4) (k:=5) (v:=.tuple #[.agg #[.bool g,.slice a j l],.agg #[.bool n,.slice b q r]]) rfl ?_ I ?_
     ·intro Z O;go_simp
     simp only[sq];refine wpAnyL_tk (i:=5) (k:=9) (v:=.agg #[.bool g,.slice a j l]) rfl ?_ I ?_
     ·intro Z O;go_simp
     simp only[sq];refine wpAnyL_tk (i:=6) (k:=10) (v:=.agg #[.bool n,.slice b q r]) rfl ?_ I ?_
     ·intro Z O;go_simp
     simp only[sq];refine wpAnyL_on (i:=7) rfl (fun K B=>?_)
     go_simp
     refine B.out _ _ (Kp.alloc' I (.cells #[.bool false,.slice none 0 0] 52)) (fun N=>?_);clear B K;have f:=Blk.new z #[.bool false,.slice none 0 0] 52;have Q:wb.heap.size≤z.heap.size:=I.size;have ag:Y≠z.heap.size:=by have:=t.lt;omega
     replace t:=t.keep (kp_alloc z (.cells #[.bool false,.slice none 0 0] 52));replace d:=d.keep (kp_alloc z (.cells #[.bool false,.slice none 0 0] 52));replace s:=s.keep (kp_alloc z (.cells #[.bool false,.slice none 0 0] 52))
     try simp only[sq]
     generalize al:z.heap.size=M at *;generalize z.alloc (.cells #[.bool false,.slice none 0 0] 52)=R at *;refine wpAnyL_on (i:=9) rfl (fun K B=>?_);have F:=f.cell;have G:=f.frozen;have H:=f.lt
     go_simp
     refine B.out _ _ (stK2 (A:=M) (.bool g) (.slice a j l) N Q) (fun V=>?_);clear B K;have J:=(stS2 (E:=3) (.bool g) (.slice a j l) f (by decide));replace t:=(Blk.other (c:=M) (o:=1) (y:=.slice a j l) (Blk.other (c:=M) (o:=0) (y:=.bool g) t (by omega)) (by omega));replace d:=d.soft J;replace s:=s.soft J;replace f:=(Blk.set (o:=1) (y:=.slice a j l) (Blk.set (o:=0) (y:=.bool g) f));clear J F G H
     try simp only[sq]
     generalize ((R.setCell ⟨M,0,none⟩ (.bool g)).setCell ⟨M,1,none⟩ (.slice a j l))=af at *;simp only[List.setIfInBounds_toArray,List.set_cons_zero,List.set_cons_succ] at f;have F:=t.cell;have G:=t.frozen;have H:=t.lt;refine wpAnyL_last (i:=10) rfl (by kernel_rfl) (by kernel_rfl) (by kernel_rfl) (fun K B=>?_)
     go_simp
     refine B.out _ _ ?_;clear B K
     go_wp2_with fail
     go_meet
     case rel=>exact⟨M,_,_,_,_,rfl,(ot2 (A:=Y) (.bool n) (.slice b q r) f (by omega)),d.soft (sf2 (.bool n) (.slice b q r) t (by decide)),(kp2 (A:=Y) (.bool n) (.slice b q r) V X),Q⟩
    refine AllReadyL.cons rfl (fun K B=>?_) ?_
    ·go_simp
     refine B.out _ _ (Kp.alloc' P (.cells #[.bool false,.slice none 0 0] 52)) (fun I=>?_);clear B K;have f:=Blk.new L #[.bool false,.slice none 0 0] 52;have Q:wb.heap.size≤L.heap.size:=P.size;have ag:Y≠L.heap.size:=by have:=t.lt;omega
     replace t:=t.keep (kp_alloc L (.cells #[.bool false,.slice none 0 0] 52));replace D:=D.keep (kp_alloc L (.cells #[.bool false,.slice none 0 0] 52))
     try simp only[sq]
     generalize al:L.heap.size=M at *;generalize L.alloc (.cells #[.bool false,.slice none 0 0] 52)=R at *;refine wpAnyL_on (i:=3) rfl (fun K B=>?_)
     go_simp
     refine(rdiv_any (x.natAbs:Int) y m _ _ _ D (hy.keep I) (by omega) y0 hm fx.abs fy).mono ?_;rintro e z ⟨ad,W,rfl,d,s,C⟩;obtain⟨g,a,j,l,rfl⟩:=d.shape';obtain⟨n,b,q,r,rfl⟩:=s.shape';replace t:=t.keep C;replace f:=f.keep C
     go_wp2_with fail
     refine B.out _ _ (I.trans' C) (fun N=>?_);clear B K;refine wpAnyL_tk (i:=4) (k:=5) (v:=.tuple #[.agg #[.bool g,.slice a j l],.agg #[.bool n,.slice b q r]]) rfl ?_ N ?_
     ·intro Z O;go_simp
     simp only[sq];refine wpAnyL_tk (i:=5) (k:=9) (v:=.agg #[.bool g,.slice a j l]) rfl ?_ N ?_
     ·intro Z O;go_simp
     simp only[sq];refine wpAnyL_tk (i:=6) (k:=10) (v:=.agg #[.bool n,.slice b q r]) rfl ?_ N ?_
     ·intro Z O;go_simp
     simp only[sq];refine wpAnyL_on (i:=9) rfl (fun K B=>?_);have F:=f.cell;have G:=f.frozen;have H:=f.lt
     go_simp
     refine B.out _ _ (stK2 (A:=M) (.bool g) (.slice a j l) N Q) (fun V=>?_);clear B K;have J:=(stS2 (E:=3) (.bool g) (.slice a j l) f (by decide));replace t:=(Blk.other (c:=M) (o:=1) (y:=.slice a j l) (Blk.other (c:=M) (o:=0) (y:=.bool g) t (by omega)) (by omega));replace d:=d.soft J;replace s:=s.soft J;replace f:=(Blk.set (o:=1) (y:=.slice a j l) (Blk.set (o:=0) (y:=.bool g) f));clear J F G H
     try simp only[sq]
     generalize ((z.setCell ⟨M,0,none⟩ (.bool g)).setCell ⟨M,1,none⟩ (.slice a j l))=af at *;simp only[List.setIfInBounds_toArray,List.set_cons_zero,List.set_cons_succ] at f;have F:=t.cell;have G:=t.frozen;have H:=t.lt;refine wpAnyL_last (i:=10) rfl (by kernel_rfl) (by kernel_rfl) (by kernel_rfl) (fun K B=>?_)
     go_simp
     refine B.out _ _ ?_;clear B K
     go_wp2_with fail
     go_meet
     case rel=>exact⟨M,_,_,_,_,rfl,(ot2 (A:=Y) (.bool n) (.slice b q r) f (by omega)),d.soft (sf2 (.bool n) (.slice b q r) t (by decide)),(kp2 (A:=Y) (.bool n) (.slice b q r) V X),Q⟩
    exact AllReadyL.nil
   refine AllReadyL.cons rfl (fun K B=>?_) ?_
   ·go_simp
    refine B.out _ _ (Kp.alloc' ac (.cells #[.bool false,.slice none 0 0] 52)) (fun P=>?_);clear B K;have f:=Blk.new T #[.bool false,.slice none 0 0] 52;have Q:wb.heap.size≤T.heap.size:=ac.size;have ag:Y≠T.heap.size:=by have:=t.lt;omega
    replace t:=t.keep (kp_alloc T (.cells #[.bool false,.slice none 0 0] 52))
    try simp only[sq]
    generalize al:T.heap.size=M at *;generalize T.alloc (.cells #[.bool false,.slice none 0 0] 52)=R at *;refine wpAnyL_on (i:=1) rfl (fun K B=>?_)
    go_simp
    refine(size_any x _ _ (hx.keep P)).mono ?_;rintro e L ⟨ao,rfl,D,U⟩;obtain⟨ap,aj,aq,ar,rfl⟩:=D.shape';replace t:=t.keep U;replace f:=f.keep U
    go_wp2_with fail
    refine B.out _ _ (P.trans' U) (fun I=>?_);clear B K;refine wpAnyL_on (i:=3) rfl (fun K B=>?_)
    go_simp
    refine(rdiv_any (x.natAbs:Int) y m _ _ _ D (hy.keep I) (by omega) y0 hm fx.abs fy).mono ?_;rintro e z ⟨ad,W,rfl,d,s,C⟩;obtain⟨g,a,j,l,rfl⟩:=d.shape';obtain⟨n,b,q,r,rfl⟩:=s.shape';replace t:=t.keep C;replace f:=f.keep C
    go_wp2_with fail
    refine B.out _ _ (I.trans' C) (fun N=>?_);clear B K;refine wpAnyL_tk (i:=4) (k:=5) (v:=.tuple #[.agg #[.bool g,.slice a j l],.agg #[.bool n,.slice b q r]]) rfl ?_ N ?_
    ·intro Z O;go_simp
    simp only[sq];refine wpAnyL_tk (i:=5) (k:=9) (v:=.agg #[.bool g,.slice a j l]) rfl ?_ N ?_
    ·intro Z O;go_simp
    simp only[sq];refine wpAnyL_tk (i:=6) (k:=10) (v:=.agg #[.bool n,.slice b q r]) rfl ?_ N ?_
    ·intro Z O;go_simp
    simp only[sq];refine wpAnyL_on (i:=9) rfl (fun K B=>?_);have F:=f.cell;have G:=f.frozen;have H:=f.lt
    go_simp
    refine B.out _ _ (stK2 (A:=M) (.bool g) (.slice a j l) N Q) (fun V=>?_);clear B K;have J:=(stS2 (E:=3) (.bool g) (.slice a j l) f (by decide));replace t:=(Blk.other (c:=M) (o:=1) (y:=.slice a j l) (Blk.other (c:=M) (o:=0) (y:=.bool g) t (by omega)) (by omega));replace d:=d.soft J;replace s:=s.soft J;replace f:=(Blk.set (o:=1) (y:=.slice a j l) (Blk.set (o:=0) (y:=.bool g) f));clear J F G H
    try simp only[sq]
    generalize ((z.setCell ⟨M,0,none⟩ (.bool g)).setCell ⟨M,1,none⟩ (.slice a j l))=af at *;simp only[List.setIfInBounds_toArray,List.set_cons_zero,List.set_cons_succ] at f;have F:=t.cell;have G:=t.frozen;have H:=t.lt;refine wpAnyL_last (i:=10) rfl (by kernel_rfl) (by kernel_rfl) (by kernel_rfl) (fun K B=>?_)
    go_simp
    refine B.out _ _ ?_;clear B K
    go_wp2_with fail
    go_meet
    case rel=>exact⟨M,_,_,_,_,rfl,(ot2 (A:=Y) (.bool n) (.slice b q r) f (by omega)),d.soft (sf2 (.bool n) (.slice b q r) t (by decide)),(kp2 (A:=Y) (.bool n) (.slice b q r) V X),Q⟩
   exact AllReadyL.nil
  exact AllReadyL.nil
 case rest =>
  obtain⟨bp,b5,ay,n5,c5,rfl,BP,hq,az,aL⟩:=hcut;replace BX:=BX.keep az;replace BE:=BE.keep az;have aF:=BX.cell;have aG:=BP.cell;have aH:=BP.lt;have au:=BE.cell;have aC:=BE.frozen;have aw:=BE.lt;have aD:=ax.trans' az;by_cases h:x<0
  ·have an:=av.out;rw[decide_eq_true h] at an;subst an
   go_wp2_with fail
   refine(less_any _ _ _ hq).mono ?_;rintro e w6 ⟨v6,rfl,aA,aE⟩;obtain⟨b6,aB,n6,c6,rfl⟩:=aA.shape';replace BE:=BE.keep aE;clear au aC aw aF aG aH;have au:=BE.cell;have aC:=BE.frozen;have aw:=BE.lt;have e:-((x.natAbs:Int) / y)=x.tdiv y:=by
    rw[show (x.natAbs:Int) = -x by omega,← Int.tdiv_eq_ediv_of_nonneg (by omega),Int.neg_tdiv,Int.neg_neg]
   rw[e] at aA
   go_wp2_with fail
   refine bodyPost_ret (v:=.agg #[.bool b6,.slice aB n6 c6]) (by simp[results,Tryz.results117,go_sem,au]) rfl ?_;exact retI_mk aA (sf2 (.bool b6) (.slice aB n6 c6) BE (by decide)) (kp2 (A:=w.heap.size+1+1) (.bool b6) (.slice aB n6 c6) (aD.trans' aE) (by show w.heap.size≤w.heap.size+1+1;omega))
  ·have an:=av.out;rw[decide_eq_false h] at an;subst an;have e:(x.natAbs:Int) / y=x.tdiv y:=by
    rw[show (x.natAbs:Int)=x by omega,← Int.tdiv_eq_ediv_of_nonneg (by omega)]
   rw[e] at hq
   go_wp2_with fail
   refine bodyPost_ret (v:=.agg #[.bool b5,.slice ay n5 c5]) (by simp[results,Tryz.results117,go_sem,au]) rfl ?_;exact retI_mk hq (sf2 (.bool b5) (.slice ay n5 c5) BE (by decide)) (kp2 (A:=w.heap.size+1+1) (.bool b5) (.slice ay n5 c5) aD (by show w.heap.size≤w.heap.size+1+1;omega))
end Go.Proofs.YtjahbjjekednfaaGreatDoor
