import Derived.Test.YtjahbjjekednfaaGreatDoorR5
import Derived.Test.YtjahbjjekednfaaGreatDoorSt
import Derived.Test.YtjahbjjekednfaaGreatDoorMath6
namespace Go.Proofs.YtjahbjjekednfaaGreatDoor
set_option maxHeartbeats 6400000
set_option maxRecDepth 100000
open Go.RowKit
def RetI2 (w:World) (x y:Int) (e:Ending) (a:World):Prop:=∃ u v,e=.returned (.tuple #[u,v])∧IN a u x∧IN a v y∧Kp w a
theorem div_rb (b1 b2:Bool) (x y:Int) (d:Nat) (ao D:Option Addr) (n c n' c':Nat) (w:World) (hx:Rb w (.slice ao n c) x) (hy:IN w (.agg #[.bool b2,.slice D n' c']) y) (y0:0<y) (hd:d≤100000000) (fx:Ft d x) (fy:Ft d y) :
  Calls Tryz.prog 58 #[.agg #[.bool b1,.slice ao n c],.agg #[.bool b2,.slice D n' c']] w (RetI2 w (x / y) (x % y)):=by
 obtain⟨m,hm,cm,aY⟩:=hx;have aS:preV m.reverse m.reverse.length=x:=by rw[List.length_reverse,preV_all,aY]
 have aB:=dig_rev cm.1;unfold RowR at hm;generalize m.reverse=l at *;obtain⟨b5,bL,af,bM,bu⟩:=hm.slice;simp only[Value.slice.injEq] at af;obtain⟨rfl,rfl,rfl⟩:=af;clear cm aY;have HD:=Hid.mk aB;have bv:=Hid.mk aS;have f10000:Fit 10000:=⟨5,by decide,by decide⟩;have aZ:Hid (∀ j,j≤l.length→0≤preV l j∧preV l j≤x):=by
  intro j hj;have h1:=preV_le aB j (l.length - j);rw[show j+(l.length - j)=l.length by omega,aS] at h1;exact⟨preV_nn aB j,h1⟩
 clear aB aS;have a0:Kp w _:=(Kp.alloc' (Kp.alloc' (Kp.alloc' (Kp.alloc' (Kp.alloc' (Kp.alloc' (Below.refl w.heap.size w) (.cells #[.bool b1,.slice ao l.length c] 52)) (.cells #[.bool b2,.slice D n' c'] 52)) (.cells #[.bool false,.slice none 0 0] 52)) (.cells #[.bool false,.slice none 0 0] 52)) (.cells #[.bool false,.slice none 0 0] 52)) (.cells #[.bool false,.slice none 0 0] 52));have a1:Blk _ (w.heap.size) #[.bool b1,.slice ao l.length c] 52:=(Blk.alloc (Blk.alloc (Blk.alloc (Blk.alloc (Blk.alloc (Blk.new w _ _) (.cells #[.bool b2,.slice D n' c'] 52)) (.cells #[.bool false,.slice none 0 0] 52)) (.cells #[.bool false,.slice none 0 0] 52)) (.cells #[.bool false,.slice none 0 0] 52)) (.cells #[.bool false,.slice none 0 0] 52));have a2:Blk _ (w.heap.size+1) #[.bool b2,.slice D n' c'] 52:=(Blk.alloc (Blk.alloc (Blk.alloc (Blk.alloc (Blk.at (Blk.new (w.alloc (.cells #[.bool b1,.slice ao l.length c] 52)) _ _) (by simp)) (.cells #[.bool false,.slice none 0 0] 52)) (.cells #[.bool false,.slice none 0 0] 52)) (.cells #[.bool false,.slice none 0 0] 52)) (.cells #[.bool false,.slice none 0 0] 52));have a3:Blk _ (w.heap.size+1+1) #[.bool false,.slice none 0 0] 52:=(Blk.alloc (Blk.alloc (Blk.alloc (Blk.at (Blk.new ((w.alloc (.cells #[.bool b1,.slice ao l.length c] 52)).alloc (.cells #[.bool b2,.slice D n' c'] 52)) _ _) (by simp)) (.cells #[.bool false,.slice none 0 0] 52)) (.cells #[.bool false,.slice none 0 0] 52)) (.cells #[.bool false,.slice none 0 0] 52));have a4:Blk _ (w.heap.size+1+1+1) #[.bool false,.slice none 0 0] 52:=(Blk.alloc (Blk.alloc (Blk.at (Blk.new (((w.alloc (.cells #[.bool b1,.slice ao l.length c] 52)).alloc (.cells #[.bool b2,.slice D n' c'] 52)).alloc (.cells #[.bool false,.slice none 0 0] 52)) _ _) (by simp)) (.cells #[.bool false,.slice none 0 0] 52)) (.cells #[.bool false,.slice none 0 0] 52))
 have a5:Blk _ (w.heap.size+1+1+1+1) #[.bool false,.slice none 0 0] 52:=(Blk.alloc (Blk.at (Blk.new ((((w.alloc (.cells #[.bool b1,.slice ao l.length c] 52)).alloc (.cells #[.bool b2,.slice D n' c'] 52)).alloc (.cells #[.bool false,.slice none 0 0] 52)).alloc (.cells #[.bool false,.slice none 0 0] 52)) _ _) (by simp)) (.cells #[.bool false,.slice none 0 0] 52));have a6:Blk _ (w.heap.size+1+1+1+1+1) #[.bool false,.slice none 0 0] 52:=(Blk.at (Blk.new (((((w.alloc (.cells #[.bool b1,.slice ao l.length c] 52)).alloc (.cells #[.bool b2,.slice D n' c'] 52)).alloc (.cells #[.bool false,.slice none 0 0] 52)).alloc (.cells #[.bool false,.slice none 0 0] 52)).alloc (.cells #[.bool false,.slice none 0 0] 52)) _ _) (by simp))
 go_enter Tryz.func58,Tryz.ntmps58
 go_wp2_with fail
 go_loopw [8,9,10,11,12] (fun i _ _ _ _ wr=>∃(j:Nat) (bq:Bool) (aa:Option Addr) (nq cq:Nat) (br:Bool) (ac:Option Addr) (nr cr:Nat),j≤l.length∧i=.int .i64 j ∧
   Blk wr (w.heap.size) #[.bool b1,.slice ao l.length c] 52∧Blk wr (w.heap.size+1) #[.bool b2,.slice D n' c'] 52∧Blk wr (w.heap.size+1+1) #[.bool false,.slice none 0 0] 52∧Blk wr (w.heap.size+1+1+1) #[.bool false,.slice none 0 0] 52 ∧
   Blk wr (w.heap.size+1+1+1+1) #[.bool bq,.slice aa nq cq] 52∧Blk wr (w.heap.size+1+1+1+1+1) #[.bool br,.slice ac nr cr] 52 ∧
   IN wr (.agg #[.bool bq,.slice aa nq cq]) (preV l j / y)∧IN wr (.agg #[.bool br,.slice ac nr cr]) (preV l j % y)∧Kp w wr)
  (fun i _ _ _ _ _=>l.length - (intOf i).toNat)
 case atStart=>exact⟨0,false,none,0,0,false,none,0,0,by omega,rfl,a1,a2,a3,a4,a5,a6,by simp only[preV,Int.zero_ediv];exact in_zero _,by simp only[preV,Int.zero_emod];exact in_zero _,a0⟩
 case round =>
  clear a1 a2 a3 a4 a5 a6 a0;obtain⟨j,bq,aa,nq,cq,br,ac,nr,cr,hj,rfl,BX,BY,B1,B2,BQ,BR,W,aC,E⟩:=hrel;have a7:=BX.cell;have bw:=BX.lt;obtain⟨a8,b6⟩:=aZ.out j hj;have b7:0≤preV l j % y:=Int.emod_nonneg _ (by omega);have b8:preV l j % y<y:=Int.emod_lt_of_pos _ y0;have fR:Ft d (preV l j % y):=fy.le (by omega);have bx:Fit (preV l j % y):=fR.fit (by omega);have bz:=a7;by_cases h1:j<l.length
  ·obtain⟨bA,bN⟩:=HD.out j;have bB:at0 l j≤9223372036854775807:=by omega
   have fd:Fit (at0 l j):=⟨4,by decide,by omega⟩;have f5:Ft 5 10000:=by unfold Ft;decide
   have aE:Ft (d+5) (preV l j % y*10000):=fR.mul f5;have bC:Fit (preV l j % y*10000):=aE.fit (by omega);obtain⟨b9,bO,bb,aT,af,_,_,_,aU,a9⟩:=id hm;simp only[Value.slice.injEq] at af;obtain⟨rfl,_,rfl⟩:=af;have ha:=(aU (by omega)).1;have ba:=(aU (by omega)).2;subst ha;have ad:=a9 j h1;have ag:∀ G,Kp wr G→G.cell? ⟨bb,aT+j,none⟩=some (.int .i64 (at0 l j)):=by
    intro G bD;rw[World.cell?_of_block (w:=w) ((E.trans' bD).block bb (elemOf_lt ba))];exact ad
   have ca:(j:Int)<(l.length:Int):=by omega
   have cb:(0:Int)≤(j:Int):=by omega
   clear aU a9 ad HD aZ
   go_wp2_with fail
   refine wp_region_l (S:=fun G=>Kp wr G) (by kernel_rfl) (Kp.drew' (Below.refl _ _)) (fun g=>?_);refine wpAnyL_take (i:=0) (k:=2) (oi:=_) (v:=.agg #[.bool br,.slice ac nr cr]) rfl (by kernel_rfl) (by kernel_rfl) (by kernel_rfl) (by kernel_rfl) (fun _ _ _ h=>h) (Or.inl ⟨by rfl,?_⟩) g ?_
   ·intro G q;have hc:=((BR).keep q).cell;go_simp
   simp only[sq];refine wpAnyL_take (i:=3) (k:=4) (oi:=_) (v:=.pointer (some ⟨w.heap.size,1,none⟩)) rfl (by kernel_rfl) (by kernel_rfl) (by kernel_rfl) (by kernel_rfl) (fun _ _ _ h=>h) (Or.inl ⟨by rfl,?_⟩) g ?_
   ·intro G q;go_simp
   simp only[sq];refine wpAnyL_take (i:=4) (k:=6) (oi:=_) (v:=.slice (some ⟨bb,aT,none⟩) l.length c) rfl (by kernel_rfl) (by kernel_rfl) (by kernel_rfl) (by kernel_rfl) (fun _ _ _ h=>h) (Or.inl ⟨by rfl,?_⟩) g ?_
   ·intro G q;have hc:=((BX).keep q).cell;go_simp
   simp only[sq];refine wpAnyL_take (i:=5) (k:=6) (oi:=_) (v:=.int .i64 j) rfl (by kernel_rfl) (by kernel_rfl) (by kernel_rfl) (by kernel_rfl) (fun _ _ _ h=>h) (Or.inl ⟨by rfl,?_⟩) g ?_
   ·intro G q;go_simp
   simp only[sq];refine wpAnyL_take (i:=6) (k:=7) (oi:=_) (v:=.pointer (some ⟨bb,aT+j,none⟩)) rfl (by kernel_rfl) (by kernel_rfl) (by kernel_rfl) (by kernel_rfl) (fun _ _ _ h=>h) (Or.inl ⟨by rfl,?_⟩) g ?_
   ·intro G q;go_simp
   simp only[sq];refine wpAnyL_take (i:=7) (k:=8) (oi:=_) (v:=.int .i64 (at0 l j)) rfl (by kernel_rfl) (by kernel_rfl) (by kernel_rfl) (by kernel_rfl) (fun _ _ _ h=>h) (Or.inl ⟨by rfl,?_⟩) g ?_
   ·intro G q;have cc:=ag G q;go_simp
   simp only[sq];refine wpAnyL_one (i:=1) (o:=_) rfl (by kernel_rfl) (fun K f=>?_)
   go_simp
   refine(of_any 10000 _ (by decide) (by decide)).mono ?_;rintro e cd ⟨ce,rfl,ah,aF⟩;obtain⟨cf,bP,cg,ch,rfl⟩:=ah.shape'
   go_wp2_with fail
   refine f.out _ _ (g.trans' aF) (fun C=>?_);clear f K
   try simp only[sq]
   refine wpAnyL_one (i:=2) (o:=_) rfl (by kernel_rfl) (fun K f=>?_)
   go_simp
   refine(rtimes_any (preV l j % y) 10000 _ _ _ (aC.keep C) ah bx f10000).mono ?_;rintro e ci ⟨cj,rfl,ai,aG⟩;obtain⟨ck,bQ,cl,cn,rfl⟩:=ai.shape'
   go_wp2_with fail
   refine f.out _ _ (C.trans' aG) (fun I=>?_);clear f K
   try simp only[sq]
   refine wpAnyL_one (i:=8) (o:=_) rfl (by kernel_rfl) (fun K f=>?_)
   go_simp
   refine(of_any (at0 l j) _ bA bB).mono ?_;rintro e co ⟨cp,rfl,aj,ak⟩;obtain⟨ct,bR,cu,cw,rfl⟩:=aj.shape'
   go_wp2_with fail
   refine f.out _ _ (I.trans' ak) (fun s=>?_);clear f K
   try simp only[sq]
   refine wpAnyL_one (i:=9) (o:=_) rfl (by kernel_rfl) (fun K f=>?_)
   go_simp
   refine(rplus_any (preV l j % y*10000) (at0 l j) _ _ _ (ai.keep ak) aj bC fd).mono ?_;rintro e al ⟨cx,rfl,H,aH⟩;obtain⟨J,u,L,M,rfl⟩:=H.shape'
   go_wp2_with fail
   refine f.out _ _ (s.trans' aH) (fun r=>?_);clear f K
   try simp only[sq]
   have Y:=BR.keep r;have am:=Y.cell;have an:=Y.frozen;have ap:=Y.lt;refine wpAnyL_last (i:=10) (o:=_) rfl (by kernel_rfl) (by kernel_rfl) (by kernel_rfl) (fun K f=>?_)
   go_simp
   refine f.out _ _ ?_;clear f K;have T0:=BR.keep r;have N:Sf 3 al ((al.setCell ⟨w.heap.size+1+1+1+1+1,0,none⟩ (.bool J)).setCell ⟨w.heap.size+1+1+1+1+1,1,none⟩ (.slice u L M)):=Sf.set (t:=52) (Sf.set (t:=52) (Sf.refl _ al) T0.elem (by decide)) (by simp only[elemOf_setCell];exact T0.elem) (by decide)
   replace BX:=Blk.other (c:=w.heap.size+1+1+1+1+1) (o:=1) (y:=.slice u L M) (Blk.other (c:=w.heap.size+1+1+1+1+1) (o:=0) (y:=.bool J) (BX.keep r) (by omega)) (by omega);replace BY:=Blk.other (c:=w.heap.size+1+1+1+1+1) (o:=1) (y:=.slice u L M) (Blk.other (c:=w.heap.size+1+1+1+1+1) (o:=0) (y:=.bool J) (BY.keep r) (by omega)) (by omega);replace B1:=Blk.other (c:=w.heap.size+1+1+1+1+1) (o:=1) (y:=.slice u L M) (Blk.other (c:=w.heap.size+1+1+1+1+1) (o:=0) (y:=.bool J) (B1.keep r) (by omega)) (by omega);replace B2:=Blk.other (c:=w.heap.size+1+1+1+1+1) (o:=1) (y:=.slice u L M) (Blk.other (c:=w.heap.size+1+1+1+1+1) (o:=0) (y:=.bool J) (B2.keep r) (by omega)) (by omega);replace BQ:=Blk.other (c:=w.heap.size+1+1+1+1+1) (o:=1) (y:=.slice u L M) (Blk.other (c:=w.heap.size+1+1+1+1+1) (o:=0) (y:=.bool J) (BQ.keep r) (by omega)) (by omega);replace BR:=Blk.set (o:=1) (y:=.slice u L M) (Blk.set (o:=0) (y:=.bool J) T0);replace W:=(W.keep r).soft N;replace H:=H.soft N;replace E:Kp w ((al.setCell ⟨w.heap.size+1+1+1+1+1,0,none⟩ (.bool J)).setCell ⟨w.heap.size+1+1+1+1+1,1,none⟩ (.slice u L M)):=Below.setCell (Below.setCell (E.trans' r) (p:=⟨w.heap.size+1+1+1+1+1,0,none⟩) (by show w.heap.size≤w.heap.size+1+1+1+1+1;omega) (.bool J)) (p:=⟨w.heap.size+1+1+1+1+1,1,none⟩) (by show w.heap.size≤w.heap.size+1+1+1+1+1;omega) (.slice u L M)
   clear g C I s r Y am an ap ah ai aj aF aG ak aH aC ag a7 bw bz hm ba;generalize ((al.setCell ⟨w.heap.size+1+1+1+1+1,0,none⟩ (.bool J)).setCell ⟨w.heap.size+1+1+1+1+1,1,none⟩ (.slice u L M))=w5 at *;simp only[List.setIfInBounds_toArray,List.set_cons_zero,List.set_cons_succ] at BR;generalize hRR:preV l j % y*10000+at0 l j=R at *;have aI:0≤R:=by omega
   have aJ:R<y*10000:=by omega
   have bc:Fit R:=by rw[← hRR];exact(Ft.add aE (show Ft (d+5) (at0 l j) from (show Ft 4 (at0 l j) by unfold Ft;omega).mono (by omega))).fit (by omega)
   have be:IN w5 (.agg #[.bool b2,.slice D n' c']) y:=hy.keep E;have fY:Fit y:=fy.fit (by omega);have HX:=Hid.mk aI;clear T0 N
   go_wp2_with fail
   go_loopw [9,10,11,12] (fun lo hi _ _ wq=>∃ a b:Int,lo=.int .i64 a∧hi=.int .i64 b∧0≤a∧a<b∧b≤10000∧Hid (y*a≤R∧R<y*b)∧Kp w5 wq)
    (fun lo hi _ _ _=>(intOf hi - intOf lo).toNat)
   case atStart=>exact⟨0,10000,rfl,rfl,by decide,by decide,by decide,⟨by rw[Int.mul_zero];exact HX.out,aJ⟩,Below.refl _ _⟩
   case round =>
    obtain⟨a,b,rfl,rfl,cy,cz,cA,aq,F⟩:=hrel;have bf:=E.trans' F;replace BX:=BX.keep F;replace BY:=BY.keep F;replace B1:=B1.keep F;replace B2:=B2.keep F;replace BQ:=BQ.keep F;replace BR:=BR.keep F;replace H:=H.keep F;replace W:=W.keep F;have aV:=be.keep F;have fa:Fit a:=⟨5,by decide,by omega⟩;clear E be aI aJ;have E:=bf;clear bf;by_cases h2:1<b - a
    ·have cB:0≤(a+b) / 2:=by omega
     have cC:(a+b).tdiv 2=(a+b) / 2:=by rw[Int.tdiv_eq_ediv_of_nonneg (by omega)]
     have cD:a<(a+b) / 2:=by omega
     have cE:(a+b) / 2<b:=by omega
     generalize hmm:(a+b) / 2=m at *;have fm:Fit m:=⟨5,by decide,by omega⟩;have bE:Fit (y*m):=(fy.mul (show Ft 5 m by unfold Ft;omega)).fit (by omega)
     clear hmm
     go_wp2_with fail
     refine wp_region_l (S:=fun G=>Kp wr G) (by kernel_rfl) (Kp.drew' (Below.refl _ _)) (fun g=>?_);refine wpAnyL_take (i:=0) (k:=3) (oi:=_) (v:=.agg #[.bool b2,.slice D n' c']) rfl (by kernel_rfl) (by kernel_rfl) (by kernel_rfl) (by kernel_rfl) (fun _ _ _ h=>h) (Or.inl ⟨by rfl,?_⟩) g ?_
     ·intro G q;have hc:=((BY).keep q).cell;go_simp
     simp only[sq];refine wpAnyL_take (i:=1) (k:=2) (oi:=_) (v:=.int .i64 m) rfl (by kernel_rfl) (by kernel_rfl) (by kernel_rfl) (by kernel_rfl) (fun _ _ _ h=>h) (Or.inl ⟨by rfl,?_⟩) g ?_
     ·intro G q;go_simp
     simp only[sq];refine wpAnyL_take (i:=4) (k:=5) (oi:=_) (v:=.agg #[.bool J,.slice u L M]) rfl (by kernel_rfl) (by kernel_rfl) (by kernel_rfl) (by kernel_rfl) (fun _ _ _ h=>h) (Or.inl ⟨by rfl,?_⟩) g ?_
     ·intro G q;have hc:=((BR).keep q).cell;go_simp
     simp only[sq];refine wpAnyL_one (i:=2) (o:=_) rfl (by kernel_rfl) (fun K f=>?_)
     go_simp
     refine(of_any m _ (by omega) (by omega)).mono ?_;rintro e cF ⟨cG,rfl,aK,bg⟩;obtain⟨cH,bS,cI,cJ,rfl⟩:=aK.shape'
     go_wp2_with fail
     refine f.out _ _ (g.trans' bg) (fun C=>?_);clear f K
     try simp only[sq]
     refine wpAnyL_one (i:=3) (o:=_) rfl (by kernel_rfl) (fun K f=>?_)
     go_simp
     refine(rtimes_any y m _ _ _ (aV.keep C) aK fY fm).mono ?_;rintro e cK ⟨cL,rfl,aL,bh⟩;obtain⟨cM,bT,cN,cO,rfl⟩:=aL.shape'
     go_wp2_with fail
     refine f.out _ _ (C.trans' bh) (fun I=>?_);clear f K
     try simp only[sq]
     refine wpAnyL_one (i:=5) (o:=_) rfl (by kernel_rfl) (fun K f=>?_)
     go_simp
     refine(rcmp_any (y*m) R _ _ _ aL (H.keep I) bE bc).mono ?_;rintro e cP ⟨rfl,bi⟩
     go_wp2_with fail
     refine f.out _ _ (I.trans' bi) (fun s=>?_);clear f K
     try simp only[sq]
     refine wpAnyL_last (i:=6) (o:=_) rfl (by kernel_rfl) (by kernel_rfl) (by kernel_rfl) (fun K f=>?_)
     go_simp
     refine f.out _ _ ?_;clear f K;have Z:=aq.out;by_cases h3:y*m≤R
     ·have bF:(y*m - R).sign≤0:=by
       rcases Int.lt_trichotomy (y*m - R) 0 with h5 | h5 | h5
       ·rw[Int.sign_eq_neg_one_of_neg h5];decide
       ·rw[h5];decide
       ·omega
      have aW:Hid (y*m≤R∧R<y*b):=⟨h3,Z.2⟩;clear h3 Z aq;generalize (y*m - R).sign=sg at *
      go_wp2_with fail
      go_roundw
      case rel=>exact⟨m,b,rfl,rfl,by omega,by omega,by omega,aW,F.trans' s⟩
      case measure=>simp[intOf];omega
     ·have bF:¬ (y*m - R).sign≤0:=by
       rw[Int.sign_eq_one_of_pos (by omega)];decide
      have aW:Hid (y*a≤R∧R<y*m):=⟨Z.1,by omega⟩;clear h3 Z aq;generalize (y*m - R).sign=sg at *
      go_wp2_with fail
      go_roundw
      case rel=>exact⟨a,m,rfl,rfl,by omega,by omega,by omega,aW,F.trans' s⟩
      case measure=>simp[intOf];omega
    ·have bG:b=a+1:=by omega
     subst bG;have Z:=aq.out;rw[← hRR] at Z;have aX:=Hid.mk (div_next y0 Z.1 Z.2);rw[hRR] at aX;have bH:Fit (y*a):=(fy.mul (show Ft 5 a by unfold Ft;omega)).fit (by omega)
     have cQ:0≤preV l j / y:=Int.ediv_nonneg a8 (by omega);have cR:preV l j / y≤preV l j:=Int.ediv_le_self _ a8;have bj:Ft d (preV l j / y):=fx.le (by omega);have fQ:Fit (preV l j / y):=bj.fit (by omega);have bI:Fit (preV l j / y*10000):=(bj.mul f5).fit (by omega);clear Z aq F
     go_wp2_with fail
     refine wp_region_l (S:=fun G=>Kp wr G) (by kernel_rfl) (Kp.drew' (Below.refl _ _)) (fun g=>?_);refine wpAnyL_take (i:=0) (k:=5) (oi:=_) (v:=.agg #[.bool J,.slice u L M]) rfl (by kernel_rfl) (by kernel_rfl) (by kernel_rfl) (by kernel_rfl) (fun _ _ _ h=>h) (Or.inl ⟨by rfl,?_⟩) g ?_
     ·intro G q;have hc:=((BR).keep q).cell;go_simp
     simp only[sq];refine wpAnyL_take (i:=1) (k:=4) (oi:=_) (v:=.agg #[.bool b2,.slice D n' c']) rfl (by kernel_rfl) (by kernel_rfl) (by kernel_rfl) (by kernel_rfl) (fun _ _ _ h=>h) (Or.inl ⟨by rfl,?_⟩) g ?_
     ·intro G q;have hc:=((BY).keep q).cell;go_simp
     simp only[sq];refine wpAnyL_take (i:=2) (k:=3) (oi:=_) (v:=.int .i64 a) rfl (by kernel_rfl) (by kernel_rfl) (by kernel_rfl) (by kernel_rfl) (fun _ _ _ h=>h) (Or.inl ⟨by rfl,?_⟩) g ?_
     ·intro G q;go_simp
     simp only[sq];refine wpAnyL_one (i:=3) (o:=_) rfl (by kernel_rfl) (fun K f=>?_)
     go_simp
     refine(of_any a _ (by omega) (by omega)).mono ?_;rintro e cS ⟨cT,rfl,ar,aM⟩;obtain⟨cU,bU,cV,cW,rfl⟩:=ar.shape'
     go_wp2_with fail
     refine f.out _ _ (g.trans' aM) (fun C=>?_);clear f K
     try simp only[sq]
     refine wpAnyL_one (i:=4) (o:=_) rfl (by kernel_rfl) (fun K f=>?_)
     go_simp
     refine(rtimes_any y a _ _ _ (aV.keep C) ar fY fa).mono ?_;rintro e cX ⟨cY,rfl,au,aN⟩;obtain⟨cZ,bV,c0,c6,rfl⟩:=au.shape'
     go_wp2_with fail
     refine f.out _ _ (C.trans' aN) (fun I=>?_);clear f K
     try simp only[sq]
     refine wpAnyL_one (i:=5) (o:=_) rfl (by kernel_rfl) (fun K f=>?_)
     go_simp
     refine(rminus_any R (y*a) _ _ _ (H.keep I) au bc bH).mono ?_;rintro e av ⟨c7,rfl,X,aO⟩;obtain⟨O,z,P,Q,rfl⟩:=X.shape'
     go_wp2_with fail
     refine f.out _ _ (I.trans' aO) (fun s=>?_);clear f K
     try simp only[sq]
     have Y:=BR.keep s;have am:=Y.cell;have an:=Y.frozen;have ap:=Y.lt;refine wpAnyL_last (i:=6) (o:=_) rfl (by kernel_rfl) (by kernel_rfl) (by kernel_rfl) (fun K f=>?_)
     go_simp
     refine f.out _ _ ?_;clear f K;have T0:=BR.keep s;have N:Sf 3 av ((av.setCell ⟨w.heap.size+1+1+1+1+1,0,none⟩ (.bool O)).setCell ⟨w.heap.size+1+1+1+1+1,1,none⟩ (.slice z P Q)):=Sf.set (t:=52) (Sf.set (t:=52) (Sf.refl _ av) T0.elem (by decide)) (by simp only[elemOf_setCell];exact T0.elem) (by decide)
     replace BX:=Blk.other (c:=w.heap.size+1+1+1+1+1) (o:=1) (y:=.slice z P Q) (Blk.other (c:=w.heap.size+1+1+1+1+1) (o:=0) (y:=.bool O) (BX.keep s) (by omega)) (by omega);replace BY:=Blk.other (c:=w.heap.size+1+1+1+1+1) (o:=1) (y:=.slice z P Q) (Blk.other (c:=w.heap.size+1+1+1+1+1) (o:=0) (y:=.bool O) (BY.keep s) (by omega)) (by omega);replace B1:=Blk.other (c:=w.heap.size+1+1+1+1+1) (o:=1) (y:=.slice z P Q) (Blk.other (c:=w.heap.size+1+1+1+1+1) (o:=0) (y:=.bool O) (B1.keep s) (by omega)) (by omega);replace B2:=Blk.other (c:=w.heap.size+1+1+1+1+1) (o:=1) (y:=.slice z P Q) (Blk.other (c:=w.heap.size+1+1+1+1+1) (o:=0) (y:=.bool O) (B2.keep s) (by omega)) (by omega);replace BQ:=Blk.other (c:=w.heap.size+1+1+1+1+1) (o:=1) (y:=.slice z P Q) (Blk.other (c:=w.heap.size+1+1+1+1+1) (o:=0) (y:=.bool O) (BQ.keep s) (by omega)) (by omega);replace BR:=Blk.set (o:=1) (y:=.slice z P Q) (Blk.set (o:=0) (y:=.bool O) T0);replace W:=(W.keep s).soft N;replace X:=X.soft N;replace E:Kp w ((av.setCell ⟨w.heap.size+1+1+1+1+1,0,none⟩ (.bool O)).setCell ⟨w.heap.size+1+1+1+1+1,1,none⟩ (.slice z P Q)):=Below.setCell (Below.setCell (E.trans' s) (p:=⟨w.heap.size+1+1+1+1+1,0,none⟩) (by show w.heap.size≤w.heap.size+1+1+1+1+1;omega) (.bool O)) (p:=⟨w.heap.size+1+1+1+1+1,1,none⟩) (by show w.heap.size≤w.heap.size+1+1+1+1+1;omega) (.slice z P Q)
     clear g C I s Y am an ap ar au aM aN aO H aV;generalize ((av.setCell ⟨w.heap.size+1+1+1+1+1,0,none⟩ (.bool O)).setCell ⟨w.heap.size+1+1+1+1+1,1,none⟩ (.slice z P Q))=w6 at *;simp only[List.setIfInBounds_toArray,List.set_cons_zero,List.set_cons_succ] at BR;clear T0 N
     go_wp2_with fail
     refine wp_region_l (S:=fun G=>Kp w6 G) (by kernel_rfl) (Kp.drew' (Below.refl _ _)) (fun g=>?_);refine wpAnyL_take (i:=0) (k:=2) (oi:=_) (v:=.agg #[.bool bq,.slice aa nq cq]) rfl (by kernel_rfl) (by kernel_rfl) (by kernel_rfl) (by kernel_rfl) (fun _ _ _ h=>h) (Or.inl ⟨by rfl,?_⟩) g ?_
     ·intro G q;have hc:=((BQ).keep q).cell;go_simp
     simp only[sq];refine wpAnyL_take (i:=3) (k:=4) (oi:=_) (v:=.int .i64 a) rfl (by kernel_rfl) (by kernel_rfl) (by kernel_rfl) (by kernel_rfl) (fun _ _ _ h=>h) (Or.inl ⟨by rfl,?_⟩) g ?_
     ·intro G q;go_simp
     simp only[sq];refine wpAnyL_one (i:=1) (o:=_) rfl (by kernel_rfl) (fun K f=>?_)
     go_simp
     refine(of_any 10000 _ (by decide) (by decide)).mono ?_;rintro e c8 ⟨c9,rfl,aw,aP⟩;obtain⟨da,bW,db,dc,rfl⟩:=aw.shape'
     go_wp2_with fail
     refine f.out _ _ (g.trans' aP) (fun C=>?_);clear f K
     try simp only[sq]
     refine wpAnyL_one (i:=2) (o:=_) rfl (by kernel_rfl) (fun K f=>?_)
     go_simp
     refine(rtimes_any (preV l j / y) 10000 _ _ _ (W.keep C) aw fQ f10000).mono ?_;rintro e dd ⟨de,rfl,ax,aQ⟩;obtain⟨df,bX,dg,dh,rfl⟩:=ax.shape'
     go_wp2_with fail
     refine f.out _ _ (C.trans' aQ) (fun I=>?_);clear f K
     try simp only[sq]
     refine wpAnyL_one (i:=4) (o:=_) rfl (by kernel_rfl) (fun K f=>?_)
     go_simp
     refine(of_any a _ (by omega) (by omega)).mono ?_;rintro e di ⟨dj,rfl,ay,az⟩;obtain⟨dk,bY,dl,dm,rfl⟩:=ay.shape'
     go_wp2_with fail
     refine f.out _ _ (I.trans' az) (fun s=>?_);clear f K
     try simp only[sq]
     refine wpAnyL_one (i:=5) (o:=_) rfl (by kernel_rfl) (fun K f=>?_)
     go_simp
     refine(rplus_any (preV l j / y*10000) a _ _ _ (ax.keep az) ay bI fa).mono ?_;rintro e aA ⟨dn,rfl,ae,aR⟩;obtain⟨T,B,U,V,rfl⟩:=ae.shape'
     go_wp2_with fail
     refine f.out _ _ (s.trans' aR) (fun r=>?_);clear f K
     try simp only[sq]
     have aD:=BQ.keep r;have bm:=aD.cell;have bn:=aD.frozen;have bo:=aD.lt;refine wpAnyL_last (i:=6) (o:=_) rfl (by kernel_rfl) (by kernel_rfl) (by kernel_rfl) (fun K f=>?_)
     go_simp
     refine f.out _ _ ?_;clear f K;have T0:=BQ.keep r;have N:Sf 3 aA ((aA.setCell ⟨w.heap.size+1+1+1+1,0,none⟩ (.bool T)).setCell ⟨w.heap.size+1+1+1+1,1,none⟩ (.slice B U V)):=Sf.set (t:=52) (Sf.set (t:=52) (Sf.refl _ aA) T0.elem (by decide)) (by simp only[elemOf_setCell];exact T0.elem) (by decide)
     replace BX:=Blk.other (c:=w.heap.size+1+1+1+1) (o:=1) (y:=.slice B U V) (Blk.other (c:=w.heap.size+1+1+1+1) (o:=0) (y:=.bool T) (BX.keep r) (by omega)) (by omega);replace BY:=Blk.other (c:=w.heap.size+1+1+1+1) (o:=1) (y:=.slice B U V) (Blk.other (c:=w.heap.size+1+1+1+1) (o:=0) (y:=.bool T) (BY.keep r) (by omega)) (by omega);replace B1:=Blk.other (c:=w.heap.size+1+1+1+1) (o:=1) (y:=.slice B U V) (Blk.other (c:=w.heap.size+1+1+1+1) (o:=0) (y:=.bool T) (B1.keep r) (by omega)) (by omega);replace B2:=Blk.other (c:=w.heap.size+1+1+1+1) (o:=1) (y:=.slice B U V) (Blk.other (c:=w.heap.size+1+1+1+1) (o:=0) (y:=.bool T) (B2.keep r) (by omega)) (by omega);replace BQ:=Blk.set (o:=1) (y:=.slice B U V) (Blk.set (o:=0) (y:=.bool T) T0);replace BR:=Blk.other (c:=w.heap.size+1+1+1+1) (o:=1) (y:=.slice B U V) (Blk.other (c:=w.heap.size+1+1+1+1) (o:=0) (y:=.bool T) (BR.keep r) (by omega)) (by omega);replace X:=(X.keep r).soft N;replace ae:=ae.soft N;replace E:Kp w ((aA.setCell ⟨w.heap.size+1+1+1+1,0,none⟩ (.bool T)).setCell ⟨w.heap.size+1+1+1+1,1,none⟩ (.slice B U V)):=Below.setCell (Below.setCell (E.trans' r) (p:=⟨w.heap.size+1+1+1+1,0,none⟩) (by show w.heap.size≤w.heap.size+1+1+1+1;omega) (.bool T)) (p:=⟨w.heap.size+1+1+1+1,1,none⟩) (by show w.heap.size≤w.heap.size+1+1+1+1;omega) (.slice B U V)
     clear g C I s r aD bm bn bo aw ax ay aP aQ az aR W;generalize ((aA.setCell ⟨w.heap.size+1+1+1+1,0,none⟩ (.bool T)).setCell ⟨w.heap.size+1+1+1+1,1,none⟩ (.slice B U V))=w7 at *;simp only[List.setIfInBounds_toArray,List.set_cons_zero,List.set_cons_succ] at BQ;clear T0 N;have HP:Hid (preV l (j+1)=preV l j*10000+at0 l j):=rfl
     go_wp2_with fail
     go_roundw
     case rel =>
      refine⟨j+1,T,B,U,V,O,z,P,Q,by omega,by go_num,BX,BY,B1,B2,BQ,BR,?_,?_,E⟩
      ·rw[HP.out,aX.out.1];exact ae
      ·rw[HP.out,aX.out.2];exact X
     case measure=>simp[intOf];omega
  ·have bJ:j=l.length:=by omega
   subst bJ;have bp:=B1.cell;have bZ:=B1.frozen;have b0:=B1.lt;have bs:=B2.cell;have b3:=B2.frozen;have b4:=B2.lt;have dp:=BQ.cell;have dq:=BR.cell;have dr:=BQ.lt;have ds:=BR.lt;rw[bv.out] at W aC
   go_wp2_with fail
   go_region
   all_goals go_wp2_with fail
   all_goals
    refine bodyPost_ret (v:=.tuple #[.agg #[.bool bq,.slice aa nq cq],.agg #[.bool br,.slice ac nr cr]]) (by simp[results,Tryz.results58,go_sem,bp,bs]) rfl ?_;have bt:Sf 3 wr _:=Sf.drew (Sf.set (t:=52) (c:=w.heap.size+1+1+1) (o:=1) (y:=.slice ac nr cr) (Sf.set (t:=52) (c:=w.heap.size+1+1+1) (o:=0) (y:=.bool br) (Sf.set (t:=52) (c:=w.heap.size+1+1) (o:=1) (y:=.slice aa nq cq) (Sf.set (t:=52) (c:=w.heap.size+1+1) (o:=0) (y:=.bool bq) (Sf.refl _ wr) B1.elem (by decide)) (by simp only[elemOf_setCell];exact B1.elem) (by decide)) (by simp only[elemOf_setCell];exact B2.elem) (by decide)) (by simp only[elemOf_setCell];exact B2.elem) (by decide))
    have bK:Kp w _:=Kp.drew' (stK2 (A:=w.heap.size+1+1+1) (.bool br) (.slice ac nr cr) (stK2 (A:=w.heap.size+1+1) (.bool bq) (.slice aa nq cq) E (by show w.heap.size≤w.heap.size+1+1;omega)) (by show w.heap.size≤w.heap.size+1+1+1;omega))
    exact⟨_,_,rfl,W.soft bt,aC.soft bt,bK⟩
theorem rdiv_any (x y:Int) (d:Nat) (u v:Value) (w:World) (f:IN w u x) (b:IN w v y) (p:0≤x) (g:0<y) (h:d≤100000000) (i:Ft d x) (j:Ft d y):Calls Tryz.prog 58 #[u,v] w (RetI2 w (x / y) (x % y)):=by
 obtain⟨k,n,c,rfl,e⟩:=f;obtain⟨l,a,m,o,rfl⟩:=b.shape';rw[show (x.natAbs:Int)=x by omega] at e;exact div_rb _ l x y d k a n c m o w e b g h i j
end Go.Proofs.YtjahbjjekednfaaGreatDoor
