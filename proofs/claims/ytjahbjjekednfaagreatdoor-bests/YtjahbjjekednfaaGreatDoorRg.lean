import Derived.Test.YtjahbjjekednfaaGreatDoorC5
import Derived.Test.YtjahbjjekednfaaGreatDoorR9g
import Derived.Test.YtjahbjjekednfaaGreatDoorSt
import Derived.Deep.DeepCutAuto
namespace Go.Proofs.YtjahbjjekednfaaGreatDoor
set_option maxHeartbeats 6400000
set_option maxRecDepth 100000
open Go.RowKit
def gpN (a:Qn) (p k:Int):Qn:=if rsg (a.p*k - p*a.r) (a.q*k) a.d<0 then ⟨-(a.p*k - p*a.r),-(a.q*k),a.r*k,a.d⟩ else ⟨a.p*k - p*a.r,a.q*k,a.r*k,a.d⟩
theorem gap_ref (a:Qn) (p k:Int) (m:Nat) (u v:Value) (w:World) (ha:NN w u a) (ht:IN w v p) (hm:m≤3000000) (f:QF m a) (ft:Ft m p) (k0:0≤k) (k1:k≤1000) (d0:0≤a.d) (d1:a.d≤1000000):Calls Tryz.prog 29 #[u,v,.int .i64 k] w (RetNN w (gpN a p k)):=by
 obtain⟨b1,aL,n1,c1,b2,aM,n2,c2,b3,aI,n3,c3,rfl,hp,hq,hr⟩:=ha;obtain⟨b4,aS,n4,c4,rfl⟩:=ht.shape';have Fk:Ft 4 k:=by unfold Ft;omega
 have fk:Fit k:=Fk.fit (by decide);have f1:Fit a.p:=f.1.fit (by omega);have f2:Fit a.q:=f.2.1.fit (by omega);have f3:Fit a.r:=f.2.2.fit (by omega);have f4:Fit p:=ft.fit (by omega);have F5:Ft (m+m+4) (a.p*k):=(f.1.mul Fk).mono (by omega);have F6:Ft (m+m+4) (p*a.r):=(ft.mul f.2.2).mono (by omega);have f5:Fit (a.p*k):=F5.fit (by omega);have f6:Fit (p*a.r):=F6.fit (by omega);have bo:Hid (∀(uu vv:Value) (W:World),IN W uu (a.p*k - p*a.r)→IN W vv (a.q*k)→Calls Tryz.prog 59 #[uu,vv,.int .i64 a.d] W (RetV W (.int .i64 (rsg (a.p*k - p*a.r) (a.q*k) a.d)))):=fun uu vv W h1 h2=>sign_ref (a.p*k - p*a.r) (a.q*k) a.d (m+m+5) uu vv W h1 h2 (by omega) (by have:=Ft.add F5 F6.neg;rwa [← Int.sub_eq_add_neg] at this) ((f.2.1.mul Fk).mono (by omega)) d0 d1
 clear f ft F5 F6 Fk;have aJ:Kp w (((w.alloc (.cells #[.bool b1,.slice aL n1 c1,.bool b2,.slice aM n2 c2,.bool b3,.slice aI n3 c3,.int .i64 a.d] 54)).alloc (.cells #[.bool b4,.slice aS n4 c4] 52)).alloc (.cells #[.bool false,.slice none 0 0,.bool false,.slice none 0 0,.bool false,.slice none 0 0,.int .i64 0] 54)):=Kp.alloc' (Kp.alloc' (kp_alloc w _) _) _;have BX:Blk (((w.alloc (.cells #[.bool b1,.slice aL n1 c1,.bool b2,.slice aM n2 c2,.bool b3,.slice aI n3 c3,.int .i64 a.d] 54)).alloc (.cells #[.bool b4,.slice aS n4 c4] 52)).alloc (.cells #[.bool false,.slice none 0 0,.bool false,.slice none 0 0,.bool false,.slice none 0 0,.int .i64 0] 54)) w.heap.size #[.bool b1,.slice aL n1 c1,.bool b2,.slice aM n2 c2,.bool b3,.slice aI n3 c3,.int .i64 a.d] 54:=Blk.alloc (Blk.alloc (Blk.new w _ _) _) _;have BP:Blk (((w.alloc (.cells #[.bool b1,.slice aL n1 c1,.bool b2,.slice aM n2 c2,.bool b3,.slice aI n3 c3,.int .i64 a.d] 54)).alloc (.cells #[.bool b4,.slice aS n4 c4] 52)).alloc (.cells #[.bool false,.slice none 0 0,.bool false,.slice none 0 0,.bool false,.slice none 0 0,.int .i64 0] 54)) (w.heap.size+1) #[.bool b4,.slice aS n4 c4] 52:=Blk.alloc (Blk.at (Blk.new (w.alloc (.cells #[.bool b1,.slice aL n1 c1,.bool b2,.slice aM n2 c2,.bool b3,.slice aI n3 c3,.int .i64 a.d] 54)) _ _) (by simp)) _;have BE:Blk (((w.alloc (.cells #[.bool b1,.slice aL n1 c1,.bool b2,.slice aM n2 c2,.bool b3,.slice aI n3 c3,.int .i64 a.d] 54)).alloc (.cells #[.bool b4,.slice aS n4 c4] 52)).alloc (.cells #[.bool false,.slice none 0 0,.bool false,.slice none 0 0,.bool false,.slice none 0 0,.int .i64 0] 54)) (w.heap.size+1+1) #[.bool false,.slice none 0 0,.bool false,.slice none 0 0,.bool false,.slice none 0 0,.int .i64 0] 54:=Blk.at (Blk.new ((w.alloc (.cells #[.bool b1,.slice aL n1 c1,.bool b2,.slice aM n2 c2,.bool b3,.slice aI n3 c3,.int .i64 a.d] 54)).alloc (.cells #[.bool b4,.slice aS n4 c4] 52)) _ _) (by simp);replace hp:=hp.keep aJ;replace hq:=hq.keep aJ;replace hr:=hr.keep aJ;replace ht:=ht.keep aJ
 go_enter Tryz.func29,Tryz.ntmps29
 go_wp2_with fail
 generalize (((w.alloc (.cells #[.bool b1,.slice aL n1 c1,.bool b2,.slice aM n2 c2,.bool b3,.slice aI n3 c3,.int .i64 a.d] 54)).alloc (.cells #[.bool b4,.slice aS n4 c4] 52)).alloc (.cells #[.bool false,.slice none 0 0,.bool false,.slice none 0 0,.bool false,.slice none 0 0,.int .i64 0] 54))=wb at *
 go_cut [7] (fun q wx=>∃(bp:Nat) (b5:Bool) (aX:Option Addr) (n5 c5:Nat) (b6:Bool) (aY:Option Addr) (n6 c6:Nat) (b7:Bool) (aA:Option Addr) (n7 c7:Nat),q=.pointer (some ⟨bp,0,none⟩)∧Blk wx bp #[.bool b5,.slice aX n5 c5,.bool b6,.slice aY n6 c6,.bool b7,.slice aA n7 c7,.int .i64 a.d] 54∧IN wx (.agg #[.bool b5,.slice aX n5 c5]) (a.p*k - p*a.r)∧IN wx (.agg #[.bool b6,.slice aY n6 c6]) (a.q*k)∧IN wx (.agg #[.bool b7,.slice aA n7 c7]) (a.r*k)∧Kp wb wx∧wb.heap.size≤bp)
 case first =>
  refine wp_region_l (S:=fun w'=>Kp wb w') (by kernel_rfl) (Kp.drew' (Below.refl _ _)) (fun Y=>?_);generalize wb.drew=wd at *;refine wpAnyL_tk (i:=0) (k:=1) (v:=.pointer (some ⟨w.heap.size,0,none⟩)) rfl ?_ Y ?_
  · intro w' R;go_simp
  simp only[List.getElem_toArray,List.getElem_cons_zero,Act.put,List.setIfInBounds_toArray,List.set_cons_zero,List.set_cons_succ];refine wpAnyL_tk (i:=1) (k:=4) (v:=.agg #[.bool b1,.slice aL n1 c1]) rfl ?_ Y ?_
  · intro w' R;have hc:=((BX).keep R).cell;go_simp
  simp only[sq];refine wpAnyL_tk (i:=2) (k:=3) (v:=.int .i64 k) rfl ?_ Y ?_
  · intro w' R;go_simp
  simp only[sq];refine wpAnyL_tk (i:=5) (k:=8) (v:=.agg #[.bool b4,.slice aS n4 c4]) rfl ?_ Y ?_
  · intro w' R;have hc:=((BP).keep R).cell;go_simp
  simp only[sq];refine wpAnyL_tk (i:=6) (k:=7) (v:=.pointer (some ⟨w.heap.size,4,none⟩)) rfl ?_ Y ?_
  · intro w' R;go_simp
  simp only[sq];refine wpAnyL_tk (i:=7) (k:=8) (v:=.agg #[.bool b3,.slice aI n3 c3]) rfl ?_ Y ?_
  · intro w' R;have hc:=((BX).keep R).cell;go_simp
  simp only[sq];refine wpAnyL_tk (i:=10) (k:=11) (v:=.pointer (some ⟨w.heap.size,2,none⟩)) rfl ?_ Y ?_
  · intro w' R;go_simp
  simp only[sq];refine wpAnyL_tk (i:=11) (k:=14) (v:=.agg #[.bool b2,.slice aM n2 c2]) rfl ?_ Y ?_
  · intro w' R;have hc:=((BX).keep R).cell;go_simp
  simp only[sq];refine wpAnyL_tk (i:=12) (k:=13) (v:=.int .i64 k) rfl ?_ Y ?_
  · intro w' R;go_simp
  simp only[sq];refine wpAnyL_tk (i:=15) (k:=16) (v:=.pointer (some ⟨w.heap.size,4,none⟩)) rfl ?_ Y ?_
  · intro w' R;go_simp
  simp only[sq];refine wpAnyL_tk (i:=16) (k:=19) (v:=.agg #[.bool b3,.slice aI n3 c3]) rfl ?_ Y ?_
  · intro w' R;have hc:=((BX).keep R).cell;go_simp
  simp only[sq];refine wpAnyL_tk (i:=17) (k:=18) (v:=.int .i64 k) rfl ?_ Y ?_
  · intro w' R;go_simp
  simp only[sq];refine wpAnyL_tk (i:=20) (k:=21) (v:=.pointer (some ⟨w.heap.size,6,none⟩)) rfl ?_ Y ?_
  · intro w' R;go_simp
  simp only[sq];refine wpAnyL_tk (i:=21) (k:=22) (v:=.int .i64 a.d) rfl ?_ Y ?_
  · intro w' R;have hc:=((BX).keep R).cell;go_simp
  simp only[sq];refine wpAnyL_ready (rs:=[3,23]) (by kernel_rfl) (by simp) ?_;refine AllReadyL.cons rfl (fun K n=>?_) ?_
  · go_simp
    refine(of_any k _ (by omega) (by omega)).mono ?_;rintro e ax ⟨bq,rfl,ai,aN⟩;obtain⟨br,bj,bs,bt,rfl⟩:=ai.shape'
    go_wp2_with fail
    refine n.out _ _ (Y.trans' aN) (fun aO=>?_);clear n K;refine wpAnyL_ready (rs:=[4,23]) (by kernel_rfl) (by simp) ?_;refine AllReadyL.cons rfl (fun K n=>?_) ?_
    · go_simp
      refine(rtimes_any a.p k _ _ _ (hp.keep aO) ai f1 fk).mono ?_;rintro e aq ⟨bf,rfl,O,an⟩;obtain⟨bg,a7,bh,bi,rfl⟩:=O.shape'
      go_wp2_with fail
      refine n.out _ _ (aO.trans' an) (fun al=>?_);clear n K;refine wpAnyL_ready (rs:=[8,23]) (by kernel_rfl) (by simp) ?_;refine AllReadyL.cons rfl (fun K n=>?_) ?_
      · go_simp
        refine(rtimes_any p a.r _ _ _ (ht.keep al) (hr.keep al) f4 f3).mono ?_;rintro e aj ⟨a8,rfl,V,X⟩;obtain⟨a9,aZ,ba,bb,rfl⟩:=V.shape';replace O:=O.keep X
        go_wp2_with fail
        refine n.out _ _ (al.trans' X) (fun ao=>?_);clear n K;refine wpAnyL_ready (rs:=[9,23]) (by kernel_rfl) (by simp) ?_;refine AllReadyL.cons rfl (fun K n=>?_) ?_
        · go_simp
          refine(rminus_any (a.p*k) (p*a.r) _ _ _ O V f5 f6).mono ?_;rintro e ak ⟨a0,rfl,c,Z⟩;obtain⟨G,l,H,I,rfl⟩:=c.shape'
          go_wp2_with fail
          refine n.out _ _ (ao.trans' Z) (fun aB=>?_);clear n K;refine wpAnyL_ready (rs:=[13,23]) (by kernel_rfl) (by simp) ?_;refine AllReadyL.cons rfl (fun K n=>?_) ?_
          · go_simp
            refine(of_any k _ (by omega) (by omega)).mono ?_;rintro e ag ⟨aT,rfl,T,P⟩;obtain⟨aU,aC,aV,aW,rfl⟩:=T.shape';replace c:=c.keep P
            go_wp2_with fail
            refine n.out _ _ (aB.trans' P) (fun ar=>?_);clear n K;refine wpAnyL_ready (rs:=[14,23]) (by kernel_rfl) (by simp) ?_;refine AllReadyL.cons rfl (fun K n=>?_) ?_
            · go_simp
              refine(rtimes_any a.q k _ _ _ (hq.keep ar) T f2 fk).mono ?_;rintro e ae ⟨aK,rfl,g,L⟩;obtain⟨B,j,C,D,rfl⟩:=g.shape';replace c:=c.keep L
              go_wp2_with fail
              refine n.out _ _ (ar.trans' L) (fun af=>?_);clear n K;refine wpAnyL_ready (rs:=[18,23]) (by kernel_rfl) (by simp) ?_;refine AllReadyL.cons rfl (fun K n=>?_) ?_
              · go_simp
                refine(of_any k _ (by omega) (by omega)).mono ?_;rintro e ad ⟨aD,rfl,M,F⟩;obtain⟨aE,ap,aF,aG,rfl⟩:=M.shape';replace c:=c.keep F;replace g:=g.keep F
                go_wp2_with fail
                refine n.out _ _ (af.trans' F) (fun ah=>?_);clear n K;refine wpAnyL_ready (rs:=[19,23]) (by kernel_rfl) (by simp) ?_;refine AllReadyL.cons rfl (fun K n=>?_) ?_
                · go_simp
                  refine(rtimes_any a.r k _ _ _ (hr.keep ah) M f3 fk).mono ?_;rintro e N ⟨ay,rfl,J,t⟩;obtain⟨x,h,y,z,rfl⟩:=J.shape';replace c:=c.keep t;replace g:=g.keep t
                  go_wp2_with fail
                  refine n.out _ _ (ah.trans' t) (fun aa=>?_);clear n K;refine wpAnyL_tk (i:=22) (k:=24) (v:=.agg #[.bool G,.slice l H I,.bool B,.slice j C D,.bool x,.slice h y z,.int .i64 a.d]) rfl ?_ aa ?_
                  · intro w' R;go_simp
                  simp only[sq];refine wpAnyL_on (i:=23) rfl (fun K n=>?_)
                  go_simp
                  refine n.out _ _ (Kp.alloc' aa (.cells #[.bool false,.slice none 0 0,.bool false,.slice none 0 0,.bool false,.slice none 0 0,.int .i64 0] 54)) (fun ac=>?_);clear n K;have b:Blk (N.alloc (.cells #[.bool false,.slice none 0 0,.bool false,.slice none 0 0,.bool false,.slice none 0 0,.int .i64 0] 54)) N.heap.size #[.bool false,.slice none 0 0,.bool false,.slice none 0 0,.bool false,.slice none 0 0,.int .i64 0] 54:=Blk.new N _ _;have U:wb.heap.size≤N.heap.size:=aa.size;replace c:=c.keep (kp_alloc N (.cells #[.bool false,.slice none 0 0,.bool false,.slice none 0 0,.bool false,.slice none 0 0,.int .i64 0] 54));replace g:=g.keep (kp_alloc N (.cells #[.bool false,.slice none 0 0,.bool false,.slice none 0 0,.bool false,.slice none 0 0,.int .i64 0] 54));replace J:=J.keep (kp_alloc N (.cells #[.bool false,.slice none 0 0,.bool false,.slice none 0 0,.bool false,.slice none 0 0,.int .i64 0] 54))
                  try simp only[sq]
                  generalize az:N.heap.size=s at *;generalize N.alloc (.cells #[.bool false,.slice none 0 0,.bool false,.slice none 0 0,.bool false,.slice none 0 0,.int .i64 0] 54)=am at *;have au:=b.cell;have av:=b.frozen;have aw:=b.lt;refine wpAnyL_last (i:=24) rfl (by kernel_rfl) (by kernel_rfl) (by kernel_rfl) (fun K n=>?_)
                  go_simp
                  refine n.out _ _ ?_;clear n K;have Q:Sf 3 am (((((((am.setCell ⟨s,0,none⟩ (.bool G)).setCell ⟨s,1,none⟩ (.slice l H I)).setCell ⟨s,2,none⟩ (.bool B)).setCell ⟨s,3,none⟩ (.slice j C D)).setCell ⟨s,4,none⟩ (.bool x)).setCell ⟨s,5,none⟩ (.slice h y z)).setCell ⟨s,6,none⟩ (.int .i64 a.d)):=(sf7 (.bool G) (.slice l H I) (.bool B) (.slice j C D) (.bool x) (.slice h y z) (.int .i64 a.d) b (by decide))
                  go_wp2_with fail
                  go_meet
                  case rel=>exact⟨s,_,_,_,_,_,_,_,_,_,_,_,_,rfl,(bl7 (.bool G) (.slice l H I) (.bool B) (.slice j C D) (.bool x) (.slice h y z) (.int .i64 a.d) b),c.soft Q,g.soft Q,J.soft Q,(kp7 (A:=s) (.bool G) (.slice l H I) (.bool B) (.slice j C D) (.bool x) (.slice h y z) (.int .i64 a.d) ac U),U⟩
                refine AllReadyL.cons rfl (fun K n=>?_) ?_
                · go_simp
                  refine n.out _ _ (Kp.alloc' ah (.cells #[.bool false,.slice none 0 0,.bool false,.slice none 0 0,.bool false,.slice none 0 0,.int .i64 0] 54)) (fun aa=>?_);clear n K;have b:Blk (ad.alloc (.cells #[.bool false,.slice none 0 0,.bool false,.slice none 0 0,.bool false,.slice none 0 0,.int .i64 0] 54)) ad.heap.size #[.bool false,.slice none 0 0,.bool false,.slice none 0 0,.bool false,.slice none 0 0,.int .i64 0] 54:=Blk.new ad _ _;have U:wb.heap.size≤ad.heap.size:=ah.size;replace c:=c.keep (kp_alloc ad (.cells #[.bool false,.slice none 0 0,.bool false,.slice none 0 0,.bool false,.slice none 0 0,.int .i64 0] 54));replace g:=g.keep (kp_alloc ad (.cells #[.bool false,.slice none 0 0,.bool false,.slice none 0 0,.bool false,.slice none 0 0,.int .i64 0] 54));replace M:=M.keep (kp_alloc ad (.cells #[.bool false,.slice none 0 0,.bool false,.slice none 0 0,.bool false,.slice none 0 0,.int .i64 0] 54))
                  try simp only[sq]
                  generalize az:ad.heap.size=s at *;generalize ad.alloc (.cells #[.bool false,.slice none 0 0,.bool false,.slice none 0 0,.bool false,.slice none 0 0,.int .i64 0] 54)=am at *;refine wpAnyL_on (i:=19) rfl (fun K n=>?_)
                  go_simp
                  refine(rtimes_any a.r k _ _ _ (hr.keep aa) M f3 fk).mono ?_;rintro e N ⟨ay,rfl,J,t⟩;obtain⟨x,h,y,z,rfl⟩:=J.shape';replace c:=c.keep t;replace g:=g.keep t;replace b:=b.keep t
                  go_wp2_with fail
                  refine n.out _ _ (aa.trans' t) (fun ac=>?_);clear n K;refine wpAnyL_tk (i:=22) (k:=24) (v:=.agg #[.bool G,.slice l H I,.bool B,.slice j C D,.bool x,.slice h y z,.int .i64 a.d]) rfl ?_ ac ?_
                  · intro w' R;go_simp
                  simp only[sq];have au:=b.cell;have av:=b.frozen;have aw:=b.lt;refine wpAnyL_last (i:=24) rfl (by kernel_rfl) (by kernel_rfl) (by kernel_rfl) (fun K n=>?_)
                  go_simp
                  refine n.out _ _ ?_;clear n K;have Q:Sf 3 N (((((((N.setCell ⟨s,0,none⟩ (.bool G)).setCell ⟨s,1,none⟩ (.slice l H I)).setCell ⟨s,2,none⟩ (.bool B)).setCell ⟨s,3,none⟩ (.slice j C D)).setCell ⟨s,4,none⟩ (.bool x)).setCell ⟨s,5,none⟩ (.slice h y z)).setCell ⟨s,6,none⟩ (.int .i64 a.d)):=(sf7 (.bool G) (.slice l H I) (.bool B) (.slice j C D) (.bool x) (.slice h y z) (.int .i64 a.d) b (by decide))
                  go_wp2_with fail
                  go_meet
                  case rel=>exact⟨s,_,_,_,_,_,_,_,_,_,_,_,_,rfl,(bl7 (.bool G) (.slice l H I) (.bool B) (.slice j C D) (.bool x) (.slice h y z) (.int .i64 a.d) b),c.soft Q,g.soft Q,J.soft Q,(kp7 (A:=s) (.bool G) (.slice l H I) (.bool B) (.slice j C D) (.bool x) (.slice h y z) (.int .i64 a.d) ac U),U⟩
                exact AllReadyL.nil
              refine AllReadyL.cons rfl (fun K n=>?_) ?_
              · go_simp
                refine n.out _ _ (Kp.alloc' af (.cells #[.bool false,.slice none 0 0,.bool false,.slice none 0 0,.bool false,.slice none 0 0,.int .i64 0] 54)) (fun ah=>?_);clear n K;have b:Blk (ae.alloc (.cells #[.bool false,.slice none 0 0,.bool false,.slice none 0 0,.bool false,.slice none 0 0,.int .i64 0] 54)) ae.heap.size #[.bool false,.slice none 0 0,.bool false,.slice none 0 0,.bool false,.slice none 0 0,.int .i64 0] 54:=Blk.new ae _ _;have U:wb.heap.size≤ae.heap.size:=af.size;replace c:=c.keep (kp_alloc ae (.cells #[.bool false,.slice none 0 0,.bool false,.slice none 0 0,.bool false,.slice none 0 0,.int .i64 0] 54));replace g:=g.keep (kp_alloc ae (.cells #[.bool false,.slice none 0 0,.bool false,.slice none 0 0,.bool false,.slice none 0 0,.int .i64 0] 54))
                try simp only[sq]
                generalize az:ae.heap.size=s at *;generalize ae.alloc (.cells #[.bool false,.slice none 0 0,.bool false,.slice none 0 0,.bool false,.slice none 0 0,.int .i64 0] 54)=am at *;refine wpAnyL_on (i:=18) rfl (fun K n=>?_)
                go_simp
                refine(of_any k _ (by omega) (by omega)).mono ?_;rintro e ad ⟨aD,rfl,M,F⟩;obtain⟨aE,ap,aF,aG,rfl⟩:=M.shape';replace c:=c.keep F;replace g:=g.keep F;replace b:=b.keep F
                go_wp2_with fail
                refine n.out _ _ (ah.trans' F) (fun aa=>?_);clear n K;refine wpAnyL_on (i:=19) rfl (fun K n=>?_)
                go_simp
                refine(rtimes_any a.r k _ _ _ (hr.keep aa) M f3 fk).mono ?_;rintro e N ⟨ay,rfl,J,t⟩;obtain⟨x,h,y,z,rfl⟩:=J.shape';replace c:=c.keep t;replace g:=g.keep t;replace b:=b.keep t
                go_wp2_with fail
                refine n.out _ _ (aa.trans' t) (fun ac=>?_);clear n K;refine wpAnyL_tk (i:=22) (k:=24) (v:=.agg #[.bool G,.slice l H I,.bool B,.slice j C D,.bool x,.slice h y z,.int .i64 a.d]) rfl ?_ ac ?_
                · intro w' R;go_simp
                simp only[sq];have au:=b.cell;have av:=b.frozen;have aw:=b.lt;refine wpAnyL_last (i:=24) rfl (by kernel_rfl) (by kernel_rfl) (by kernel_rfl) (fun K n=>?_)
                go_simp
                refine n.out _ _ ?_;clear n K;have Q:Sf 3 N (((((((N.setCell ⟨s,0,none⟩ (.bool G)).setCell ⟨s,1,none⟩ (.slice l H I)).setCell ⟨s,2,none⟩ (.bool B)).setCell ⟨s,3,none⟩ (.slice j C D)).setCell ⟨s,4,none⟩ (.bool x)).setCell ⟨s,5,none⟩ (.slice h y z)).setCell ⟨s,6,none⟩ (.int .i64 a.d)):=(sf7 (.bool G) (.slice l H I) (.bool B) (.slice j C D) (.bool x) (.slice h y z) (.int .i64 a.d) b (by decide))
                go_wp2_with fail
                go_meet
                case rel=>exact⟨s,_,_,_,_,_,_,_,_,_,_,_,_,rfl,(bl7 (.bool G) (.slice l H I) (.bool B) (.slice j C D) (.bool x) (.slice h y z) (.int .i64 a.d) b),c.soft Q,g.soft Q,J.soft Q,(kp7 (A:=s) (.bool G) (.slice l H I) (.bool B) (.slice j C D) (.bool x) (.slice h y z) (.int .i64 a.d) ac U),U⟩
              exact AllReadyL.nil
            refine AllReadyL.cons rfl (fun K n=>?_) ?_
            · go_simp
              refine n.out _ _ (Kp.alloc' ar (.cells #[.bool false,.slice none 0 0,.bool false,.slice none 0 0,.bool false,.slice none 0 0,.int .i64 0] 54)) (fun af=>?_);clear n K;have b:Blk (ag.alloc (.cells #[.bool false,.slice none 0 0,.bool false,.slice none 0 0,.bool false,.slice none 0 0,.int .i64 0] 54)) ag.heap.size #[.bool false,.slice none 0 0,.bool false,.slice none 0 0,.bool false,.slice none 0 0,.int .i64 0] 54:=Blk.new ag _ _;have U:wb.heap.size≤ag.heap.size:=ar.size;replace c:=c.keep (kp_alloc ag (.cells #[.bool false,.slice none 0 0,.bool false,.slice none 0 0,.bool false,.slice none 0 0,.int .i64 0] 54));replace T:=T.keep (kp_alloc ag (.cells #[.bool false,.slice none 0 0,.bool false,.slice none 0 0,.bool false,.slice none 0 0,.int .i64 0] 54))
              try simp only[sq]
              generalize az:ag.heap.size=s at *;generalize ag.alloc (.cells #[.bool false,.slice none 0 0,.bool false,.slice none 0 0,.bool false,.slice none 0 0,.int .i64 0] 54)=am at *;refine wpAnyL_on (i:=14) rfl (fun K n=>?_)
              go_simp
              refine(rtimes_any a.q k _ _ _ (hq.keep af) T f2 fk).mono ?_;rintro e ae ⟨aK,rfl,g,L⟩;obtain⟨B,j,C,D,rfl⟩:=g.shape';replace c:=c.keep L;replace b:=b.keep L
              go_wp2_with fail
              refine n.out _ _ (af.trans' L) (fun ah=>?_);clear n K;refine wpAnyL_on (i:=18) rfl (fun K n=>?_)
              go_simp
              refine(of_any k _ (by omega) (by omega)).mono ?_;rintro e ad ⟨aD,rfl,M,F⟩;obtain⟨aE,ap,aF,aG,rfl⟩:=M.shape';replace c:=c.keep F;replace b:=b.keep F;replace g:=g.keep F
              go_wp2_with fail
              refine n.out _ _ (ah.trans' F) (fun aa=>?_);clear n K;refine wpAnyL_on (i:=19) rfl (fun K n=>?_)
              go_simp
              refine(rtimes_any a.r k _ _ _ (hr.keep aa) M f3 fk).mono ?_;rintro e N ⟨ay,rfl,J,t⟩;obtain⟨x,h,y,z,rfl⟩:=J.shape';replace c:=c.keep t;replace b:=b.keep t;replace g:=g.keep t
              go_wp2_with fail
              refine n.out _ _ (aa.trans' t) (fun ac=>?_);clear n K;refine wpAnyL_tk (i:=22) (k:=24) (v:=.agg #[.bool G,.slice l H I,.bool B,.slice j C D,.bool x,.slice h y z,.int .i64 a.d]) rfl ?_ ac ?_
              · intro w' R;go_simp
              simp only[sq];have au:=b.cell;have av:=b.frozen;have aw:=b.lt;refine wpAnyL_last (i:=24) rfl (by kernel_rfl) (by kernel_rfl) (by kernel_rfl) (fun K n=>?_)
              go_simp
              refine n.out _ _ ?_;clear n K;have Q:Sf 3 N (((((((N.setCell ⟨s,0,none⟩ (.bool G)).setCell ⟨s,1,none⟩ (.slice l H I)).setCell ⟨s,2,none⟩ (.bool B)).setCell ⟨s,3,none⟩ (.slice j C D)).setCell ⟨s,4,none⟩ (.bool x)).setCell ⟨s,5,none⟩ (.slice h y z)).setCell ⟨s,6,none⟩ (.int .i64 a.d)):=(sf7 (.bool G) (.slice l H I) (.bool B) (.slice j C D) (.bool x) (.slice h y z) (.int .i64 a.d) b (by decide))
              go_wp2_with fail
              go_meet
              case rel=>exact⟨s,_,_,_,_,_,_,_,_,_,_,_,_,rfl,(bl7 (.bool G) (.slice l H I) (.bool B) (.slice j C D) (.bool x) (.slice h y z) (.int .i64 a.d) b),c.soft Q,g.soft Q,J.soft Q,(kp7 (A:=s) (.bool G) (.slice l H I) (.bool B) (.slice j C D) (.bool x) (.slice h y z) (.int .i64 a.d) ac U),U⟩
            exact AllReadyL.nil
          refine AllReadyL.cons rfl (fun K n=>?_) ?_
          · go_simp
            refine n.out _ _ (Kp.alloc' aB (.cells #[.bool false,.slice none 0 0,.bool false,.slice none 0 0,.bool false,.slice none 0 0,.int .i64 0] 54)) (fun ar=>?_);clear n K;have b:Blk (ak.alloc (.cells #[.bool false,.slice none 0 0,.bool false,.slice none 0 0,.bool false,.slice none 0 0,.int .i64 0] 54)) ak.heap.size #[.bool false,.slice none 0 0,.bool false,.slice none 0 0,.bool false,.slice none 0 0,.int .i64 0] 54:=Blk.new ak _ _;have U:wb.heap.size≤ak.heap.size:=aB.size;replace c:=c.keep (kp_alloc ak (.cells #[.bool false,.slice none 0 0,.bool false,.slice none 0 0,.bool false,.slice none 0 0,.int .i64 0] 54))
            try simp only[sq]
            generalize az:ak.heap.size=s at *;generalize ak.alloc (.cells #[.bool false,.slice none 0 0,.bool false,.slice none 0 0,.bool false,.slice none 0 0,.int .i64 0] 54)=am at *;refine wpAnyL_on (i:=13) rfl (fun K n=>?_)
            go_simp
            refine(of_any k _ (by omega) (by omega)).mono ?_;rintro e ag ⟨aT,rfl,T,P⟩;obtain⟨aU,aC,aV,aW,rfl⟩:=T.shape';replace c:=c.keep P;replace b:=b.keep P
            go_wp2_with fail
            refine n.out _ _ (ar.trans' P) (fun af=>?_);clear n K;refine wpAnyL_on (i:=14) rfl (fun K n=>?_)
            go_simp
            refine(rtimes_any a.q k _ _ _ (hq.keep af) T f2 fk).mono ?_;rintro e ae ⟨aK,rfl,g,L⟩;obtain⟨B,j,C,D,rfl⟩:=g.shape';replace c:=c.keep L;replace b:=b.keep L
            go_wp2_with fail
            refine n.out _ _ (af.trans' L) (fun ah=>?_);clear n K;refine wpAnyL_on (i:=18) rfl (fun K n=>?_)
            go_simp
            refine(of_any k _ (by omega) (by omega)).mono ?_;rintro e ad ⟨aD,rfl,M,F⟩;obtain⟨aE,ap,aF,aG,rfl⟩:=M.shape';replace c:=c.keep F;replace b:=b.keep F;replace g:=g.keep F
            go_wp2_with fail
            refine n.out _ _ (ah.trans' F) (fun aa=>?_);clear n K;refine wpAnyL_on (i:=19) rfl (fun K n=>?_)
            go_simp
            refine(rtimes_any a.r k _ _ _ (hr.keep aa) M f3 fk).mono ?_;rintro e N ⟨ay,rfl,J,t⟩;obtain⟨x,h,y,z,rfl⟩:=J.shape';replace c:=c.keep t;replace b:=b.keep t;replace g:=g.keep t
            go_wp2_with fail
            refine n.out _ _ (aa.trans' t) (fun ac=>?_);clear n K;refine wpAnyL_tk (i:=22) (k:=24) (v:=.agg #[.bool G,.slice l H I,.bool B,.slice j C D,.bool x,.slice h y z,.int .i64 a.d]) rfl ?_ ac ?_
            · intro w' R;go_simp
            simp only[sq];have au:=b.cell;have av:=b.frozen;have aw:=b.lt;refine wpAnyL_last (i:=24) rfl (by kernel_rfl) (by kernel_rfl) (by kernel_rfl) (fun K n=>?_)
            go_simp
            refine n.out _ _ ?_;clear n K;have Q:Sf 3 N (((((((N.setCell ⟨s,0,none⟩ (.bool G)).setCell ⟨s,1,none⟩ (.slice l H I)).setCell ⟨s,2,none⟩ (.bool B)).setCell ⟨s,3,none⟩ (.slice j C D)).setCell ⟨s,4,none⟩ (.bool x)).setCell ⟨s,5,none⟩ (.slice h y z)).setCell ⟨s,6,none⟩ (.int .i64 a.d)):=(sf7 (.bool G) (.slice l H I) (.bool B) (.slice j C D) (.bool x) (.slice h y z) (.int .i64 a.d) b (by decide))
            go_wp2_with fail
            go_meet
            case rel=>exact⟨s,_,_,_,_,_,_,_,_,_,_,_,_,rfl,(bl7 (.bool G) (.slice l H I) (.bool B) (.slice j C D) (.bool x) (.slice h y z) (.int .i64 a.d) b),c.soft Q,g.soft Q,J.soft Q,(kp7 (A:=s) (.bool G) (.slice l H I) (.bool B) (.slice j C D) (.bool x) (.slice h y z) (.int .i64 a.d) ac U),U⟩
          exact AllReadyL.nil
        refine AllReadyL.cons rfl (fun K n=>?_) ?_
        · go_simp
          refine n.out _ _ (Kp.alloc' ao (.cells #[.bool false,.slice none 0 0,.bool false,.slice none 0 0,.bool false,.slice none 0 0,.int .i64 0] 54)) (fun aB=>?_);clear n K;have b:Blk (aj.alloc (.cells #[.bool false,.slice none 0 0,.bool false,.slice none 0 0,.bool false,.slice none 0 0,.int .i64 0] 54)) aj.heap.size #[.bool false,.slice none 0 0,.bool false,.slice none 0 0,.bool false,.slice none 0 0,.int .i64 0] 54:=Blk.new aj _ _;have U:wb.heap.size≤aj.heap.size:=ao.size;replace O:=O.keep (kp_alloc aj (.cells #[.bool false,.slice none 0 0,.bool false,.slice none 0 0,.bool false,.slice none 0 0,.int .i64 0] 54));replace V:=V.keep (kp_alloc aj (.cells #[.bool false,.slice none 0 0,.bool false,.slice none 0 0,.bool false,.slice none 0 0,.int .i64 0] 54))
          try simp only[sq]
          generalize az:aj.heap.size=s at *;generalize aj.alloc (.cells #[.bool false,.slice none 0 0,.bool false,.slice none 0 0,.bool false,.slice none 0 0,.int .i64 0] 54)=am at *;refine wpAnyL_on (i:=9) rfl (fun K n=>?_)
          go_simp
          refine(rminus_any (a.p*k) (p*a.r) _ _ _ O V f5 f6).mono ?_;rintro e ak ⟨a0,rfl,c,Z⟩;obtain⟨G,l,H,I,rfl⟩:=c.shape';replace b:=b.keep Z
          go_wp2_with fail
          refine n.out _ _ (aB.trans' Z) (fun ar=>?_);clear n K;refine wpAnyL_on (i:=13) rfl (fun K n=>?_)
          go_simp
          refine(of_any k _ (by omega) (by omega)).mono ?_;rintro e ag ⟨aT,rfl,T,P⟩;obtain⟨aU,aC,aV,aW,rfl⟩:=T.shape';replace b:=b.keep P;replace c:=c.keep P
          go_wp2_with fail
          refine n.out _ _ (ar.trans' P) (fun af=>?_);clear n K;refine wpAnyL_on (i:=14) rfl (fun K n=>?_)
          go_simp
          refine(rtimes_any a.q k _ _ _ (hq.keep af) T f2 fk).mono ?_;rintro e ae ⟨aK,rfl,g,L⟩;obtain⟨B,j,C,D,rfl⟩:=g.shape';replace b:=b.keep L;replace c:=c.keep L
          go_wp2_with fail
          refine n.out _ _ (af.trans' L) (fun ah=>?_);clear n K;refine wpAnyL_on (i:=18) rfl (fun K n=>?_)
          go_simp
          refine(of_any k _ (by omega) (by omega)).mono ?_;rintro e ad ⟨aD,rfl,M,F⟩;obtain⟨aE,ap,aF,aG,rfl⟩:=M.shape';replace b:=b.keep F;replace c:=c.keep F;replace g:=g.keep F
          go_wp2_with fail
          refine n.out _ _ (ah.trans' F) (fun aa=>?_);clear n K;refine wpAnyL_on (i:=19) rfl (fun K n=>?_)
          go_simp
          refine(rtimes_any a.r k _ _ _ (hr.keep aa) M f3 fk).mono ?_;rintro e N ⟨ay,rfl,J,t⟩;obtain⟨x,h,y,z,rfl⟩:=J.shape';replace b:=b.keep t;replace c:=c.keep t;replace g:=g.keep t
          go_wp2_with fail
          refine n.out _ _ (aa.trans' t) (fun ac=>?_);clear n K;refine wpAnyL_tk (i:=22) (k:=24) (v:=.agg #[.bool G,.slice l H I,.bool B,.slice j C D,.bool x,.slice h y z,.int .i64 a.d]) rfl ?_ ac ?_
          · intro w' R;go_simp
          simp only[sq];have au:=b.cell;have av:=b.frozen;have aw:=b.lt;refine wpAnyL_last (i:=24) rfl (by kernel_rfl) (by kernel_rfl) (by kernel_rfl) (fun K n=>?_)
          go_simp
          refine n.out _ _ ?_;clear n K;have Q:Sf 3 N (((((((N.setCell ⟨s,0,none⟩ (.bool G)).setCell ⟨s,1,none⟩ (.slice l H I)).setCell ⟨s,2,none⟩ (.bool B)).setCell ⟨s,3,none⟩ (.slice j C D)).setCell ⟨s,4,none⟩ (.bool x)).setCell ⟨s,5,none⟩ (.slice h y z)).setCell ⟨s,6,none⟩ (.int .i64 a.d)):=(sf7 (.bool G) (.slice l H I) (.bool B) (.slice j C D) (.bool x) (.slice h y z) (.int .i64 a.d) b (by decide))
          go_wp2_with fail
          go_meet
          case rel=>exact⟨s,_,_,_,_,_,_,_,_,_,_,_,_,rfl,(bl7 (.bool G) (.slice l H I) (.bool B) (.slice j C D) (.bool x) (.slice h y z) (.int .i64 a.d) b),c.soft Q,g.soft Q,J.soft Q,(kp7 (A:=s) (.bool G) (.slice l H I) (.bool B) (.slice j C D) (.bool x) (.slice h y z) (.int .i64 a.d) ac U),U⟩
        exact AllReadyL.nil
      refine AllReadyL.cons rfl (fun K n=>?_) ?_
      · go_simp
        refine n.out _ _ (Kp.alloc' al (.cells #[.bool false,.slice none 0 0,.bool false,.slice none 0 0,.bool false,.slice none 0 0,.int .i64 0] 54)) (fun ao=>?_);clear n K;have b:Blk (aq.alloc (.cells #[.bool false,.slice none 0 0,.bool false,.slice none 0 0,.bool false,.slice none 0 0,.int .i64 0] 54)) aq.heap.size #[.bool false,.slice none 0 0,.bool false,.slice none 0 0,.bool false,.slice none 0 0,.int .i64 0] 54:=Blk.new aq _ _;have U:wb.heap.size≤aq.heap.size:=al.size;replace O:=O.keep (kp_alloc aq (.cells #[.bool false,.slice none 0 0,.bool false,.slice none 0 0,.bool false,.slice none 0 0,.int .i64 0] 54))
        try simp only[sq]
        generalize az:aq.heap.size=s at *;generalize aq.alloc (.cells #[.bool false,.slice none 0 0,.bool false,.slice none 0 0,.bool false,.slice none 0 0,.int .i64 0] 54)=am at *;refine wpAnyL_on (i:=8) rfl (fun K n=>?_)
        go_simp
        refine(rtimes_any p a.r _ _ _ (ht.keep ao) (hr.keep ao) f4 f3).mono ?_;rintro e aj ⟨a8,rfl,V,X⟩;obtain⟨a9,aZ,ba,bb,rfl⟩:=V.shape';replace O:=O.keep X;replace b:=b.keep X
        go_wp2_with fail
        refine n.out _ _ (ao.trans' X) (fun aB=>?_);clear n K;refine wpAnyL_on (i:=9) rfl (fun K n=>?_)
        go_simp
        refine(rminus_any (a.p*k) (p*a.r) _ _ _ O V f5 f6).mono ?_;rintro e ak ⟨a0,rfl,c,Z⟩;obtain⟨G,l,H,I,rfl⟩:=c.shape';replace b:=b.keep Z
        go_wp2_with fail
        refine n.out _ _ (aB.trans' Z) (fun ar=>?_);clear n K;refine wpAnyL_on (i:=13) rfl (fun K n=>?_)
        go_simp
        refine(of_any k _ (by omega) (by omega)).mono ?_;rintro e ag ⟨aT,rfl,T,P⟩;obtain⟨aU,aC,aV,aW,rfl⟩:=T.shape';replace b:=b.keep P;replace c:=c.keep P
        go_wp2_with fail
        refine n.out _ _ (ar.trans' P) (fun af=>?_);clear n K;refine wpAnyL_on (i:=14) rfl (fun K n=>?_)
        go_simp
        refine(rtimes_any a.q k _ _ _ (hq.keep af) T f2 fk).mono ?_;rintro e ae ⟨aK,rfl,g,L⟩;obtain⟨B,j,C,D,rfl⟩:=g.shape';replace b:=b.keep L;replace c:=c.keep L
        go_wp2_with fail
        refine n.out _ _ (af.trans' L) (fun ah=>?_);clear n K;refine wpAnyL_on (i:=18) rfl (fun K n=>?_)
        go_simp
        refine(of_any k _ (by omega) (by omega)).mono ?_;rintro e ad ⟨aD,rfl,M,F⟩;obtain⟨aE,ap,aF,aG,rfl⟩:=M.shape';replace b:=b.keep F;replace c:=c.keep F;replace g:=g.keep F
        go_wp2_with fail
        refine n.out _ _ (ah.trans' F) (fun aa=>?_);clear n K;refine wpAnyL_on (i:=19) rfl (fun K n=>?_)
        go_simp
        refine(rtimes_any a.r k _ _ _ (hr.keep aa) M f3 fk).mono ?_;rintro e N ⟨ay,rfl,J,t⟩;obtain⟨x,h,y,z,rfl⟩:=J.shape';replace b:=b.keep t;replace c:=c.keep t;replace g:=g.keep t
        go_wp2_with fail
        refine n.out _ _ (aa.trans' t) (fun ac=>?_);clear n K;refine wpAnyL_tk (i:=22) (k:=24) (v:=.agg #[.bool G,.slice l H I,.bool B,.slice j C D,.bool x,.slice h y z,.int .i64 a.d]) rfl ?_ ac ?_
        · intro w' R;go_simp
        simp only[sq];have au:=b.cell;have av:=b.frozen;have aw:=b.lt;refine wpAnyL_last (i:=24) rfl (by kernel_rfl) (by kernel_rfl) (by kernel_rfl) (fun K n=>?_)
        go_simp
        refine n.out _ _ ?_;clear n K;have Q:Sf 3 N (((((((N.setCell ⟨s,0,none⟩ (.bool G)).setCell ⟨s,1,none⟩ (.slice l H I)).setCell ⟨s,2,none⟩ (.bool B)).setCell ⟨s,3,none⟩ (.slice j C D)).setCell ⟨s,4,none⟩ (.bool x)).setCell ⟨s,5,none⟩ (.slice h y z)).setCell ⟨s,6,none⟩ (.int .i64 a.d)):=(sf7 (.bool G) (.slice l H I) (.bool B) (.slice j C D) (.bool x) (.slice h y z) (.int .i64 a.d) b (by decide))
        go_wp2_with fail
        go_meet
        case rel=>exact⟨s,_,_,_,_,_,_,_,_,_,_,_,_,rfl,(bl7 (.bool G) (.slice l H I) (.bool B) (.slice j C D) (.bool x) (.slice h y z) (.int .i64 a.d) b),c.soft Q,g.soft Q,J.soft Q,(kp7 (A:=s) (.bool G) (.slice l H I) (.bool B) (.slice j C D) (.bool x) (.slice h y z) (.int .i64 a.d) ac U),U⟩
      exact AllReadyL.nil
    refine AllReadyL.cons rfl (fun K n=>?_) ?_
    · go_simp
      refine n.out _ _ (Kp.alloc' aO (.cells #[.bool false,.slice none 0 0,.bool false,.slice none 0 0,.bool false,.slice none 0 0,.int .i64 0] 54)) (fun al=>?_);clear n K;have b:Blk (ax.alloc (.cells #[.bool false,.slice none 0 0,.bool false,.slice none 0 0,.bool false,.slice none 0 0,.int .i64 0] 54)) ax.heap.size #[.bool false,.slice none 0 0,.bool false,.slice none 0 0,.bool false,.slice none 0 0,.int .i64 0] 54:=Blk.new ax _ _;have U:wb.heap.size≤ax.heap.size:=aO.size;replace ai:=ai.keep (kp_alloc ax (.cells #[.bool false,.slice none 0 0,.bool false,.slice none 0 0,.bool false,.slice none 0 0,.int .i64 0] 54))
      try simp only[sq]
      generalize az:ax.heap.size=s at *;generalize ax.alloc (.cells #[.bool false,.slice none 0 0,.bool false,.slice none 0 0,.bool false,.slice none 0 0,.int .i64 0] 54)=am at *;refine wpAnyL_on (i:=4) rfl (fun K n=>?_)
      go_simp
      refine(rtimes_any a.p k _ _ _ (hp.keep al) ai f1 fk).mono ?_;rintro e aq ⟨bf,rfl,O,an⟩;obtain⟨bg,a7,bh,bi,rfl⟩:=O.shape';replace b:=b.keep an
      go_wp2_with fail
      refine n.out _ _ (al.trans' an) (fun ao=>?_);clear n K;refine wpAnyL_on (i:=8) rfl (fun K n=>?_)
      go_simp
      refine(rtimes_any p a.r _ _ _ (ht.keep ao) (hr.keep ao) f4 f3).mono ?_;rintro e aj ⟨a8,rfl,V,X⟩;obtain⟨a9,aZ,ba,bb,rfl⟩:=V.shape';replace b:=b.keep X;replace O:=O.keep X
      go_wp2_with fail
      refine n.out _ _ (ao.trans' X) (fun aB=>?_);clear n K;refine wpAnyL_on (i:=9) rfl (fun K n=>?_)
      go_simp
      refine(rminus_any (a.p*k) (p*a.r) _ _ _ O V f5 f6).mono ?_;rintro e ak ⟨a0,rfl,c,Z⟩;obtain⟨G,l,H,I,rfl⟩:=c.shape';replace b:=b.keep Z
      go_wp2_with fail
      refine n.out _ _ (aB.trans' Z) (fun ar=>?_);clear n K;refine wpAnyL_on (i:=13) rfl (fun K n=>?_)
      go_simp
      refine(of_any k _ (by omega) (by omega)).mono ?_;rintro e ag ⟨aT,rfl,T,P⟩;obtain⟨aU,aC,aV,aW,rfl⟩:=T.shape';replace b:=b.keep P;replace c:=c.keep P
      go_wp2_with fail
      refine n.out _ _ (ar.trans' P) (fun af=>?_);clear n K;refine wpAnyL_on (i:=14) rfl (fun K n=>?_)
      go_simp
      refine(rtimes_any a.q k _ _ _ (hq.keep af) T f2 fk).mono ?_;rintro e ae ⟨aK,rfl,g,L⟩;obtain⟨B,j,C,D,rfl⟩:=g.shape';replace b:=b.keep L;replace c:=c.keep L
      go_wp2_with fail
      refine n.out _ _ (af.trans' L) (fun ah=>?_);clear n K;refine wpAnyL_on (i:=18) rfl (fun K n=>?_)
      go_simp
      refine(of_any k _ (by omega) (by omega)).mono ?_;rintro e ad ⟨aD,rfl,M,F⟩;obtain⟨aE,ap,aF,aG,rfl⟩:=M.shape';replace b:=b.keep F;replace c:=c.keep F;replace g:=g.keep F
      go_wp2_with fail
      refine n.out _ _ (ah.trans' F) (fun aa=>?_);clear n K;refine wpAnyL_on (i:=19) rfl (fun K n=>?_)
      go_simp
      refine(rtimes_any a.r k _ _ _ (hr.keep aa) M f3 fk).mono ?_;rintro e N ⟨ay,rfl,J,t⟩;obtain⟨x,h,y,z,rfl⟩:=J.shape';replace b:=b.keep t;replace c:=c.keep t;replace g:=g.keep t
      go_wp2_with fail
      refine n.out _ _ (aa.trans' t) (fun ac=>?_);clear n K;refine wpAnyL_tk (i:=22) (k:=24) (v:=.agg #[.bool G,.slice l H I,.bool B,.slice j C D,.bool x,.slice h y z,.int .i64 a.d]) rfl ?_ ac ?_
      · intro w' R;go_simp
      simp only[sq];have au:=b.cell;have av:=b.frozen;have aw:=b.lt;refine wpAnyL_last (i:=24) rfl (by kernel_rfl) (by kernel_rfl) (by kernel_rfl) (fun K n=>?_)
      go_simp
      refine n.out _ _ ?_;clear n K;have Q:Sf 3 N (((((((N.setCell ⟨s,0,none⟩ (.bool G)).setCell ⟨s,1,none⟩ (.slice l H I)).setCell ⟨s,2,none⟩ (.bool B)).setCell ⟨s,3,none⟩ (.slice j C D)).setCell ⟨s,4,none⟩ (.bool x)).setCell ⟨s,5,none⟩ (.slice h y z)).setCell ⟨s,6,none⟩ (.int .i64 a.d)):=(sf7 (.bool G) (.slice l H I) (.bool B) (.slice j C D) (.bool x) (.slice h y z) (.int .i64 a.d) b (by decide))
      go_wp2_with fail
      go_meet
      case rel=>exact⟨s,_,_,_,_,_,_,_,_,_,_,_,_,rfl,(bl7 (.bool G) (.slice l H I) (.bool B) (.slice j C D) (.bool x) (.slice h y z) (.int .i64 a.d) b),c.soft Q,g.soft Q,J.soft Q,(kp7 (A:=s) (.bool G) (.slice l H I) (.bool B) (.slice j C D) (.bool x) (.slice h y z) (.int .i64 a.d) ac U),U⟩
    exact AllReadyL.nil
  refine AllReadyL.cons rfl (fun K n=>?_) ?_
  · go_simp
    refine n.out _ _ (Kp.alloc' Y (.cells #[.bool false,.slice none 0 0,.bool false,.slice none 0 0,.bool false,.slice none 0 0,.int .i64 0] 54)) (fun aO=>?_);clear n K;have b:Blk (wd.alloc (.cells #[.bool false,.slice none 0 0,.bool false,.slice none 0 0,.bool false,.slice none 0 0,.int .i64 0] 54)) wd.heap.size #[.bool false,.slice none 0 0,.bool false,.slice none 0 0,.bool false,.slice none 0 0,.int .i64 0] 54:=Blk.new wd _ _;have U:wb.heap.size≤wd.heap.size:=Y.size
    try simp only[sq]
    generalize az:wd.heap.size=s at *;generalize wd.alloc (.cells #[.bool false,.slice none 0 0,.bool false,.slice none 0 0,.bool false,.slice none 0 0,.int .i64 0] 54)=am at *;refine wpAnyL_on (i:=3) rfl (fun K n=>?_)
    go_simp
    refine(of_any k _ (by omega) (by omega)).mono ?_;rintro e ax ⟨bq,rfl,ai,aN⟩;obtain⟨br,bj,bs,bt,rfl⟩:=ai.shape';replace b:=b.keep aN
    go_wp2_with fail
    refine n.out _ _ (aO.trans' aN) (fun al=>?_);clear n K;refine wpAnyL_on (i:=4) rfl (fun K n=>?_)
    go_simp
    refine(rtimes_any a.p k _ _ _ (hp.keep al) ai f1 fk).mono ?_;rintro e aq ⟨bf,rfl,O,an⟩;obtain⟨bg,a7,bh,bi,rfl⟩:=O.shape';replace b:=b.keep an
    go_wp2_with fail
    refine n.out _ _ (al.trans' an) (fun ao=>?_);clear n K;refine wpAnyL_on (i:=8) rfl (fun K n=>?_)
    go_simp
    refine(rtimes_any p a.r _ _ _ (ht.keep ao) (hr.keep ao) f4 f3).mono ?_;rintro e aj ⟨a8,rfl,V,X⟩;obtain⟨a9,aZ,ba,bb,rfl⟩:=V.shape';replace b:=b.keep X;replace O:=O.keep X
    go_wp2_with fail
    refine n.out _ _ (ao.trans' X) (fun aB=>?_);clear n K;refine wpAnyL_on (i:=9) rfl (fun K n=>?_)
    go_simp
    refine(rminus_any (a.p*k) (p*a.r) _ _ _ O V f5 f6).mono ?_;rintro e ak ⟨a0,rfl,c,Z⟩;obtain⟨G,l,H,I,rfl⟩:=c.shape';replace b:=b.keep Z
    go_wp2_with fail
    refine n.out _ _ (aB.trans' Z) (fun ar=>?_);clear n K;refine wpAnyL_on (i:=13) rfl (fun K n=>?_)
    go_simp
    refine(of_any k _ (by omega) (by omega)).mono ?_;rintro e ag ⟨aT,rfl,T,P⟩;obtain⟨aU,aC,aV,aW,rfl⟩:=T.shape';replace b:=b.keep P;replace c:=c.keep P
    go_wp2_with fail
    refine n.out _ _ (ar.trans' P) (fun af=>?_);clear n K;refine wpAnyL_on (i:=14) rfl (fun K n=>?_)
    go_simp
    refine(rtimes_any a.q k _ _ _ (hq.keep af) T f2 fk).mono ?_;rintro e ae ⟨aK,rfl,g,L⟩;obtain⟨B,j,C,D,rfl⟩:=g.shape';replace b:=b.keep L;replace c:=c.keep L
    go_wp2_with fail
    refine n.out _ _ (af.trans' L) (fun ah=>?_);clear n K;refine wpAnyL_on (i:=18) rfl (fun K n=>?_)
    go_simp
    refine(of_any k _ (by omega) (by omega)).mono ?_;rintro e ad ⟨aD,rfl,M,F⟩;obtain⟨aE,ap,aF,aG,rfl⟩:=M.shape';replace b:=b.keep F;replace c:=c.keep F;replace g:=g.keep F
    go_wp2_with fail
    refine n.out _ _ (ah.trans' F) (fun aa=>?_);clear n K;refine wpAnyL_on (i:=19) rfl (fun K n=>?_)
    go_simp
    refine(rtimes_any a.r k _ _ _ (hr.keep aa) M f3 fk).mono ?_;rintro e N ⟨ay,rfl,J,t⟩;obtain⟨x,h,y,z,rfl⟩:=J.shape';replace b:=b.keep t;replace c:=c.keep t;replace g:=g.keep t
    go_wp2_with fail
    refine n.out _ _ (aa.trans' t) (fun ac=>?_);clear n K;refine wpAnyL_tk (i:=22) (k:=24) (v:=.agg #[.bool G,.slice l H I,.bool B,.slice j C D,.bool x,.slice h y z,.int .i64 a.d]) rfl ?_ ac ?_
    · intro w' R;go_simp
    simp only[sq];have au:=b.cell;have av:=b.frozen;have aw:=b.lt;refine wpAnyL_last (i:=24) rfl (by kernel_rfl) (by kernel_rfl) (by kernel_rfl) (fun K n=>?_)
    go_simp
    refine n.out _ _ ?_;clear n K;have Q:Sf 3 N (((((((N.setCell ⟨s,0,none⟩ (.bool G)).setCell ⟨s,1,none⟩ (.slice l H I)).setCell ⟨s,2,none⟩ (.bool B)).setCell ⟨s,3,none⟩ (.slice j C D)).setCell ⟨s,4,none⟩ (.bool x)).setCell ⟨s,5,none⟩ (.slice h y z)).setCell ⟨s,6,none⟩ (.int .i64 a.d)):=(sf7 (.bool G) (.slice l H I) (.bool B) (.slice j C D) (.bool x) (.slice h y z) (.int .i64 a.d) b (by decide))
    go_wp2_with fail
    go_meet
    case rel=>exact⟨s,_,_,_,_,_,_,_,_,_,_,_,_,rfl,(bl7 (.bool G) (.slice l H I) (.bool B) (.slice j C D) (.bool x) (.slice h y z) (.int .i64 a.d) b),c.soft Q,g.soft Q,J.soft Q,(kp7 (A:=s) (.bool G) (.slice l H I) (.bool B) (.slice j C D) (.bool x) (.slice h y z) (.int .i64 a.d) ac U),U⟩
  exact AllReadyL.nil
 case rest =>
  obtain⟨bp,b5,aX,n5,c5,b6,aY,n6,c6,b7,aA,n7,c7,rfl,BY,hP,hQ,hR,bm,bA⟩:=hcut;have bB:=BE.lt;replace BE:=BE.keep bm;replace aJ:=aJ.trans' bm;clear BX BP hp hq hr ht bm;have yc:=BY.cell;have yl:=BY.lt
  go_wp2_with fail
  refine(bo.out _ _ _ hP hQ).mono ?_;rintro e bu ⟨rfl,aH⟩;replace BY:=BY.keep aH;replace BE:=BE.keep aH;replace hP:=hP.keep aH;replace hQ:=hQ.keep aH;replace hR:=hR.keep aH;replace aJ:=aJ.trans' aH;clear yc yl aH bo;by_cases hs:rsg (a.p*k - p*a.r) (a.q*k) a.d<0
  ·have HG:Hid (gpN a p k=⟨-(a.p*k - p*a.r),-(a.q*k),a.r*k,a.d⟩):=if_pos hs;generalize rsg (a.p*k - p*a.r) (a.q*k) a.d=o at *
   go_wp2_with fail
   refine wp_region_l (S:=fun w'=>Kp bu w') (by kernel_rfl) (Kp.drew' (Below.refl _ _)) (fun Y=>?_);generalize bu.drew=wd at *;refine wpAnyL_tk (i:=0) (k:=1) (v:=.pointer (some ⟨bp,0,none⟩)) rfl ?_ Y ?_
   · intro w' R;go_simp
   simp only[List.getElem_toArray,List.getElem_cons_zero,Act.put,List.setIfInBounds_toArray,List.set_cons_zero,List.set_cons_succ];refine wpAnyL_tk (i:=1) (k:=2) (v:=.agg #[.bool b5,.slice aX n5 c5]) rfl ?_ Y ?_
   · intro w' R;have hc:=((BY).keep R).cell;go_simp
   simp only[sq];refine wpAnyL_tk (i:=3) (k:=4) (v:=.pointer (some ⟨bp,2,none⟩)) rfl ?_ Y ?_
   · intro w' R;go_simp
   simp only[sq];refine wpAnyL_tk (i:=4) (k:=5) (v:=.agg #[.bool b6,.slice aY n6 c6]) rfl ?_ Y ?_
   · intro w' R;have hc:=((BY).keep R).cell;go_simp
   simp only[sq];refine wpAnyL_tk (i:=6) (k:=7) (v:=.pointer (some ⟨bp,4,none⟩)) rfl ?_ Y ?_
   · intro w' R;go_simp
   simp only[sq];refine wpAnyL_tk (i:=7) (k:=10) (v:=.agg #[.bool b7,.slice aA n7 c7]) rfl ?_ Y ?_
   · intro w' R;have hc:=((BY).keep R).cell;go_simp
   simp only[sq];refine wpAnyL_tk (i:=8) (k:=9) (v:=.pointer (some ⟨bp,6,none⟩)) rfl ?_ Y ?_
   · intro w' R;go_simp
   simp only[sq];refine wpAnyL_tk (i:=9) (k:=10) (v:=.int .i64 a.d) rfl ?_ Y ?_
   · intro w' R;have hc:=((BY).keep R).cell;go_simp
   simp only[sq];refine wpAnyL_on (i:=2) rfl (fun K n=>?_)
   go_simp
   refine(less_any (a.p*k - p*a.r) _ _ (hP.keep Y)).mono ?_;rintro e bv ⟨bw,rfl,aP,bn⟩;obtain⟨a1,aQ,a2,a3,rfl⟩:=aP.shape'
   go_wp2_with fail
   refine n.out _ _ (Y.trans' bn) (fun aO=>?_);clear n K;refine wpAnyL_on (i:=5) rfl (fun K n=>?_)
   go_simp
   refine(less_any (a.q*k) _ _ (hQ.keep aO)).mono ?_;rintro e bx ⟨bz,rfl,bc,be⟩;obtain⟨a4,aR,a5,a6,rfl⟩:=bc.shape';replace aP:=aP.keep be
   go_wp2_with fail
   refine n.out _ _ (aO.trans' be) (fun al=>?_);clear n K;refine wpAnyL_tk (i:=10) (k:=11) (v:=.agg #[.bool a1,.slice aQ a2 a3,.bool a4,.slice aR a5 a6,.bool b7,.slice aA n7 c7,.int .i64 a.d]) rfl ?_ al ?_
   · intro w' R;go_simp
   simp only[sq];have TB:=(BE).keep al;have au:=TB.cell;have av:=TB.frozen;have aw:=TB.lt;refine wpAnyL_last (i:=11) rfl (by kernel_rfl) (by kernel_rfl) (by kernel_rfl) (fun K n=>?_)
   go_simp
   refine n.out _ _ ?_;clear n K;have ec:=TB.cell
   go_wp2_with fail
   refine bodyPost_ret (v:=.agg #[.bool a1,.slice aQ a2 a3,.bool a4,.slice aR a5 a6,.bool b7,.slice aA n7 c7,.int .i64 a.d]) (by simp[results,Tryz.results29,go_sem,ec]) rfl ?_;rw[HG.out];have Q:=(sf7 (E:=3) (.bool a1) (.slice aQ a2 a3) (.bool a4) (.slice aR a5 a6) (.bool b7) (.slice aA n7 c7) (.int .i64 a.d) TB (by decide));exact⟨_,rfl,⟨_,_,_,_,_,_,_,_,_,_,_,_,rfl,aP.soft Q,bc.soft Q,(hR.keep al).soft Q⟩,(kp7 (A:=w.heap.size+1+1) (.bool a1) (.slice aQ a2 a3) (.bool a4) (.slice aR a5 a6) (.bool b7) (.slice aA n7 c7) (.int .i64 a.d) (aJ.trans' al) (by omega))⟩
  ·have HG:Hid (gpN a p k=⟨a.p*k - p*a.r,a.q*k,a.r*k,a.d⟩):=if_neg hs;generalize rsg (a.p*k - p*a.r) (a.q*k) a.d=o at *;have yc:=BY.cell;have yl:=BY.lt;have ec:=BE.cell;have ef:=BE.frozen;have el:=BE.lt
   go_wp2_with fail
   refine bodyPost_ret (v:=.agg #[.bool b5,.slice aX n5 c5,.bool b6,.slice aY n6 c6,.bool b7,.slice aA n7 c7,.int .i64 a.d]) (by simp[results,Tryz.results29,go_sem,ec]) rfl ?_;rw[HG.out];have Q:=(sf7 (E:=3) (.bool b5) (.slice aX n5 c5) (.bool b6) (.slice aY n6 c6) (.bool b7) (.slice aA n7 c7) (.int .i64 a.d) BE (by decide));exact⟨_,rfl,⟨_,_,_,_,_,_,_,_,_,_,_,_,rfl,hP.soft Q,hQ.soft Q,hR.soft Q⟩,(kp7 (A:=w.heap.size+1+1) (.bool b5) (.slice aX n5 c5) (.bool b6) (.slice aY n6 c6) (.bool b7) (.slice aA n7 c7) (.int .i64 a.d) aJ (by omega))⟩
end Go.Proofs.YtjahbjjekednfaaGreatDoor
