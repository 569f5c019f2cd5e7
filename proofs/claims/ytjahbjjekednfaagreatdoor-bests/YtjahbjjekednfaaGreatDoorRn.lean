import Derived.Test.YtjahbjjekednfaaGreatDoorC5
import Derived.Test.YtjahbjjekednfaaGreatDoorR9g
import Derived.Test.YtjahbjjekednfaaGreatDoorSt
import Derived.Deep.DeepCutAuto
namespace Go.Proofs.YtjahbjjekednfaaGreatDoor
set_option maxHeartbeats 6400000
set_option maxRecDepth 100000
open Go.RowKit
theorem nearer_ref (g h:Qn) (m:Nat) (u v:Value) (w:World) (hg:NN w u g) (hh:NN w v h) (hm:m≤9000000) (fg:QF m g) (fh:QF m h) (d0:0≤g.d) (d1:g.d≤1000000):Calls Tryz.prog 30 #[u,v] w (RetV w (.bool (decide (rsg (g.p*h.r - h.p*g.r) (g.q*h.r - h.q*g.r) g.d<0)))):=by
 obtain⟨b1,aj,n1,c1,b2,ak,n2,c2,b3,ac,n3,c3,rfl,au,al,Q⟩:=hg;obtain⟨b4,ao,n4,c4,b5,ap,n5,c5,b6,am,n6,c6,rfl,aq,ad,aa⟩:=hh;have aI:Fit g.p:=fg.1.fit (by omega);have aJ:Fit g.q:=fg.2.1.fit (by omega);have ar:Fit g.r:=fg.2.2.fit (by omega);have aE:Fit h.p:=fh.1.fit (by omega);have aF:Fit h.q:=fh.2.1.fit (by omega);have az:Fit h.r:=fh.2.2.fit (by omega);have aA:Fit (g.p*h.r):=(fg.1.mul fh.2.2).fit (by omega);have aB:Fit (h.p*g.r):=(fh.1.mul fg.2.2).fit (by omega);have aC:Fit (g.q*h.r):=(fg.2.1.mul fh.2.2).fit (by omega);have aD:Fit (h.q*g.r):=(fh.2.1.mul fg.2.2).fit (by omega);have aL:Hid (∀(uu vv:Value) (W:World),IN W uu (g.p*h.r - h.p*g.r)→IN W vv (g.q*h.r - h.q*g.r)→Calls Tryz.prog 59 #[uu,vv,.int .i64 g.d] W (RetV W (.int .i64 (rsg (g.p*h.r - h.p*g.r) (g.q*h.r - h.q*g.r) g.d)))):=fun uu vv W k1 k2=>sign_ref _ _ g.d (m+m+1) uu vv W k1 k2 (by omega) (by have:=Ft.add (fg.1.mul fh.2.2) (fh.1.mul fg.2.2).neg;rwa [← Int.sub_eq_add_neg] at this) (by have:=Ft.add (fg.2.1.mul fh.2.2) (fh.2.1.mul fg.2.2).neg;rwa [← Int.sub_eq_add_neg] at this) d0 d1
 clear fg fh;have R:Kp w ((w.alloc (.cells #[.bool b1,.slice aj n1 c1,.bool b2,.slice ak n2 c2,.bool b3,.slice ac n3 c3,.int .i64 g.d] 54)).alloc (.cells #[.bool b4,.slice ao n4 c4,.bool b5,.slice ap n5 c5,.bool b6,.slice am n6 c6,.int .i64 h.d] 54)):=Kp.alloc' (kp_alloc w _) _;have BX:Blk ((w.alloc (.cells #[.bool b1,.slice aj n1 c1,.bool b2,.slice ak n2 c2,.bool b3,.slice ac n3 c3,.int .i64 g.d] 54)).alloc (.cells #[.bool b4,.slice ao n4 c4,.bool b5,.slice ap n5 c5,.bool b6,.slice am n6 c6,.int .i64 h.d] 54)) w.heap.size #[.bool b1,.slice aj n1 c1,.bool b2,.slice ak n2 c2,.bool b3,.slice ac n3 c3,.int .i64 g.d] 54:=Blk.alloc (Blk.new w _ _) _;have BY:Blk ((w.alloc (.cells #[.bool b1,.slice aj n1 c1,.bool b2,.slice ak n2 c2,.bool b3,.slice ac n3 c3,.int .i64 g.d] 54)).alloc (.cells #[.bool b4,.slice ao n4 c4,.bool b5,.slice ap n5 c5,.bool b6,.slice am n6 c6,.int .i64 h.d] 54)) (w.heap.size+1) #[.bool b4,.slice ao n4 c4,.bool b5,.slice ap n5 c5,.bool b6,.slice am n6 c6,.int .i64 h.d] 54:=Blk.at (Blk.new (w.alloc (.cells #[.bool b1,.slice aj n1 c1,.bool b2,.slice ak n2 c2,.bool b3,.slice ac n3 c3,.int .i64 g.d] 54)) _ _) (by simp);replace au:=au.keep R;replace al:=al.keep R;replace Q:=Q.keep R;replace aq:=aq.keep R;replace ad:=ad.keep R;replace aa:=aa.keep R
 go_enter Tryz.func30,Tryz.ntmps30
 go_wp2_with fail
 generalize ((w.alloc (.cells #[.bool b1,.slice aj n1 c1,.bool b2,.slice ak n2 c2,.bool b3,.slice ac n3 c3,.int .i64 g.d] 54)).alloc (.cells #[.bool b4,.slice ao n4 c4,.bool b5,.slice ap n5 c5,.bool b6,.slice am n6 c6,.int .i64 h.d] 54))=wb at *
 go_cut [5] (fun q wx=>∃(bp:Nat) (b7:Bool) (aG:Option Addr) (n7 c7:Nat),q=.pointer (some ⟨bp,0,none⟩)∧Blk wx bp #[.bool b7,.slice aG n7 c7] 52∧IN wx (.agg #[.bool b7,.slice aG n7 c7]) (g.p*h.r - h.p*g.r)∧Kp wb wx∧wb.heap.size≤bp)
 case first =>
  refine wp_region_l (S:=fun w'=>Kp wb w') (by kernel_rfl) (Kp.drew' (Below.refl _ _)) (fun E=>?_);generalize wb.drew=wd at *;refine wpAnyL_tk (i:=0) (k:=1) (v:=.pointer (some ⟨w.heap.size,0,none⟩)) rfl ?_ E ?_
  · intro w' G;go_simp
  simp only[List.getElem_toArray,List.getElem_cons_zero,Act.put,List.setIfInBounds_toArray,List.set_cons_zero,List.set_cons_succ];refine wpAnyL_tk (i:=1) (k:=4) (v:=.agg #[.bool b1,.slice aj n1 c1]) rfl ?_ E ?_
  · intro w' G;have hc:=((BX).keep G).cell;go_simp
  simp only[sq];refine wpAnyL_tk (i:=2) (k:=3) (v:=.pointer (some ⟨w.heap.size+1,4,none⟩)) rfl ?_ E ?_
  · intro w' G;go_simp
  simp only[sq];refine wpAnyL_tk (i:=3) (k:=4) (v:=.agg #[.bool b6,.slice am n6 c6]) rfl ?_ E ?_
  · intro w' G;have hc:=((BY).keep G).cell;go_simp
  simp only[sq];refine wpAnyL_tk (i:=5) (k:=6) (v:=.pointer (some ⟨w.heap.size+1,0,none⟩)) rfl ?_ E ?_
  · intro w' G;go_simp
  simp only[sq];refine wpAnyL_tk (i:=6) (k:=9) (v:=.agg #[.bool b4,.slice ao n4 c4]) rfl ?_ E ?_
  · intro w' G;have hc:=((BY).keep G).cell;go_simp
  simp only[sq];refine wpAnyL_tk (i:=7) (k:=8) (v:=.pointer (some ⟨w.heap.size,4,none⟩)) rfl ?_ E ?_
  · intro w' G;go_simp
  simp only[sq];refine wpAnyL_tk (i:=8) (k:=9) (v:=.agg #[.bool b3,.slice ac n3 c3]) rfl ?_ E ?_
  · intro w' G;have hc:=((BX).keep G).cell;go_simp
  simp only[sq];refine wpAnyL_ready (rs:=[4,11]) (by kernel_rfl) (by simp) ?_;refine AllReadyL.cons rfl (fun K s=>?_) ?_
  · go_simp
    refine(rtimes_any g.p h.r _ _ _ (au.keep E) (aa.keep E) aI az).mono ?_;rintro e F ⟨av,rfl,c,I⟩;obtain⟨aw,an,ax,ay,rfl⟩:=c.shape'
    go_wp2_with fail
    refine s.out _ _ (E.trans' I) (fun J=>?_);clear s K;refine wpAnyL_ready (rs:=[9,11]) (by kernel_rfl) (by simp) ?_;refine AllReadyL.cons rfl (fun K s=>?_) ?_
    · go_simp
      refine(rtimes_any h.p g.r _ _ _ (aq.keep J) (Q.keep J) aE ar).mono ?_;rintro e D ⟨ae,rfl,x,y⟩;obtain⟨af,T,ag,ah,rfl⟩:=x.shape';replace c:=c.keep y
      go_wp2_with fail
      refine s.out _ _ (J.trans' y) (fun H=>?_);clear s K;refine wpAnyL_ready (rs:=[10,11]) (by kernel_rfl) (by simp) ?_;refine AllReadyL.cons rfl (fun K s=>?_) ?_
      · go_simp
        refine(rminus_any (g.p*h.r) (h.p*g.r) _ _ _ c x aA aB).mono ?_;rintro e t ⟨U,rfl,n,z⟩;obtain⟨f,b,j,l,rfl⟩:=n.shape'
        go_wp2_with fail
        refine s.out _ _ (H.trans' z) (fun L=>?_);clear s K;refine wpAnyL_on (i:=11) rfl (fun K s=>?_)
        go_simp
        refine s.out _ _ (Kp.alloc' L (.cells #[.bool false,.slice none 0 0] 52)) (fun N=>?_);clear s K;have a:Blk (t.alloc (.cells #[.bool false,.slice none 0 0] 52)) t.heap.size #[.bool false,.slice none 0 0] 52:=Blk.new t _ _;have C:wb.heap.size≤t.heap.size:=L.size;replace n:=n.keep (kp_alloc t (.cells #[.bool false,.slice none 0 0] 52))
        try simp only[sq]
        generalize V:t.heap.size=B at *;generalize t.alloc (.cells #[.bool false,.slice none 0 0] 52)=M at *;have X:=a.cell;have Y:=a.frozen;have Z:=a.lt;refine wpAnyL_last (i:=12) rfl (by kernel_rfl) (by kernel_rfl) (by kernel_rfl) (fun K s=>?_)
        go_simp
        refine s.out _ _ ?_;clear s K;have O:Sf 3 M ((M.setCell ⟨B,0,none⟩ (.bool f)).setCell ⟨B,1,none⟩ (.slice b j l)):=(sf2 (.bool f) (.slice b j l) a (by decide))
        go_wp2_with fail
        go_meet
        case rel=>exact⟨B,_,_,_,_,rfl,(bl2 (.bool f) (.slice b j l) a),n.soft O,(kp2 (A:=B) (.bool f) (.slice b j l) N C),C⟩
      refine AllReadyL.cons rfl (fun K s=>?_) ?_
      · go_simp
        refine s.out _ _ (Kp.alloc' H (.cells #[.bool false,.slice none 0 0] 52)) (fun L=>?_);clear s K;have a:Blk (D.alloc (.cells #[.bool false,.slice none 0 0] 52)) D.heap.size #[.bool false,.slice none 0 0] 52:=Blk.new D _ _;have C:wb.heap.size≤D.heap.size:=H.size;replace c:=c.keep (kp_alloc D (.cells #[.bool false,.slice none 0 0] 52));replace x:=x.keep (kp_alloc D (.cells #[.bool false,.slice none 0 0] 52))
        try simp only[sq]
        generalize V:D.heap.size=B at *;generalize D.alloc (.cells #[.bool false,.slice none 0 0] 52)=M at *;refine wpAnyL_on (i:=10) rfl (fun K s=>?_)
        go_simp
        refine(rminus_any (g.p*h.r) (h.p*g.r) _ _ _ c x aA aB).mono ?_;rintro e t ⟨U,rfl,n,z⟩;obtain⟨f,b,j,l,rfl⟩:=n.shape';replace a:=a.keep z
        go_wp2_with fail
        refine s.out _ _ (L.trans' z) (fun N=>?_);clear s K;have X:=a.cell;have Y:=a.frozen;have Z:=a.lt;refine wpAnyL_last (i:=12) rfl (by kernel_rfl) (by kernel_rfl) (by kernel_rfl) (fun K s=>?_)
        go_simp
        refine s.out _ _ ?_;clear s K;have O:Sf 3 t ((t.setCell ⟨B,0,none⟩ (.bool f)).setCell ⟨B,1,none⟩ (.slice b j l)):=(sf2 (.bool f) (.slice b j l) a (by decide))
        go_wp2_with fail
        go_meet
        case rel=>exact⟨B,_,_,_,_,rfl,(bl2 (.bool f) (.slice b j l) a),n.soft O,(kp2 (A:=B) (.bool f) (.slice b j l) N C),C⟩
      exact AllReadyL.nil
    refine AllReadyL.cons rfl (fun K s=>?_) ?_
    · go_simp
      refine s.out _ _ (Kp.alloc' J (.cells #[.bool false,.slice none 0 0] 52)) (fun H=>?_);clear s K;have a:Blk (F.alloc (.cells #[.bool false,.slice none 0 0] 52)) F.heap.size #[.bool false,.slice none 0 0] 52:=Blk.new F _ _;have C:wb.heap.size≤F.heap.size:=J.size;replace c:=c.keep (kp_alloc F (.cells #[.bool false,.slice none 0 0] 52))
      try simp only[sq]
      generalize V:F.heap.size=B at *;generalize F.alloc (.cells #[.bool false,.slice none 0 0] 52)=M at *;refine wpAnyL_on (i:=9) rfl (fun K s=>?_)
      go_simp
      refine(rtimes_any h.p g.r _ _ _ (aq.keep H) (Q.keep H) aE ar).mono ?_;rintro e D ⟨ae,rfl,x,y⟩;obtain⟨af,T,ag,ah,rfl⟩:=x.shape';replace c:=c.keep y;replace a:=a.keep y
      go_wp2_with fail
      refine s.out _ _ (H.trans' y) (fun L=>?_);clear s K;refine wpAnyL_on (i:=10) rfl (fun K s=>?_)
      go_simp
      refine(rminus_any (g.p*h.r) (h.p*g.r) _ _ _ c x aA aB).mono ?_;rintro e t ⟨U,rfl,n,z⟩;obtain⟨f,b,j,l,rfl⟩:=n.shape';replace a:=a.keep z
      go_wp2_with fail
      refine s.out _ _ (L.trans' z) (fun N=>?_);clear s K;have X:=a.cell;have Y:=a.frozen;have Z:=a.lt;refine wpAnyL_last (i:=12) rfl (by kernel_rfl) (by kernel_rfl) (by kernel_rfl) (fun K s=>?_)
      go_simp
      refine s.out _ _ ?_;clear s K;have O:Sf 3 t ((t.setCell ⟨B,0,none⟩ (.bool f)).setCell ⟨B,1,none⟩ (.slice b j l)):=(sf2 (.bool f) (.slice b j l) a (by decide))
      go_wp2_with fail
      go_meet
      case rel=>exact⟨B,_,_,_,_,rfl,(bl2 (.bool f) (.slice b j l) a),n.soft O,(kp2 (A:=B) (.bool f) (.slice b j l) N C),C⟩
    exact AllReadyL.nil
  refine AllReadyL.cons rfl (fun K s=>?_) ?_
  · go_simp
    refine s.out _ _ (Kp.alloc' E (.cells #[.bool false,.slice none 0 0] 52)) (fun J=>?_);clear s K;have a:Blk (wd.alloc (.cells #[.bool false,.slice none 0 0] 52)) wd.heap.size #[.bool false,.slice none 0 0] 52:=Blk.new wd _ _;have C:wb.heap.size≤wd.heap.size:=E.size
    try simp only[sq]
    generalize V:wd.heap.size=B at *;generalize wd.alloc (.cells #[.bool false,.slice none 0 0] 52)=M at *;refine wpAnyL_on (i:=4) rfl (fun K s=>?_)
    go_simp
    refine(rtimes_any g.p h.r _ _ _ (au.keep J) (aa.keep J) aI az).mono ?_;rintro e F ⟨av,rfl,c,I⟩;obtain⟨aw,an,ax,ay,rfl⟩:=c.shape';replace a:=a.keep I
    go_wp2_with fail
    refine s.out _ _ (J.trans' I) (fun H=>?_);clear s K;refine wpAnyL_on (i:=9) rfl (fun K s=>?_)
    go_simp
    refine(rtimes_any h.p g.r _ _ _ (aq.keep H) (Q.keep H) aE ar).mono ?_;rintro e D ⟨ae,rfl,x,y⟩;obtain⟨af,T,ag,ah,rfl⟩:=x.shape';replace a:=a.keep y;replace c:=c.keep y
    go_wp2_with fail
    refine s.out _ _ (H.trans' y) (fun L=>?_);clear s K;refine wpAnyL_on (i:=10) rfl (fun K s=>?_)
    go_simp
    refine(rminus_any (g.p*h.r) (h.p*g.r) _ _ _ c x aA aB).mono ?_;rintro e t ⟨U,rfl,n,z⟩;obtain⟨f,b,j,l,rfl⟩:=n.shape';replace a:=a.keep z
    go_wp2_with fail
    refine s.out _ _ (L.trans' z) (fun N=>?_);clear s K;have X:=a.cell;have Y:=a.frozen;have Z:=a.lt;refine wpAnyL_last (i:=12) rfl (by kernel_rfl) (by kernel_rfl) (by kernel_rfl) (fun K s=>?_)
    go_simp
    refine s.out _ _ ?_;clear s K;have O:Sf 3 t ((t.setCell ⟨B,0,none⟩ (.bool f)).setCell ⟨B,1,none⟩ (.slice b j l)):=(sf2 (.bool f) (.slice b j l) a (by decide))
    go_wp2_with fail
    go_meet
    case rel=>exact⟨B,_,_,_,_,rfl,(bl2 (.bool f) (.slice b j l) a),n.soft O,(kp2 (A:=B) (.bool f) (.slice b j l) N C),C⟩
  exact AllReadyL.nil
 case rest =>
  obtain⟨bp,b7,aG,n7,c7,rfl,BP,hP,P,aN⟩:=hcut;replace BX:=BX.keep P;replace BY:=BY.keep P;replace al:=al.keep P;replace Q:=Q.keep P;replace ad:=ad.keep P;replace aa:=aa.keep P;replace R:=R.trans' P;clear P au aq
  go_wp2_with fail
  generalize wc=ai at *
  go_cut [6] (fun q wx=>∃(bp:Nat) (b8:Bool) (aH:Option Addr) (n8 c8:Nat),q=.pointer (some ⟨bp,0,none⟩)∧Blk wx bp #[.bool b8,.slice aH n8 c8] 52∧IN wx (.agg #[.bool b8,.slice aH n8 c8]) (g.q*h.r - h.q*g.r)∧Kp ai wx∧ai.heap.size≤bp)
  case first =>
   refine wp_region_l (S:=fun w'=>Kp ai w') (by kernel_rfl) (Kp.drew' (Below.refl _ _)) (fun E=>?_);generalize ai.drew=wd at *;refine wpAnyL_tk (i:=0) (k:=1) (v:=.pointer (some ⟨w.heap.size,2,none⟩)) rfl ?_ E ?_
   · intro w' G;go_simp
   simp only[List.getElem_toArray,List.getElem_cons_zero,Act.put,List.setIfInBounds_toArray,List.set_cons_zero,List.set_cons_succ];refine wpAnyL_tk (i:=1) (k:=4) (v:=.agg #[.bool b2,.slice ak n2 c2]) rfl ?_ E ?_
   · intro w' G;have hc:=((BX).keep G).cell;go_simp
   simp only[sq];refine wpAnyL_tk (i:=2) (k:=3) (v:=.pointer (some ⟨w.heap.size+1,4,none⟩)) rfl ?_ E ?_
   · intro w' G;go_simp
   simp only[sq];refine wpAnyL_tk (i:=3) (k:=4) (v:=.agg #[.bool b6,.slice am n6 c6]) rfl ?_ E ?_
   · intro w' G;have hc:=((BY).keep G).cell;go_simp
   simp only[sq];refine wpAnyL_tk (i:=5) (k:=6) (v:=.pointer (some ⟨w.heap.size+1,2,none⟩)) rfl ?_ E ?_
   · intro w' G;go_simp
   simp only[sq];refine wpAnyL_tk (i:=6) (k:=9) (v:=.agg #[.bool b5,.slice ap n5 c5]) rfl ?_ E ?_
   · intro w' G;have hc:=((BY).keep G).cell;go_simp
   simp only[sq];refine wpAnyL_tk (i:=7) (k:=8) (v:=.pointer (some ⟨w.heap.size,4,none⟩)) rfl ?_ E ?_
   · intro w' G;go_simp
   simp only[sq];refine wpAnyL_tk (i:=8) (k:=9) (v:=.agg #[.bool b3,.slice ac n3 c3]) rfl ?_ E ?_
   · intro w' G;have hc:=((BX).keep G).cell;go_simp
   simp only[sq];refine wpAnyL_ready (rs:=[4,11]) (by kernel_rfl) (by simp) ?_;refine AllReadyL.cons rfl (fun K s=>?_) ?_
   · go_simp
     refine(rtimes_any g.q h.r _ _ _ (al.keep E) (aa.keep E) aJ az).mono ?_;rintro e F ⟨av,rfl,c,I⟩;obtain⟨aw,an,ax,ay,rfl⟩:=c.shape'
     go_wp2_with fail
     refine s.out _ _ (E.trans' I) (fun J=>?_);clear s K;refine wpAnyL_ready (rs:=[9,11]) (by kernel_rfl) (by simp) ?_;refine AllReadyL.cons rfl (fun K s=>?_) ?_
     · go_simp
       refine(rtimes_any h.q g.r _ _ _ (ad.keep J) (Q.keep J) aF ar).mono ?_;rintro e D ⟨ae,rfl,x,y⟩;obtain⟨af,T,ag,ah,rfl⟩:=x.shape';replace c:=c.keep y
       go_wp2_with fail
       refine s.out _ _ (J.trans' y) (fun H=>?_);clear s K;refine wpAnyL_ready (rs:=[10,11]) (by kernel_rfl) (by simp) ?_;refine AllReadyL.cons rfl (fun K s=>?_) ?_
       · go_simp
         refine(rminus_any (g.q*h.r) (h.q*g.r) _ _ _ c x aC aD).mono ?_;rintro e t ⟨U,rfl,n,z⟩;obtain⟨f,b,j,l,rfl⟩:=n.shape'
         go_wp2_with fail
         refine s.out _ _ (H.trans' z) (fun L=>?_);clear s K;refine wpAnyL_on (i:=11) rfl (fun K s=>?_)
         go_simp
         refine s.out _ _ (Kp.alloc' L (.cells #[.bool false,.slice none 0 0] 52)) (fun N=>?_);clear s K;have a:Blk (t.alloc (.cells #[.bool false,.slice none 0 0] 52)) t.heap.size #[.bool false,.slice none 0 0] 52:=Blk.new t _ _;have C:ai.heap.size≤t.heap.size:=L.size;replace n:=n.keep (kp_alloc t (.cells #[.bool false,.slice none 0 0] 52))
         try simp only[sq]
         generalize V:t.heap.size=B at *;generalize t.alloc (.cells #[.bool false,.slice none 0 0] 52)=M at *;have X:=a.cell;have Y:=a.frozen;have Z:=a.lt;refine wpAnyL_last (i:=12) rfl (by kernel_rfl) (by kernel_rfl) (by kernel_rfl) (fun K s=>?_)
         go_simp
         refine s.out _ _ ?_;clear s K;have O:Sf 3 M ((M.setCell ⟨B,0,none⟩ (.bool f)).setCell ⟨B,1,none⟩ (.slice b j l)):=(sf2 (.bool f) (.slice b j l) a (by decide))
         go_wp2_with fail
         go_meet
         case rel=>exact⟨B,_,_,_,_,rfl,(bl2 (.bool f) (.slice b j l) a),n.soft O,(kp2 (A:=B) (.bool f) (.slice b j l) N C),C⟩
       refine AllReadyL.cons rfl (fun K s=>?_) ?_
       · go_simp
         refine s.out _ _ (Kp.alloc' H (.cells #[.bool false,.slice none 0 0] 52)) (fun L=>?_);clear s K;have a:Blk (D.alloc (.cells #[.bool false,.slice none 0 0] 52)) D.heap.size #[.bool false,.slice none 0 0] 52:=Blk.new D _ _;have C:ai.heap.size≤D.heap.size:=H.size;replace c:=c.keep (kp_alloc D (.cells #[.bool false,.slice none 0 0] 52));replace x:=x.keep (kp_alloc D (.cells #[.bool false,.slice none 0 0] 52))
         try simp only[sq]
         generalize V:D.heap.size=B at *;generalize D.alloc (.cells #[.bool false,.slice none 0 0] 52)=M at *;refine wpAnyL_on (i:=10) rfl (fun K s=>?_)
         go_simp
         refine(rminus_any (g.q*h.r) (h.q*g.r) _ _ _ c x aC aD).mono ?_;rintro e t ⟨U,rfl,n,z⟩;obtain⟨f,b,j,l,rfl⟩:=n.shape';replace a:=a.keep z
         go_wp2_with fail
         refine s.out _ _ (L.trans' z) (fun N=>?_);clear s K;have X:=a.cell;have Y:=a.frozen;have Z:=a.lt;refine wpAnyL_last (i:=12) rfl (by kernel_rfl) (by kernel_rfl) (by kernel_rfl) (fun K s=>?_)
         go_simp
         refine s.out _ _ ?_;clear s K;have O:Sf 3 t ((t.setCell ⟨B,0,none⟩ (.bool f)).setCell ⟨B,1,none⟩ (.slice b j l)):=(sf2 (.bool f) (.slice b j l) a (by decide))
         go_wp2_with fail
         go_meet
         case rel=>exact⟨B,_,_,_,_,rfl,(bl2 (.bool f) (.slice b j l) a),n.soft O,(kp2 (A:=B) (.bool f) (.slice b j l) N C),C⟩
       exact AllReadyL.nil
     refine AllReadyL.cons rfl (fun K s=>?_) ?_
     · go_simp
       refine s.out _ _ (Kp.alloc' J (.cells #[.bool false,.slice none 0 0] 52)) (fun H=>?_);clear s K;have a:Blk (F.alloc (.cells #[.bool false,.slice none 0 0] 52)) F.heap.size #[.bool false,.slice none 0 0] 52:=Blk.new F _ _;have C:ai.heap.size≤F.heap.size:=J.size;replace c:=c.keep (kp_alloc F (.cells #[.bool false,.slice none 0 0] 52))
       try simp only[sq]
       generalize V:F.heap.size=B at *;generalize F.alloc (.cells #[.bool false,.slice none 0 0] 52)=M at *;refine wpAnyL_on (i:=9) rfl (fun K s=>?_)
       go_simp
       refine(rtimes_any h.q g.r _ _ _ (ad.keep H) (Q.keep H) aF ar).mono ?_;rintro e D ⟨ae,rfl,x,y⟩;obtain⟨af,T,ag,ah,rfl⟩:=x.shape';replace c:=c.keep y;replace a:=a.keep y
       go_wp2_with fail
       refine s.out _ _ (H.trans' y) (fun L=>?_);clear s K;refine wpAnyL_on (i:=10) rfl (fun K s=>?_)
       go_simp
       refine(rminus_any (g.q*h.r) (h.q*g.r) _ _ _ c x aC aD).mono ?_;rintro e t ⟨U,rfl,n,z⟩;obtain⟨f,b,j,l,rfl⟩:=n.shape';replace a:=a.keep z
       go_wp2_with fail
       refine s.out _ _ (L.trans' z) (fun N=>?_);clear s K;have X:=a.cell;have Y:=a.frozen;have Z:=a.lt;refine wpAnyL_last (i:=12) rfl (by kernel_rfl) (by kernel_rfl) (by kernel_rfl) (fun K s=>?_)
       go_simp
       refine s.out _ _ ?_;clear s K;have O:Sf 3 t ((t.setCell ⟨B,0,none⟩ (.bool f)).setCell ⟨B,1,none⟩ (.slice b j l)):=(sf2 (.bool f) (.slice b j l) a (by decide))
       go_wp2_with fail
       go_meet
       case rel=>exact⟨B,_,_,_,_,rfl,(bl2 (.bool f) (.slice b j l) a),n.soft O,(kp2 (A:=B) (.bool f) (.slice b j l) N C),C⟩
     exact AllReadyL.nil
   refine AllReadyL.cons rfl (fun K s=>?_) ?_
   · go_simp
     refine s.out _ _ (Kp.alloc' E (.cells #[.bool false,.slice none 0 0] 52)) (fun J=>?_);clear s K;have a:Blk (wd.alloc (.cells #[.bool false,.slice none 0 0] 52)) wd.heap.size #[.bool false,.slice none 0 0] 52:=Blk.new wd _ _;have C:ai.heap.size≤wd.heap.size:=E.size
     try simp only[sq]
     generalize V:wd.heap.size=B at *;generalize wd.alloc (.cells #[.bool false,.slice none 0 0] 52)=M at *;refine wpAnyL_on (i:=4) rfl (fun K s=>?_)
     go_simp
     refine(rtimes_any g.q h.r _ _ _ (al.keep J) (aa.keep J) aJ az).mono ?_;rintro e F ⟨av,rfl,c,I⟩;obtain⟨aw,an,ax,ay,rfl⟩:=c.shape';replace a:=a.keep I
     go_wp2_with fail
     refine s.out _ _ (J.trans' I) (fun H=>?_);clear s K;refine wpAnyL_on (i:=9) rfl (fun K s=>?_)
     go_simp
     refine(rtimes_any h.q g.r _ _ _ (ad.keep H) (Q.keep H) aF ar).mono ?_;rintro e D ⟨ae,rfl,x,y⟩;obtain⟨af,T,ag,ah,rfl⟩:=x.shape';replace a:=a.keep y;replace c:=c.keep y
     go_wp2_with fail
     refine s.out _ _ (H.trans' y) (fun L=>?_);clear s K;refine wpAnyL_on (i:=10) rfl (fun K s=>?_)
     go_simp
     refine(rminus_any (g.q*h.r) (h.q*g.r) _ _ _ c x aC aD).mono ?_;rintro e t ⟨U,rfl,n,z⟩;obtain⟨f,b,j,l,rfl⟩:=n.shape';replace a:=a.keep z
     go_wp2_with fail
     refine s.out _ _ (L.trans' z) (fun N=>?_);clear s K;have X:=a.cell;have Y:=a.frozen;have Z:=a.lt;refine wpAnyL_last (i:=12) rfl (by kernel_rfl) (by kernel_rfl) (by kernel_rfl) (fun K s=>?_)
     go_simp
     refine s.out _ _ ?_;clear s K;have O:Sf 3 t ((t.setCell ⟨B,0,none⟩ (.bool f)).setCell ⟨B,1,none⟩ (.slice b j l)):=(sf2 (.bool f) (.slice b j l) a (by decide))
     go_wp2_with fail
     go_meet
     case rel=>exact⟨B,_,_,_,_,rfl,(bl2 (.bool f) (.slice b j l) a),n.soft O,(kp2 (A:=B) (.bool f) (.slice b j l) N C),C⟩
   exact AllReadyL.nil
  case rest =>
   obtain⟨bq,b8,aH,n8,c8,rfl,BQ,hQ,P,aM⟩:=hcut;replace BX:=BX.keep P;replace BP:=BP.keep P;replace hP:=hP.keep P;replace R:=R.trans' P;clear P BY al Q ad aa;have xc:=BX.cell;have xl:=BX.lt;have pc:=BP.cell;have pl:=BP.lt;have qc:=BQ.cell;have ql:=BQ.lt
   go_wp2_with fail
   refine(aL.out _ _ _ hP hQ).mono ?_;rintro e aO ⟨rfl,aK⟩;generalize rsg (g.p*h.r - h.p*g.r) (g.q*h.r - h.q*g.r) g.d=o at *
   go_wp2_with fail
   go_ret
   exact⟨rfl,R.trans' aK⟩
end Go.Proofs.YtjahbjjekednfaaGreatDoor
