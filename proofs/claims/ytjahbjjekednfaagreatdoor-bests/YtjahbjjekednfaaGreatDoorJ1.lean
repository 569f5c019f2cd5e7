import Derived.Test.YtjahbjjekednfaaGreatDoorR1
import Derived.Test.YtjahbjjekednfaaGreatDoorC5
import Derived.Test.YtjahbjjekednfaaGreatDoorF8
namespace Go.Proofs.YtjahbjjekednfaaGreatDoor
set_option maxHeartbeats 3200000
set_option maxRecDepth 100000
section
open Go.RowKit
theorem of_m1 (w:World):Calls Tryz.prog 24 #[.int .i64 (-1)] w (RetI w (-1)):=by
 obtain⟨i0,E,F,G,H⟩:=info_parts Tryz.infoInt
 go_enter Tryz.func24,Tryz.ntmps24
 go_wp2_with fail
 go_loopw [0,4,5] (fun r s _ wr=>∃(k:Nat) (z:Int),((k=0∧z = -1)∨(k=1∧z=0))∧r=.int .i64 z∧wr.ownsRow (w.heap.size+1+1) 3 1 s k (vals (List.replicate k 1))∧Kp ((w.alloc (.cells #[.bool false,.slice none 0 0] 52)).alloc (.cells #[.bool true,.slice none 0 0] 52)) wr)
  (fun r _ _ _=>(- intOf r).toNat)
 case atStart=>exact⟨0,-1,Or.inl ⟨rfl,rfl⟩,rfl,World.ownsRow_nil _ _ _ _,Below.refl _ _⟩
 case round =>
  obtain⟨k,z,hk,rfl,a,n⟩:=hrel;by_cases p:k=1
  ·subst p;obtain rfl:z=0:=by omega
   clear hk;have I:=Row.of_owns a;have P:(List.replicate 1 (1:Int)).length=1:=rfl;have Q:Blk wr (w.heap.size+1) #[.bool true,.slice none 0 0] 52:=(Blk.at (Blk.new _ _ _) (by simp)).keep n;have R:Blk wr w.heap.size #[.bool false,.slice none 0 0] 52:=(Blk.alloc (Blk.new _ _ _) _).keep n;have S:=Hid.mk (((kp_alloc w (.cells #[.bool false,.slice none 0 0] 52)).alloc' (.cells #[.bool true,.slice none 0 0] 52)).trans' n);have T:Hid (Canon 10000 (List.replicate 1 (1:Int))∧val 10000 (List.replicate 1 (1:Int))=1):=Hid.mk ⟨⟨fun i=>by cases i <;> simp[at0,List.replicate],fun _=>by simp[at0,List.replicate]⟩,by simp[val,List.replicate]⟩
   generalize hcg:List.replicate 1 (1:Int)=c at *;clear hcg a n;obtain⟨an,ah,x,u,J,y,U,V,g,b⟩:=id I;rw[P] at J y g b;subst J;clear V;generalize wr=D at *;have lX:=Q.lt;have lR:=R.lt
   go_wp2_with fail
   go_loopw [6] (fun i X=>∃(t j c2:Nat) (d:Option Addr),t≤1∧i=.int .i64 ((t:Int) - 1)∧j+t≤1∧Hid (j=1 - t)∧Blk X (w.heap.size+1) #[.bool true,.slice d j c2] 52∧X.ownsRow D.heap.size 3 1 (.slice d j c2) j (vals (tops c 1 t))∧KeepsBut (w.heap.size+1) D X)
    (fun i _=>(intOf i+1).toNat)
   case atStart=>exact⟨1,0,0,none,by omega,by go_num,by omega,by unfold Hid;omega,Q,by rw[tops_end c 1 1 (Nat.le_refl _)];exact World.ownsRow_nil _ _ _ _,KeepsBut.refl _ _⟩
   case round =>
    obtain⟨t,j,c2,d,ht,rfl,ao,A,Y,a,f⟩:=hrel;obtain⟨ap,aq,ar⟩:=Y.all;by_cases h0:0<t
    ·obtain rfl:t=1:=by omega
     have Z:=(g (by omega)).1;have K:=(g (by omega)).2;subst Z;have aa:x<D.heap.size:=elemOf_lt K;have ac:x≠w.heap.size+1:=fun e=>by have:=Q.elem;rw[← e,K] at this;exact absurd this (by decide)
     have ad:wr.cell? ⟨x,u,none⟩=some (.int .i64 (at0 c 0)):=(World.cell?_of_block (w:=D) (f.block x aa ac)).trans (b 0 (by omega));have ae:(Value.slice d j c2).ownBlock≠some x:=fun h=>by have:=(a.lt x h).1;omega
     have L:(Value.slice d j c2).ownBlock≠some (w.heap.size+1):=fun h=>by have:=(a.lt _ h).1;omega
     have M:(0:Int)≤(0:Int):=by omega
     have au:(0:Int)<1:=by omega
     have av:D.heap.size≤wr.heap.size:=f.size;have HT:=Hid.mk (tops_step c 1 0 (by omega) (by omega));rw[show 0+1=1 by omega] at HT;clear b g
     go_wp2_with fail
     go_region_law
      ((refine step_append_lies _ (by rfl) _ _ _ (by rfl) D.heap.size 3 i0 _ 1 8 Tryz.underlying50 E F G H rfl (by omega) (.slice d j c2) j (vals (tops c 1 1)) (by rfl) ((a.alloc _).drew) ⟨wr.heap.size,0,none⟩ 1 1 (vals [at0 c 0]) (by rfl) (by rfl) (World.news_of_block (cs:=#[.int .i64 (at0 c 0)]) (t:=3) (fr:=(0,0)) (heap_alloc_new wr _)) (vals_oneCell _) (by omega) (by unfold maxLen;omega) (by omega) (by simp;omega) (wr.heap.size+1) (by simp) ?_;intro gg N w1 B l aw ai;have q:=Blk.grown l (Ne.symm L) ((Y.alloc _).drew);have aj:=q.cell;have ak:=q.frozen;have al:=q.lt;have am:=(l.cell_far ⟨x,u,none⟩ (by simp;omega) (Ne.symm ae)).trans (cell_later (Kp.drew' (kp_alloc wr _)) ad)))
     all_goals go_wp2_with fail
     all_goals
      go_roundw
      case rel=>exact⟨0,j+1,N,some ⟨gg,0,none⟩,by omega,by go_num,by omega,by have:=A.out;unfold Hid;omega,push_end2 f lX a l q B HT⟩
      case measure=>simp[intOf]
    ·have M:t=0:=by omega
     subst M;have af:Hid (j=1):=Hid.mk (by have:=A.out;omega)
     have o:Blk wr w.heap.size #[.bool false,.slice none 0 0] 52:=by
      unfold Blk;rw[f.block w.heap.size lR (by omega)];exact R
     have cR:=o.cell;have fR:=o.frozen;have m:=Row.of_owns a;rw[tops_all,List.take_of_length_le (by omega)] at m;have hX:Rb wr (.slice d j c2) 1:=⟨_,m,T.out⟩;have eR:=o.elem;have ax:=o.lt;have ag:Kp w wr:=by
      have p:=S.out;refine⟨f.os.trans p.os,f.tape.trans p.tape,f.output.trans p.output,Nat.le_trans p.size f.size,fun i E=>?_⟩;exact(f.block i (Nat.lt_of_lt_of_le E p.size) (by omega)).trans (p.block i E)
     clear a m b g Y o R A
     go_wp2_with fail
     refine bodyPost_ret (v:=.agg #[.bool true,.slice d j c2]) (by simp[results,Tryz.results24,go_sem,cR]) rfl ?_;have hR:=retI_end (neg:=true) (W:=(wr.setCell ⟨w.heap.size,0,none⟩ (.bool true)).setCell ⟨w.heap.size,1,none⟩ (.slice d j c2)) hX rfl (Sf.set (t:=52) (Sf.set (Sf.refl _ _) eR (by decide)) (by simp only[elemOf_setCell];exact eR) (by decide)) (Below.setCell (Below.setCell ag (Nat.le_refl _) _) (Nat.le_refl _) _)
     have e:=af.out;subst e;exact hR
  ·obtain rfl:k=0:=by omega
   obtain rfl:z = -1:=by omega
   clear p hk
   go_wp2_with (at_builtin;(refine wpList_append_one wr rfl _ _ 50 rfl ((w.alloc (.cells #[.bool false,.slice none 0 0] 52)).alloc (.cells #[.bool true,.slice none 0 0] 52)) 3 i0 (.int .i64 0) 8 Tryz.underlying50 E F G H rfl _ 0 [] 1 rfl (by rw[World.size_alloc,World.size_alloc];exact a) n rfl (by unfold maxLen;omega) (by omega) ?_))
   intro v' w1 C O;clear a n
   go_wp2_with fail
   go_roundw
   case rel=>exact⟨1,0,Or.inr ⟨rfl,rfl⟩,rfl,C,O⟩
   case measure=>simp[intOf]
end
section
open Go.RowKit
theorem over_any (a:Qn) (t:Int) (m:Nat) (u v:Value) (w:World) (ha:NN w u a) (O:IN w v t) (hm:m≤40000000) (f:QF m a) (ft:Ft m t) (d0:0≤a.d) (d1:a.d≤1000000) :
  Calls Tryz.prog 55 #[u,v] w (RetV w (.int .i64 (ovr a t))):=by
 obtain⟨A,g,B,c1,C,h,D,c2,E,j,F,c3,rfl,R,T,U⟩:=ha;obtain⟨J,l,L,c4,rfl⟩:=O.shape';have fx:Ft (m+m+1) (a.p - t*a.r):=by
  have:=Ft.add (f.1.mono (show m≤m+m by omega)) (ft.mul f.2.2).neg
  rwa [← Int.sub_eq_add_neg] at this
 unfold ovr;have n:Kp w ((w.alloc (.cells #[.bool A,.slice g B c1,.bool C,.slice h D c2,.bool E,.slice j F c3,.int .i64 a.d] 54)).alloc (.cells #[.bool J,.slice l L c4] 52)):=Kp.alloc' (kp_alloc w _) _;have P:Blk ((w.alloc (.cells #[.bool A,.slice g B c1,.bool C,.slice h D c2,.bool E,.slice j F c3,.int .i64 a.d] 54)).alloc (.cells #[.bool J,.slice l L c4] 52)) w.heap.size #[.bool A,.slice g B c1,.bool C,.slice h D c2,.bool E,.slice j F c3,.int .i64 a.d] 54:=Blk.alloc (Blk.new w _ _) _;have BT:Blk ((w.alloc (.cells #[.bool A,.slice g B c1,.bool C,.slice h D c2,.bool E,.slice j F c3,.int .i64 a.d] 54)).alloc (.cells #[.bool J,.slice l L c4] 52)) (w.heap.size+1) #[.bool J,.slice l L c4] 52:=Blk.at (Blk.new (w.alloc (.cells #[.bool A,.slice g B c1,.bool C,.slice h D c2,.bool E,.slice j F c3,.int .i64 a.d] 54)) _ _) (by simp);replace R:=R.keep n;replace T:=T.keep n;replace U:=U.keep n;replace O:=O.keep n;have Z:=fun(uu vv:Value) (W:World) (h1:IN W uu (a.p - t*a.r)) (h2:IN W vv a.q)=>sign_ref (a.p - t*a.r) a.q a.d (m+m+1) uu vv W h1 h2 (by omega) fx (f.2.1.mono (by omega)) d0 d1;generalize rsg (a.p - t*a.r) a.q a.d=o at Z ⊢
 go_enter Tryz.func55,Tryz.ntmps55
 go_wp2_with fail
 generalize (w.alloc (.cells #[.bool A,.slice g B c1,.bool C,.slice h D c2,.bool E,.slice j F c3,.int .i64 a.d] 54)).alloc (.cells #[.bool J,.slice l L c4] 52)=wb at *;refine wp_region_l (S:=fun z=>Kp wb z) (by kernel_rfl) (Kp.drew' (Below.refl _ _)) (fun c=>?_);generalize wb.drew=wd at *;refine wpAnyL_tk (i:=0) (k:=1) (v:=.pointer (some ⟨w.heap.size,0,none⟩)) rfl ?_ c ?_
 ·intro z b;go_simp
 simp only[sq];refine wpAnyL_tk (i:=1) (k:=6) (v:=.agg #[.bool A,.slice g B c1]) rfl ?_ c ?_
 ·intro z b;have Q:=((P).keep b).cell;go_simp
 simp only[sq];refine wpAnyL_tk (i:=2) (k:=5) (v:=.agg #[.bool J,.slice l L c4]) rfl ?_ c ?_
 ·intro z b;have Q:=((BT).keep b).cell;go_simp
 simp only[sq];refine wpAnyL_tk (i:=3) (k:=4) (v:=.pointer (some ⟨w.heap.size,4,none⟩)) rfl ?_ c ?_
 ·intro z b;go_simp
 simp only[sq];refine wpAnyL_tk (i:=4) (k:=5) (v:=.agg #[.bool E,.slice j F c3]) rfl ?_ c ?_
 ·intro z b;have Q:=((P).keep b).cell;go_simp
 simp only[sq];refine wpAnyL_tk (i:=7) (k:=8) (v:=.pointer (some ⟨w.heap.size,2,none⟩)) rfl ?_ c ?_
 ·intro z b;go_simp
 simp only[sq];refine wpAnyL_tk (i:=8) (k:=11) (v:=.agg #[.bool C,.slice h D c2]) rfl ?_ c ?_
 ·intro z b;have Q:=((P).keep b).cell;go_simp
 simp only[sq];refine wpAnyL_tk (i:=9) (k:=10) (v:=.pointer (some ⟨w.heap.size,6,none⟩)) rfl ?_ c ?_
 ·intro z b;go_simp
 simp only[sq];refine wpAnyL_tk (i:=10) (k:=11) (v:=.int .i64 a.d) rfl ?_ c ?_
 ·intro z b;have Q:=((P).keep b).cell;go_simp
 simp only[sq];refine wpAnyL_on (i:=5) rfl (fun K s=>?_)
 go_simp
 refine(rtimes_any t a.r _ _ _ (O.keep c) (U.keep c) (ft.fit (by omega)) (f.2.2.fit (by omega))).mono ?_;rintro e aa ⟨ac,rfl,x,G⟩;obtain⟨ad,V,ae,af,rfl⟩:=x.shape'
 go_wp2_with fail
 refine s.out _ _ (c.trans' G) (fun M=>?_);clear s K;refine wpAnyL_on (i:=6) rfl (fun K s=>?_)
 go_simp
 refine(rminus_any a.p (t*a.r) _ _ _ (R.keep M) x (f.1.fit (by omega)) ((ft.mul f.2.2).fit (by omega))).mono ?_;rintro e ag ⟨ah,rfl,y,H⟩;obtain⟨ai,X,aj,ak,rfl⟩:=y.shape'
 go_wp2_with fail
 refine s.out _ _ (M.trans' H) (fun N=>?_);clear s K;refine wpAnyL_on (i:=11) rfl (fun K s=>?_)
 go_simp
 refine(Z _ _ _ y (T.keep N)).mono ?_;rintro e al ⟨rfl,I⟩
 go_wp2_with fail
 refine s.out _ _ (N.trans' I) (fun Y=>?_);clear s K;refine wpAnyL_last (i:=12) rfl (by kernel_rfl) (by kernel_rfl) (by kernel_rfl) (fun K s=>?_)
 go_simp
 refine s.out _ _ ?_;clear s K
 go_wp2_with fail
 go_ret
 exact⟨rfl,n.trans' (Y)⟩
end
end Go.Proofs.YtjahbjjekednfaaGreatDoor
