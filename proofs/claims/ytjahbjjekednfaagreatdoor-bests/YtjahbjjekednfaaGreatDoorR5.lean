import Derived.Test.YtjahbjjekednfaaGreatDoorR1
import Derived.Deep.RegionLaw
import Derived.Test.YtjahbjjekednfaaGreatDoorSt
import Derived.Test.YtjahbjjekednfaaGreatDoorBase
import Derived.Deep.DrawnRows
namespace Go.Proofs.YtjahbjjekednfaaGreatDoor
set_option maxHeartbeats 6400000
set_option maxRecDepth 100000
section
open Go.RowKit
theorem Rb.len {w:World} {v:Value} {x:Int} (h:Rb w v x) (c:Fit x):∃ m,RowR w v m∧Canon 10000 m∧val 10000 m=x∧m.length≤400000000:=by
 obtain⟨m,d,a,b⟩:=h;exact⟨m,d,a,b,a.len_fit (by decide) (by rw[b];exact c)⟩
theorem RowR.keep {w W:World} {v:Value} {m:List Int} (a:Kp w W) (h:RowR w v m):RowR W v m:=Row.keep a h
theorem way_one (a b:Int):a+1*b=a+b:=by omega
theorem way_neg (a b:Int):a+(-1)*b=a+-b:=by omega
theorem plus_tt (x y:Int) (z d:Option Addr) (n c A B:Nat) (w:World) (S:Rb w (.slice z n c) x) (O:Rb w (.slice d A B) y) (fx:Fit x) (av:y≤x) :
  Calls Tryz.prog 25 #[.agg #[.bool true,.slice z n c],.agg #[.bool true,.slice d A B]] w (RetI w (signed true (x+1*y))):=by
 have aw:¬ cmp3 x y<0:=by unfold cmp3;split <;> (try split) <;> omega
 obtain⟨l,T,P,F,ll⟩:=S.len fx;obtain⟨m,hm,Q,G⟩:=id O;have U:m.length≤l.length:=by
  rcases Nat.lt_or_ge l.length m.length with h | h
  ·have:=P.lt_of_len (by decide) Q h;omega
  ·exact h
 have g:val 10000 (sumTo 1 l m l.length)=x+1*y:=by rw[sumTo_val,List.take_length,List.take_of_length_le U,F,G]
 have ax:=O.nn;have H:0≤val 10000 (sumTo 1 l m l.length):=by rw[g];omega
 have r:=sumTo_mid (way:=1) (by decide) P.1 Q.1 l.length;have DL:=Hid.mk P.1;have DM:=Hid.mk Q.1;obtain⟨ay,aq,I,_,_⟩:=T.slice;simp only[Value.slice.injEq] at I;obtain⟨rfl,rfl,rfl⟩:=I;have HV:=Hid.mk g;have HN:=Hid.mk H;have HM:=Hid.mk r;clear g H r P Q F G;obtain⟨i0,hi,V,W,X⟩:=info_parts Tryz.infoInt
 go_enter Tryz.func25,Tryz.ntmps25
 go_wp2_with fail
 have q:Kp w _:=((kp_alloc w (.cells #[.bool true,.slice z l.length c] 52)).alloc' (.cells #[.bool true,.slice d A B] 52)).alloc' (.cells #[.bool false,.slice none 0 0] 52);refine(order_any x y _ _ _ (S.keep q) (O.keep q)).mono ?_;rintro e u ⟨rfl,i⟩;generalize cmp3 x y=cv at *;have o:=q.trans' i;have Y:Blk u w.heap.size #[.bool true,.slice z l.length c] 52:=(Blk.alloc (Blk.alloc (Blk.new _ _ _) _) _).keep i;have Z:Blk u (w.heap.size+1) #[.bool true,.slice d A B] 52:=(Blk.alloc (Blk.at (Blk.new _ _ _) (by simp)) _).keep i;have B2:Blk u (w.heap.size+1+1) #[.bool false,.slice none 0 0] 52:=(Blk.at (Blk.new _ _ _) (by simp)).keep i;have c0:=Y.cell;have c1:=Z.cell;have l0:=Y.lt;have l1:=Z.lt;have l2:=B2.lt;have aa:=T.keep o;have ac:=hm.keep o;clear S O T hm q i
 go_wp2_with fail
 go_loopw [7,8] (fun s k wr=>∃ j:Nat,j≤l.length∧k=.int .i64 j∧wr.ownsRow u.heap.size 3 1 s j (vals (sumTo 1 l m j))∧Kp u wr) (fun _ k _=>l.length - (intOf k).toNat)
 case atStart=>exact⟨0,by omega,rfl,World.ownsRow_nil _ _ _ _,Below.refl _ _⟩
 case round =>
  obtain⟨j,hj,rfl,a,b⟩:=hrel;have C:=Y.keep b;have J:=Z.keep b;have ad:=B2.keep b;have az:=C.cell;have aA:=J.cell;have aB:=C.lt;clear c0 c1;by_cases h1:j<l.length
  ·have d1:=DL.out j;have d2:=DM.out j;have HS:=Hid.mk (sumTo_succ 1 l m j);rw[way_one] at HS;have ae:RowR wr.drew (.slice z l.length c) l:=aa.keep b.drew';have af:RowR wr.drew (.slice d A B) m:=ac.keep b.drew';have aC:IntKind.i64.wrap (at0 m j)=at0 m j:=IntWalk.i64_in _ (by omega);have aD:IntKind.i64.wrap (at0 l j+at0 m j)=at0 l j+at0 m j:=IntWalk.i64_in _ (by omega)
   go_wp2_with fail
   have K:(u7:Value).ownBlock≠some w.heap.size:=fun h=>by have:=(a.lt _ h).1;omega
   have L:(u7:Value).ownBlock≠some (w.heap.size+1):=fun h=>by have:=(a.lt _ h).1;omega
   have aE:u.heap.size≤wr.heap.size:=b.size
   go_region_held3 (fun R=>R.cell? ⟨w.heap.size,1,none⟩=some (.slice z l.length c)∧R.cell? ⟨w.heap.size+1,1,none⟩=some (.slice d A B))
    (first | go_keep | (simp[ag,ah]))
    ((first
     | (go_at_call_of 50 (Value.slice z l.length c);refine(at_any l _ j _ (by omega) ae).mono ?_;rintro e R ⟨rfl,rfl⟩)
     | (go_at_call_of 50 (Value.slice d A B);refine(at_any m _ j _ (by omega) af).mono ?_;rintro e R ⟨rfl,rfl⟩)
     | (refine step_append_lies _ (by rfl) _ _ _ (by rfl) u.heap.size 3 i0 _ 1 8 Tryz.underlying50 hi V W X rfl (by omega) u7 j (vals (sumTo 1 l m j)) (by rfl) ((a.alloc _).drew) ⟨wr.heap.size,0,none⟩ 1 1 (vals [at0 l j+at0 m j]) (by rfl) (by rfl) (World.news_of_block (cs:=#[.int .i64 (at0 l j+at0 m j)]) (t:=3) (fr:=(0,0)) (heap_alloc_new wr _)) (vals_oneCell _) (by omega) (by unfold maxLen;omega) (by omega) (by simp;omega) (wr.heap.size+1) (by simp) ?_;intro gg ar w2 D f aF au;have ai:=Blk.grown f (Ne.symm K) ((C.alloc _).drew);have ag:=ai.cell;have aj:=Blk.grown f (Ne.symm L) ((J.alloc _).drew);have ah:=aj.cell)))
   all_goals
    have ak:Kp u w2:=(Kp.drew' (b.alloc' _)).grown' f (fun k hk=>(a.lt k hk).1)
    go_wp2_with fail
    go_roundw
    case rel=>exact⟨j+1,by omega,by go_num,by rw[HS.out,vals_append];exact D,ak⟩
    case measure=>simp[intOf];omega
  ·have al:j=l.length:=by omega
   subst al;have M:=Row.of_owns a
   go_wp2_with fail
   refine(made_any true (sumTo 1 l m l.length) _ _ M HM.out HN.out (by rw[sumTo_length];omega)).mono ?_
   rintro e w3 ⟨v3,rfl,E,N⟩;obtain⟨b5,am,n5,c5,rfl⟩:=E.shape';rw[HV.out] at E;have p:=ad.keep N;have an:=p.cell;have aG:=p.frozen;have aH:=p.lt;have ap:=(o.trans' b).trans' N
   go_wp2_with fail
   refine bodyPost_ret (v:=.agg #[.bool b5,.slice am n5 c5]) (by simp[results,Tryz.results25,go_sem,an]) rfl ?_;refine retI_mk E (Sf.set (t:=52) (Sf.set (Sf.refl _ _) p.elem (by decide)) (by simp only[elemOf_setCell];exact p.elem) (by decide)) (Below.setCell (Below.setCell ap ?_ _) ?_ _)
   ·show w.heap.size≤w.heap.size+1+1;omega
   ·show w.heap.size≤w.heap.size+1+1;omega
theorem plus_tf (x y:Int) (z d:Option Addr) (n c A B:Nat) (w:World) (S:Rb w (.slice z n c) x) (O:Rb w (.slice d A B) y) (fx:Fit x) (av:y≤x) :
  Calls Tryz.prog 25 #[.agg #[.bool true,.slice z n c],.agg #[.bool false,.slice d A B]] w (RetI w (signed true (x+(-1)*y))):=by
 have aw:¬ cmp3 x y<0:=by unfold cmp3;split <;> (try split) <;> omega
 obtain⟨l,T,P,F,ll⟩:=S.len fx;obtain⟨m,hm,Q,G⟩:=id O;have U:m.length≤l.length:=by
  rcases Nat.lt_or_ge l.length m.length with h | h
  ·have:=P.lt_of_len (by decide) Q h;omega
  ·exact h
 have g:val 10000 (sumTo (-1) l m l.length)=x+(-1)*y:=by rw[sumTo_val,List.take_length,List.take_of_length_le U,F,G]
 have ax:=O.nn;have H:0≤val 10000 (sumTo (-1) l m l.length):=by rw[g];omega
 have r:=sumTo_mid (way:=(-1)) (by decide) P.1 Q.1 l.length;have DL:=Hid.mk P.1;have DM:=Hid.mk Q.1;obtain⟨ay,aq,I,_,_⟩:=T.slice;simp only[Value.slice.injEq] at I;obtain⟨rfl,rfl,rfl⟩:=I;have HV:=Hid.mk g;have HN:=Hid.mk H;have HM:=Hid.mk r;clear g H r P Q F G;obtain⟨i0,hi,V,W,X⟩:=info_parts Tryz.infoInt
 go_enter Tryz.func25,Tryz.ntmps25
 go_wp2_with fail
 have q:Kp w _:=((kp_alloc w (.cells #[.bool true,.slice z l.length c] 52)).alloc' (.cells #[.bool false,.slice d A B] 52)).alloc' (.cells #[.bool false,.slice none 0 0] 52);refine(order_any x y _ _ _ (S.keep q) (O.keep q)).mono ?_;rintro e u ⟨rfl,i⟩;generalize cmp3 x y=cv at *;have o:=q.trans' i;have Y:Blk u w.heap.size #[.bool true,.slice z l.length c] 52:=(Blk.alloc (Blk.alloc (Blk.new _ _ _) _) _).keep i;have Z:Blk u (w.heap.size+1) #[.bool false,.slice d A B] 52:=(Blk.alloc (Blk.at (Blk.new _ _ _) (by simp)) _).keep i;have B2:Blk u (w.heap.size+1+1) #[.bool false,.slice none 0 0] 52:=(Blk.at (Blk.new _ _ _) (by simp)).keep i;have c0:=Y.cell;have c1:=Z.cell;have l0:=Y.lt;have l1:=Z.lt;have l2:=B2.lt;have aa:=T.keep o;have ac:=hm.keep o;clear S O T hm q i
 go_wp2_with fail
 go_loopw [7,8] (fun s k wr=>∃ j:Nat,j≤l.length∧k=.int .i64 j∧wr.ownsRow u.heap.size 3 1 s j (vals (sumTo (-1) l m j))∧Kp u wr) (fun _ k _=>l.length - (intOf k).toNat)
 case atStart=>exact⟨0,by omega,rfl,World.ownsRow_nil _ _ _ _,Below.refl _ _⟩
 case round =>
  obtain⟨j,hj,rfl,a,b⟩:=hrel;have C:=Y.keep b;have J:=Z.keep b;have ad:=B2.keep b;have az:=C.cell;have aA:=J.cell;have aB:=C.lt;clear c0 c1;by_cases h1:j<l.length
  ·have d1:=DL.out j;have d2:=DM.out j;have HS:=Hid.mk (sumTo_succ (-1) l m j);rw[way_neg] at HS;have ae:RowR wr.drew (.slice z l.length c) l:=aa.keep b.drew';have af:RowR wr.drew (.slice d A B) m:=ac.keep b.drew';have aC:IntKind.i64.wrap (-at0 m j) = -at0 m j:=IntWalk.i64_in _ (by omega);have aD:IntKind.i64.wrap (at0 l j+-at0 m j)=at0 l j+-at0 m j:=IntWalk.i64_in _ (by omega)
   go_wp2_with fail
   have K:(u7:Value).ownBlock≠some w.heap.size:=fun h=>by have:=(a.lt _ h).1;omega
   have L:(u7:Value).ownBlock≠some (w.heap.size+1):=fun h=>by have:=(a.lt _ h).1;omega
   have aE:u.heap.size≤wr.heap.size:=b.size
   go_region_held3 (fun R=>R.cell? ⟨w.heap.size,1,none⟩=some (.slice z l.length c)∧R.cell? ⟨w.heap.size+1,1,none⟩=some (.slice d A B))
    (first | go_keep | (simp[ag,ah]))
    ((first
     | (go_at_call_of 50 (Value.slice z l.length c);refine(at_any l _ j _ (by omega) ae).mono ?_;rintro e R ⟨rfl,rfl⟩)
     | (go_at_call_of 50 (Value.slice d A B);refine(at_any m _ j _ (by omega) af).mono ?_;rintro e R ⟨rfl,rfl⟩)
     | (refine step_append_lies _ (by rfl) _ _ _ (by rfl) u.heap.size 3 i0 _ 1 8 Tryz.underlying50 hi V W X rfl (by omega) u7 j (vals (sumTo (-1) l m j)) (by rfl) ((a.alloc _).drew) ⟨wr.heap.size,0,none⟩ 1 1 (vals [at0 l j+-at0 m j]) (by rfl) (by rfl) (World.news_of_block (cs:=#[.int .i64 (at0 l j+-at0 m j)]) (t:=3) (fr:=(0,0)) (heap_alloc_new wr _)) (vals_oneCell _) (by omega) (by unfold maxLen;omega) (by omega) (by simp;omega) (wr.heap.size+1) (by simp) ?_;intro gg ar w2 D f aF au;have ai:=Blk.grown f (Ne.symm K) ((C.alloc _).drew);have ag:=ai.cell;have aj:=Blk.grown f (Ne.symm L) ((J.alloc _).drew);have ah:=aj.cell)))
   all_goals
    have ak:Kp u w2:=(Kp.drew' (b.alloc' _)).grown' f (fun k hk=>(a.lt k hk).1)
    go_wp2_with fail
    go_roundw
    case rel=>exact⟨j+1,by omega,by go_num,by rw[HS.out,vals_append];exact D,ak⟩
    case measure=>simp[intOf];omega
  ·have al:j=l.length:=by omega
   subst al;have M:=Row.of_owns a
   go_wp2_with fail
   refine(made_any true (sumTo (-1) l m l.length) _ _ M HM.out HN.out (by rw[sumTo_length];omega)).mono ?_
   rintro e w3 ⟨v3,rfl,E,N⟩;obtain⟨b5,am,n5,c5,rfl⟩:=E.shape';rw[HV.out] at E;have p:=ad.keep N;have an:=p.cell;have aG:=p.frozen;have aH:=p.lt;have ap:=(o.trans' b).trans' N
   go_wp2_with fail
   refine bodyPost_ret (v:=.agg #[.bool b5,.slice am n5 c5]) (by simp[results,Tryz.results25,go_sem,an]) rfl ?_;refine retI_mk E (Sf.set (t:=52) (Sf.set (Sf.refl _ _) p.elem (by decide)) (by simp only[elemOf_setCell];exact p.elem) (by decide)) (Below.setCell (Below.setCell ap ?_ _) ?_ _)
   ·show w.heap.size≤w.heap.size+1+1;omega
   ·show w.heap.size≤w.heap.size+1+1;omega
theorem plus_ft (x y:Int) (z d:Option Addr) (n c A B:Nat) (w:World) (S:Rb w (.slice z n c) x) (O:Rb w (.slice d A B) y) (fx:Fit x) (av:y≤x) :
  Calls Tryz.prog 25 #[.agg #[.bool false,.slice z n c],.agg #[.bool true,.slice d A B]] w (RetI w (signed false (x+(-1)*y))):=by
 have aw:¬ cmp3 x y<0:=by unfold cmp3;split <;> (try split) <;> omega
 obtain⟨l,T,P,F,ll⟩:=S.len fx;obtain⟨m,hm,Q,G⟩:=id O;have U:m.length≤l.length:=by
  rcases Nat.lt_or_ge l.length m.length with h | h
  ·have:=P.lt_of_len (by decide) Q h;omega
  ·exact h
 have g:val 10000 (sumTo (-1) l m l.length)=x+(-1)*y:=by rw[sumTo_val,List.take_length,List.take_of_length_le U,F,G]
 have ax:=O.nn;have H:0≤val 10000 (sumTo (-1) l m l.length):=by rw[g];omega
 have r:=sumTo_mid (way:=(-1)) (by decide) P.1 Q.1 l.length;have DL:=Hid.mk P.1;have DM:=Hid.mk Q.1;obtain⟨ay,aq,I,_,_⟩:=T.slice;simp only[Value.slice.injEq] at I;obtain⟨rfl,rfl,rfl⟩:=I;have HV:=Hid.mk g;have HN:=Hid.mk H;have HM:=Hid.mk r;clear g H r P Q F G;obtain⟨i0,hi,V,W,X⟩:=info_parts Tryz.infoInt
 go_enter Tryz.func25,Tryz.ntmps25
 go_wp2_with fail
 have q:Kp w _:=((kp_alloc w (.cells #[.bool false,.slice z l.length c] 52)).alloc' (.cells #[.bool true,.slice d A B] 52)).alloc' (.cells #[.bool false,.slice none 0 0] 52);refine(order_any x y _ _ _ (S.keep q) (O.keep q)).mono ?_;rintro e u ⟨rfl,i⟩;generalize cmp3 x y=cv at *;have o:=q.trans' i;have Y:Blk u w.heap.size #[.bool false,.slice z l.length c] 52:=(Blk.alloc (Blk.alloc (Blk.new _ _ _) _) _).keep i;have Z:Blk u (w.heap.size+1) #[.bool true,.slice d A B] 52:=(Blk.alloc (Blk.at (Blk.new _ _ _) (by simp)) _).keep i;have B2:Blk u (w.heap.size+1+1) #[.bool false,.slice none 0 0] 52:=(Blk.at (Blk.new _ _ _) (by simp)).keep i;have c0:=Y.cell;have c1:=Z.cell;have l0:=Y.lt;have l1:=Z.lt;have l2:=B2.lt;have aa:=T.keep o;have ac:=hm.keep o;clear S O T hm q i
 go_wp2_with fail
 go_loopw [7,8] (fun s k wr=>∃ j:Nat,j≤l.length∧k=.int .i64 j∧wr.ownsRow u.heap.size 3 1 s j (vals (sumTo (-1) l m j))∧Kp u wr) (fun _ k _=>l.length - (intOf k).toNat)
 case atStart=>exact⟨0,by omega,rfl,World.ownsRow_nil _ _ _ _,Below.refl _ _⟩
 case round =>
  obtain⟨j,hj,rfl,a,b⟩:=hrel;have C:=Y.keep b;have J:=Z.keep b;have ad:=B2.keep b;have az:=C.cell;have aA:=J.cell;have aB:=C.lt;clear c0 c1;by_cases h1:j<l.length
  ·have d1:=DL.out j;have d2:=DM.out j;have HS:=Hid.mk (sumTo_succ (-1) l m j);rw[way_neg] at HS;have ae:RowR wr.drew (.slice z l.length c) l:=aa.keep b.drew';have af:RowR wr.drew (.slice d A B) m:=ac.keep b.drew';have aC:IntKind.i64.wrap (-at0 m j) = -at0 m j:=IntWalk.i64_in _ (by omega);have aD:IntKind.i64.wrap (at0 l j+-at0 m j)=at0 l j+-at0 m j:=IntWalk.i64_in _ (by omega)
   go_wp2_with fail
   have K:(u7:Value).ownBlock≠some w.heap.size:=fun h=>by have:=(a.lt _ h).1;omega
   have L:(u7:Value).ownBlock≠some (w.heap.size+1):=fun h=>by have:=(a.lt _ h).1;omega
   have aE:u.heap.size≤wr.heap.size:=b.size
   go_region_held3 (fun R=>R.cell? ⟨w.heap.size,1,none⟩=some (.slice z l.length c)∧R.cell? ⟨w.heap.size+1,1,none⟩=some (.slice d A B))
    (first | go_keep | (simp[ag,ah]))
    ((first
     | (go_at_call_of 50 (Value.slice z l.length c);refine(at_any l _ j _ (by omega) ae).mono ?_;rintro e R ⟨rfl,rfl⟩)
     | (go_at_call_of 50 (Value.slice d A B);refine(at_any m _ j _ (by omega) af).mono ?_;rintro e R ⟨rfl,rfl⟩)
     | (refine step_append_lies _ (by rfl) _ _ _ (by rfl) u.heap.size 3 i0 _ 1 8 Tryz.underlying50 hi V W X rfl (by omega) u7 j (vals (sumTo (-1) l m j)) (by rfl) ((a.alloc _).drew) ⟨wr.heap.size,0,none⟩ 1 1 (vals [at0 l j+-at0 m j]) (by rfl) (by rfl) (World.news_of_block (cs:=#[.int .i64 (at0 l j+-at0 m j)]) (t:=3) (fr:=(0,0)) (heap_alloc_new wr _)) (vals_oneCell _) (by omega) (by unfold maxLen;omega) (by omega) (by simp;omega) (wr.heap.size+1) (by simp) ?_;intro gg ar w2 D f aF au;have ai:=Blk.grown f (Ne.symm K) ((C.alloc _).drew);have ag:=ai.cell;have aj:=Blk.grown f (Ne.symm L) ((J.alloc _).drew);have ah:=aj.cell)))
   all_goals
    have ak:Kp u w2:=(Kp.drew' (b.alloc' _)).grown' f (fun k hk=>(a.lt k hk).1)
    go_wp2_with fail
    go_roundw
    case rel=>exact⟨j+1,by omega,by go_num,by rw[HS.out,vals_append];exact D,ak⟩
    case measure=>simp[intOf];omega
  ·have al:j=l.length:=by omega
   subst al;have M:=Row.of_owns a
   go_wp2_with fail
   refine(made_any false (sumTo (-1) l m l.length) _ _ M HM.out HN.out (by rw[sumTo_length];omega)).mono ?_
   rintro e w3 ⟨v3,rfl,E,N⟩;obtain⟨b5,am,n5,c5,rfl⟩:=E.shape';rw[HV.out] at E;have p:=ad.keep N;have an:=p.cell;have aG:=p.frozen;have aH:=p.lt;have ap:=(o.trans' b).trans' N
   go_wp2_with fail
   refine bodyPost_ret (v:=.agg #[.bool b5,.slice am n5 c5]) (by simp[results,Tryz.results25,go_sem,an]) rfl ?_;refine retI_mk E (Sf.set (t:=52) (Sf.set (Sf.refl _ _) p.elem (by decide)) (by simp only[elemOf_setCell];exact p.elem) (by decide)) (Below.setCell (Below.setCell ap ?_ _) ?_ _)
   ·show w.heap.size≤w.heap.size+1+1;omega
   ·show w.heap.size≤w.heap.size+1+1;omega
theorem plus_ff (x y:Int) (z d:Option Addr) (n c A B:Nat) (w:World) (S:Rb w (.slice z n c) x) (O:Rb w (.slice d A B) y) (fx:Fit x) (av:y≤x) :
  Calls Tryz.prog 25 #[.agg #[.bool false,.slice z n c],.agg #[.bool false,.slice d A B]] w (RetI w (signed false (x+1*y))):=by
 have aw:¬ cmp3 x y<0:=by unfold cmp3;split <;> (try split) <;> omega
 obtain⟨l,T,P,F,ll⟩:=S.len fx;obtain⟨m,hm,Q,G⟩:=id O;have U:m.length≤l.length:=by
  rcases Nat.lt_or_ge l.length m.length with h | h
  ·have:=P.lt_of_len (by decide) Q h;omega
  ·exact h
 have g:val 10000 (sumTo 1 l m l.length)=x+1*y:=by rw[sumTo_val,List.take_length,List.take_of_length_le U,F,G]
 have ax:=O.nn;have H:0≤val 10000 (sumTo 1 l m l.length):=by rw[g];omega
 have r:=sumTo_mid (way:=1) (by decide) P.1 Q.1 l.length;have DL:=Hid.mk P.1;have DM:=Hid.mk Q.1;obtain⟨ay,aq,I,_,_⟩:=T.slice;simp only[Value.slice.injEq] at I;obtain⟨rfl,rfl,rfl⟩:=I;have HV:=Hid.mk g;have HN:=Hid.mk H;have HM:=Hid.mk r;clear g H r P Q F G;obtain⟨i0,hi,V,W,X⟩:=info_parts Tryz.infoInt
 go_enter Tryz.func25,Tryz.ntmps25
 go_wp2_with fail
 have q:Kp w _:=((kp_alloc w (.cells #[.bool false,.slice z l.length c] 52)).alloc' (.cells #[.bool false,.slice d A B] 52)).alloc' (.cells #[.bool false,.slice none 0 0] 52);refine(order_any x y _ _ _ (S.keep q) (O.keep q)).mono ?_;rintro e u ⟨rfl,i⟩;generalize cmp3 x y=cv at *;have o:=q.trans' i;have Y:Blk u w.heap.size #[.bool false,.slice z l.length c] 52:=(Blk.alloc (Blk.alloc (Blk.new _ _ _) _) _).keep i;have Z:Blk u (w.heap.size+1) #[.bool false,.slice d A B] 52:=(Blk.alloc (Blk.at (Blk.new _ _ _) (by simp)) _).keep i;have B2:Blk u (w.heap.size+1+1) #[.bool false,.slice none 0 0] 52:=(Blk.at (Blk.new _ _ _) (by simp)).keep i;have c0:=Y.cell;have c1:=Z.cell;have l0:=Y.lt;have l1:=Z.lt;have l2:=B2.lt;have aa:=T.keep o;have ac:=hm.keep o;clear S O T hm q i
 go_wp2_with fail
 go_loopw [7,8] (fun s k wr=>∃ j:Nat,j≤l.length∧k=.int .i64 j∧wr.ownsRow u.heap.size 3 1 s j (vals (sumTo 1 l m j))∧Kp u wr) (fun _ k _=>l.length - (intOf k).toNat)
 case atStart=>exact⟨0,by omega,rfl,World.ownsRow_nil _ _ _ _,Below.refl _ _⟩
 case round =>
  obtain⟨j,hj,rfl,a,b⟩:=hrel;have C:=Y.keep b;have J:=Z.keep b;have ad:=B2.keep b;have az:=C.cell;have aA:=J.cell;have aB:=C.lt;clear c0 c1;by_cases h1:j<l.length
  ·have d1:=DL.out j;have d2:=DM.out j;have HS:=Hid.mk (sumTo_succ 1 l m j);rw[way_one] at HS;have ae:RowR wr.drew (.slice z l.length c) l:=aa.keep b.drew';have af:RowR wr.drew (.slice d A B) m:=ac.keep b.drew';have aC:IntKind.i64.wrap (at0 m j)=at0 m j:=IntWalk.i64_in _ (by omega);have aD:IntKind.i64.wrap (at0 l j+at0 m j)=at0 l j+at0 m j:=IntWalk.i64_in _ (by omega)
   go_wp2_with fail
   have K:(u7:Value).ownBlock≠some w.heap.size:=fun h=>by have:=(a.lt _ h).1;omega
   have L:(u7:Value).ownBlock≠some (w.heap.size+1):=fun h=>by have:=(a.lt _ h).1;omega
   have aE:u.heap.size≤wr.heap.size:=b.size
   go_region_held3 (fun R=>R.cell? ⟨w.heap.size,1,none⟩=some (.slice z l.length c)∧R.cell? ⟨w.heap.size+1,1,none⟩=some (.slice d A B))
    (first | go_keep | (simp[ag,ah]))
    ((first
     | (go_at_call_of 50 (Value.slice z l.length c);refine(at_any l _ j _ (by omega) ae).mono ?_;rintro e R ⟨rfl,rfl⟩)
     | (go_at_call_of 50 (Value.slice d A B);refine(at_any m _ j _ (by omega) af).mono ?_;rintro e R ⟨rfl,rfl⟩)
     | (refine step_append_lies _ (by rfl) _ _ _ (by rfl) u.heap.size 3 i0 _ 1 8 Tryz.underlying50 hi V W X rfl (by omega) u7 j (vals (sumTo 1 l m j)) (by rfl) ((a.alloc _).drew) ⟨wr.heap.size,0,none⟩ 1 1 (vals [at0 l j+at0 m j]) (by rfl) (by rfl) (World.news_of_block (cs:=#[.int .i64 (at0 l j+at0 m j)]) (t:=3) (fr:=(0,0)) (heap_alloc_new wr _)) (vals_oneCell _) (by omega) (by unfold maxLen;omega) (by omega) (by simp;omega) (wr.heap.size+1) (by simp) ?_;intro gg ar w2 D f aF au;have ai:=Blk.grown f (Ne.symm K) ((C.alloc _).drew);have ag:=ai.cell;have aj:=Blk.grown f (Ne.symm L) ((J.alloc _).drew);have ah:=aj.cell)))
   all_goals
    have ak:Kp u w2:=(Kp.drew' (b.alloc' _)).grown' f (fun k hk=>(a.lt k hk).1)
    go_wp2_with fail
    go_roundw
    case rel=>exact⟨j+1,by omega,by go_num,by rw[HS.out,vals_append];exact D,ak⟩
    case measure=>simp[intOf];omega
  ·have al:j=l.length:=by omega
   subst al;have M:=Row.of_owns a
   go_wp2_with fail
   refine(made_any false (sumTo 1 l m l.length) _ _ M HM.out HN.out (by rw[sumTo_length];omega)).mono ?_
   rintro e w3 ⟨v3,rfl,E,N⟩;obtain⟨b5,am,n5,c5,rfl⟩:=E.shape';rw[HV.out] at E;have p:=ad.keep N;have an:=p.cell;have aG:=p.frozen;have aH:=p.lt;have ap:=(o.trans' b).trans' N
   go_wp2_with fail
   refine bodyPost_ret (v:=.agg #[.bool b5,.slice am n5 c5]) (by simp[results,Tryz.results25,go_sem,an]) rfl ?_;refine retI_mk E (Sf.set (t:=52) (Sf.set (Sf.refl _ _) p.elem (by decide)) (by simp only[elemOf_setCell];exact p.elem) (by decide)) (Below.setCell (Below.setCell ap ?_ _) ?_ _)
   ·show w.heap.size≤w.heap.size+1+1;omega
   ·show w.heap.size≤w.heap.size+1+1;omega
end
section
open Go.RowKit
theorem plus_ge (x y:Int) (u v:Value) (w:World) (k:IN w u x) (l:IN w v y) (e:Fit x) (m:y.natAbs≤x.natAbs):Calls Tryz.prog 25 #[u,v] w (RetI w (x+y)):=by
 obtain⟨f,n,c,rfl,g⟩:=k;obtain⟨a,h,i,rfl,b⟩:=l;by_cases j:x<0
 ·rw[decide_eq_true j];by_cases d:y<0
  ·rw[decide_eq_true d];have:=plus_tt (x.natAbs:Int) (y.natAbs:Int) f a n c h i w g b (fit_abs e) (by omega)
   rwa [show signed true ((x.natAbs:Int)+1*(y.natAbs:Int))=x+y by unfold signed;simp;omega] at this
  ·rw[decide_eq_false d];have:=plus_tf (x.natAbs:Int) (y.natAbs:Int) f a n c h i w g b (fit_abs e) (by omega)
   rwa [show signed true ((x.natAbs:Int)+(-1)*(y.natAbs:Int))=x+y by unfold signed;simp;omega] at this
 ·rw[decide_eq_false j];by_cases d:y<0
  ·rw[decide_eq_true d];have:=plus_ft (x.natAbs:Int) (y.natAbs:Int) f a n c h i w g b (fit_abs e) (by omega)
   rwa [show signed false ((x.natAbs:Int)+(-1)*(y.natAbs:Int))=x+y by unfold signed;simp;omega] at this
  ·rw[decide_eq_false d];have:=plus_ff (x.natAbs:Int) (y.natAbs:Int) f a n c h i w g b (fit_abs e) (by omega)
   rwa [show signed false ((x.natAbs:Int)+1*(y.natAbs:Int))=x+y by unfold signed;simp;omega] at this
theorem IN.rb {w:World} {b:Bool} {a:Option Addr} {n c:Nat} {z:Int} (h:IN w (.agg #[.bool b,.slice a n c]) z):Rb w (.slice a n c) (z.natAbs:Int):=by
 obtain⟨e,g,i,d,f⟩:=h;simp only[Value.agg.injEq,Array.mk.injEq,List.cons.injEq,Value.slice.injEq,and_true] at d;obtain⟨_,rfl,rfl,rfl⟩:=d;exact f
theorem plus_lt (x y:Int) (u v:Value) (w:World) (p:IN w u x) (q:IN w v y) (X:Fit y) (Y:x.natAbs<y.natAbs):Calls Tryz.prog 25 #[u,v] w (RetI w (x+y)):=by
 obtain⟨K,i,L,c1,rfl⟩:=p.shape';obtain⟨M,j,N,c2,rfl⟩:=q.shape';have Z:=Hid.mk (cmp3_lt (x:=(x.natAbs:Int)) (y:=(y.natAbs:Int)) (by omega))
 go_enter Tryz.func25,Tryz.ntmps25
 go_wp2_with fail
 have O:Kp w _:=(Kp.alloc' (Kp.alloc' (Kp.alloc' (Below.refl w.heap.size w) (.cells #[.bool K,.slice i L c1] 52)) (.cells #[.bool M,.slice j N c2] 52)) (.cells #[.bool false,.slice none 0 0] 52));have k:Sf 3 w _:=(Sf.alloc (Sf.alloc (Sf.alloc (Sf.refl 3 w) (.cells #[.bool K,.slice i L c1] 52)) (.cells #[.bool M,.slice j N c2] 52)) (.cells #[.bool false,.slice none 0 0] 52));refine(order_any _ _ _ _ _ (p.soft k).rb (q.soft k).rb).mono ?_;rintro e r ⟨rfl,b⟩;rw[Z.out];have P:=O.trans' b;have s:=k.trans (Sf.keep b);have t:Blk r (w.heap.size) #[.bool K,.slice i L c1] 52:=Blk.keep b (Blk.at (Blk.alloc (Blk.alloc (Blk.new _ _ _) _) _) (by simp));have z:Blk r (w.heap.size+1) #[.bool M,.slice j N c2] 52:=Blk.keep b (Blk.at (Blk.alloc (Blk.new _ _ _) _) (by simp));have a:Blk r (w.heap.size+1+1) #[.bool false,.slice none 0 0] 52:=Blk.keep b (Blk.at (Blk.new _ _ _) (by simp));obtain⟨B,C,V⟩:=t.all;obtain⟨D,F,W⟩:=z.all;obtain⟨d,f,H⟩:=a.all;replace p:=p.soft s;replace q:=q.soft s
 go_wp2_with fail
 have G:Kp w _:=P;have l:Sf 3 r _:=(Sf.refl 3 r);refine(plus_ge y x _ _ _ (q.soft l) (p.soft l) X (by omega)).mono ?_;rintro e w2 ⟨v2,rfl,m,n⟩;obtain⟨Q,o,R,c3,rfl⟩:=m.shape';rw[Int.add_comm] at m;have S:=G.trans' n;have aa:=l.trans (Sf.keep n);have c:=Blk.keep n a;obtain⟨g,I,J⟩:=c.all;have h:w.heap.size≤w.heap.size+1+1:=by (first | omega | (have:=G.size;simp only[sz] at this;omega))
 clear t B C z D F a d f
 go_wp2_with fail
 refine bodyPost_ret (v:=.agg #[.bool Q,.slice o R c3]) (by simp[results,Tryz.results25,go_sem,g]) rfl ?_;have T:Kp w _:=(stK2 (A:=w.heap.size+1+1) (.bool Q) (.slice o R c3) S (by have:=h;omega))
 have U:Sf 3 w2 _:=(stS2 (E:=3) (.bool Q) (.slice o R c3) c (by decide));exact retI_mk m U T
theorem rplus_any (x y:Int) (u v:Value) (w:World) (a:IN w u x) (b:IN w v y) (c:Fit x) (d:Fit y):Calls Tryz.prog 25 #[u,v] w (RetI w (x+y)):=by
 rcases Nat.lt_or_ge x.natAbs y.natAbs with h | h
 ·exact plus_lt x y u v w a b d h
 ·exact plus_ge x y u v w a b c h
theorem rminus_any (x y:Int) (u v:Value) (w:World) (A:IN w u x) (B:IN w v y) (H:Fit x) (I:Fit y):Calls Tryz.prog 57 #[u,v] w (RetI w (x - y)):=by
 obtain⟨k,b,l,c1,rfl⟩:=A.shape';obtain⟨m,c,o,c2,rfl⟩:=B.shape';have C:Fit (-y):=by obtain⟨n,J,S⟩:=I;exact⟨n,J,by rwa [Int.natAbs_neg]⟩
 have g:Kp w _:=((kp_alloc w (.cells #[.bool k,.slice b l c1] 52)).alloc' (.cells #[.bool m,.slice c o c2] 52)).alloc' (.cells #[.bool false,.slice none 0 0] 52);have K:=(A.keep (Kp.drew' g));have L:=(B.keep (Kp.drew' g));have F:Blk _ w.heap.size #[.bool k,.slice b l c1] 52:=Blk.drew (Blk.alloc (Blk.alloc (Blk.new w _ _) (.cells #[.bool m,.slice c o c2] 52)) (.cells #[.bool false,.slice none 0 0] 52));have G:Blk _ (w.heap.size+1) #[.bool m,.slice c o c2] 52:=Blk.drew (Blk.alloc (Blk.at (Blk.new (w.alloc (.cells #[.bool k,.slice b l c1] 52)) _ _) (by simp)) (.cells #[.bool false,.slice none 0 0] 52));have M:Blk _ (w.heap.size+1+1) #[.bool false,.slice none 0 0] 52:=Blk.drew (Blk.at (Blk.new ((w.alloc (.cells #[.bool k,.slice b l c1] 52)).alloc (.cells #[.bool m,.slice c o c2] 52)) _ _) (by simp));have p:=Kp.drew' g;clear A B
 go_enter Tryz.func57,Tryz.ntmps57
 go_wp2_with fail
 go_region_held3 (fun z=>z.cell? ⟨w.heap.size,0,none⟩=some (.bool k)∧z.cell? ⟨w.heap.size,1,none⟩=some (.slice b l c1)∧z.cell? ⟨w.heap.size+1,0,none⟩=some (.bool m)∧z.cell? ⟨w.heap.size+1,1,none⟩=some (.slice c o c2))
  (first | (go_keep;done) | (simp[q,r];done) | (exact⟨Blk.cell (Blk.other (Blk.other h (by omega)) (by omega)) 0,Blk.cell (Blk.other (Blk.other h (by omega)) (by omega)) 1,Blk.cell (Blk.other (Blk.other i (by omega)) (by omega)) 0,Blk.cell (Blk.other (Blk.other i (by omega)) (by omega)) 1⟩))
  ((first
   | (go_at_call 60;refine(less_any y _ _ L).mono ?_;rintro e T ⟨U,rfl,s,a⟩;obtain⟨V,N,W,c3,rfl⟩:=s.shape';have q:=(F.keep a).cell;have r:=(G.keep a).cell)
   | (go_at_call 25;refine(rplus_any x (-y) _ _ _ (K.keep a) s H C).mono ?_;rintro e X ⟨Y,rfl,j,f⟩;obtain⟨O,D,P,c4,rfl⟩:=j.shape';have h:=F.keep (a.trans' f);have q:=h.cell;have i:=G.keep (a.trans' f);have r:=i.cell;have d:=M.keep (a.trans' f);have E:=d.cell;have Q:=d.frozen;have R:=d.lt)))
 all_goals go_wp2_with fail
 refine bodyPost_ret (v:=.agg #[.bool O,.slice D P c4]) (by simp[results,Tryz.results57,go_sem,E]) rfl ?_;rw[← Int.sub_eq_add_neg] at j;refine retI_mk j (Sf.set (t:=52) (Sf.set (Sf.refl _ _) d.elem (by decide)) (by simp only[elemOf_setCell];exact d.elem) (by decide)) (Below.setCell (Below.setCell (p.trans' (a.trans' f)) ?_ _) ?_ _)
 ·show w.heap.size≤w.heap.size+1+1;omega
 ·show w.heap.size≤w.heap.size+1+1;omega
theorem rcmp_any (x y:Int) (u v:Value) (w:World) (m:IN w u x) (n:IN w v y) (t:Fit x) (z:Fit y):Calls Tryz.prog 56 #[u,v] w (RetV w (.int .i64 (x - y).sign)):=by
 obtain⟨o,b,p,c1,rfl⟩:=m.shape';obtain⟨q,c,r,c2,rfl⟩:=n.shape'
 go_enter Tryz.func56,Tryz.ntmps56
 go_wp2_with fail
 have i:Kp w _:=(Kp.alloc' (Kp.alloc' (Below.refl w.heap.size w) (.cells #[.bool o,.slice b p c1] 52)) (.cells #[.bool q,.slice c r c2] 52));have a:Sf 3 w _:=(Sf.alloc (Sf.alloc (Sf.refl 3 w) (.cells #[.bool o,.slice b p c1] 52)) (.cells #[.bool q,.slice c r c2] 52));refine(rminus_any x y _ _ _ (m.soft a) (n.soft a) t z).mono ?_;rintro e s ⟨D,rfl,d,f⟩;obtain⟨E,A,F,c3,rfl⟩:=d.shape';have j:=i.trans' f;have B:=a.trans (Sf.keep f)
 go_wp2_with fail
 have k:Kp w _:=j;have g:Sf 3 s _:=(Sf.refl 3 s);refine(rsign_any (x - y) _ _ (d.soft g)).mono ?_;rintro e G ⟨rfl,h⟩;have l:=k.trans' h;have C:=g.trans (Sf.keep h);generalize (x - y).sign=sg at *
 go_wp2_with fail
 go_ret
 exact⟨rfl,l⟩
end
section
open Go.RowKit
attribute [local go_sem ↓] Go.wp_at_zero Go.wp_at_succ
theorem Blk.below {B:Nat} {w a:World} {b:Nat} {cs:Array Value} {t:TypeId} (c:Below B w a) (d:b<B) (h:Blk w b cs t):Blk a b cs t:=by
 unfold Blk;rw[c.block b d];exact h
theorem times_rb (C D:Bool) (x y:Int) (z a:Option Addr) (n c n' A:Nat) (w:World) (X:Rb w (.slice z n c) x) (Y:Rb w (.slice a n' A) y) (fx:Fit x) (fy:Fit y) :
  Calls Tryz.prog 26 #[.agg #[.bool C,.slice z n c],.agg #[.bool D,.slice a n' A]] w (RetI w (signed (C != D) (x*y))):=by
 obtain⟨l,hl,Z,I,ll⟩:=X.len fx;obtain⟨m,hm,cm,J,lm⟩:=Y.len fy;have o:val 10000 (timTo l m l.length)=x*y:=by rw[tim_done,I,J]
 have K:0≤val 10000 (timTo l m l.length):=by rw[o];exact Int.mul_nonneg X.nn Y.nn
 have E:=timTo_mid Z.1 cm.1 ll;have DL:=Hid.mk Z.1;have DM:=Hid.mk cm.1;obtain⟨ap,am,p,_,_⟩:=hl.slice;simp only[Value.slice.injEq] at p;obtain⟨rfl,rfl,rfl⟩:=p;obtain⟨aq,an,p,_,_⟩:=hm.slice;simp only[Value.slice.injEq] at p;obtain⟨rfl,rfl,rfl⟩:=p;have HV:=Hid.mk o;have HN:=Hid.mk K;have HM:=Hid.mk E;clear o K E Z cm I J X Y fx fy;obtain⟨i0,hi,aa,ac,ad⟩:=info_parts Tryz.infoInt;have L:Kp w _:=((kp_alloc w (.cells #[.bool C,.slice z l.length c] 52)).alloc' (.cells #[.bool D,.slice a m.length A] 52)).alloc' (.cells #[.bool false,.slice none 0 0] 52);have G:Blk _ w.heap.size #[.bool C,.slice z l.length c] 52:=(Blk.alloc (Blk.alloc (Blk.new w _ _) (.cells #[.bool D,.slice a m.length A] 52)) (.cells #[.bool false,.slice none 0 0] 52));have H:Blk _ (w.heap.size+1) #[.bool D,.slice a m.length A] 52:=(Blk.alloc (Blk.at (Blk.new (w.alloc (.cells #[.bool C,.slice z l.length c] 52)) _ _) (by simp)) (.cells #[.bool false,.slice none 0 0] 52));have V:Blk _ (w.heap.size+1+1) #[.bool false,.slice none 0 0] 52:=(Blk.at (Blk.new ((w.alloc (.cells #[.bool C,.slice z l.length c] 52)).alloc (.cells #[.bool D,.slice a m.length A] 52)) _ _) (by simp))
 go_enter Tryz.func26,Tryz.ntmps26
 go_wp2_with (at_make;refine wpList_make_row _ rfl _ _ 50 rfl (((w.alloc (.cells #[.bool C,.slice z l.length c] 52)).alloc (.cells #[.bool D,.slice a m.length A] 52)).alloc (.cells #[.bool false,.slice none 0 0] 52)) 3 i0 8 Tryz.underlying50 hi aa ac ad _ _ _ _ (l.length+m.length) rfl rfl (by omega) (by omega) (by omega) (by unfold maxLen;omega) (Below.refl _ _) ?_)
 intro w1 d q;replace G:=G.keep q;replace H:=H.keep q;replace V:=V.keep q;have M:=L.trans' q;have l0:=G.lt;have l1:=H.lt;have l2:=V.lt;have W:=G.cell;have c1:=H.cell;have ar:w.heap.size+1+1+1<w1.heap.size:=(d.lt _ rfl).2;clear L q
 go_wp2_with fail
 go_loopw [6,7] (fun i _ wr=>∃ k:Nat,k≤l.length∧i=.int .i64 k∧wr.ownsRow (w.heap.size+1+1+1) 3 1 (.slice (some ⟨w.heap.size+1+1+1,0,none⟩) (l.length+m.length) (l.length+m.length)) (l.length+m.length) (vals (timTo l m k))∧Below (w.heap.size+1+1+1) w1 wr)
  (fun i _ _=>l.length - (intOf i).toNat)
 case atStart=>exact⟨0,by omega,rfl,d,Below.refl _ _⟩
 case round =>
  obtain⟨k,hk,rfl,r,f⟩:=hrel;clear d W c1;have g:=Blk.below f (by omega) G;have h:=Blk.below f (by omega) H;have N:=Blk.below f (by omega) V;have W:=g.cell;have c1:=h.cell;have O:=g.lt;have P:=h.lt;by_cases h1:k<l.length
  ·have Q:=Hid.mk (timTo_bd DL.out DM.out k);have dl:=DL.out k
   go_wp2_with fail
   go_loopw [7] (fun j wq=>∃ i:Nat,i≤m.length∧j=.int .i64 i∧wq.ownsRow (w.heap.size+1+1+1) 3 1 (.slice (some ⟨w.heap.size+1+1+1,0,none⟩) (l.length+m.length) (l.length+m.length)) (l.length+m.length) (vals (timIn l m (timTo l m k) k i))∧Below (w.heap.size+1+1+1) w1 wq)
    (fun j _=>m.length - (intOf j).toNat)
   case atStart=>exact⟨0,by omega,rfl,r,f⟩
   case round =>
    obtain⟨i,au,rfl,b,s⟩:=hrel;clear r f W c1 g h N O P;have g:=Blk.below s (by omega) G;have h:=Blk.below s (by omega) H;have W:=g.cell;have c1:=h.cell;have O:=g.lt;have P:=h.lt;by_cases h2:i<m.length
    ·have dm:=DM.out i;have R:=dig_mul dl dm;have av:=R.1;have aw:at0 l k*at0 m i≤99980001:=R.2;have ae:=(timIn_bd DL.out DM.out Q.out i (k+i)).1;have ax:(k:Int)≤400000000:=by omega
     have ay:IntKind.i64.wrap (at0 l k*at0 m i)=at0 l k*at0 m i:=IntWalk.i64_in _ (by omega);have az:IntKind.i64.wrap (at0 (timIn l m (timTo l m k) k i) (k+i)+at0 l k*at0 m i)=at0 (timIn l m (timTo l m k) k i) (k+i)+at0 l k*at0 m i:=IntWalk.i64_in _ (by omega);have aA:IntKind.i64.wrap ((k:Int)+(i:Int))=(k:Int)+(i:Int):=IntWalk.i64_in _ (by omega);have aB:=owns_cell b (i:=k+i) (by omega);have aC:wr.frozen? ⟨w.heap.size+1+1+1,k+i,none⟩=false:=b.frozenAt (k+i);have aD:((k:Int)+(i:Int)).toNat=k+i:=by omega
     have HS:=Hid.mk (timIn_succ l m (timTo l m k) k i);have B:=M.trans (s.mono (show w.heap.size≤w.heap.size+1+1+1 by omega));have af:RowR wr.drew (.slice z l.length c) l:=hl.keep (Kp.drew' B);have S:RowR wr.drew (.slice a m.length A) m:=hm.keep (Kp.drew' B);have aE:(0:Int)≤(k:Int)+(i:Int):=by omega
     have aF:(k:Int)+(i:Int)<(l.length:Int)+(m.length:Int):=by omega
     have ag:=Hid.mk (b.drew.stored (k+i) (.int .i64 (at0 (timIn l m (timTo l m k) k i) (k+i)+at0 l k*at0 m i)));clear Q ae
     go_wp2_with fail
     go_region_with
      (first
       | (go_at_call_of 50 (Value.slice z l.length c);refine(at_any l _ k _ (by omega) af).mono ?_;rintro e w' ⟨rfl,rfl⟩)
       | (go_at_call_of 50 (Value.slice a m.length A);refine(at_any m _ i _ (by omega) S).mono ?_;rintro e w' ⟨rfl,rfl⟩))
     all_goals
      go_wp2_with fail
      go_roundw
      case rel=>exact⟨i+1,by omega,by go_num,by rw[HS.out,← vals_set];exact ag.out.1,Below.setCell s.drew (Nat.le_refl _) _⟩
      case measure=>simp[intOf];omega
    ·have ah:i=m.length:=by omega
     subst ah;have HS:=Hid.mk (timTo_succ l m k)
     go_wp2_with fail
     go_roundw
     case rel=>exact⟨k+1,by omega,by go_num,by rw[HS.out];exact b,s⟩
     case measure=>simp[intOf];omega
  ·have ai:k=l.length:=by omega
   subst ai;have T:=Row.of_owns r;have B:=M.trans (f.mono (show w.heap.size≤w.heap.size+1+1+1 by omega))
   go_wp2_with fail
   refine(made_any (C != D) (timTo l m l.length) _ _ T HM.out HN.out (by rw[timTo_length];omega)).mono ?_
   rintro e w3 ⟨v3,rfl,F,U⟩;obtain⟨b5,aj,n5,c5,rfl⟩:=F.shape';rw[HV.out] at F;have u:=N.keep U;have ak:=u.cell;have aG:=u.frozen;have aH:=u.lt;have al:=Kp.trans' B U
   go_wp2_with fail
   refine bodyPost_ret (v:=.agg #[.bool b5,.slice aj n5 c5]) (by simp[results,Tryz.results26,go_sem,ak]) rfl ?_;refine retI_mk F (Sf.set (t:=52) (Sf.set (Sf.refl _ _) u.elem (by decide)) (by simp only[elemOf_setCell];exact u.elem) (by decide)) (Below.setCell (Below.setCell al ?_ _) ?_ _)
   ·show w.heap.size≤w.heap.size+1+1;omega
   ·show w.heap.size≤w.heap.size+1+1;omega
theorem rtimes_any (x y:Int) (u v:Value) (w:World) (b:IN w u x) (a:IN w v y) (i:Fit x) (j:Fit y):Calls Tryz.prog 26 #[u,v] w (RetI w (x*y)):=by
 obtain⟨k,n,c,rfl,l⟩:=b;obtain⟨d,m,o,rfl,f⟩:=a;have h:=times_rb (decide (x<0)) (decide (y<0)) (x.natAbs:Int) (y.natAbs:Int) k d n c m o w l f (fit_abs i) (fit_abs j);have e:signed (decide (x<0) != decide (y<0)) ((x.natAbs:Int)*(y.natAbs:Int))=x*y:=by
  have g:(x.natAbs:Int)*y.natAbs=((x*y).natAbs:Int):=by rw[Int.natAbs_mul];simp
  rw[g];by_cases b:x<0
  ·by_cases a:y<0
   ·have:=mul_nonneg_of (x:=x) (y:=y) (Or.inl ⟨b,a⟩);simp[b,a,signed];omega
   ·have:=mul_neg_iff (x:=x) (y:=y) (Or.inl ⟨b,by omega⟩);rw[g] at this;simp[b,a,signed];omega
  ·by_cases a:y<0
   ·have:=mul_neg_iff (x:=x) (y:=y) (Or.inr ⟨by omega,a⟩);rw[g] at this;simp[b,a,signed];omega
   ·have:=mul_nonneg_of (x:=x) (y:=y) (Or.inr ⟨by omega,by omega⟩);simp[b,a,signed];omega
 rwa [e] at h
end
end Go.Proofs.YtjahbjjekednfaaGreatDoor
