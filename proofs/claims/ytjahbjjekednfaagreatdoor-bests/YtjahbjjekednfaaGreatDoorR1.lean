import Derived.Test.YtjahbjjekednfaaGreatDoorSoft
import Derived.Test.YtjahbjjekednfaaGreatDoorBase
import Derived.Deep.RegionLaw
import Derived.Deep.AppendLies
import Derived.Deep.RegionHeld3
namespace Go.Proofs.YtjahbjjekednfaaGreatDoor
set_option maxHeartbeats 3200000
set_option maxRecDepth 100000
section
open Go.RowKit
theorem Tryz.infoInt:(Tryz.prog.info? 3).map (fun i=>(i.zero,i.size,i.bytes))=some (some (.int .i64 0),1,8):=by kernel_rfl
theorem at0_reverse {m:List Int} {i:Nat} (h:i<m.length):at0 m.reverse i=at0 m (m.length - 1 - i):=by
 rw[at0_eq (by simpa using h),at0_eq (by omega)];simp
def RowR (w:World) (v:Value) (m:List Int):Prop:=Row w 3 v m.reverse
def Rb (w:World) (v:Value) (x:Int):Prop:=∃ m,RowR w v m∧Canon 10000 m∧val 10000 m=x
theorem at_any (m:List Int) (v:Value) (k:Nat) (w:World) (s:k≤9223372036854775807) (j:RowR w v m) :
  Calls Tryz.prog 50 #[v,.int .i64 k] w fun e n=>e=.returned (.int .i64 (at0 m k))∧n=w:=by
 obtain⟨t,o,b,p,rfl,d,f,g,c,a⟩:=j;rw[List.length_reverse] at d c a;rw[List.length_reverse];by_cases h:k<m.length
 ·have ha:=(c (by omega)).1;subst ha;have q:=a (m.length - 1 - k) (by omega);rw[at0_reverse (by omega),show m.length - 1 - (m.length - 1 - k)=k by omega] at q;clear a c g
  go_enter Tryz.func50,Tryz.ntmps50
  go_wp2
  go_ret
  exact⟨rfl,rfl⟩
 ·have r:=Hid.mk (at0_ge (l:=m) (i:=k) (by omega));clear a c g
  go_enter Tryz.func50,Tryz.ntmps50
  go_wp2
  go_ret
  exact⟨by rw[r.out];rfl,rfl⟩
theorem at_int (m:List Int) (v:Value) (k:Int) (w:World) (a:0≤k) (d:k≤9223372036854775807) (b:RowR w v m) :
  Calls Tryz.prog 50 #[v,.int .i64 k] w fun e c=>e=.returned (.int .i64 (at0 m k.toNat))∧c=w:=by
 obtain⟨n,rfl⟩:=Int.eq_ofNat_of_zero_le a;exact at_any m v n w (by omega) b
theorem RowR.slice {w:World} {v:Value} {m:List Int} (h:RowR w v m):∃ ao cap,v=.slice ao m.length cap∧m.length≤cap∧cap≤9223372036854775807:=by
 have:=Row.slice h
 rwa [List.length_reverse] at this
theorem val_lt_top {B:Int} (f:0<B) {l m:List Int} (g:Dig B l) (j:Dig B m) {k:Nat} (d:∀ i,k<i→at0 l i=at0 m i) (e:at0 l k<at0 m k):val B l<val B m:=by
 have b:∀(x:List Int) (n:Nat),val B (x ++ List.replicate n 0)=val B x:=fun x n=>by rw[val_append,val_replicate];simp
 have a:∀(x:List Int) (n i:Nat),at0 (x ++ List.replicate n 0) i=at0 x i:=by
  intro x n i;rcases Nat.lt_or_ge i x.length with h | h
  ·rw[at0_append_lt h]
  ·rw[at0_append_ge h,at0_replicate,at0_ge h]
 have c:∀(x:List Int) (n:Nat),Dig B x→Dig B (x ++ List.replicate n 0):=fun x n o i=>by rw[a];exact o i
 rw[← b l (m.length+k+1),← b m (l.length+k+1)];refine val_lt_of_top f (c l _ g) (c m _ j) (by simp;omega) (k:=k) (by simp;omega) (fun i p=>by rw[a,a];exact d i p) (by rw[a,a];exact e)
theorem val_eq_of {B:Int} {l m:List Int} (h:∀ i,at0 l i=at0 m i):val B l=val B m:=by
 have a:∀(x:List Int) (n:Nat),val B (x ++ List.replicate n 0)=val B x:=fun x n=>by rw[val_append,val_replicate];simp
 have b:∀(x:List Int) (n i:Nat),at0 (x ++ List.replicate n 0) i=at0 x i:=by
  intro x n i;rcases Nat.lt_or_ge i x.length with h | h
  ·rw[at0_append_lt h]
  ·rw[at0_append_ge h,at0_replicate,at0_ge h]
 rw[← a l m.length,← a m l.length];rw[ext_at0 (l:=l ++ List.replicate m.length 0) (m:=m ++ List.replicate l.length 0) (by simp;omega) (fun i _=>by rw[b,b];exact h i)]
theorem order_any (x y:Int) (u v:Value) (w:World) (A:Rb w u x) (C:Rb w v y) :
  Calls Tryz.prog 49 #[u,v] w (RetV w (.int .i64 (cmp3 x y))):=by
 obtain⟨l,c,p,rfl⟩:=A;obtain⟨m,d,q,rfl⟩:=C;obtain⟨M,D,g,E,F⟩:=c.slice;obtain⟨G,r,n,H,I⟩:=d.slice;subst g;subst n;have s:=Hid.mk p;have t:=Hid.mk q;clear p q;have a:∀ N:Nat,l.length≤N→m.length≤N→N≤9223372036854775807→∀ i,N≤i→at0 l i=at0 m i:=fun N O P _ i Q=>by rw[at0_ge (by omega),at0_ge (by omega)]
 by_cases hlen:l.length<m.length
 all_goals
  go_enter Tryz.func49,Tryz.ntmps49
  go_wp2_with fail
  go_loop [6,7,8] (fun i _ _=>∃ k:Nat,k≤9223372036854775807∧i=.int .i64 ((k:Int) - 1)∧Hid (∀ j,k≤j→at0 l j=at0 m j)) (fun i _ _=>(intOf i+1).toNat)
  case atStart=>first | exact⟨m.length,by omega,rfl,a m.length (by omega) (by omega) (by omega)⟩ | exact⟨l.length,by omega,rfl,a l.length (by omega) (by omega) (by omega)⟩
  case round =>
   obtain⟨k,R,rfl,f⟩:=hrel;clear a;by_cases S:0<k
   ·rcases Int.lt_trichotomy (at0 l (k - 1)) (at0 m (k - 1)) with hc | hc | hc
    ·have o:=Hid.mk (cmp3_lt (val_lt_top (B:=10000) (by decide) s.out.1 t.out.1 (k:=k - 1) (fun j z=>f.out j (by omega)) hc))
     go_wp2_with fail
     refine(at_int l _ _ _ (by omega) (by omega) c).mono ?_;rintro e b ⟨rfl,rfl⟩;rw[show ((k:Int) - 1).toNat=k - 1 by omega]
     go_wp2_with fail
     refine(at_int m _ _ _ (by omega) (by omega) d).mono ?_;rintro e b ⟨rfl,rfl⟩;rw[show ((k:Int) - 1).toNat=k - 1 by omega]
     go_wp2_with fail
     go_ret
     exact⟨by rw[o.out];rfl,Below.refl _ _⟩
    ·have J:=Hid.mk hc;have K:¬ at0 l (k - 1)<at0 m (k - 1):=by omega
     have T:¬ at0 m (k - 1)<at0 l (k - 1):=by omega
     clear hc
     go_wp2_with fail
     refine(at_int l _ _ _ (by omega) (by omega) c).mono ?_;rintro e b ⟨rfl,rfl⟩;rw[show ((k:Int) - 1).toNat=k - 1 by omega]
     go_wp2_with fail
     refine(at_int m _ _ _ (by omega) (by omega) d).mono ?_;rintro e b ⟨rfl,rfl⟩;rw[show ((k:Int) - 1).toNat=k - 1 by omega]
     go_wp2_with fail
     go_round
     case rel=>exact⟨k - 1,by omega,by go_num,fun j z=>by
      rcases Nat.lt_or_ge j k with h | h
      ·rw[show j=k - 1 by omega];exact J.out
      ·exact f.out j h⟩
     case measure=>simp[intOf];omega
    ·have o:=Hid.mk (cmp3_gt (val_lt_top (B:=10000) (by decide) t.out.1 s.out.1 (k:=k - 1) (fun j z=>(f.out j (by omega)).symm) hc));have K:¬ at0 l (k - 1)<at0 m (k - 1):=by omega
     go_wp2_with fail
     refine(at_int l _ _ _ (by omega) (by omega) c).mono ?_;rintro e b ⟨rfl,rfl⟩;rw[show ((k:Int) - 1).toNat=k - 1 by omega]
     go_wp2_with fail
     refine(at_int m _ _ _ (by omega) (by omega) d).mono ?_;rintro e b ⟨rfl,rfl⟩;rw[show ((k:Int) - 1).toNat=k - 1 by omega]
     go_wp2_with fail
     go_ret
     exact⟨by rw[o.out];rfl,Below.refl _ _⟩
   ·have L:=Hid.mk (val_eq_of (B:=10000) (l:=l) (m:=m) (fun i=>f.out i (by omega)))
    go_wp2_with fail
    go_ret
    exact⟨by rw[cmp3_eq L.out];rfl,Below.refl _ _⟩
end
section
open Go.RowKit
def IN (w:World) (v:Value) (z:Int):Prop:=∃ ao n c,v=.agg #[.bool (decide (z<0)),.slice ao n c]∧Rb w (.slice ao n c) (z.natAbs:Int)
def RetI (w:World) (z:Int) (e:Ending) (a:World):Prop:=∃ v,e=.returned v∧IN a v z∧Kp w a
def signed (neg:Bool) (x:Int):Int:=if neg then -x else x
theorem signed_neg {neg:Bool} {x:Int} (h:0≤x):decide (signed neg x<0)=(neg && decide (0<x)):=by
 cases neg
 ·simp[signed];omega
 ·simp[signed]
theorem signed_abs {neg:Bool} {x:Int} (h:0≤x):((signed neg x).natAbs:Int)=x:=by
 cases neg
 ·simp[signed];omega
 ·simp[signed];omega
theorem Rb.soft {w W:World} {v:Value} {x:Int} (a:Sf 3 w W) (h:Rb w v x):Rb W v x:=by
 obtain⟨m,b,c⟩:=h;exact⟨m,Row.soft a b,c⟩
theorem Rb.nn {w:World} {v:Value} {x:Int} (h:Rb w v x):0≤x:=by
 obtain⟨m,_,a,b⟩:=h;rw[← b];exact a.1.val_nonneg (by decide)
theorem Rb.zero_len {w:World} {b:Option Addr} {n c:Nat} {x:Int} (h:Rb w (.slice b n c) x):(n=0↔x=0)∧n≤9223372036854775807:=by
 obtain⟨m,d,e,f⟩:=h;obtain⟨g,i,a,j,k⟩:=d.slice;simp only[Value.slice.injEq] at a;rw[a.2.1];exact⟨by rw[e.zero_iff (by decide),f],by omega⟩
theorem IN.soft {w W:World} {v:Value} {z:Int} (a:Sf 3 w W) (h:IN w v z):IN W v z:=by
 obtain⟨b,n,c,d,e⟩:=h;exact⟨b,n,c,d,e.soft a⟩
theorem retI_end {w e W:World} {neg b:Bool} {X:Int} {a:Option Addr} {n c:Nat} (d:Rb e (.slice a n c) X) (g:b=(neg && decide (0<(n:Int)))) (h:Sf 3 e W) (i:Kp w W) :
  RetI w (signed neg X) (.returned (.agg #[.bool b,.slice a n c])) W:=by
 have f:=d.nn;have k:=d.zero_len.1;have j:decide (0<X)=decide (0<(n:Int)):=by rw[decide_eq_decide];omega
 exact⟨_,rfl,⟨a,n,c,by rw[signed_neg f,j,g],by rw[signed_abs f];exact d.soft h⟩,i⟩
theorem push_end {e wr f:World} {g:Option Addr} {c c2 j a:Nat} {b:Bool} {D q:List Int} {d:Int} {o:Obj} (m:Kp e wr)
  (l:wr.ownsRow (e.heap.size+1) 3 1 (.slice g c c2) c (vals D))
  (h:((wr.alloc o).drew).grownBy f (Value.slice g c c2).ownBlock) (n:Blk f e.heap.size #[.bool b,.slice g c c2] 52)
  (i:f.ownsRow (e.heap.size+1) 3 1 (.slice (some ⟨j,0,none⟩) (c+1) a) (c+1) (vals D ++ vals [d])) (r:q=D ++ [d]) :
  Blk (f.setCell ⟨e.heap.size,1,none⟩ (.slice (some ⟨j,0,none⟩) (c+1) a)) e.heap.size #[.bool b,.slice (some ⟨j,0,none⟩) (c+1) a] 52 ∧
  (f.setCell ⟨e.heap.size,1,none⟩ (.slice (some ⟨j,0,none⟩) (c+1) a)).ownsRow (e.heap.size+1) 3 1 (.slice (some ⟨j,0,none⟩) (c+1) a) (c+1) (vals q) ∧
  Kp e (f.setCell ⟨e.heap.size,1,none⟩ (.slice (some ⟨j,0,none⟩) (c+1) a)):=by
 refine⟨n.set,?_,?_⟩
 ·rw[r,vals_append];exact ownsRow_setCell_below i (by simp) _
 ·have p:Kp e f:=(Kp.drew' (m.alloc' o)).grown' h (fun k s=>by have:=(l.lt k s).1;omega)
  exact p.setCell (Nat.le_refl _) _
theorem made_any (neg:Bool) (low:List Int) (u:Value) (w:World) (hu:Row w 3 u low) (R:Mid low) (hv:0≤val 10000 low) (hl:low.length≤1000000000) :
  Calls Tryz.prog 51 #[.bool neg,u] w (RetI w (signed neg (val 10000 low))):=by
 obtain⟨ao,aJ,p,am,rfl,aE,aF,hn,O,r⟩:=hu;clear hn;obtain⟨W,X,E,F,G⟩:=info_parts Tryz.infoInt;have HV:=Hid.mk hv;have HM:=Hid.mk R;clear hv R
 go_enter Tryz.func51,Tryz.ntmps51
 go_wp2_with fail
 go_loopw [5,6,7,8] (fun o s k _ wr=>∃ j:Nat,j≤low.length+4∧k=.int .i64 j∧o=.int .i64 (madO low j)∧wr.ownsRow (w.heap.size+1) 3 1 s j (vals (madC low j))∧Kp (w.alloc (.cells #[.bool false,.slice none 0 0] 52)) wr)
  (fun o _ k _ _=>(low.length - (intOf k).toNat)*9223372036854775808+(intOf o).toNat)
 case atStart=>exact⟨0,by omega,rfl,rfl,World.ownsRow_nil _ _ _ _,Below.refl _ _⟩
 case round =>
  obtain⟨j,hj,rfl,rfl,a,f⟩:=hrel;have P:=madO_bd HM.out j;have aa:=madO_bd HM.out (j+1);have an:=HM.out j;have HS:=Hid.mk (madC_succ low j);have HO:=Hid.mk (madO_succ low j);by_cases h1:j<low.length
  ·have ha:=(O (by omega)).1;subst ha;have hc:wr.cell? ⟨p,am+j,none⟩=some (.int .i64 (at0 low j)):=cell_later ((kp_alloc w _).trans' f) (r j h1);clear r O;by_cases hneg:madO low j+at0 low j<0
   ·obtain⟨t1,t2,t3,t4,t5,t6⟩:=tdiv_neg_case hneg;by_cases hr:(madO low j+at0 low j).tmod 10000<0
    ·obtain⟨e1,e2⟩:=t1 hr;have E1:=Hid.mk e1;have E2:=Hid.mk e2;clear e1 e2 t1 t2
     go_wp2_with (at_builtin;(refine wpList_append_one wr rfl _ _ 50 rfl (w.alloc (.cells #[.bool false,.slice none 0 0] 52)) 3 W (.int .i64 0) 8 Tryz.underlying50 X E F G rfl _ j (madC low j) ((madO low j+at0 low j).tmod 10000+10000) rfl (by rw[World.size_alloc];exact a) f rfl (by unfold maxLen;omega) (by omega) ?_))
     intro v' w1 b A;clear a f hc
     go_wp2_with fail
     go_roundw
     case rel=>exact⟨j+1,by omega,by go_num,by rw[HO.out,← E2.out],by rw[HS.out,← E1.out];exact b,A⟩
     case measure=>simp[intOf];omega
    ·obtain⟨e1,e2⟩:=t2 hr;have E1:=Hid.mk e1;have E2:=Hid.mk e2;clear e1 e2 t1 t2
     go_wp2_with (at_builtin;(refine wpList_append_one wr rfl _ _ 50 rfl (w.alloc (.cells #[.bool false,.slice none 0 0] 52)) 3 W (.int .i64 0) 8 Tryz.underlying50 X E F G rfl _ j (madC low j) ((madO low j+at0 low j).tmod 10000) rfl (by rw[World.size_alloc];exact a) f rfl (by unfold maxLen;omega) (by omega) ?_))
     intro v' w1 b A;clear a f hc
     go_wp2_with fail
     go_roundw
     case rel=>exact⟨j+1,by omega,by go_num,by rw[HO.out,← E2.out],by rw[HS.out,← E1.out];exact b,A⟩
     case measure=>simp[intOf];omega
   ·have ac:0≤madO low j+at0 low j:=by omega
    go_wp2_with (at_builtin;(refine wpList_append_one wr rfl _ _ 50 rfl (w.alloc (.cells #[.bool false,.slice none 0 0] 52)) 3 W (.int .i64 0) 8 Tryz.underlying50 X E F G rfl _ j (madC low j) ((madO low j+at0 low j) % 10000) rfl (by rw[World.size_alloc];exact a) f rfl (by unfold maxLen;omega) (by omega) ?_))
    intro v' w1 b A;clear a f hc
    go_wp2_with fail
    go_roundw
    case rel=>exact⟨j+1,by omega,by go_num,by rw[HO.out],by rw[HS.out];exact b,A⟩
    case measure=>simp[intOf];omega
  ·have HB:=Hid.mk (at0_ge (l:=low) (i:=j) (by omega));have ac:=madO_nn HV.out (k:=j) (by omega);by_cases hz:madO low j=0
   ·have HZ:=Hid.mk (mad_done (low:=low) (k:=j) (by omega) hz);have ap:(madO low j != 0)=false:=by simp[hz]
    have y:=Row.of_owns a;have aq:=madC_length low j;have ar:=Hid.mk (madC_dig low j);have au:=Hid.mk ((kp_alloc w (.cells #[.bool false,.slice none 0 0] 52)).trans' f);have BR:Blk wr w.heap.size #[.bool false,.slice none 0 0] 52:=(Blk.new w _ _).keep f;have lR:=BR.lt;generalize hcg:madC low j=c at *;clear hcg r O a HS HO hz f P aa an HB ac;obtain⟨n,I⟩:=sig_exists c;obtain⟨aK,aG,Y,J,ad,V,av,aw,z,g⟩:=y;rw[aq] at ad V z g;subst ad;have ax:n≤j:=by have:=I.1;omega
    have D:=Hid.mk I;clear I aw;generalize wr=K at *
    go_wp2_with fail
    go_loopw [10] (fun k wq=>∃(t q c2:Nat) (m:Option Addr),t≤j∧k=.int .i64 ((t:Int) - 1)∧q+t≤j∧Hid (q=n - t)∧Blk wq K.heap.size #[.bool false,.slice m q c2] 52∧wq.ownsRow (K.heap.size+1) 3 1 (.slice m q c2) q (vals (tops c n t))∧Kp K wq)
     (fun k _=>(intOf k+1).toNat)
    case atStart=>exact⟨j,0,0,none,by omega,by go_num,by omega,by unfold Hid;omega,Blk.new _ _ _,by rw[tops_end c n j ax];exact World.ownsRow_nil _ _ _ _,kp_alloc _ _⟩
    case round =>
     obtain⟨t,q,c2,m,ht,rfl,aL,L,Z,a,H⟩:=hrel;obtain⟨aM,aN,aO⟩:=Z.all;by_cases h0:0<t
     ·have ay:=(z (by omega)).1;have az:=(z (by omega)).2;subst ay;have aP:Y<K.heap.size:=elemOf_lt az;have ae:wr.cell? ⟨Y,J+(t - 1),none⟩=some (.int .i64 (at0 c (t - 1))):=cell_later H (g (t - 1) (by omega));have P:(Value.slice m q c2).ownBlock≠some Y:=fun h=>by have:=(a.lt Y h).1;omega
      have S:(Value.slice m q c2).ownBlock≠some K.heap.size:=fun h=>by have:=(a.lt _ h).1;omega
      have af:(0:Int)≤(t:Int) - 1:=by omega
      have aQ:(t:Int) - 1<(j:Int):=by omega
      have aR:K.heap.size+1≤wr.heap.size:=by omega
      clear g z;by_cases htn:t≤n
      ·have HT:=Hid.mk (tops_step c n (t - 1) (by omega) D.out.1);rw[show t - 1+1=t by omega] at HT;by_cases T:at0 c (t - 1)=0
       ·have ag:(at0 c (t - 1) != 0)=false:=by simp[T]
        have aH:0<q:=by
         have:=L.out;rcases Nat.lt_or_ge t n with h | h
         ·omega
         ·have e:t=n:=by omega
          exact absurd (e ▸ T) (D.out.2.2 (by omega))
        clear T
        go_wp2_with fail
        go_region_law
         ((refine step_append_lies _ (by rfl) _ _ _ (by rfl) (K.heap.size+1) 3 W _ 1 8 Tryz.underlying50 X E F G rfl (by omega) (.slice m q c2) q (vals (tops c n t)) (by rfl) ((a.alloc _).drew) ⟨wr.heap.size,0,none⟩ 1 1 (vals [at0 c (t - 1)]) (by rfl) (by rfl) (World.news_of_block (cs:=#[.int .i64 (at0 c (t - 1))]) (t:=3) (fr:=(0,0)) (heap_alloc_new wr _)) (vals_oneCell _) (by omega) (by unfold maxLen;omega) (by omega) (by simp;omega) (wr.heap.size+1) (by simp) ?_;intro gg M w1 C d aA ah;have x:=Blk.grown d (Ne.symm S) ((Z.alloc _).drew);have ai:=x.cell;have aj:=x.frozen;have ak:=x.lt;have al:=(d.cell_far ⟨Y,J+(t - 1),none⟩ (by simp;omega) (Ne.symm P)).trans (cell_later (Kp.drew' (kp_alloc wr _)) ae)))
        all_goals go_wp2_with fail
        all_goals
         go_roundw
         case rel=>exact⟨t - 1,q+1,M,some ⟨gg,0,none⟩,by omega,by go_num,by omega,by have:=L.out;unfold Hid;omega,push_end H a d x C HT⟩
         case measure=>simp[intOf];omega
       ·have ag:(at0 c (t - 1) != 0)=true:=by simp[T]
        clear T
        go_wp2_with fail
        go_region_law
         ((refine step_append_lies _ (by rfl) _ _ _ (by rfl) (K.heap.size+1) 3 W _ 1 8 Tryz.underlying50 X E F G rfl (by omega) (.slice m q c2) q (vals (tops c n t)) (by rfl) ((a.alloc _).drew) ⟨wr.heap.size,0,none⟩ 1 1 (vals [at0 c (t - 1)]) (by rfl) (by rfl) (World.news_of_block (cs:=#[.int .i64 (at0 c (t - 1))]) (t:=3) (fr:=(0,0)) (heap_alloc_new wr _)) (vals_oneCell _) (by omega) (by unfold maxLen;omega) (by omega) (by simp;omega) (wr.heap.size+1) (by simp) ?_;intro gg M w1 C d aA ah;have x:=Blk.grown d (Ne.symm S) ((Z.alloc _).drew);have ai:=x.cell;have aj:=x.frozen;have ak:=x.lt;have al:=(d.cell_far ⟨Y,J+(t - 1),none⟩ (by simp;omega) (Ne.symm P)).trans (cell_later (Kp.drew' (kp_alloc wr _)) ae)))
        all_goals go_wp2_with fail
        all_goals
         go_roundw
         case rel=>exact⟨t - 1,q+1,M,some ⟨gg,0,none⟩,by omega,by go_num,by omega,by have:=L.out;unfold Hid;omega,push_end H a d x C HT⟩
         case measure=>simp[intOf];omega
      ·have T:at0 c (t - 1)=0:=D.out.2.1 _ (by omega);have ag:(at0 c (t - 1) != 0)=false:=by simp[T]
       have aB:q=0:=by have:=L.out;omega
       subst aB;have aC:=Hid.mk (tops_end c n t (by omega));have aD:=Hid.mk (tops_end c n (t - 1) (by omega));clear T
       go_wp2_with fail
       go_roundw
       case rel=>exact⟨t - 1,0,c2,m,by omega,by go_num,by omega,by unfold Hid;omega,Z,by rw[aD.out,← aC.out];exact a,H⟩
       case measure=>simp[intOf];omega
     ·have af:t=0:=by omega
      subst af;have U:=au.out.trans' H;have Q:=BR.keep H;have cR:=Q.cell;have fR:=Q.frozen;have aS:w.heap.size<K.heap.size:=lR;have N:=D.out.canon (B:=10000) (by decide) ar.out;have y:=Row.of_owns a;rw[tops_all] at y;have hX:Rb wr (.slice m q c2) (val 10000 low):=⟨_,y,N.1,by rw[N.2.1,HZ.out]⟩;have eR:=Q.elem;have eB:=Z.elem;clear a N y g z Z Q BR L
      cases neg
      ·go_wp2_with fail
       refine bodyPost_ret (v:=.agg #[.bool false,.slice m q c2]) (by simp[results,Tryz.results51,go_sem,cR]) rfl ?_;refine retI_end hX ?_ (Sf.set (t:=52) (Sf.set (t:=52) (Sf.set (Sf.refl _ _) eB (by decide)) ?_ (by decide)) ?_ (by decide)) ?_
       ·simp
       ·simp only[elemOf_setCell];exact eR
       ·simp only[elemOf_setCell];exact eR
       ·refine Below.setCell (Below.setCell (Below.setCell U ?_ _) (Nat.le_refl _) _) (Nat.le_refl _) _;show w.heap.size≤K.heap.size;omega
      ·go_wp2_with fail
       refine bodyPost_ret (v:=.agg #[.bool (decide (0<(q:Int))),.slice m q c2]) (by simp[results,Tryz.results51,go_sem,cR]) rfl ?_;refine retI_end hX ?_ (Sf.set (t:=52) (Sf.set (t:=52) (Sf.set (Sf.refl _ _) eB (by decide)) ?_ (by decide)) ?_ (by decide)) ?_
       ·simp
       ·simp only[elemOf_setCell];exact eR
       ·simp only[elemOf_setCell];exact eR
       ·refine Below.setCell (Below.setCell (Below.setCell U ?_ _) (Nat.le_refl _) _) (Nat.le_refl _) _;show w.heap.size≤K.heap.size;omega
   ·have aT:j<low.length+4:=by
     rcases Nat.lt_or_ge j (low.length+4) with h | h
     ·exact h
     ·exact absurd (madO_end HV.out HM.out h) hz
    have ap:(madO low j != 0)=true:=by simp[hz]
    have aI:0<madO low j:=by omega
    clear hz r O
    go_wp2_with (at_builtin;(refine wpList_append_one wr rfl _ _ 50 rfl (w.alloc (.cells #[.bool false,.slice none 0 0] 52)) 3 W (.int .i64 0) 8 Tryz.underlying50 X E F G rfl _ j (madC low j) (madO low j % 10000) rfl (by rw[World.size_alloc];exact a) f rfl (by unfold maxLen;omega) (by omega) ?_))
    intro v' w1 b A;clear a f
    go_wp2_with fail
    go_roundw
    case rel=>exact⟨j+1,by omega,by go_num,by rw[HO.out,HB.out,Int.add_zero],by rw[HS.out,HB.out,Int.add_zero];exact b,A⟩
    case measure=>simp[intOf];omega
end
section
open Go.RowKit
theorem push_end2 {i wr j:World} {f:Nat} {g:Option Addr} {e c2 l c:Nat} {b:Bool} {D t:List Int} {d:Int} {o:Obj} (u:KeepsBut f i wr) (q:f<i.heap.size)
  (n:wr.ownsRow i.heap.size 3 1 (.slice g e c2) e (vals D))
  (a:((wr.alloc o).drew).grownBy j (Value.slice g e c2).ownBlock) (r:Blk j f #[.bool b,.slice g e c2] 52)
  (h:j.ownsRow i.heap.size 3 1 (.slice (some ⟨l,0,none⟩) (e+1) c) (e+1) (vals D ++ vals [d])) (v:t=D ++ [d]) :
  Blk (j.setCell ⟨f,1,none⟩ (.slice (some ⟨l,0,none⟩) (e+1) c)) f #[.bool b,.slice (some ⟨l,0,none⟩) (e+1) c] 52 ∧
  (j.setCell ⟨f,1,none⟩ (.slice (some ⟨l,0,none⟩) (e+1) c)).ownsRow i.heap.size 3 1 (.slice (some ⟨l,0,none⟩) (e+1) c) (e+1) (vals t) ∧
  KeepsBut f i (j.setCell ⟨f,1,none⟩ (.slice (some ⟨l,0,none⟩) (e+1) c)):=by
 refine⟨r.set,?_,?_⟩
 ·rw[v,vals_append];exact ownsRow_setCell_below h q _
 ·refine KeepsBut.setCell ?_ _ _;have m:=KeepsBut.drew (u.alloc o);refine⟨a.os.trans m.os,a.tape.trans m.tape,a.output.trans m.output,Nat.le_trans m.size a.size,fun k p s=>?_⟩;refine(a.block k (Nat.lt_of_lt_of_le p m.size) (fun w=>?_)).trans (m.block k p s);have:=(n.lt k w.symm).1;omega
theorem pow4_small {n:Int} {k:Nat} (a:0≤n) (h:n≤9223372036854775807) (b:5≤k):n / 10000 ^ k=0:=by
 have c:=pow_mono (B:=10000) (by decide) b;have d:(10000:Int) ^ 5=100000000000000000000:=by decide
 exact Int.ediv_eq_zero_of_lt a (by omega)
theorem of_any (n:Int) (w:World) (S:0≤n) (hn:n≤9223372036854775807):Calls Tryz.prog 24 #[.int .i64 n] w (RetI w n):=by
 obtain⟨i0,G,H,I,J⟩:=info_parts Tryz.infoInt;have ak:¬ n<0:=by omega
 go_enter Tryz.func24,Tryz.ntmps24
 go_wp2_with fail
 go_loopw [0,4,5] (fun r s _ wr=>∃ k:Nat,k≤5∧r=.int .i64 (n / 10000 ^ k)∧wr.ownsRow (w.heap.size+1+1) 3 1 s k (vals (digTo 10000 n k))∧Kp ((w.alloc (.cells #[.bool false,.slice none 0 0] 52)).alloc (.cells #[.bool false,.slice none 0 0] 52)) wr∧Hid (k=0∨0<n / 10000 ^ (k - 1)))
  (fun r _ _ _=>(intOf r).toNat)
 case atStart=>exact⟨0,by omega,by simp,World.ownsRow_nil _ _ _ _,Below.refl _ _,Or.inl rfl⟩
 case round =>
  obtain⟨k,hk,rfl,a,o,u⟩:=hrel;have ar:0≤n / 10000 ^ k:=Int.ediv_nonneg S (Int.le_of_lt (pow_pos' (by decide) k));have au:n / 10000 ^ k≤n:=Int.ediv_le_self _ S;have HS:=Hid.mk (digTo_succ 10000 n k);have HD:=Hid.mk (div_pow_succ (B:=10000) (by decide) n k);have T:=Hid.mk (fun h=>pow4_small (k:=k) S hn h);have U:=Hid.mk (fun h=>digTo_done (B:=10000) (n:=n) (k:=k) (by decide) h u.out);generalize hq:n / 10000 ^ k=q at *;have HQ:=Hid.mk hq;clear hq;by_cases p:q=0
  ·have V:=Hid.mk (U.out p);subst p;have K:=Row.of_owns a;have X:=digTo_length 10000 n k;have Y:Blk wr (w.heap.size+1) #[.bool false,.slice none 0 0] 52:=(Blk.at (Blk.new _ _ _) (by simp)).keep o;have Z:Blk wr w.heap.size #[.bool false,.slice none 0 0] 52:=(Blk.alloc (Blk.new _ _ _) _).keep o;have aa:=Hid.mk (((kp_alloc w (.cells #[.bool false,.slice none 0 0] 52)).alloc' (.cells #[.bool false,.slice none 0 0] 52)).trans' o);generalize hcg:digTo 10000 n k=c at *;clear hcg a HS HD T U u o;obtain⟨av,al,A,z,L,C,ac,ad,g,b⟩:=id K;rw[X] at L C g b;subst L;clear ad;generalize wr=F at *;have lX:=Y.lt;have lR:=Z.lt
   go_wp2_with fail
   go_loopw [6] (fun i wq=>∃(t m c2:Nat) (d:Option Addr),t≤k∧i=.int .i64 ((t:Int) - 1)∧m+t≤k∧Hid (m=k - t)∧Blk wq (w.heap.size+1) #[.bool false,.slice d m c2] 52∧wq.ownsRow F.heap.size 3 1 (.slice d m c2) m (vals (tops c k t))∧KeepsBut (w.heap.size+1) F wq)
    (fun i _=>(intOf i+1).toNat)
   case atStart=>exact⟨k,0,0,none,by omega,by go_num,by omega,by unfold Hid;omega,Y,by rw[tops_end c k k (Nat.le_refl _)];exact World.ownsRow_nil _ _ _ _,KeepsBut.refl _ _⟩
   case round =>
    obtain⟨t,m,c2,d,ht,rfl,aw,M,hB,a,f⟩:=hrel;obtain⟨ax,ay,az⟩:=hB.all;by_cases S:0<t
    ·have ae:=(g (by omega)).1;have N:=(g (by omega)).2;subst ae;have af:A<F.heap.size:=elemOf_lt N;have ag:A≠w.heap.size+1:=fun e=>by have:=Y.elem;rw[← e,N] at this;exact absurd this (by decide)
     have ah:wr.cell? ⟨A,z+(t - 1),none⟩=some (.int .i64 (at0 c (t - 1))):=(World.cell?_of_block (w:=F) (f.block A af ag)).trans (b (t - 1) (by omega));have ai:(Value.slice d m c2).ownBlock≠some A:=fun h=>by have:=(a.lt A h).1;omega
     have O:(Value.slice d m c2).ownBlock≠some (w.heap.size+1):=fun h=>by have:=(a.lt _ h).1;omega
     have P:(0:Int)≤(t:Int) - 1:=by omega
     have aA:(t:Int) - 1<(k:Int):=by omega
     have aB:F.heap.size≤wr.heap.size:=f.size;have HT:=Hid.mk (tops_step c k (t - 1) (by omega) (by omega));rw[show t - 1+1=t by omega] at HT;clear b g
     go_wp2_with fail
     go_region_law
      ((refine step_append_lies _ (by rfl) _ _ _ (by rfl) F.heap.size 3 i0 _ 1 8 Tryz.underlying50 G H I J rfl (by omega) (.slice d m c2) m (vals (tops c k t)) (by rfl) ((a.alloc _).drew) ⟨wr.heap.size,0,none⟩ 1 1 (vals [at0 c (t - 1)]) (by rfl) (by rfl) (World.news_of_block (cs:=#[.int .i64 (at0 c (t - 1))]) (t:=3) (fr:=(0,0)) (heap_alloc_new wr _)) (vals_oneCell _) (by omega) (by unfold maxLen;omega) (by omega) (by simp;omega) (wr.heap.size+1) (by simp) ?_;intro gg Q w1 D j aC am;have y:=Blk.grown j (Ne.symm O) ((hB.alloc _).drew);have an:=y.cell;have ao:=y.frozen;have ap:=y.lt;have aq:=(j.cell_far ⟨A,z+(t - 1),none⟩ (by simp;omega) (Ne.symm ai)).trans (cell_later (Kp.drew' (kp_alloc wr _)) ah)))
     all_goals go_wp2_with fail
     all_goals
      go_roundw
      case rel=>exact⟨t - 1,m+1,Q,some ⟨gg,0,none⟩,by omega,by go_num,by omega,by have:=M.out;unfold Hid;omega,push_end2 f lX a j y D HT⟩
      case measure=>simp[intOf];omega
    ·have P:t=0:=by omega
     subst P;have x:Blk wr w.heap.size #[.bool false,.slice none 0 0] 52:=by
      unfold Blk;rw[f.block w.heap.size lR (by omega)];exact Z
     have cR:=x.cell;have fR:=x.frozen;have l:=Row.of_owns a;rw[tops_all,List.take_of_length_le (by omega)] at l;have hX:Rb wr (.slice d m c2) n:=⟨_,l,V.out⟩;have eR:=x.elem;have aD:=x.lt;have aj:Kp w wr:=by
      have p:=aa.out;refine⟨f.os.trans p.os,f.tape.trans p.tape,f.output.trans p.output,Nat.le_trans p.size f.size,fun i G=>?_⟩;exact(f.block i (Nat.lt_of_lt_of_le G p.size) (by omega)).trans (p.block i G)
     clear a l b g hB x Z M
     go_wp2_with fail
     refine bodyPost_ret (v:=.agg #[.bool false,.slice d m c2]) (by simp[results,Tryz.results24,go_sem,cR]) rfl ?_;have hR:=retI_end (neg:=false) (W:=(wr.setCell ⟨w.heap.size,0,none⟩ (.bool false)).setCell ⟨w.heap.size,1,none⟩ (.slice d m c2)) hX rfl (Sf.set (t:=52) (Sf.set (Sf.refl _ _) eR (by decide)) (by simp only[elemOf_setCell];exact eR) (by decide)) (Below.setCell (Below.setCell aj (Nat.le_refl _) _) (Nat.le_refl _) _)
     exact hR
  ·have hb:(q != 0)=true:=by simp[p]
   have aE:k<5:=by
    rcases Nat.lt_or_ge k 5 with h | h
    ·exact h
    ·exact absurd (T.out h) p
   have Hq:=Hid.mk p;clear p U T
   go_wp2_with (at_builtin;(refine wpList_append_one wr rfl _ _ 50 rfl ((w.alloc (.cells #[.bool false,.slice none 0 0] 52)).alloc (.cells #[.bool false,.slice none 0 0] 52)) 3 i0 (.int .i64 0) 8 Tryz.underlying50 G H I J rfl _ k (digTo 10000 n k) (q % 10000) rfl (by rw[World.size_alloc,World.size_alloc];exact a) o rfl (by unfold maxLen;omega) (by omega) ?_))
   intro v' w1 E R;clear a o
   go_wp2_with fail
   go_roundw
   case rel=>exact⟨k+1,by omega,by rw[HD.out],by rw[HS.out];exact E,R,Or.inr (by rw[show k+1 - 1=k by omega,HQ.out];have:=Hq.out;omega)⟩
   case measure=>simp[intOf];have:=Hq.out;omega
end
section
open Go.RowKit
theorem IN.keep {w W:World} {v:Value} {z:Int} (a:Kp w W) (h:IN w v z):IN W v z:=h.soft (Sf.keep a)
theorem Rb.keep {w W:World} {v:Value} {z:Int} (a:Kp w W) (h:Rb w v z):Rb W v z:=h.soft (Sf.keep a)
theorem IN.shape' {w:World} {v:Value} {z:Int} (h:IN w v z):∃ b a n c,v=.agg #[.bool b,.slice a n c]:=by
 obtain⟨a,n,c,d,_⟩:=h;exact⟨_,a,n,c,d⟩
theorem retI_mk {w a W:World} {z:Int} {v:Value} (h:IN a v z) (b:Sf 3 a W) (c:Kp w W):RetI w z (.returned v) W:=⟨v,rfl,h.soft b,c⟩
theorem in_zero (w:World):IN w (.agg #[.bool false,.slice none 0 0]) 0:=⟨none,0,0,rfl,[],Row.nil _ _,Canon.nil (by decide),rfl⟩
theorem rsign_any (z:Int) (v:Value) (w:World) (d:IN w v z):Calls Tryz.prog 81 #[v] w (RetV w (.int .i64 z.sign)):=by
 obtain⟨g,n,c,rfl,e⟩:=d;obtain⟨a,f⟩:=e.zero_len;rcases Int.lt_trichotomy z 0 with h | h | h
 ·have b:0<n:=by omega
  rw[decide_eq_true h,Int.sign_eq_neg_one_of_neg h];clear a
  go_enter Tryz.func81,Tryz.ntmps81
  go_wp2
  go_ret
  exact⟨rfl,kp_alloc _ _⟩
 ·have b:n=0:=by omega
  rw[decide_eq_false (by omega),Int.sign_eq_zero_iff_zero.2 h];subst b;clear a h
  go_enter Tryz.func81,Tryz.ntmps81
  go_wp2
  go_ret
  exact⟨rfl,kp_alloc _ _⟩
 ·have b:0<n:=by omega
  rw[decide_eq_false (by omega),Int.sign_eq_one_of_pos h];clear a h
  go_enter Tryz.func81,Tryz.ntmps81
  go_wp2
  go_ret
  exact⟨rfl,kp_alloc _ _⟩
theorem size_any (z:Int) (v:Value) (w:World) (d:IN w v z):Calls Tryz.prog 118 #[v] w (RetI w (z.natAbs:Int)):=by
 obtain⟨a,n,c,rfl,e⟩:=d;generalize decide (z<0)=b
 go_enter Tryz.func118,Tryz.ntmps118
 go_wp2
 refine bodyPost_ret (v:=.agg #[.bool false,.slice a n c]) (by simp[results,Tryz.results118,go_sem]) rfl ?_;exact⟨_,rfl,⟨a,n,c,by simp,by simpa using e.keep ((kp_alloc w _).alloc' _)⟩,(kp_alloc w _).alloc' _⟩
theorem less_any (z:Int) (v:Value) (w:World) (e:IN w v z):Calls Tryz.prog 60 #[v] w (RetI w (-z)):=by
 obtain⟨b,n,c,rfl,d⟩:=e;obtain⟨a,f⟩:=d.zero_len;by_cases h:z<0
 ·rw[decide_eq_true h]
  go_enter Tryz.func60,Tryz.ntmps60
  go_wp2
  refine bodyPost_ret (v:=.agg #[.bool false,.slice b n c]) (by simp[results,Tryz.results60,go_sem]) rfl ?_;exact⟨_,rfl,⟨b,n,c,by simp;omega,by rw[Int.natAbs_neg];exact d.keep ((kp_alloc w _).alloc' _)⟩,(kp_alloc w _).alloc' _⟩
 ·rw[decide_eq_false h];have g:=Hid.mk a;clear a
  go_enter Tryz.func60,Tryz.ntmps60
  go_wp2
  refine bodyPost_ret (v:=.agg #[.bool (decide (0<(n:Int))),.slice b n c]) (by simp[results,Tryz.results60,go_sem]) rfl ?_;exact⟨_,rfl,⟨b,n,c,by have:=g.out;simp;omega,by rw[Int.natAbs_neg];exact d.keep ((kp_alloc w _).alloc' _)⟩,(kp_alloc w _).alloc' _⟩
def sumTo (way:Int) (l m:List Int):Nat→List Int
 | 0=>[]
 | k+1=>sumTo way l m k ++ [at0 l k+way*at0 m k]
theorem sumTo_succ (way:Int) (l m:List Int) (k:Nat):sumTo way l m (k+1)=sumTo way l m k ++ [at0 l k+way*at0 m k]:=rfl
theorem sumTo_length (way:Int) (l m:List Int):∀ k,(sumTo way l m k).length=k
 | 0=>rfl
 | k+1=>by rw[sumTo_succ,List.length_append,sumTo_length way l m k];rfl
theorem sumTo_val (B way:Int) (l m:List Int):∀ k,val B (sumTo way l m k)=val B (l.take k)+way*val B (m.take k)
 | 0=>by simp[sumTo,val]
 | k+1=>by
  rw[sumTo_succ,val_snoc,sumTo_length,sumTo_val B way l m k,val_take_succ,val_take_succ]
  grind
theorem sumTo_at (way:Int) (l m:List Int):∀ k i,at0 (sumTo way l m k) i=if i<k then at0 l i+way*at0 m i else 0
 | 0,i=>by simp[sumTo,at0_nil]
 | k+1,i=>by
  rw[sumTo_succ];rcases Nat.lt_or_ge i k with h | h
  ·rw[at0_append_lt (by rw[sumTo_length];exact h),sumTo_at way l m k i,if_pos h,if_pos (by omega)]
  ·rw[at0_append_ge (by rw[sumTo_length];exact h),sumTo_length]
   rcases Nat.lt_or_ge k i with a | a
   ·rw[if_neg (by omega),show i - k=(i - k - 1)+1 by omega,at0_cons_succ,at0_nil]
   ·have:i=k:=by omega
    subst this;rw[if_pos (by omega),Nat.sub_self,at0_cons_zero]
theorem sumTo_mid {way:Int} (a:way=1∨way = -1) {l m:List Int} (b:Dig 10000 l) (c:Dig 10000 m) (k:Nat):Mid (sumTo way l m k):=by
 intro i;rw[sumTo_at];have d:=b i;have e:=c i
 split
 ·rcases a with rfl | rfl <;> omega
 ·omega
end
end Go.Proofs.YtjahbjjekednfaaGreatDoor
