import Derived.Test.YtjahbjjekednfaaGreatDoorSoft
import Derived.Deep.RegionHeld3
namespace Go.Proofs.YtjahbjjekednfaaGreatDoor
set_option maxHeartbeats 3200000
set_option maxRecDepth 100000
section
open Go.RowKit
structure Pl where
 k:Int
 r:Int
 d:Int
def isDig (c:Int):Bool:=decide (48≤c) && decide (c≤57)
def beginF (a:Pl) (c:Int):Pl × Bool :=
 if c=114 then (⟨1,6,a.d⟩,true) else if c=45 then (a,true) else if c=40 then (⟨0,18,a.d+1⟩,decide (a.d<8)) else (a,false)
def goOnP (a:Pl) (c:Int):Pl × Bool :=
 if c=43∨c=45∨c=42∨c=47 then (⟨0,18,a.d⟩,true) else if c=41 then (⟨2,0,a.d - 1⟩,decide (0<a.d)) else (a,false)
def plStep (a:Pl) (c:Int):Pl × Bool :=
 if isDig c=true then (⟨2,a.r - 1,a.d⟩,decide (0<a.r)) else if a.k=0 then beginF a c else if a.k=2 then goOnP a c else (a,false)
def RetP (w:World) (x:Pl × Bool) (e:Ending) (a:World):Prop:=e=.returned (.tuple #[.agg #[.int .i64 x.1.k,.int .i64 x.1.r,.int .i64 x.1.d],.bool x.2])∧Kp w a
def PlOk (a:Pl):Prop:=-1000≤a.r∧a.r≤1000∧-1000≤a.d∧a.d≤1000
theorem isDigit_any (c:Int) (w:World):Calls Tryz.prog 82 #[.int .u8 c] w fun e b=>e=.returned (.bool (isDig c))∧b=w:=by
 by_cases h:48≤c
 ·have a:Hid (isDig c=decide (c≤57)):=by unfold Hid isDig;simp[h]
  go_enter Tryz.func82,Tryz.ntmps82
  go_wp2
  go_ret
  exact⟨by rw[a.out];rfl,rfl⟩
 ·have a:Hid (isDig c=false):=by unfold Hid isDig;simp[h]
  go_enter Tryz.func82,Tryz.ntmps82
  go_wp2
  go_ret
  exact⟨by rw[a.out];rfl,rfl⟩
theorem beginFactor_any (a:Pl) (c:Int) (w:World) (ha:PlOk a):Calls Tryz.prog 83 #[.agg #[.int .i64 a.k,.int .i64 a.r,.int .i64 a.d],.int .u8 c] w (RetP w (beginF a c)):=by
 obtain⟨h,i,j,l⟩:=ha;obtain⟨k,r,d⟩:=a;simp only at h i j l;by_cases b:c=114
 ·have e:Hid (beginF ⟨k,r,d⟩ c=(⟨1,6,d⟩,true)):=by unfold Hid beginF;simp[b]
  have m:(c == 114)=true:=by simp[b]
  clear b
  go_enter Tryz.func83,Tryz.ntmps83
  go_wp2
  refine bodyPost_ret (v:=.tuple #[.agg #[.int .i64 1,.int .i64 6,.int .i64 d],.bool true]) (by simp[results,Tryz.results83,go_sem]) rfl ?_;rw[e.out];exact⟨rfl,(kp_alloc w _).alloc' _⟩
 ·have m:(c == 114)=false:=by simp[b]
  by_cases f:c=45
  ·have e:Hid (beginF ⟨k,r,d⟩ c=(⟨k,r,d⟩,true)):=by unfold Hid beginF;simp[f]
   have n:(c == 45)=true:=by simp[f]
   clear b f
   go_enter Tryz.func83,Tryz.ntmps83
   go_wp2
   refine bodyPost_ret (v:=.tuple #[.agg #[.int .i64 k,.int .i64 r,.int .i64 d],.bool true]) (by simp[results,Tryz.results83,go_sem]) rfl ?_;rw[e.out];exact⟨rfl,(kp_alloc w _).alloc' _⟩
  ·have n:(c == 45)=false:=by simp[f]
   by_cases g:c=40
   ·have e:Hid (beginF ⟨k,r,d⟩ c=(⟨0,18,d+1⟩,decide (d<8))):=by unfold Hid beginF;simp[g]
    have o:(c == 40)=true:=by simp[g]
    clear b f g
    go_enter Tryz.func83,Tryz.ntmps83
    go_wp2
    go_region
    all_goals go_wp2
    all_goals
     refine bodyPost_ret (v:=.tuple #[.agg #[.int .i64 0,.int .i64 18,.int .i64 (d+1)],.bool (decide (d<8))]) (by simp[results,Tryz.results83,go_sem]) rfl ?_;rw[e.out];exact⟨rfl,((kp_alloc w _).alloc' _).drew⟩
   ·have e:Hid (beginF ⟨k,r,d⟩ c=(⟨k,r,d⟩,false)):=by unfold Hid beginF;simp[b,f,g]
    have o:(c == 40)=false:=by simp[g]
    clear b f g
    go_enter Tryz.func83,Tryz.ntmps83
    go_wp2
    refine bodyPost_ret (v:=.tuple #[.agg #[.int .i64 k,.int .i64 r,.int .i64 d],.bool false]) (by simp[results,Tryz.results83,go_sem]) rfl ?_;rw[e.out];exact⟨rfl,(kp_alloc w _).alloc' _⟩
end
section
open Go.RowKit
theorem goOn_any (a:Pl) (c:Int) (w:World) (ha:PlOk a):Calls Tryz.prog 84 #[.agg #[.int .i64 a.k,.int .i64 a.r,.int .i64 a.d],.int .u8 c] w (RetP w (goOnP a c)):=by
 obtain⟨j,l,m,n⟩:=ha;obtain⟨k,r,d⟩:=a;simp only at j l m n;by_cases e:c=43
 ·have b:Hid (goOnP ⟨k,r,d⟩ c=(⟨0,18,d⟩,true)):=by unfold Hid goOnP;simp[e]
  have o:(c == 43)=true:=by simp[e]
  clear e
  go_enter Tryz.func84,Tryz.ntmps84
  go_wp2
  refine bodyPost_ret (v:=.tuple #[.agg #[.int .i64 0,.int .i64 18,.int .i64 d],.bool true]) (by simp[results,Tryz.results84,go_sem]) rfl ?_;rw[b.out];exact⟨rfl,(kp_alloc w _).alloc' _⟩
 ·have o:(c == 43)=false:=by simp[e]
  by_cases f:c=45
  ·have b:Hid (goOnP ⟨k,r,d⟩ c=(⟨0,18,d⟩,true)):=by unfold Hid goOnP;simp[f]
   have p:(c == 45)=true:=by simp[f]
   clear e f
   go_enter Tryz.func84,Tryz.ntmps84
   go_wp2
   refine bodyPost_ret (v:=.tuple #[.agg #[.int .i64 0,.int .i64 18,.int .i64 d],.bool true]) (by simp[results,Tryz.results84,go_sem]) rfl ?_;rw[b.out];exact⟨rfl,(kp_alloc w _).alloc' _⟩
  ·have p:(c == 45)=false:=by simp[f]
   by_cases g:c=42
   ·have b:Hid (goOnP ⟨k,r,d⟩ c=(⟨0,18,d⟩,true)):=by unfold Hid goOnP;simp[g]
    have q:(c == 42)=true:=by simp[g]
    clear e f g
    go_enter Tryz.func84,Tryz.ntmps84
    go_wp2
    refine bodyPost_ret (v:=.tuple #[.agg #[.int .i64 0,.int .i64 18,.int .i64 d],.bool true]) (by simp[results,Tryz.results84,go_sem]) rfl ?_;rw[b.out];exact⟨rfl,(kp_alloc w _).alloc' _⟩
   ·have q:(c == 42)=false:=by simp[g]
    by_cases h:c=47
    ·have b:Hid (goOnP ⟨k,r,d⟩ c=(⟨0,18,d⟩,true)):=by unfold Hid goOnP;simp[h]
     have s:(c == 47)=true:=by simp[h]
     clear e f g h
     go_enter Tryz.func84,Tryz.ntmps84
     go_wp2
     refine bodyPost_ret (v:=.tuple #[.agg #[.int .i64 0,.int .i64 18,.int .i64 d],.bool true]) (by simp[results,Tryz.results84,go_sem]) rfl ?_;rw[b.out];exact⟨rfl,(kp_alloc w _).alloc' _⟩
    ·have s:(c == 47)=false:=by simp[h]
     by_cases i:c=41
     ·have b:Hid (goOnP ⟨k,r,d⟩ c=(⟨2,0,d - 1⟩,decide (0<d))):=by unfold Hid goOnP;simp[i]
      have t:(c == 41)=true:=by simp[i]
      clear e f g h i
      go_enter Tryz.func84,Tryz.ntmps84
      go_wp2
      go_region
      all_goals go_wp2
      all_goals
       refine bodyPost_ret (v:=.tuple #[.agg #[.int .i64 2,.int .i64 0,.int .i64 (d - 1)],.bool (decide (0<d))]) (by simp[results,Tryz.results84,go_sem]) rfl ?_;rw[b.out];exact⟨rfl,((kp_alloc w _).alloc' _).drew⟩
     ·have b:Hid (goOnP ⟨k,r,d⟩ c=(⟨k,r,d⟩,false)):=by unfold Hid goOnP;simp[e,f,g,h,i]
      have t:(c == 41)=false:=by simp[i]
      clear e f g h i
      go_enter Tryz.func84,Tryz.ntmps84
      go_wp2
      refine bodyPost_ret (v:=.tuple #[.agg #[.int .i64 k,.int .i64 r,.int .i64 d],.bool false]) (by simp[results,Tryz.results84,go_sem]) rfl ?_;rw[b.out];exact⟨rfl,(kp_alloc w _).alloc' _⟩
theorem step_any (a:Pl) (c:Int) (w:World) (ha:PlOk a):Calls Tryz.prog 61 #[.agg #[.int .i64 a.k,.int .i64 a.r,.int .i64 a.d],.int .u8 c] w (RetP w (plStep a c)):=by
 have h:=ha;obtain⟨p,q,s,t⟩:=ha;obtain⟨k,r,d⟩:=a;simp only at p q s t;by_cases f:isDig c=true
 ·have m:Hid (plStep ⟨k,r,d⟩ c=(⟨2,r - 1,d⟩,decide (0<r))):=by unfold Hid plStep;rw[if_pos f]
  clear h
  go_enter Tryz.func61,Tryz.ntmps61
  go_wp2_with fail
  refine(isDigit_any c _).mono ?_;rintro e i ⟨rfl,rfl⟩;rw[f];clear f
  go_wp2_with fail
  go_region
  all_goals go_wp2_with fail
  all_goals
   refine bodyPost_ret (v:=.tuple #[.agg #[.int .i64 2,.int .i64 (r - 1),.int .i64 d],.bool (decide (0<r))]) (by simp[results,Tryz.results61,go_sem]) rfl ?_;rw[m.out];exact⟨rfl,((kp_alloc w _).alloc' _).drew⟩
 ·rw[Bool.not_eq_true] at f;by_cases l:k=0
  ·have m:Hid (plStep ⟨k,r,d⟩ c=beginF ⟨k,r,d⟩ c):=by unfold Hid plStep;rw[if_neg (by simp[f]),if_pos l]
   have y:(k == 0)=true:=by simp[l]
   clear l
   go_enter Tryz.func61,Tryz.ntmps61
   go_wp2_with fail
   refine(isDigit_any c _).mono ?_;rintro e i ⟨rfl,j⟩;have n:Kp w i:=by rw[j];exact(kp_alloc w _).alloc' _
   have u:Blk i (w.heap.size+1) #[.int .i64 0,.int .i64 0,.int .i64 0] 107:=by rw[j];exact Blk.at (Blk.new _ _ _) (by simp)
   have x:Blk i w.heap.size #[.int .i64 k,.int .i64 r,.int .i64 d] 107:=by rw[j];exact Blk.alloc (Blk.new _ _ _) _
   rw[f];have z:=x.cell;clear f j
   go_wp2_with fail
   refine(beginFactor_any ⟨k,r,d⟩ c _ h).mono ?_;rintro e A ⟨rfl,g⟩;generalize hQ:beginF ⟨k,r,d⟩ c=Q at *;have b:=u.keep g;have c1:=b.cell;have f1:=b.frozen;have B:=b.lt
   go_wp2_with fail
   refine bodyPost_ret (v:=.tuple #[.agg #[.int .i64 Q.1.k,.int .i64 Q.1.r,.int .i64 Q.1.d],.bool Q.2]) (by simp[results,Tryz.results61,go_sem,c1]) rfl ?_;rw[m.out];exact⟨rfl,Below.setCell (Below.setCell (Below.setCell (n.trans' g) (Nat.le_succ _) _) (Nat.le_succ _) _) (Nat.le_succ _) _⟩
  ·have y:(k == 0)=false:=by simp[l]
   by_cases o:k=2
   ·have m:Hid (plStep ⟨k,r,d⟩ c=goOnP ⟨k,r,d⟩ c):=by unfold Hid plStep;rw[if_neg (by simp[f]),if_neg l,if_pos o]
    have C:(k == 2)=true:=by simp[o]
    clear l o
    go_enter Tryz.func61,Tryz.ntmps61
    go_wp2_with fail
    refine(isDigit_any c _).mono ?_;rintro e i ⟨rfl,j⟩;have n:Kp w i:=by rw[j];exact(kp_alloc w _).alloc' _
    have u:Blk i (w.heap.size+1) #[.int .i64 0,.int .i64 0,.int .i64 0] 107:=by rw[j];exact Blk.at (Blk.new _ _ _) (by simp)
    have x:Blk i w.heap.size #[.int .i64 k,.int .i64 r,.int .i64 d] 107:=by rw[j];exact Blk.alloc (Blk.new _ _ _) _
    rw[f];have z:=x.cell;clear f j
    go_wp2_with fail
    refine(goOn_any ⟨k,r,d⟩ c _ h).mono ?_;rintro e A ⟨rfl,g⟩;generalize hQ:goOnP ⟨k,r,d⟩ c=Q at *;have b:=u.keep g;have c1:=b.cell;have f1:=b.frozen;have B:=b.lt
    go_wp2_with fail
    refine bodyPost_ret (v:=.tuple #[.agg #[.int .i64 Q.1.k,.int .i64 Q.1.r,.int .i64 Q.1.d],.bool Q.2]) (by simp[results,Tryz.results61,go_sem,c1]) rfl ?_;rw[m.out];exact⟨rfl,Below.setCell (Below.setCell (Below.setCell (n.trans' g) (Nat.le_succ _) _) (Nat.le_succ _) _) (Nat.le_succ _) _⟩
   ·have m:Hid (plStep ⟨k,r,d⟩ c=(⟨k,r,d⟩,false)):=by unfold Hid plStep;rw[if_neg (by simp[f]),if_neg l,if_neg o]
    have C:(k == 2)=false:=by simp[o]
    clear l o h
    go_enter Tryz.func61,Tryz.ntmps61
    go_wp2_with fail
    refine(isDigit_any c _).mono ?_;rintro e i ⟨rfl,rfl⟩;rw[f];clear f
    go_wp2_with fail
    refine bodyPost_ret (v:=.tuple #[.agg #[.int .i64 k,.int .i64 r,.int .i64 d],.bool false]) (by simp[results,Tryz.results61,go_sem]) rfl ?_;rw[m.out];exact⟨rfl,(kp_alloc w _).alloc' _⟩
end
section
open Go.RowKit
def byteAt (s:ByteArray) (i:Nat):Int:=((s.data.toList.getD i 0).toNat:Int)
theorem byteAt_eq (s:ByteArray) (i:Nat) (h:i<s.size):((s[i]'h).toNat:Int)=byteAt s i:=by
 unfold byteAt;have a:i<s.data.toList.length:=by simpa using h
 rw[List.getD_eq_getElem?_getD,List.getElem?_eq_getElem a]
 rfl
def plAt (s:ByteArray):Nat→Pl
 | 0=>⟨0,18,0⟩
 | i+1=>(plStep (plAt s i) (byteAt s i)).1
def plGo (s:ByteArray) (i:Nat):Bool:=(plStep (plAt s i) (byteAt s i)).2
def plFault (s:ByteArray) (i:Nat):Nat→Int
 | 0=>if (plAt s i).k≠2∨0<(plAt s i).d then i else -1
 | m+1=>if plGo s i=true then plFault s (i+1) m else i
def PlGood (a:Pl):Prop:=0≤a.r∧a.r≤18∧0≤a.d∧a.d≤8
theorem PlGood.ok {a:Pl} (h:PlGood a):PlOk a:=by
 obtain⟨b,c,d,e⟩:=h;exact⟨by omega,by omega,by omega,by omega⟩
theorem plStep_good {a:Pl} {c:Int} (h:PlGood a) (b:(plStep a c).2=true):PlGood (plStep a c).1:=by
 obtain⟨k,l,d,f⟩:=h;unfold plStep at *
 split at b
 ·rename_i g
  rw[if_pos g];simp only[decide_eq_true_eq] at b;exact⟨by simp only;omega,by simp only;omega,d,f⟩
 ·rename_i g
  rw[if_neg g]
  split at b
  ·rename_i i
   rw[if_pos i];unfold beginF at *
   split at b
   ·rename_i e;rw[if_pos e];exact⟨by simp,by simp,d,f⟩
   ·rename_i e;rw[if_neg e]
    split at b
    ·rename_i e;rw[if_pos e];exact⟨k,l,d,f⟩
    ·rename_i e;rw[if_neg e]
     split at b
     ·rename_i e;rw[if_pos e]
      simp only[decide_eq_true_eq] at b;exact⟨by simp,by simp,by simp only;omega,by simp only;omega⟩
     ·exact absurd b (by simp)
  ·rename_i i
   rw[if_neg i]
   split at b
   ·rename_i j
    rw[if_pos j];unfold goOnP at *
    split at b
    ·rename_i e;rw[if_pos e];exact⟨by simp,by simp,d,f⟩
    ·rename_i e;rw[if_neg e]
     split at b
     ·rename_i e;rw[if_pos e]
      simp only[decide_eq_true_eq] at b;exact⟨by simp,by simp,by simp only;omega,by simp only;omega⟩
     ·exact absurd b (by simp)
   ·exact absurd b (by simp)
theorem faultOf_any (s:ByteArray) (w:World) (R:s.size≤1000):Calls Tryz.prog 31 #[.string s] w (RetV w (.int .i64 (plFault s 0 s.size))):=by
 go_enter Tryz.func31,Tryz.ntmps31
 go_wp2_with fail
 go_loopw [4,5,6] (fun i _ _ wr=>∃ j:Nat,j≤s.size∧i=.int .i64 j∧Blk wr w.heap.size #[.int .i64 (plAt s j).k,.int .i64 (plAt s j).r,.int .i64 (plAt s j).d] 107∧Kp w wr∧Hid (PlGood (plAt s j)∧plFault s 0 s.size=plFault s j (s.size - j)))
  (fun i _ _ _=>s.size - (intOf i).toNat)
 case atStart=>exact⟨0,by omega,rfl,Blk.new _ _ _,kp_alloc _ _,⟨by simp[plAt],by simp[plAt],by simp[plAt],by simp[plAt]⟩,rfl⟩
 case round =>
  obtain⟨j,S,rfl,z,c,f⟩:=hrel;obtain⟨I,J,K⟩:=z.all;have A:=Hid.mk f.out.1.ok;by_cases L:j<s.size
  ·have T:=byteAt_eq s j L;have M:(0:Int)≤(j:Int):=by omega
   have N:(j:Int)<(s.size:Int):=by omega
   have C:Hid (plFault s j (s.size - j)=if plGo s j=true then plFault s (j+1) (s.size - (j+1)) else (j:Int)):=by
    unfold Hid;rw[show s.size - j=(s.size - (j+1))+1 by omega];rfl
   by_cases t:plGo s j=true
   ·have O:(plStep (plAt s j) (byteAt s j)).2=true:=t;have u:Hid (PlGood (plAt s (j+1))∧plFault s 0 s.size=plFault s (j+1) (s.size - (j+1))):=⟨plStep_good f.out.1 t,by rw[f.out.2,C.out,if_pos t]⟩;clear t f C
    go_wp2_with fail
    go_region_held3 (fun v=>v.cell? ⟨w.heap.size,0,none⟩=some (.int .i64 (plAt s j).k)∧v.cell? ⟨w.heap.size,1,none⟩=some (.int .i64 (plAt s j).r)∧v.cell? ⟨w.heap.size,2,none⟩=some (.int .i64 (plAt s j).d))
     (first | (go_keep;done) | (simp[m];done) | (exact⟨Blk.cell (Blk.other (Blk.other (Blk.other b (by omega)) (by omega)) (by omega)) 0,Blk.cell (Blk.other (Blk.other (Blk.other b (by omega)) (by omega)) (by omega)) 1,Blk.cell (Blk.other (Blk.other (Blk.other b (by omega)) (by omega)) (by omega)) 2⟩))
     ((first
      | (go_at_call 61;refine(step_any (plAt s j) (byteAt s j) wr.drew A.out).mono ?_;rintro e D ⟨rfl,g⟩;have b:=Blk.keep g (Blk.drew z);have m:=b.cell;have n:=b.frozen;have o:=b.lt;have l:=(Kp.drew' c).trans' g)
      | (go_at_call 61;refine(step_any (plAt s j) (byteAt s j) _ A.out).mono ?_;rintro e D ⟨rfl,g⟩;have b:=Blk.keep g (Blk.drew (Blk.alloc z _));have m:=b.cell;have n:=b.frozen;have o:=b.lt;have x:=Blk.keep g (Blk.drew (Blk.new wr _ _));have E:=x.cell;have F:=x.frozen;have G:=x.lt;have l:=(Kp.drew' (Kp.alloc' c _)).trans' g)))
    all_goals go_wp2_with fail
    ·go_roundw
     case rel=>exact⟨j+1,by omega,by go_num,Blk.alloc (Blk.set (Blk.set (Blk.set b))) _,Kp.alloc' (Below.setCell (Below.setCell (Below.setCell l (Nat.le_refl _) _) (Nat.le_refl _) _) (Nat.le_refl _) _) _,u⟩
     case measure=>simp[intOf];omega
    ·go_roundw
     case rel=>exact⟨j+1,by omega,by go_num,Blk.set (Blk.set (Blk.set (Blk.other (Blk.other (Blk.other b (by omega)) (by omega)) (by omega)))),Below.setCell (Below.setCell (Below.setCell (Below.setCell (Below.setCell (Below.setCell l c.size _) c.size _) c.size _) (Nat.le_refl _) _) (Nat.le_refl _) _) (Nat.le_refl _) _,u⟩
     case measure=>simp[intOf];omega
    ·go_roundw
     case rel=>exact⟨j+1,by omega,by go_num,Blk.set (Blk.set (Blk.set (Blk.other (Blk.other (Blk.other b (by omega)) (by omega)) (by omega)))),Below.setCell (Below.setCell (Below.setCell (Below.setCell (Below.setCell (Below.setCell l c.size _) c.size _) c.size _) (Nat.le_refl _) _) (Nat.le_refl _) _) (Nat.le_refl _) _,u⟩
     case measure=>simp[intOf];omega
   ·have B:plGo s j=false:=by simpa using t
    have O:(plStep (plAt s j) (byteAt s j)).2=false:=B;have q:Hid (plFault s 0 s.size=(j:Int)):=by unfold Hid;rw[f.out.2,C.out,if_neg t]
    clear t B f C
    go_wp2_with fail
    go_region_held3 (fun v=>v.cell? ⟨w.heap.size,0,none⟩=some (.int .i64 (plAt s j).k)∧v.cell? ⟨w.heap.size,1,none⟩=some (.int .i64 (plAt s j).r)∧v.cell? ⟨w.heap.size,2,none⟩=some (.int .i64 (plAt s j).d))
     (first | (go_keep;done) | (simp[m];done) | (exact⟨Blk.cell (Blk.other (Blk.other (Blk.other b (by omega)) (by omega)) (by omega)) 0,Blk.cell (Blk.other (Blk.other (Blk.other b (by omega)) (by omega)) (by omega)) 1,Blk.cell (Blk.other (Blk.other (Blk.other b (by omega)) (by omega)) (by omega)) 2⟩))
     ((first
      | (go_at_call 61;refine(step_any (plAt s j) (byteAt s j) wr.drew A.out).mono ?_;rintro e D ⟨rfl,g⟩;have b:=Blk.keep g (Blk.drew z);have m:=b.cell;have n:=b.frozen;have o:=b.lt;have l:=(Kp.drew' c).trans' g)
      | (go_at_call 61;refine(step_any (plAt s j) (byteAt s j) _ A.out).mono ?_;rintro e D ⟨rfl,g⟩;have b:=Blk.keep g (Blk.drew (Blk.alloc z _));have m:=b.cell;have n:=b.frozen;have o:=b.lt;have x:=Blk.keep g (Blk.drew (Blk.new wr _ _));have E:=x.cell;have F:=x.frozen;have G:=x.lt;have l:=(Kp.drew' (Kp.alloc' c _)).trans' g)))
    all_goals go_wp2_with fail
    ·go_ret
     exact⟨by rw[q.out];rfl,Kp.alloc' l _⟩
    ·go_ret
     exact⟨by rw[q.out];rfl,Below.setCell (Below.setCell (Below.setCell l c.size _) c.size _) c.size _⟩
    ·go_ret
     exact⟨by rw[q.out];rfl,Below.setCell (Below.setCell (Below.setCell l c.size _) c.size _) c.size _⟩
  ·have H:j=s.size:=by omega
   subst H;have q:Hid (plFault s 0 s.size=if (plAt s s.size).k≠2∨0<(plAt s s.size).d then (s.size:Int) else -1):=by
    unfold Hid;rw[f.out.2,Nat.sub_self];rfl
   clear f A;generalize plAt s s.size=a at *;by_cases y:a.k=2
   ·have P:(a.k != 2)=false:=by simp[y]
    by_cases Q:0<a.d
    ·have h:=q.out;rw[if_pos (Or.inr Q)] at h;have p:=Hid.mk h;clear q h y
     go_wp2_with fail
     go_ret
     exact⟨by rw[p.out];rfl,c⟩
    ·have h:=q.out;rw[if_neg (by simp[y];omega)] at h
     have p:=Hid.mk h;clear q h y
     go_wp2_with fail
     go_ret
     exact⟨by rw[p.out];rfl,c⟩
   ·have P:(a.k != 2)=true:=by simp[y]
    have h:=q.out;rw[if_pos (Or.inl y)] at h;have p:=Hid.mk h;clear q h y
    go_wp2_with fail
    go_ret
    exact⟨by rw[p.out];rfl,c⟩
end
end Go.Proofs.YtjahbjjekednfaaGreatDoor
