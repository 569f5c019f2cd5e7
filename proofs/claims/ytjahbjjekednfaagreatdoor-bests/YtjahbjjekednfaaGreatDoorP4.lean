import Derived.Test.YtjahbjjekednfaaGreatDoorP1
namespace Go.Proofs.YtjahbjjekednfaaGreatDoor
set_option maxHeartbeats 1600000
open Go.RowKit
structure Sc where
 want:Bool
 what:Int
 dg:Int
 op:Int
def scNext (x:Sc) (c:Int):Sc × Bool :=
 if x.what=114∧x.dg=0 then (⟨x.want,x.what,1,x.op⟩,isDig c)
 else if x.want=true then
  if isDig c=true then (⟨false,110,1,x.op⟩,true)
  else if c=114 then (⟨false,114,0,x.op⟩,true)
  else if c=40∧x.op<8 then (⟨x.want,x.what,x.dg,x.op+1⟩,true)
  else (x,c == 45)
 else if c=43∨c=45∨c=42∨c=47 then (⟨true,0,x.dg,x.op⟩,true)
 else if c=41 then (⟨x.want,41,x.dg,x.op - 1⟩,decide (1≤x.op))
 else (⟨x.want,x.what,x.dg+1,x.op⟩,isDig c && (decide (x.what≠41) && decide (x.dg+1≤if x.what=114 then 6 else 18)))
def RetN (w:World) (b:Nat) (q:Sc × Bool) (e:Ending) (a:World):Prop :=
 e=.returned (.bool q.2)∧Blk a b #[.bool q.1.want,.int .u8 q.1.what,.int .i64 q.1.dg,.int .i64 q.1.op] 119∧KeepsBut b w a
theorem rdigit_any (c:Int) (w:World):Calls Tryz.prog 96 #[.int .u8 c] w fun e b=>e=.returned (.bool (isDig c))∧b=w:=by
 by_cases h:48≤c
 ·have a:Hid (isDig c=decide (c≤57)):=by unfold Hid isDig;simp[h]
  go_enter Tryz.func96,Tryz.ntmps96
  go_wp2
  go_ret
  exact⟨by rw[a.out];rfl,rfl⟩
 ·have a:Hid (isDig c=false):=by unfold Hid isDig;simp[h]
  go_enter Tryz.func96,Tryz.ntmps96
  go_wp2
  go_ret
  exact⟨by rw[a.out];rfl,rfl⟩
theorem next_root (d:Bool) (a f op c:Int) (b:Nat) (w:World) (g:Blk w b #[.bool d,.int .u8 a,.int .i64 f,.int .i64 op] 119) (j:0≤f∧f≤1000) (k:-1000≤op∧op≤1000) (h:a=114) (i:f=0) :
  Calls Tryz.prog 72 #[.pointer (some ⟨b,0,none⟩),.int .u8 c] w (RetN w b (scNext ⟨d,a,f,op⟩ c)):=by
 obtain⟨_,_⟩:=j;obtain⟨_,_⟩:=k;have l:Hid (scNext ⟨d,a,f,op⟩ c=(⟨d,a,1,op⟩,isDig c)):=by unfold Hid scNext;rw[if_pos ⟨h,i⟩]
 have m:(a == 114)=true:=by simp[h]
 have n:(f == 0)=true:=by simp[i]
 clear h i;have o:=g.cell;have p:=g.frozen;have q:=g.lt
 go_enter Tryz.func72,Tryz.ntmps72
 go_wp2_with fail
 refine(rdigit_any c _).mono ?_;rintro e r ⟨rfl,rfl⟩;generalize isDig c=s at *
 go_wp2_with fail
 go_ret
 rw[l.out];exact⟨rfl,(Blk.set g),(KeepsBut.setCell (KeepsBut.refl _ _) _ _)⟩
theorem next_digit_a (d:Bool) (a f op c:Int) (b:Nat) (w:World) (h:Blk w b #[.bool d,.int .u8 a,.int .i64 f,.int .i64 op] 119) (l:0≤f∧f≤1000) (m:-1000≤op∧op≤1000) (j:a=114) (i:¬ f=0) (k:d=true) (g:isDig c=true) :
  Calls Tryz.prog 72 #[.pointer (some ⟨b,0,none⟩),.int .u8 c] w (RetN w b (scNext ⟨d,a,f,op⟩ c)):=by
 obtain⟨_,_⟩:=l;obtain⟨_,_⟩:=m;have n:Hid (scNext ⟨d,a,f,op⟩ c=(⟨false,110,1,op⟩,true)):=by unfold Hid scNext;rw[if_neg (by simp[i]),if_pos k,if_pos g]
 have o:(a == 114)=true:=by simp[j]
 have p:(f == 0)=false:=by simp[i]
 subst k;clear j i;have q:=h.cell;have r:=h.frozen;have s:=h.lt
 go_enter Tryz.func72,Tryz.ntmps72
 go_wp2_with fail
 refine(rdigit_any c _).mono ?_;rintro e t ⟨rfl,rfl⟩;rw[g];clear g
 go_wp2_with fail
 go_ret
 rw[n.out];exact⟨rfl,(Blk.set (Blk.set (Blk.set h))),(KeepsBut.setCell (KeepsBut.setCell (KeepsBut.setCell (KeepsBut.refl _ _) _ _) _ _) _ _)⟩
theorem next_digit_b (d:Bool) (a g op c:Int) (b:Nat) (w:World) (h:Blk w b #[.bool d,.int .u8 a,.int .i64 g,.int .i64 op] 119) (k:0≤g∧g≤1000) (l:-1000≤op∧op≤1000) (i:¬ a=114) (j:d=true) (f:isDig c=true) :
  Calls Tryz.prog 72 #[.pointer (some ⟨b,0,none⟩),.int .u8 c] w (RetN w b (scNext ⟨d,a,g,op⟩ c)):=by
 obtain⟨_,_⟩:=k;obtain⟨_,_⟩:=l;have m:Hid (scNext ⟨d,a,g,op⟩ c=(⟨false,110,1,op⟩,true)):=by unfold Hid scNext;rw[if_neg (by simp[i]),if_pos j,if_pos f]
 have n:(a == 114)=false:=by simp[i]
 subst j;clear i;have o:=h.cell;have p:=h.frozen;have q:=h.lt
 go_enter Tryz.func72,Tryz.ntmps72
 go_wp2_with fail
 refine(rdigit_any c _).mono ?_;rintro e r ⟨rfl,rfl⟩;rw[f];clear f
 go_wp2_with fail
 go_ret
 rw[m.out];exact⟨rfl,(Blk.set (Blk.set (Blk.set h))),(KeepsBut.setCell (KeepsBut.setCell (KeepsBut.setCell (KeepsBut.refl _ _) _ _) _ _) _ _)⟩
theorem next_r_a (d:Bool) (a f op c:Int) (b:Nat) (w:World) (h:Blk w b #[.bool d,.int .u8 a,.int .i64 f,.int .i64 op] 119) (m:0≤f∧f≤1000) (n:-1000≤op∧op≤1000) (k:a=114) (i:¬ f=0) (l:d=true) (g:isDig c=false) (j:c=114) :
  Calls Tryz.prog 72 #[.pointer (some ⟨b,0,none⟩),.int .u8 c] w (RetN w b (scNext ⟨d,a,f,op⟩ c)):=by
 obtain⟨_,_⟩:=m;obtain⟨_,_⟩:=n;have o:Hid (scNext ⟨d,a,f,op⟩ c=(⟨false,114,0,op⟩,true)):=by unfold Hid scNext;rw[if_neg (by simp[i]),if_pos l,if_neg (by simp[g]),if_pos j]
 have p:(a == 114)=true:=by simp[k]
 have q:(f == 0)=false:=by simp[i]
 have r:(c == 114)=true:=by simp[j]
 clear j;subst l;clear k i;have s:=h.cell;have t:=h.frozen;have u:=h.lt
 go_enter Tryz.func72,Tryz.ntmps72
 go_wp2_with fail
 refine(rdigit_any c _).mono ?_;rintro e v ⟨rfl,rfl⟩;rw[g];clear g
 go_wp2_with fail
 go_ret
 rw[o.out];exact⟨rfl,(Blk.set (Blk.set (Blk.set h))),(KeepsBut.setCell (KeepsBut.setCell (KeepsBut.setCell (KeepsBut.refl _ _) _ _) _ _) _ _)⟩
theorem next_r_b (d:Bool) (a g op c:Int) (b:Nat) (w:World) (h:Blk w b #[.bool d,.int .u8 a,.int .i64 g,.int .i64 op] 119) (l:0≤g∧g≤1000) (m:-1000≤op∧op≤1000) (i:¬ a=114) (k:d=true) (f:isDig c=false) (j:c=114) :
  Calls Tryz.prog 72 #[.pointer (some ⟨b,0,none⟩),.int .u8 c] w (RetN w b (scNext ⟨d,a,g,op⟩ c)):=by
 obtain⟨_,_⟩:=l;obtain⟨_,_⟩:=m;have n:Hid (scNext ⟨d,a,g,op⟩ c=(⟨false,114,0,op⟩,true)):=by unfold Hid scNext;rw[if_neg (by simp[i]),if_pos k,if_neg (by simp[f]),if_pos j]
 have o:(a == 114)=false:=by simp[i]
 have p:(c == 114)=true:=by simp[j]
 clear j;subst k;clear i;have q:=h.cell;have r:=h.frozen;have s:=h.lt
 go_enter Tryz.func72,Tryz.ntmps72
 go_wp2_with fail
 refine(rdigit_any c _).mono ?_;rintro e t ⟨rfl,rfl⟩;rw[f];clear f
 go_wp2_with fail
 go_ret
 rw[n.out];exact⟨rfl,(Blk.set (Blk.set (Blk.set h))),(KeepsBut.setCell (KeepsBut.setCell (KeepsBut.setCell (KeepsBut.refl _ _) _ _) _ _) _ _)⟩
theorem next_open_a (d:Bool) (a f op c:Int) (b:Nat) (w:World) (h:Blk w b #[.bool d,.int .u8 a,.int .i64 f,.int .i64 op] 119) (n:0≤f∧f≤1000) (o:-1000≤op∧op≤1000) (m:a=114) (i:¬ f=0) (j:d=true) (g:isDig c=false) (k:¬ c=114) (l:c=40) (p:op<8) :
  Calls Tryz.prog 72 #[.pointer (some ⟨b,0,none⟩),.int .u8 c] w (RetN w b (scNext ⟨d,a,f,op⟩ c)):=by
 obtain⟨_,_⟩:=n;obtain⟨_,_⟩:=o;have q:Hid (scNext ⟨d,a,f,op⟩ c=(⟨true,a,f,op+1⟩,true)):=by unfold Hid scNext;rw[if_neg (by simp[i]),if_pos j,if_neg (by simp[g]),if_neg k,if_pos ⟨l,p⟩,j]
 have r:(a == 114)=true:=by simp[m]
 have s:(f == 0)=false:=by simp[i]
 have t:(c == 114)=false:=by simp[k]
 have u:(c == 40)=true:=by simp[l]
 clear k l;subst j;clear m i;have v:=h.cell;have x:=h.frozen;have y:=h.lt
 go_enter Tryz.func72,Tryz.ntmps72
 go_wp2_with fail
 refine(rdigit_any c _).mono ?_;rintro e z ⟨rfl,rfl⟩;rw[g];clear g
 go_wp2_with fail
 go_ret
 rw[q.out];exact⟨rfl,(Blk.set h),(KeepsBut.setCell (KeepsBut.refl _ _) _ _)⟩
theorem next_open_b (d:Bool) (a g op c:Int) (b:Nat) (w:World) (h:Blk w b #[.bool d,.int .u8 a,.int .i64 g,.int .i64 op] 119) (m:0≤g∧g≤1000) (n:-1000≤op∧op≤1000) (i:¬ a=114) (j:d=true) (f:isDig c=false) (k:¬ c=114) (l:c=40) (o:op<8) :
  Calls Tryz.prog 72 #[.pointer (some ⟨b,0,none⟩),.int .u8 c] w (RetN w b (scNext ⟨d,a,g,op⟩ c)):=by
 obtain⟨_,_⟩:=m;obtain⟨_,_⟩:=n;have p:Hid (scNext ⟨d,a,g,op⟩ c=(⟨true,a,g,op+1⟩,true)):=by unfold Hid scNext;rw[if_neg (by simp[i]),if_pos j,if_neg (by simp[f]),if_neg k,if_pos ⟨l,o⟩,j]
 have q:(a == 114)=false:=by simp[i]
 have r:(c == 114)=false:=by simp[k]
 have s:(c == 40)=true:=by simp[l]
 clear k l;subst j;clear i;have t:=h.cell;have u:=h.frozen;have v:=h.lt
 go_enter Tryz.func72,Tryz.ntmps72
 go_wp2_with fail
 refine(rdigit_any c _).mono ?_;rintro e x ⟨rfl,rfl⟩;rw[f];clear f
 go_wp2_with fail
 go_ret
 rw[p.out];exact⟨rfl,(Blk.set h),(KeepsBut.setCell (KeepsBut.refl _ _) _ _)⟩
theorem next_deep_a (d:Bool) (a f op c:Int) (b:Nat) (w:World) (h:Blk w b #[.bool d,.int .u8 a,.int .i64 f,.int .i64 op] 119) (n:0≤f∧f≤1000) (o:-1000≤op∧op≤1000) (l:a=114) (i:¬ f=0) (j:d=true) (g:isDig c=false) (k:¬ c=114) (m:c=40) (p:¬ op<8) :
  Calls Tryz.prog 72 #[.pointer (some ⟨b,0,none⟩),.int .u8 c] w (RetN w b (scNext ⟨d,a,f,op⟩ c)):=by
 obtain⟨_,_⟩:=n;obtain⟨_,_⟩:=o;have q:Hid (scNext ⟨d,a,f,op⟩ c=(⟨true,a,f,op⟩,c == 45)):=by unfold Hid scNext;rw[if_neg (by simp[i]),if_pos j,if_neg (by simp[g]),if_neg k,if_neg (by simp[p]),j]
 have r:(a == 114)=true:=by simp[l]
 have s:(f == 0)=false:=by simp[i]
 have t:(c == 114)=false:=by simp[k]
 have u:(c == 40)=true:=by simp[m]
 clear k m;subst j;clear l i;have v:=h.cell;have x:=h.frozen;have y:=h.lt
 go_enter Tryz.func72,Tryz.ntmps72
 go_wp2_with fail
 refine(rdigit_any c _).mono ?_;rintro e z ⟨rfl,rfl⟩;rw[g];clear g
 go_wp2_with fail
 go_ret
 rw[q.out];exact⟨rfl,h,(KeepsBut.refl _ _)⟩
theorem next_deep_b (d:Bool) (a g op c:Int) (b:Nat) (w:World) (h:Blk w b #[.bool d,.int .u8 a,.int .i64 g,.int .i64 op] 119) (m:0≤g∧g≤1000) (n:-1000≤op∧op≤1000) (i:¬ a=114) (j:d=true) (f:isDig c=false) (k:¬ c=114) (l:c=40) (o:¬ op<8) :
  Calls Tryz.prog 72 #[.pointer (some ⟨b,0,none⟩),.int .u8 c] w (RetN w b (scNext ⟨d,a,g,op⟩ c)):=by
 obtain⟨_,_⟩:=m;obtain⟨_,_⟩:=n;have p:Hid (scNext ⟨d,a,g,op⟩ c=(⟨true,a,g,op⟩,c == 45)):=by unfold Hid scNext;rw[if_neg (by simp[i]),if_pos j,if_neg (by simp[f]),if_neg k,if_neg (by simp[o]),j]
 have q:(a == 114)=false:=by simp[i]
 have r:(c == 114)=false:=by simp[k]
 have s:(c == 40)=true:=by simp[l]
 clear k l;subst j;clear i;have t:=h.cell;have u:=h.frozen;have v:=h.lt
 go_enter Tryz.func72,Tryz.ntmps72
 go_wp2_with fail
 refine(rdigit_any c _).mono ?_;rintro e x ⟨rfl,rfl⟩;rw[f];clear f
 go_wp2_with fail
 go_ret
 rw[p.out];exact⟨rfl,h,(KeepsBut.refl _ _)⟩
theorem next_other_a (d:Bool) (a f op c:Int) (b:Nat) (w:World) (h:Blk w b #[.bool d,.int .u8 a,.int .i64 f,.int .i64 op] 119) (n:0≤f∧f≤1000) (o:-1000≤op∧op≤1000) (m:a=114) (i:¬ f=0) (j:d=true) (g:isDig c=false) (k:¬ c=114) (l:¬ c=40) :
  Calls Tryz.prog 72 #[.pointer (some ⟨b,0,none⟩),.int .u8 c] w (RetN w b (scNext ⟨d,a,f,op⟩ c)):=by
 obtain⟨_,_⟩:=n;obtain⟨_,_⟩:=o;have p:Hid (scNext ⟨d,a,f,op⟩ c=(⟨true,a,f,op⟩,c == 45)):=by unfold Hid scNext;rw[if_neg (by simp[i]),if_pos j,if_neg (by simp[g]),if_neg k,if_neg (by simp[l]),j]
 have q:(a == 114)=true:=by simp[m]
 have r:(f == 0)=false:=by simp[i]
 have s:(c == 114)=false:=by simp[k]
 have t:(c == 40)=false:=by simp[l]
 clear k l;subst j;clear m i;have u:=h.cell;have v:=h.frozen;have x:=h.lt
 go_enter Tryz.func72,Tryz.ntmps72
 go_wp2_with fail
 refine(rdigit_any c _).mono ?_;rintro e y ⟨rfl,rfl⟩;rw[g];clear g
 go_wp2_with fail
 go_ret
 rw[p.out];exact⟨rfl,h,(KeepsBut.refl _ _)⟩
theorem next_other_b (d:Bool) (a g op c:Int) (b:Nat) (w:World) (h:Blk w b #[.bool d,.int .u8 a,.int .i64 g,.int .i64 op] 119) (m:0≤g∧g≤1000) (n:-1000≤op∧op≤1000) (i:¬ a=114) (j:d=true) (f:isDig c=false) (k:¬ c=114) (l:¬ c=40) :
  Calls Tryz.prog 72 #[.pointer (some ⟨b,0,none⟩),.int .u8 c] w (RetN w b (scNext ⟨d,a,g,op⟩ c)):=by
 obtain⟨_,_⟩:=m;obtain⟨_,_⟩:=n;have o:Hid (scNext ⟨d,a,g,op⟩ c=(⟨true,a,g,op⟩,c == 45)):=by unfold Hid scNext;rw[if_neg (by simp[i]),if_pos j,if_neg (by simp[f]),if_neg k,if_neg (by simp[l]),j]
 have p:(a == 114)=false:=by simp[i]
 have q:(c == 114)=false:=by simp[k]
 have r:(c == 40)=false:=by simp[l]
 clear k l;subst j;clear i;have s:=h.cell;have t:=h.frozen;have u:=h.lt
 go_enter Tryz.func72,Tryz.ntmps72
 go_wp2_with fail
 refine(rdigit_any c _).mono ?_;rintro e v ⟨rfl,rfl⟩;rw[f];clear f
 go_wp2_with fail
 go_ret
 rw[o.out];exact⟨rfl,h,(KeepsBut.refl _ _)⟩
theorem next_sign0_a (d:Bool) (a f op c:Int) (b:Nat) (w:World) (g:Blk w b #[.bool d,.int .u8 a,.int .i64 f,.int .i64 op] 119) (l:0≤f∧f≤1000) (m:-1000≤op∧op≤1000) (j:a=114) (h:¬ f=0) (k:d=false) (i:c=43) :
  Calls Tryz.prog 72 #[.pointer (some ⟨b,0,none⟩),.int .u8 c] w (RetN w b (scNext ⟨d,a,f,op⟩ c)):=by
 obtain⟨_,_⟩:=l;obtain⟨_,_⟩:=m;have n:Hid (scNext ⟨d,a,f,op⟩ c=(⟨true,0,f,op⟩,true)):=by unfold Hid scNext;rw[if_neg (by simp[h]),if_neg (by simp[k]),if_pos (by simp[i])]
 have o:(a == 114)=true:=by simp[j]
 have p:(f == 0)=false:=by simp[h]
 have q:(c == 43)=true:=by simp[i]
 clear i;subst k;clear j h;have r:=g.cell;have s:=g.frozen;have t:=g.lt
 go_enter Tryz.func72,Tryz.ntmps72
 go_wp2_with fail
 refine(rdigit_any c _).mono ?_;rintro e u ⟨rfl,rfl⟩;generalize isDig c=v at *
 go_wp2_with fail
 go_ret
 rw[n.out];exact⟨rfl,(Blk.set (Blk.set g)),(KeepsBut.setCell (KeepsBut.setCell (KeepsBut.refl _ _) _ _) _ _)⟩
theorem next_sign0_b (d:Bool) (a f op c:Int) (b:Nat) (w:World) (g:Blk w b #[.bool d,.int .u8 a,.int .i64 f,.int .i64 op] 119) (k:0≤f∧f≤1000) (l:-1000≤op∧op≤1000) (h:¬ a=114) (j:d=false) (i:c=43) :
  Calls Tryz.prog 72 #[.pointer (some ⟨b,0,none⟩),.int .u8 c] w (RetN w b (scNext ⟨d,a,f,op⟩ c)):=by
 obtain⟨_,_⟩:=k;obtain⟨_,_⟩:=l;have m:Hid (scNext ⟨d,a,f,op⟩ c=(⟨true,0,f,op⟩,true)):=by unfold Hid scNext;rw[if_neg (by simp[h]),if_neg (by simp[j]),if_pos (by simp[i])]
 have n:(a == 114)=false:=by simp[h]
 have o:(c == 43)=true:=by simp[i]
 clear i;subst j;clear h;have p:=g.cell;have q:=g.frozen;have r:=g.lt
 go_enter Tryz.func72,Tryz.ntmps72
 go_wp2_with fail
 refine(rdigit_any c _).mono ?_;rintro e s ⟨rfl,rfl⟩;generalize isDig c=t at *
 go_wp2_with fail
 go_ret
 rw[m.out];exact⟨rfl,(Blk.set (Blk.set g)),(KeepsBut.setCell (KeepsBut.setCell (KeepsBut.refl _ _) _ _) _ _)⟩
theorem next_sign1_a (d:Bool) (a f op c:Int) (b:Nat) (w:World) (g:Blk w b #[.bool d,.int .u8 a,.int .i64 f,.int .i64 op] 119) (m:0≤f∧f≤1000) (n:-1000≤op∧op≤1000) (j:a=114) (h:¬ f=0) (k:d=false) (l:¬ c=43) (i:c=45) :
  Calls Tryz.prog 72 #[.pointer (some ⟨b,0,none⟩),.int .u8 c] w (RetN w b (scNext ⟨d,a,f,op⟩ c)):=by
 obtain⟨_,_⟩:=m;obtain⟨_,_⟩:=n;have o:Hid (scNext ⟨d,a,f,op⟩ c=(⟨true,0,f,op⟩,true)):=by unfold Hid scNext;rw[if_neg (by simp[h]),if_neg (by simp[k]),if_pos (by simp[i])]
 have p:(a == 114)=true:=by simp[j]
 have q:(f == 0)=false:=by simp[h]
 have r:(c == 43)=false:=by simp[l]
 have s:(c == 45)=true:=by simp[i]
 clear l i;subst k;clear j h;have t:=g.cell;have u:=g.frozen;have v:=g.lt
 go_enter Tryz.func72,Tryz.ntmps72
 go_wp2_with fail
 refine(rdigit_any c _).mono ?_;rintro e x ⟨rfl,rfl⟩;generalize isDig c=y at *
 go_wp2_with fail
 go_ret
 rw[o.out];exact⟨rfl,(Blk.set (Blk.set g)),(KeepsBut.setCell (KeepsBut.setCell (KeepsBut.refl _ _) _ _) _ _)⟩
theorem next_sign1_b (d:Bool) (a f op c:Int) (b:Nat) (w:World) (g:Blk w b #[.bool d,.int .u8 a,.int .i64 f,.int .i64 op] 119) (l:0≤f∧f≤1000) (m:-1000≤op∧op≤1000) (h:¬ a=114) (j:d=false) (k:¬ c=43) (i:c=45) :
  Calls Tryz.prog 72 #[.pointer (some ⟨b,0,none⟩),.int .u8 c] w (RetN w b (scNext ⟨d,a,f,op⟩ c)):=by
 obtain⟨_,_⟩:=l;obtain⟨_,_⟩:=m;have n:Hid (scNext ⟨d,a,f,op⟩ c=(⟨true,0,f,op⟩,true)):=by unfold Hid scNext;rw[if_neg (by simp[h]),if_neg (by simp[j]),if_pos (by simp[i])]
 have o:(a == 114)=false:=by simp[h]
 have p:(c == 43)=false:=by simp[k]
 have q:(c == 45)=true:=by simp[i]
 clear k i;subst j;clear h;have r:=g.cell;have s:=g.frozen;have t:=g.lt
 go_enter Tryz.func72,Tryz.ntmps72
 go_wp2_with fail
 refine(rdigit_any c _).mono ?_;rintro e u ⟨rfl,rfl⟩;generalize isDig c=v at *
 go_wp2_with fail
 go_ret
 rw[n.out];exact⟨rfl,(Blk.set (Blk.set g)),(KeepsBut.setCell (KeepsBut.setCell (KeepsBut.refl _ _) _ _) _ _)⟩
theorem next_sign2_a (d:Bool) (a f op c:Int) (b:Nat) (w:World) (g:Blk w b #[.bool d,.int .u8 a,.int .i64 f,.int .i64 op] 119) (n:0≤f∧f≤1000) (o:-1000≤op∧op≤1000) (j:a=114) (h:¬ f=0) (k:d=false) (l:¬ c=43) (m:¬ c=45) (i:c=42) :
  Calls Tryz.prog 72 #[.pointer (some ⟨b,0,none⟩),.int .u8 c] w (RetN w b (scNext ⟨d,a,f,op⟩ c)):=by
 obtain⟨_,_⟩:=n;obtain⟨_,_⟩:=o;have p:Hid (scNext ⟨d,a,f,op⟩ c=(⟨true,0,f,op⟩,true)):=by unfold Hid scNext;rw[if_neg (by simp[h]),if_neg (by simp[k]),if_pos (by simp[i])]
 have q:(a == 114)=true:=by simp[j]
 have r:(f == 0)=false:=by simp[h]
 have s:(c == 43)=false:=by simp[l]
 have t:(c == 45)=false:=by simp[m]
 have u:(c == 42)=true:=by simp[i]
 clear l m i;subst k;clear j h;have v:=g.cell;have x:=g.frozen;have y:=g.lt
 go_enter Tryz.func72,Tryz.ntmps72
 go_wp2_with fail
 refine(rdigit_any c _).mono ?_;rintro e z ⟨rfl,rfl⟩;generalize isDig c=A at *
 go_wp2_with fail
 go_ret
 rw[p.out];exact⟨rfl,(Blk.set (Blk.set g)),(KeepsBut.setCell (KeepsBut.setCell (KeepsBut.refl _ _) _ _) _ _)⟩
theorem next_sign2_b (d:Bool) (a f op c:Int) (b:Nat) (w:World) (g:Blk w b #[.bool d,.int .u8 a,.int .i64 f,.int .i64 op] 119) (m:0≤f∧f≤1000) (n:-1000≤op∧op≤1000) (h:¬ a=114) (j:d=false) (k:¬ c=43) (l:¬ c=45) (i:c=42) :
  Calls Tryz.prog 72 #[.pointer (some ⟨b,0,none⟩),.int .u8 c] w (RetN w b (scNext ⟨d,a,f,op⟩ c)):=by
 obtain⟨_,_⟩:=m;obtain⟨_,_⟩:=n;have o:Hid (scNext ⟨d,a,f,op⟩ c=(⟨true,0,f,op⟩,true)):=by unfold Hid scNext;rw[if_neg (by simp[h]),if_neg (by simp[j]),if_pos (by simp[i])]
 have p:(a == 114)=false:=by simp[h]
 have q:(c == 43)=false:=by simp[k]
 have r:(c == 45)=false:=by simp[l]
 have s:(c == 42)=true:=by simp[i]
 clear k l i;subst j;clear h;have t:=g.cell;have u:=g.frozen;have v:=g.lt
 go_enter Tryz.func72,Tryz.ntmps72
 go_wp2_with fail
 refine(rdigit_any c _).mono ?_;rintro e x ⟨rfl,rfl⟩;generalize isDig c=y at *
 go_wp2_with fail
 go_ret
 rw[o.out];exact⟨rfl,(Blk.set (Blk.set g)),(KeepsBut.setCell (KeepsBut.setCell (KeepsBut.refl _ _) _ _) _ _)⟩
theorem next_sign3_a (d:Bool) (a f op c:Int) (b:Nat) (w:World) (g:Blk w b #[.bool d,.int .u8 a,.int .i64 f,.int .i64 op] 119) (o:0≤f∧f≤1000) (p:-1000≤op∧op≤1000) (j:a=114) (h:¬ f=0) (k:d=false) (l:¬ c=43) (m:¬ c=45) (n:¬ c=42) (i:c=47) :
  Calls Tryz.prog 72 #[.pointer (some ⟨b,0,none⟩),.int .u8 c] w (RetN w b (scNext ⟨d,a,f,op⟩ c)):=by
 obtain⟨_,_⟩:=o;obtain⟨_,_⟩:=p;have q:Hid (scNext ⟨d,a,f,op⟩ c=(⟨true,0,f,op⟩,true)):=by unfold Hid scNext;rw[if_neg (by simp[h]),if_neg (by simp[k]),if_pos (by simp[i])]
 have r:(a == 114)=true:=by simp[j]
 have s:(f == 0)=false:=by simp[h]
 have t:(c == 43)=false:=by simp[l]
 have u:(c == 45)=false:=by simp[m]
 have v:(c == 42)=false:=by simp[n]
 have x:(c == 47)=true:=by simp[i]
 clear l m n i;subst k;clear j h;have y:=g.cell;have z:=g.frozen;have A:=g.lt
 go_enter Tryz.func72,Tryz.ntmps72
 go_wp2_with fail
 refine(rdigit_any c _).mono ?_;rintro e B ⟨rfl,rfl⟩;generalize isDig c=C at *
 go_wp2_with fail
 go_ret
 rw[q.out];exact⟨rfl,(Blk.set (Blk.set g)),(KeepsBut.setCell (KeepsBut.setCell (KeepsBut.refl _ _) _ _) _ _)⟩
theorem next_sign3_b (d:Bool) (a f op c:Int) (b:Nat) (w:World) (g:Blk w b #[.bool d,.int .u8 a,.int .i64 f,.int .i64 op] 119) (n:0≤f∧f≤1000) (o:-1000≤op∧op≤1000) (h:¬ a=114) (j:d=false) (k:¬ c=43) (l:¬ c=45) (m:¬ c=42) (i:c=47) :
  Calls Tryz.prog 72 #[.pointer (some ⟨b,0,none⟩),.int .u8 c] w (RetN w b (scNext ⟨d,a,f,op⟩ c)):=by
 obtain⟨_,_⟩:=n;obtain⟨_,_⟩:=o;have p:Hid (scNext ⟨d,a,f,op⟩ c=(⟨true,0,f,op⟩,true)):=by unfold Hid scNext;rw[if_neg (by simp[h]),if_neg (by simp[j]),if_pos (by simp[i])]
 have q:(a == 114)=false:=by simp[h]
 have r:(c == 43)=false:=by simp[k]
 have s:(c == 45)=false:=by simp[l]
 have t:(c == 42)=false:=by simp[m]
 have u:(c == 47)=true:=by simp[i]
 clear k l m i;subst j;clear h;have v:=g.cell;have x:=g.frozen;have y:=g.lt
 go_enter Tryz.func72,Tryz.ntmps72
 go_wp2_with fail
 refine(rdigit_any c _).mono ?_;rintro e z ⟨rfl,rfl⟩;generalize isDig c=A at *
 go_wp2_with fail
 go_ret
 rw[p.out];exact⟨rfl,(Blk.set (Blk.set g)),(KeepsBut.setCell (KeepsBut.setCell (KeepsBut.refl _ _) _ _) _ _)⟩
theorem next_close_a (d:Bool) (a f op c:Int) (b:Nat) (w:World) (g:Blk w b #[.bool d,.int .u8 a,.int .i64 f,.int .i64 op] 119) (p:0≤f∧f≤1000) (q:-1000≤op∧op≤1000) (o:a=114) (h:¬ f=0) (i:d=false) (j:¬ c=43) (k:¬ c=45) (l:¬ c=42) (m:¬ c=47) (n:c=41) :
  Calls Tryz.prog 72 #[.pointer (some ⟨b,0,none⟩),.int .u8 c] w (RetN w b (scNext ⟨d,a,f,op⟩ c)):=by
 obtain⟨_,_⟩:=p;obtain⟨_,_⟩:=q;have r:Hid (scNext ⟨d,a,f,op⟩ c=(⟨false,41,f,op - 1⟩,decide (1≤op))):=by unfold Hid scNext;rw[if_neg (by simp[h]),if_neg (by simp[i]),if_neg (by simp[j,k,l,m]),if_pos n,i]
 have s:(a == 114)=true:=by simp[o]
 have t:(f == 0)=false:=by simp[h]
 have u:(c == 43)=false:=by simp[j]
 have v:(c == 45)=false:=by simp[k]
 have x:(c == 42)=false:=by simp[l]
 have y:(c == 47)=false:=by simp[m]
 have z:(c == 41)=true:=by simp[n]
 clear j k l m n;subst i;clear o h;have A:=g.cell;have B:=g.frozen;have C:=g.lt
 go_enter Tryz.func72,Tryz.ntmps72
 go_wp2_with fail
 refine(rdigit_any c _).mono ?_;rintro e D ⟨rfl,rfl⟩;generalize isDig c=E at *
 go_wp2_with fail
 go_ret
 rw[r.out];exact⟨rfl,(Blk.set (Blk.set g)),(KeepsBut.setCell (KeepsBut.setCell (KeepsBut.refl _ _) _ _) _ _)⟩
theorem next_close_b (d:Bool) (a f op c:Int) (b:Nat) (w:World) (g:Blk w b #[.bool d,.int .u8 a,.int .i64 f,.int .i64 op] 119) (o:0≤f∧f≤1000) (p:-1000≤op∧op≤1000) (h:¬ a=114) (i:d=false) (j:¬ c=43) (k:¬ c=45) (l:¬ c=42) (m:¬ c=47) (n:c=41) :
  Calls Tryz.prog 72 #[.pointer (some ⟨b,0,none⟩),.int .u8 c] w (RetN w b (scNext ⟨d,a,f,op⟩ c)):=by
 obtain⟨_,_⟩:=o;obtain⟨_,_⟩:=p;have q:Hid (scNext ⟨d,a,f,op⟩ c=(⟨false,41,f,op - 1⟩,decide (1≤op))):=by unfold Hid scNext;rw[if_neg (by simp[h]),if_neg (by simp[i]),if_neg (by simp[j,k,l,m]),if_pos n,i]
 have r:(a == 114)=false:=by simp[h]
 have s:(c == 43)=false:=by simp[j]
 have t:(c == 45)=false:=by simp[k]
 have u:(c == 42)=false:=by simp[l]
 have v:(c == 47)=false:=by simp[m]
 have x:(c == 41)=true:=by simp[n]
 clear j k l m n;subst i;clear h;have y:=g.cell;have z:=g.frozen;have A:=g.lt
 go_enter Tryz.func72,Tryz.ntmps72
 go_wp2_with fail
 refine(rdigit_any c _).mono ?_;rintro e B ⟨rfl,rfl⟩;generalize isDig c=C at *
 go_wp2_with fail
 go_ret
 rw[q.out];exact⟨rfl,(Blk.set (Blk.set g)),(KeepsBut.setCell (KeepsBut.setCell (KeepsBut.refl _ _) _ _) _ _)⟩
theorem next_bad_a (d:Bool) (a f op c:Int) (b:Nat) (w:World) (h:Blk w b #[.bool d,.int .u8 a,.int .i64 f,.int .i64 op] 119) (q:0≤f∧f≤1000) (r:-1000≤op∧op≤1000) (p:a=114) (i:¬ f=0) (j:d=false) (k:¬ c=43) (l:¬ c=45) (m:¬ c=42) (n:¬ c=47) (o:¬ c=41) (g:isDig c=false) :
  Calls Tryz.prog 72 #[.pointer (some ⟨b,0,none⟩),.int .u8 c] w (RetN w b (scNext ⟨d,a,f,op⟩ c)):=by
 obtain⟨_,_⟩:=q;obtain⟨_,_⟩:=r;have s:Hid (scNext ⟨d,a,f,op⟩ c=(⟨false,a,f+1,op⟩,false)):=by unfold Hid scNext;rw[if_neg (by simp[i]),if_neg (by simp[j]),if_neg (by simp[k,l,m,n]),if_neg o,j,g,Bool.false_and]
 have t:(a == 114)=true:=by simp[p]
 have u:(f == 0)=false:=by simp[i]
 have v:(c == 43)=false:=by simp[k]
 have x:(c == 45)=false:=by simp[l]
 have y:(c == 42)=false:=by simp[m]
 have z:(c == 47)=false:=by simp[n]
 have A:(c == 41)=false:=by simp[o]
 clear k l m n o;subst j;clear p i;have B:=h.cell;have C:=h.frozen;have D:=h.lt
 go_enter Tryz.func72,Tryz.ntmps72
 go_wp2_with fail
 refine(rdigit_any c _).mono ?_;rintro e E ⟨rfl,rfl⟩;rw[g];clear g
 go_wp2_with fail
 go_ret
 rw[s.out];exact⟨rfl,(Blk.set h),(KeepsBut.setCell (KeepsBut.refl _ _) _ _)⟩
theorem next_bad_b (d:Bool) (a g op c:Int) (b:Nat) (w:World) (h:Blk w b #[.bool d,.int .u8 a,.int .i64 g,.int .i64 op] 119) (p:0≤g∧g≤1000) (q:-1000≤op∧op≤1000) (i:¬ a=114) (j:d=false) (k:¬ c=43) (l:¬ c=45) (m:¬ c=42) (n:¬ c=47) (o:¬ c=41) (f:isDig c=false) :
  Calls Tryz.prog 72 #[.pointer (some ⟨b,0,none⟩),.int .u8 c] w (RetN w b (scNext ⟨d,a,g,op⟩ c)):=by
 obtain⟨_,_⟩:=p;obtain⟨_,_⟩:=q;have r:Hid (scNext ⟨d,a,g,op⟩ c=(⟨false,a,g+1,op⟩,false)):=by unfold Hid scNext;rw[if_neg (by simp[i]),if_neg (by simp[j]),if_neg (by simp[k,l,m,n]),if_neg o,j,f,Bool.false_and]
 have s:(a == 114)=false:=by simp[i]
 have t:(c == 43)=false:=by simp[k]
 have u:(c == 45)=false:=by simp[l]
 have v:(c == 42)=false:=by simp[m]
 have x:(c == 47)=false:=by simp[n]
 have y:(c == 41)=false:=by simp[o]
 clear k l m n o;subst j;clear i;have z:=h.cell;have A:=h.frozen;have B:=h.lt
 go_enter Tryz.func72,Tryz.ntmps72
 go_wp2_with fail
 refine(rdigit_any c _).mono ?_;rintro e C ⟨rfl,rfl⟩;rw[f];clear f
 go_wp2_with fail
 go_ret
 rw[r.out];exact⟨rfl,(Blk.set h),(KeepsBut.setCell (KeepsBut.refl _ _) _ _)⟩
theorem next_shut_b (d:Bool) (a g op c:Int) (b:Nat) (w:World) (h:Blk w b #[.bool d,.int .u8 a,.int .i64 g,.int .i64 op] 119) (q:0≤g∧g≤1000) (r:-1000≤op∧op≤1000) (i:¬ a=114) (j:d=false) (k:¬ c=43) (l:¬ c=45) (m:¬ c=42) (n:¬ c=47) (o:¬ c=41) (f:isDig c=true) (p:a=41) :
  Calls Tryz.prog 72 #[.pointer (some ⟨b,0,none⟩),.int .u8 c] w (RetN w b (scNext ⟨d,a,g,op⟩ c)):=by
 obtain⟨_,_⟩:=q;obtain⟨_,_⟩:=r;have s:Hid (scNext ⟨d,a,g,op⟩ c=(⟨false,a,g+1,op⟩,false)):=by unfold Hid scNext;rw[if_neg (by simp[i]),if_neg (by simp[j]),if_neg (by simp[k,l,m,n]),if_neg o,j,f,decide_eq_false (by simp[p]),Bool.false_and,Bool.and_false]
 have t:(a == 114)=false:=by simp[i]
 have u:(c == 43)=false:=by simp[k]
 have v:(c == 45)=false:=by simp[l]
 have x:(c == 42)=false:=by simp[m]
 have y:(c == 47)=false:=by simp[n]
 have z:(c == 41)=false:=by simp[o]
 clear k l m n o;have A:(a != 41)=false:=by simp[p]
 clear p;subst j;clear i;have B:=h.cell;have C:=h.frozen;have D:=h.lt
 go_enter Tryz.func72,Tryz.ntmps72
 go_wp2_with fail
 refine(rdigit_any c _).mono ?_;rintro e E ⟨rfl,rfl⟩;rw[f];clear f
 go_wp2_with fail
 go_ret
 rw[s.out];exact⟨rfl,(Blk.set h),(KeepsBut.setCell (KeepsBut.refl _ _) _ _)⟩
theorem next_more_a (d:Bool) (a f op c:Int) (b:Nat) (w:World) (h:Blk w b #[.bool d,.int .u8 a,.int .i64 f,.int .i64 op] 119) (r:0≤f∧f≤1000) (s:-1000≤op∧op≤1000) (i:a=114) (j:¬ f=0) (k:d=false) (l:¬ c=43) (m:¬ c=45) (n:¬ c=42) (o:¬ c=47) (p:¬ c=41) (g:isDig c=true) (q:¬ a=41) :
  Calls Tryz.prog 72 #[.pointer (some ⟨b,0,none⟩),.int .u8 c] w (RetN w b (scNext ⟨d,a,f,op⟩ c)):=by
 obtain⟨_,_⟩:=r;obtain⟨_,_⟩:=s;have t:Hid (scNext ⟨d,a,f,op⟩ c=(⟨false,a,f+1,op⟩,decide (f+1≤6))):=by unfold Hid scNext;rw[if_neg (by simp[j]),if_neg (by simp[k]),if_neg (by simp[l,m,n,o]),if_neg p,k,g,decide_eq_true (show a≠41 from q),Bool.true_and,Bool.true_and,if_pos i]
 have u:(a == 114)=true:=by simp[i]
 have v:(f == 0)=false:=by simp[j]
 have x:(c == 43)=false:=by simp[l]
 have y:(c == 45)=false:=by simp[m]
 have z:(c == 42)=false:=by simp[n]
 have A:(c == 47)=false:=by simp[o]
 have B:(c == 41)=false:=by simp[p]
 clear l m n o p;have C:(a != 41)=true:=by simp[q]
 clear q;subst k;clear i j;have D:=h.cell;have E:=h.frozen;have F:=h.lt
 go_enter Tryz.func72,Tryz.ntmps72
 go_wp2_with fail
 refine(rdigit_any c _).mono ?_;rintro e G ⟨rfl,rfl⟩;rw[g];clear g
 go_wp2_with fail
 go_ret
 rw[t.out];exact⟨rfl,(Blk.set h),(KeepsBut.setCell (KeepsBut.refl _ _) _ _)⟩
theorem next_more_b (d:Bool) (a f op c:Int) (b:Nat) (w:World) (h:Blk w b #[.bool d,.int .u8 a,.int .i64 f,.int .i64 op] 119) (q:0≤f∧f≤1000) (r:-1000≤op∧op≤1000) (i:¬ a=114) (j:d=false) (k:¬ c=43) (l:¬ c=45) (m:¬ c=42) (n:¬ c=47) (o:¬ c=41) (g:isDig c=true) (p:¬ a=41) :
  Calls Tryz.prog 72 #[.pointer (some ⟨b,0,none⟩),.int .u8 c] w (RetN w b (scNext ⟨d,a,f,op⟩ c)):=by
 obtain⟨_,_⟩:=q;obtain⟨_,_⟩:=r;have s:Hid (scNext ⟨d,a,f,op⟩ c=(⟨false,a,f+1,op⟩,decide (f+1≤18))):=by unfold Hid scNext;rw[if_neg (by simp[i]),if_neg (by simp[j]),if_neg (by simp[k,l,m,n]),if_neg o,j,g,decide_eq_true (show a≠41 from p),Bool.true_and,Bool.true_and,if_neg i]
 have t:(a == 114)=false:=by simp[i]
 have u:(c == 43)=false:=by simp[k]
 have v:(c == 45)=false:=by simp[l]
 have x:(c == 42)=false:=by simp[m]
 have y:(c == 47)=false:=by simp[n]
 have z:(c == 41)=false:=by simp[o]
 clear k l m n o;have A:(a != 41)=true:=by simp[p]
 clear p;subst j;clear i;have B:=h.cell;have C:=h.frozen;have D:=h.lt
 go_enter Tryz.func72,Tryz.ntmps72
 go_wp2_with fail
 refine(rdigit_any c _).mono ?_;rintro e E ⟨rfl,rfl⟩;rw[g];clear g
 go_wp2_with fail
 go_ret
 rw[s.out];exact⟨rfl,(Blk.set h),(KeepsBut.setCell (KeepsBut.refl _ _) _ _)⟩
end Go.Proofs.YtjahbjjekednfaaGreatDoor
