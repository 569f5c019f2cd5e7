import Derived.Test.YtjahbjjekednfaaGreatDoorP4
namespace Go.Proofs.YtjahbjjekednfaaGreatDoor
set_option maxHeartbeats 1600000
set_option maxRecDepth 100000
section
open Go.RowKit
theorem scnext_any (x:Sc) (c:Int) (b:Nat) (w:World) (d:Blk w b #[.bool x.want,.int .u8 x.what,.int .i64 x.dg,.int .i64 x.op] 119) (e:0≤x.dg∧x.dg≤1000) (f:-1000≤x.op∧x.op≤1000) :
    Calls Tryz.prog 72 #[.pointer (some ⟨b,0,none⟩),.int .u8 c] w (RetN w b (scNext x c)):=by
  obtain⟨m,a,g,op⟩:=x;simp only at d e f;by_cases h:a=114
  · by_cases k:g=0
    · exact next_root m a g op c b w d e f h k
    · cases hw:m
      · subst hw
        by_cases i:c=43
        · exact next_sign0_a false a g op c b w d e f h k rfl i
        by_cases j:c=45
        · exact next_sign1_a false a g op c b w d e f h k rfl i j
        by_cases l:c=42
        · exact next_sign2_a false a g op c b w d e f h k rfl i j l
        by_cases n:c=47
        · exact next_sign3_a false a g op c b w d e f h k rfl i j l n
        by_cases p:c=41
        · exact next_close_a false a g op c b w d e f h k rfl i j l n p
        cases hdd:isDig c
        · exact next_bad_a false a g op c b w d e f h k rfl i j l n p hdd
        · exact next_more_a false a g op c b w d e f h k rfl i j l n p hdd (by omega)
      · subst hw
        cases hdd:isDig c
        · by_cases o:c=114
          · exact next_r_a true a g op c b w d e f h k rfl hdd o
          by_cases q:c=40
          · by_cases r:op<8
            · exact next_open_a true a g op c b w d e f h k rfl hdd o q r
            · exact next_deep_a true a g op c b w d e f h k rfl hdd o q r
          · exact next_other_a true a g op c b w d e f h k rfl hdd o q
        · exact next_digit_a true a g op c b w d e f h k rfl hdd
  · cases hw:m
    · subst hw
      by_cases i:c=43
      · exact next_sign0_b false a g op c b w d e f h rfl i
      by_cases j:c=45
      · exact next_sign1_b false a g op c b w d e f h rfl i j
      by_cases l:c=42
      · exact next_sign2_b false a g op c b w d e f h rfl i j l
      by_cases n:c=47
      · exact next_sign3_b false a g op c b w d e f h rfl i j l n
      by_cases p:c=41
      · exact next_close_b false a g op c b w d e f h rfl i j l n p
      cases hdd:isDig c
      · exact next_bad_b false a g op c b w d e f h rfl i j l n p hdd
      · by_cases s:a=41
        · exact next_shut_b false a g op c b w d e f h rfl i j l n p hdd s
        · exact next_more_b false a g op c b w d e f h rfl i j l n p hdd s
    · subst hw
      cases hdd:isDig c
      · by_cases o:c=114
        · exact next_r_b true a g op c b w d e f h rfl hdd o
        by_cases q:c=40
        · by_cases r:op<8
          · exact next_open_b true a g op c b w d e f h rfl hdd o q r
          · exact next_deep_b true a g op c b w d e f h rfl hdd o q r
        · exact next_other_b true a g op c b w d e f h rfl hdd o q
      · exact next_digit_b true a g op c b w d e f h rfl hdd
def Same (a:Pl) (x:Sc):Prop:=x.op=a.d ∧
  ((a.k=0∧x.want=true∧x.what=0∧a.r=18)∨(a.k=1∧x.want=false∧x.what=114∧x.dg=0∧a.r=6) ∨
   (a.k=2∧x.want=false∧((x.what=110∧a.r=18 - x.dg∧1≤x.dg)∨(x.what=114∧a.r=6 - x.dg∧1≤x.dg)∨(x.what=41∧a.r=0))))
theorem dig_not {c:Int} (h:isDig c=true):¬ (c=43∨c=45∨c=42∨c=47)∧¬ c=41:=by
  unfold isDig at h;simp at h;omega
theorem same_step {a:Pl} {x:Sc} (c:Int) (h:Same a x):(plStep a c).2=(scNext x c).2∧((plStep a c).2=true→Same (plStep a c).1 (scNext x c).1):=by
  obtain⟨k,r,d⟩:=a;obtain⟨i,j,g,op⟩:=x;obtain⟨l,h⟩:=h;simp only at l h;subst l;rcases h with ⟨rfl,rfl,rfl,rfl⟩|⟨rfl,rfl,rfl,rfl,rfl⟩|⟨rfl,rfl,h⟩
  ·
    cases hd:isDig c
    · by_cases b:c=114
      · subst b;simp[plStep,scNext,beginF,hd,Same]
      by_cases e:c=45
      · subst e;simp[plStep,scNext,beginF,hd,Same]
      by_cases m:c=40
      · subst m
        by_cases n:op<8
        · simp[plStep,scNext,beginF,hd,Same,n]
        · simp[plStep,scNext,beginF,hd,Same,n]
      · simp[plStep,scNext,beginF,hd,Same,b,e,m]
    · simp[plStep,scNext,hd,Same]
  ·
    cases hd:isDig c
    · simp[plStep,scNext,hd,Same]
    · simp[plStep,scNext,hd,Same]
  ·
    cases hd:isDig c
    · by_cases b:c=43∨c=45∨c=42∨c=47
      · rcases h with ⟨rfl,rfl,f⟩|⟨rfl,rfl,f⟩|⟨rfl,rfl⟩
        · simp[plStep,scNext,goOnP,hd,Same,b]
        · simp[plStep,scNext,goOnP,hd,Same,b,show ¬ g=0 by omega]
        · simp[plStep,scNext,goOnP,hd,Same,b]
      · by_cases e:c=41
        · subst e
          rcases h with ⟨rfl,rfl,f⟩|⟨rfl,rfl,f⟩|⟨rfl,rfl⟩
          · simp[plStep,scNext,goOnP,hd,Same];omega
          · simp[plStep,scNext,goOnP,hd,Same,show ¬ g=0 by omega];omega
          · simp[plStep,scNext,goOnP,hd,Same];omega
        · rcases h with ⟨rfl,rfl,f⟩|⟨rfl,rfl,f⟩|⟨rfl,rfl⟩
          · simp[plStep,scNext,goOnP,hd,Same,b,e]
          · simp[plStep,scNext,goOnP,hd,Same,b,e,show ¬ g=0 by omega]
          · simp[plStep,scNext,goOnP,hd,Same,b,e]
    · obtain⟨b,e⟩:=dig_not hd
      rcases h with ⟨rfl,rfl,f⟩|⟨rfl,rfl,f⟩|⟨rfl,rfl⟩
      · simp[plStep,scNext,hd,Same,b,e];omega
      · simp[plStep,scNext,hd,Same,b,e,show ¬ g=0 by omega];omega
      · simp[plStep,scNext,hd,Same,b,e]
end
section
open Go.RowKit
theorem scNext_dg {x:Sc} {c:Int} (h:0≤x.dg∧x.dg≤18) (a:(scNext x c).2=true):0≤(scNext x c).1.dg∧(scNext x c).1.dg≤18:=by
 obtain⟨b,d,g,op⟩:=x;simp only at h;unfold scNext at *;simp only at *
 split at a
 ·rename_i e;rw[if_pos e];simp
 ·rename_i e;rw[if_neg e]
  split at a
  ·rename_i e;rw[if_pos e]
   split at a
   ·rename_i e;rw[if_pos e];simp
   ·rename_i e;rw[if_neg e]
    split at a
    ·rename_i e;rw[if_pos e];simp
    ·rename_i e;rw[if_neg e]
     split at a
     ·rename_i e;rw[if_pos e];exact h
     ·rename_i e;rw[if_neg e];exact h
  ·rename_i e;rw[if_neg e]
   split at a
   ·rename_i e;rw[if_pos e];exact h
   ·rename_i e;rw[if_neg e]
    split at a
    ·rename_i e;rw[if_pos e];exact h
    ·rename_i e;rw[if_neg e]
     simp only[Bool.and_eq_true,decide_eq_true_eq] at a;have f:=a.2.2
     split at f <;> (simp only;omega)
def ScAt (s:ByteArray) (j:Nat) (x:Sc):Prop:=Same (plAt s j) x∧(0≤x.dg∧x.dg≤18)∧PlGood (plAt s j)∧plFault s 0 s.size=plFault s j (s.size - j)
theorem same_end {a:Pl} {x:Sc} (h:Same a x):(a.k≠2∨0<a.d)↔(x.want=true∨0<x.op∨(x.what=114∧x.dg=0)):=by
 obtain⟨g,h⟩:=h;rcases h with ⟨b,c,_⟩|⟨b,c,i,j,_⟩|⟨b,c,h⟩
 ·simp[b,c]
 ·simp[b,i,j]
 ·rw[g,b,c];simp only[ne_eq,not_true_eq_false,false_or,Bool.false_eq_true];constructor
  ·intro e;exact Or.inl e
  ·rintro (e | ⟨e,l⟩)
   ·exact e
   ·rcases h with ⟨f,_⟩|⟨_,_,f⟩|⟨f,_⟩ <;> omega
theorem form_any (s:ByteArray) (w:World) (V:s.size≤1000):Calls Tryz.prog 44 #[.string s] w (RetV w (.int .i64 (plFault s 0 s.size))):=by
 go_enter Tryz.func44,Tryz.ntmps44
 go_wp2_with fail
 go_loopw [4,5] (fun i _ wr=>∃(j:Nat) (f:Bool) (a p op:Int),j≤s.size∧i=.int .i64 j∧Blk wr w.heap.size #[.bool f,.int .u8 a,.int .i64 p,.int .i64 op] 119∧Kp w wr∧Hid (ScAt s j ⟨f,a,p,op⟩))
  (fun i _ _=>s.size - (intOf i).toNat)
 case atStart=>exact⟨0,true,0,0,0,by omega,rfl,Blk.new _ _ _,kp_alloc _ _,⟨rfl,Or.inl ⟨rfl,rfl,rfl,rfl⟩⟩,⟨by simp,by simp⟩,⟨by simp[plAt],by simp[plAt],by simp[plAt],by simp[plAt]⟩,rfl⟩
 case round =>
  obtain⟨j,f,a,p,op,W,rfl,G,c,v⟩:=hrel;have N:=G.cell;have O:=G.lt;obtain⟨g,n,l,o⟩:=v.out;have y:-1000≤op∧op≤1000:=by
   have I:=g.1;simp only at I;obtain⟨_,_,X,Y⟩:=l;omega
  by_cases I:j<s.size
  ·have Z:=byteAt_eq s j I;have P:(j:Int)<(s.size:Int):=by omega
   have q:=same_step (byteAt s j) g;have x:plFault s j (s.size - j)=if plGo s j=true then plFault s (j+1) (s.size - (j+1)) else (j:Int):=by
    rw[show s.size - j=(s.size - (j+1))+1 by omega];rfl
   have H:=Hid.mk (fun b R J=>scnext_any ⟨f,a,p,op⟩ (byteAt s j) b R J ⟨n.1,Int.le_trans n.2 (by decide)⟩ y);by_cases hg:plGo s j=true
   ·have B:(scNext ⟨f,a,p,op⟩ (byteAt s j)).2=true:=by rw[← q.1];exact hg
    have S:Hid (ScAt s (j+1) (scNext ⟨f,a,p,op⟩ (byteAt s j)).1):=⟨q.2 hg,scNext_dg n B,plStep_good l hg,by rw[o,x,if_pos hg]⟩;clear v g n l o y q x hg
    go_wp2_with fail
    refine(H.out w.heap.size _ G).mono ?_;rintro e K ⟨rfl,D,m⟩;rw[B];have z:Kp w K:=⟨m.os.trans c.os,m.tape.trans c.tape,m.output.trans c.output,Nat.le_trans c.size m.size,fun i E=>(m.block i (Nat.lt_of_lt_of_le E c.size) (by omega)).trans (c.block i E)⟩;generalize scNext ⟨f,a,p,op⟩ (byteAt s j)=Q at *;clear B H
    go_wp2_with fail
    go_roundw
    case rel=>exact⟨j+1,Q.1.want,Q.1.what,Q.1.dg,Q.1.op,by omega,by go_num,D,z,S⟩
    case measure=>simp[intOf];omega
   ·have B:(scNext ⟨f,a,p,op⟩ (byteAt s j)).2=false:=by rw[← q.1];exact Bool.eq_false_iff.mpr hg
    have r:Hid (plFault s 0 s.size=(j:Int)):=by unfold Hid;rw[o,x,if_neg hg]
    clear v g n l o y q x hg
    go_wp2_with fail
    refine(H.out w.heap.size _ G).mono ?_;rintro e K ⟨rfl,D,m⟩;rw[B];have z:Kp w K:=⟨m.os.trans c.os,m.tape.trans c.tape,m.output.trans c.output,Nat.le_trans c.size m.size,fun i E=>(m.block i (Nat.lt_of_lt_of_le E c.size) (by omega)).trans (c.block i E)⟩;clear B H
    go_wp2_with fail
    go_ret
    exact⟨by rw[r.out];rfl,z⟩
  ·have L:j=s.size:=by omega
   subst L;have t:=same_end g;have u:plFault s 0 s.size=if (plAt s s.size).k≠2∨0<(plAt s s.size).d then (s.size:Int) else -1:=by rw[o,Nat.sub_self];rfl
   simp only at t;clear v g n l o;by_cases F:f=true
   ·have r:Hid (plFault s 0 s.size=(s.size:Int)):=by unfold Hid;rw[u,if_pos (t.mpr (Or.inl F))]
    subst F;clear t u
    go_wp2_with fail
    go_ret
    exact⟨by rw[r.out];rfl,c⟩
   ·have F:f=false:=by simpa using F
    subst F;by_cases M:0<op
    ·have r:Hid (plFault s 0 s.size=(s.size:Int)):=by unfold Hid;rw[u,if_pos (t.mpr (Or.inr (Or.inl M)))]
     clear t u
     go_wp2_with fail
     go_ret
     exact⟨by rw[r.out];rfl,c⟩
    ·by_cases A:a=114
     ·have T:(a == 114)=true:=by simp[A]
      by_cases C:p=0
      ·have U:(p == 0)=true:=by simp[C]
       have r:Hid (plFault s 0 s.size=(s.size:Int)):=by unfold Hid;rw[u,if_pos (t.mpr (Or.inr (Or.inr ⟨A,C⟩)))]
       clear t u A C
       go_wp2_with fail
       go_ret
       exact⟨by rw[r.out];rfl,c⟩
      ·have U:(p == 0)=false:=by simp[C]
       have r:Hid (plFault s 0 s.size = -1):=by unfold Hid;rw[u,if_neg (fun h=>(t.mp h).elim (fun h=>Bool.noConfusion h) (fun h=>h.elim M (fun h=>C h.2)))]
       clear t u A C
       go_wp2_with fail
       go_ret
       exact⟨by rw[r.out];rfl,c⟩
     ·have T:(a == 114)=false:=by simp[A]
      have r:Hid (plFault s 0 s.size = -1):=by unfold Hid;rw[u,if_neg (fun h=>(t.mp h).elim (fun h=>Bool.noConfusion h) (fun h=>h.elim M (fun h=>A h.1)))]
      clear t u A
      go_wp2_with fail
      go_ret
      exact⟨by rw[r.out];rfl,c⟩
end
end Go.Proofs.YtjahbjjekednfaaGreatDoor
