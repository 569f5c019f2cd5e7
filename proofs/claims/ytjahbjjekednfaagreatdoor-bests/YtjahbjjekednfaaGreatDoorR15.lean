import Derived.Test.YtjahbjjekednfaaGreatDoorE1
import Derived.Test.YtjahbjjekednfaaGreatDoorC1u
import Derived.Test.YtjahbjjekednfaaGreatDoorP4
namespace Go.Proofs.YtjahbjjekednfaaGreatDoor
set_option maxHeartbeats 3200000
set_option maxRecDepth 100000
open Go.RowKit
theorem lst_step (l:List Int) (a b:Int) (j:Nat) (o:Int):lst l a b (j+1) o=if at0 l (j+1)=41 then lst l a b j (o+1) else if at0 l (j+1)=40 then lst l a b j (o - 1)
  else if o=0∧(at0 l (j+1)=a∨at0 l (j+1)=b)∧(isDig (at0 l j)=true∨at0 l j=41) then ((j+1:Nat):Int) else lst l a b j o:=rfl
theorem last_any (s:ByteArray) (a b:Int) (w:World) (C:1≤s.size) (Q:s.size≤1000):Calls Tryz.prog 73 #[.string s,.int .u8 a,.int .u8 b] w (RetV w (.int .i64 (lst (bl s) a b (s.size - 1) 0))):=by
 generalize hR:lst (bl s) a b (s.size - 1) 0=RR
 go_enter Tryz.func73,Tryz.ntmps73
 go_wp2_with fail
 go_loopw [7,8,9] (fun op i _ wr=>∃(k:Nat) (o:Int),k≤s.size - 1∧i=.int .i64 k∧op=.int .i64 o∧-1000+(k:Int)≤o∧o≤1000 - (k:Int)∧Kp w wr∧Hid (RR=lst (bl s) a b k o))
  (fun _ i _ _=>(intOf i).toNat)
 case atStart=>exact⟨s.size - 1,0,by omega,by rw[show ((s.size - 1:Nat):Int)=(s.size:Int) - 1 by omega],rfl,by omega,by omega,Below.refl _ _,hR.symm⟩
 case round =>
  obtain⟨k,o,R,rfl,rfl,D,E,c,u⟩:=hrel;clear hR;by_cases F:k=0
  ·subst F;have q:Hid (RR = -1):=u.out
   go_wp2_with fail
   go_ret
   exact⟨by rw[q.out];rfl,c⟩
  ·obtain⟨j,t⟩:∃ j,k=j+1:=⟨k - 1,by omega⟩;have v:k<s.size:=by omega
   have x:j<s.size:=by omega
   have d:=Hid.mk t;have S:=byteAt_eq s k v;have r:=byteAt_eq s j x;have y:=u.out;rw[t,lst_step,← byteAt_bl,← byteAt_bl,← t] at y;have f:=Hid.mk y;have G:(0:Int)<(k:Int):=by omega
   have H:(k:Int)<(s.size:Int):=by omega
   have I:((k:Int) - 1).toNat=j:=by omega
   have J:(0:Int)≤(k:Int) - 1:=by omega
   have K:(k:Int) - 1<(s.size:Int):=by omega
   have L:(k:Int) - 1=((j:Nat):Int):=by omega
   clear y u t;generalize byteAt s k=g at *;generalize byteAt s j=l at *;by_cases c1:g=41
   ·have M:(g == 41)=true:=by simp[c1]
    have p:Hid (RR=lst (bl s) a b j (o+1)):=by unfold Hid;rw[f.out,if_pos c1]
    clear c1 f r
    go_wp2_with fail
    go_roundw
    case rel=>exact⟨j,o+1,by have:=d.out;omega,rfl,rfl,by have:=d.out;omega,by have:=d.out;omega,c,p⟩
    case measure=>simp[intOf];omega
   ·have M:(g == 41)=false:=by simp[c1]
    by_cases c2:g=40
    ·have N:(g == 40)=true:=by simp[c2]
     have p:Hid (RR=lst (bl s) a b j (o - 1)):=by unfold Hid;rw[f.out,if_neg c1,if_pos c2]
     clear c1 c2 f r
     go_wp2_with fail
     go_roundw
     case rel=>exact⟨j,o - 1,by have:=d.out;omega,rfl,rfl,by have:=d.out;omega,by have:=d.out;omega,c,p⟩
     case measure=>simp[intOf];omega
    ·have N:(g == 40)=false:=by simp[c2]
     by_cases c3:o=0∧(g=a∨g=b)
     ·obtain⟨c3,c4⟩:=c3;have A:(o == 0)=true:=by simp[c3]
      have n:Hid (RR=if isDig l=true∨l=41 then ((k:Nat):Int) else lst (bl s) a b j o):=by
       unfold Hid;rw[f.out,if_neg c1,if_neg c2];by_cases c5:isDig l=true∨l=41
       ·rw[if_pos ⟨c3,c4,c5⟩,if_pos c5]
       ·rw[if_neg (fun h=>c5 h.2.2),if_neg c5]
      clear f c1 c2;by_cases c5:g=a
      ·have B:(g == a)=true:=by simp[c5]
       clear c3 c4 c5
       go_wp2_with fail
       refine(rdigit_any l _).mono ?_;rintro e O ⟨rfl,rfl⟩
       cases hdg:isDig l
       ·by_cases m:l=41
        ·have z:(l == 41)=true:=by simp[m]
         have q:Hid (RR=((k:Nat):Int)):=by unfold Hid;rw[n.out,if_pos (Or.inr m)]
         clear m hdg n
         go_wp2_with fail
         go_ret
         exact⟨by rw[q.out];rfl,c⟩
        ·have z:(l == 41)=false:=by simp[m]
         have p:Hid (RR=lst (bl s) a b j o):=by unfold Hid;rw[n.out,if_neg (by simp[hdg,m])]
         clear m hdg n
         go_wp2_with fail
         go_roundw
         case rel=>exact⟨j,o,by have:=d.out;omega,rfl,rfl,by have:=d.out;omega,by have:=d.out;omega,c,p⟩
         case measure=>simp[intOf];omega
       ·have q:Hid (RR=((k:Nat):Int)):=by unfold Hid;rw[n.out,if_pos (Or.inl hdg)]
        clear hdg n
        go_wp2_with fail
        go_ret
        exact⟨by rw[q.out];rfl,c⟩
      ·have B:(g == a)=false:=by simp[c5]
       have P:(g == b)=true:=by
        rcases c4 with c4 | c4
        ·exact absurd c4 c5
        ·simp[c4]
       clear c3 c4 c5
       go_wp2_with fail
       refine(rdigit_any l _).mono ?_;rintro e O ⟨rfl,rfl⟩
       cases hdg:isDig l
       ·by_cases m:l=41
        ·have z:(l == 41)=true:=by simp[m]
         have q:Hid (RR=((k:Nat):Int)):=by unfold Hid;rw[n.out,if_pos (Or.inr m)]
         clear m hdg n
         go_wp2_with fail
         go_ret
         exact⟨by rw[q.out];rfl,c⟩
        ·have z:(l == 41)=false:=by simp[m]
         have p:Hid (RR=lst (bl s) a b j o):=by unfold Hid;rw[n.out,if_neg (by simp[hdg,m])]
         clear m hdg n
         go_wp2_with fail
         go_roundw
         case rel=>exact⟨j,o,by have:=d.out;omega,rfl,rfl,by have:=d.out;omega,by have:=d.out;omega,c,p⟩
         case measure=>simp[intOf];omega
       ·have q:Hid (RR=((k:Nat):Int)):=by unfold Hid;rw[n.out,if_pos (Or.inl hdg)]
        clear hdg n
        go_wp2_with fail
        go_ret
        exact⟨by rw[q.out];rfl,c⟩
     ·have p:Hid (RR=lst (bl s) a b j o):=by
       unfold Hid;rw[f.out,if_neg c1,if_neg c2,if_neg (fun h=>c3 ⟨h.1,h.2.1⟩)]
      clear f c1 c2;by_cases c4:o=0
      ·have A:(o == 0)=true:=by simp[c4]
       have B:(g == a)=false:=by
        have:g≠a:=fun h=>c3 ⟨c4,Or.inl h⟩;simp[this]
       have P:(g == b)=false:=by
        have:g≠b:=fun h=>c3 ⟨c4,Or.inr h⟩;simp[this]
       clear c3 c4
       go_wp2_with fail
       go_roundw
       case rel=>exact⟨j,o,by have:=d.out;omega,rfl,rfl,by have:=d.out;omega,by have:=d.out;omega,c,p⟩
       case measure=>simp[intOf];omega
      ·have A:(o == 0)=false:=by simp[c4]
       clear c3 c4
       go_wp2_with fail
       go_roundw
       case rel=>exact⟨j,o,by have:=d.out;omega,rfl,rfl,by have:=d.out;omega,by have:=d.out;omega,c,p⟩
       case measure=>simp[intOf];omega
end Go.Proofs.YtjahbjjekednfaaGreatDoor
