import Derived.Test.YtjahbjjekednfaaGreatDoorChecked
import Derived.Test.YtjahbjjekednfaaGreatDoorBase
import Derived.Test.YtjahbjjekednfaaGreatDoorMath
namespace Go.Proofs.YtjahbjjekednfaaGreatDoor
set_option maxHeartbeats 1600000
section
open Go.RowKit
theorem Tryz.infoI64:(Tryz.prog.info? 2).map (fun i=>(i.zero,i.size,i.bytes))=some (some (.int .i64 0),1,8):=by kernel_rfl
theorem significant_any (l:List Int) (v:Value) (w:World) (p:Row w 2 v l) :
  Calls Tryz.prog 87 #[v] w fun e q=>∃ n:Nat,e=.returned (.int .i64 n)∧q=w∧IsSig l n:=by
 obtain⟨z,r,b,s,rfl,j,m,t,d,c⟩:=p;clear t
 go_enter Tryz.func87,Tryz.ntmps87
 go_wp2
 go_loop [3] (fun n=>∃ k:Nat,k≤l.length∧n=.int .i64 k∧Hid (∀ i,k≤i→at0 l i=0)) (fun n=>(intOf n).toNat)
 case atStart=>exact⟨l.length,Nat.le_refl _,rfl,fun i u=>at0_ge u⟩
 case round =>
  obtain⟨k,o,rfl,f⟩:=hrel;by_cases x:0<k
  ·have ha:=(d (by omega)).1;subst ha;have A:=c (k - 1) (by omega);clear c d;by_cases a:at0 l (k - 1)=0
   ·have y:(at0 l (k - 1) == 0)=true:=by simp[a]
    have g:Hid (at0 l (k - 1)=0):=a;clear a
    go_wp2
    go_round
    case rel=>exact⟨k - 1,by omega,by go_num,fun i B=>by
     rcases Nat.lt_or_ge i k with h | h
     ·rw[show i=k - 1 by omega];exact g
     ·exact f i h⟩
    case measure=>simp[intOf];omega
   ·have y:(at0 l (k - 1) == 0)=false:=by simp[a]
    have g:Hid (at0 l (k - 1)≠0):=a;clear a
    go_wp2
    go_ret
    exact⟨k,rfl,rfl,o,f,fun _=>g⟩
  ·go_wp2
   go_ret
   exact⟨k,rfl,rfl,o,f,fun h=>absurd h x⟩
theorem limbAt_any (l:List Int) (v:Value) (i:Nat) (w:World) (p:i≤9223372036854775807) (g:Row w 2 v l) :
  Calls Tryz.prog 110 #[v,.int .i64 i] w fun e j=>e=.returned (.int .i64 (at0 l i))∧j=w:=by
 obtain⟨q,k,b,m,rfl,d,f,n,c,a⟩:=g;clear n;by_cases h:i<l.length
 ·have ha:=(c (by omega)).1;subst ha;have r:=a i h;clear a c
  go_enter Tryz.func110,Tryz.ntmps110
  go_wp2
  go_ret
  exact⟨rfl,rfl⟩
 ·have o:=at0_ge (l:=l) (i:=i) (by omega);clear a c
  go_enter Tryz.func110,Tryz.ntmps110
  go_wp2
  go_ret
  exact⟨by simp[o],rfl⟩
theorem copyLimbs_any (x:Int) (v:Value) (w:World) (e:Rp 2 1000000000 w v x) (f:Fit x) :
  Calls Tryz.prog 65 #[v] w (RetRp 2 1000000000 w x):=by
 obtain⟨l,h,g,rfl,q⟩:=e.len (by decide) f;have i:=Hid.mk g;clear g e f;obtain⟨j,m,b,c,d⟩:=info_parts Tryz.infoI64
 go_enter Tryz.func65,Tryz.ntmps65
 go_wp2_with (at_builtin;go_must (refine wpList_append_row _ rfl _ _ 36 rfl w.heap.size 2 j (.int .i64 0) 8 Tryz.underlying36 m b c d rfl _ 0 [] l _ rfl ?c1 rfl ?c2 ?c3 ?c4 ?c5 ?_))
 case c1=>exact World.ownsRow_made w #[] 0 (Nat.le_refl _) (by decide) rfl
 case c2=>exact h.keep (kp_alloc w _)
 case c3=>unfold maxLen;omega
 case c4=>omega
 case c5=>simp
 intro n r a o
 go_wp2
 go_ret
 exact⟨n,rfl,⟨_,Row.of_owns a,i.out,rfl⟩,(kp_alloc w _).grown' o (fun k p=>by simp[Value.ownBlock] at p;omega),fresh_of a⟩
def cmp3 (x y:Int):Int:=if x<y then -1 else if y<x then 1 else 0
theorem cmp3_lt {x y:Int} (h:x<y):cmp3 x y = -1:=by simp[cmp3,h]
theorem cmp3_gt {x y:Int} (h:y<x):cmp3 x y=1:=by simp[cmp3,h];omega
theorem cmp3_eq {x y:Int} (h:x=y):cmp3 x y=0:=by simp[cmp3,h]
theorem compareLimbs_any (x y:Int) (u v:Value) (w:World) (n:Rp 2 1000000000 w u x) (M:Rp 2 1000000000 w v y) :
  Calls Tryz.prog 78 #[u,v] w (RetV w (.int .i64 (cmp3 x y))):=by
 obtain⟨l,N,H,rfl⟩:=n;obtain⟨m,O,I,rfl⟩:=M;obtain⟨Y,P,b,A,rfl,J,K,Q,f,c⟩:=N;obtain⟨R,L,S,p,rfl,B,C,D,d,a⟩:=O;clear Q D;have r:Hid (Canon 1000000000 l):=H;have s:Hid (Canon 1000000000 m):=I;clear H I;rcases Nat.lt_trichotomy l.length m.length with h | h | h
 ·have g:=cmp3_lt (r.lt_of_len (by decide) s h);have o:=Hid.mk g;clear g f d c a
  go_enter Tryz.func78,Tryz.ntmps78
  go_wp2
  go_ret
  exact⟨by rw[o.out];rfl,Below.refl _ _⟩
 ·have E:(l.length:Int)=m.length:=by omega
  have q:Hid (l.length=m.length):=h;have Z:¬ (l.length<m.length):=by omega
  have h2:¬ (m.length<l.length):=by omega
  clear h E
  go_enter Tryz.func78,Tryz.ntmps78
  go_wp2
  go_loopw [5] (fun i wr=>∃ k:Nat,k≤l.length∧i=.int .i64 ((k:Int) - 1)∧Hid (∀ j,k≤j→at0 l j=at0 m j)∧Kp w wr) (fun i _=>(intOf i+1).toNat)
  case atStart=>exact⟨l.length,Nat.le_refl _,rfl,fun j t=>by rw[at0_ge t,at0_ge (by have:=q.out;omega)],Below.refl _ _⟩
  case round =>
   obtain⟨k,hk,rfl,z,e⟩:=hrel;have T:k≤m.length:=by have:=q.out;omega
   by_cases h0:0<k
   ·have ha:=(f (by omega)).1;have F:=(d (by omega)).1;subst ha;subst F;have hc:wr.cell? ⟨b,A+(k - 1),none⟩=some (.int .i64 (at0 l (k - 1))):=cell_later e (c (k - 1) (by omega));have U:wr.cell? ⟨S,p+(k - 1),none⟩=some (.int .i64 (at0 m (k - 1))):=cell_later e (a (k - 1) (by omega));clear c f a d;rcases Int.lt_trichotomy (at0 l (k - 1)) (at0 m (k - 1)) with n | n | n
    ·have g:=Hid.mk (cmp3_lt (val_lt_of_top (by decide) r.out.1 s.out.1 q.out (k:=k - 1) (by omega) (fun j t=>z.out j (by omega)) n))
     go_wp2
     go_region
     all_goals (try go_wp2)
     all_goals go_ret
     all_goals exact⟨by rw[g.out];rfl,e.drew⟩
    ·have G:¬ at0 l (k - 1)<at0 m (k - 1):=by omega
     have V:¬ at0 m (k - 1)<at0 l (k - 1):=by omega
     have W:=Hid.mk n;clear n
     go_wp2
     go_region
     go_wp2
     go_region
     go_wp2
     go_roundw
     case rel=>exact⟨k - 1,by omega,by go_num,fun j t=>by
      rcases Nat.lt_or_ge j k with h | h
      ·rw[show j=k - 1 by omega];exact W.out
      ·exact z.out j h,e.drew.drew⟩
     case measure=>simp[intOf];omega
    ·have g:=Hid.mk (cmp3_gt (val_lt_of_top (by decide) s.out.1 r.out.1 q.out.symm (k:=k - 1) (by omega) (fun j t=>(z.out j (by omega)).symm) n));have G:¬ at0 l (k - 1)<at0 m (k - 1):=by omega
     go_wp2
     go_region
     go_wp2
     go_region
     all_goals (try go_wp2)
     all_goals go_ret
     all_goals exact⟨by rw[g.out];rfl,e.drew.drew⟩
   ·have X:Hid (l=m):=ext_at0 q.out (fun i _=>z.out i (by omega))
    go_wp2
    go_ret
    exact⟨by rw[cmp3_eq (by rw[X.out])];rfl,e⟩
 ·have g:=cmp3_gt (s.lt_of_len (by decide) r h);have o:=Hid.mk g;clear g f d c a
  go_enter Tryz.func78,Tryz.ntmps78
  go_wp2
  go_ret
  exact⟨by rw[o.out];rfl,Below.refl _ _⟩
end
section
open Go.RowKit
theorem addC_bound {a b:List Int} (ha:Dig 1000000000 a) (c:Dig 1000000000 b) (k:Nat):0≤addC 1000000000 a b k∧addC 1000000000 a b k≤1:=addC_le (by decide) ha c k
theorem addLimbs_any (x y:Int) (u v:Value) (w:World) (X:Rp 2 1000000000 w u x) (Y:Rp 2 1000000000 w v y) (Z:Fit x) (fy:Fit y) :
  Calls Tryz.prog 89 #[u,v] w (RetRp 2 1000000000 w (x+y)):=by
 obtain⟨a,hu,ca,rfl,la⟩:=X.len (by decide) Z;obtain⟨b,hv,cb,rfl,lb⟩:=Y.len (by decide) fy;clear X Y Z fy;obtain⟨ao,ae,p,N,rfl,aa,ac,hn,n,h⟩:=hu;obtain⟨af,ad,p',t,rfl,O,P,Q,m,d⟩:=hv;clear hn Q;have F:=Hid.mk ca;have G:=Hid.mk cb;clear ca cb;obtain⟨H,I,o,q,r⟩:=info_parts Tryz.infoI64
 go_enter Tryz.func89,Tryz.ntmps89
 go_wp2
 go_loopw [5,6,7] (fun s c i wr=>∃ k:Nat,k≤a.length+b.length+1∧i=.int .i64 k∧c=.int .i64 (addC 1000000000 a b k)∧wr.ownsRow w.heap.size 2 1 s k (vals (addS 1000000000 a b k))∧Kp w wr ∧
   Hid (k=0∨k - 1<a.length∨k - 1<b.length∨0<addC 1000000000 a b (k - 1)))
  (fun _ _ i _=>a.length+b.length+2 - (intOf i).toNat)
 case atStart=>exact⟨0,by omega,rfl,rfl,World.ownsRow_made w #[] 0 (Nat.le_refl _) (by decide) rfl,kp_alloc w _,Or.inl rfl⟩
 case round =>
  obtain⟨k,hk,rfl,rfl,e,g,z⟩:=hrel;have R:=addC_bound F.out.1 G.out.1 k;have ag:=F.out.1 k;have ah:=G.out.1 k;have J:=Hid.mk (addS_succ 1000000000 a b k);have K:=Hid.mk (addC_succ 1000000000 a b k);have D:1≤k→k - 1 ≥ a.length→k - 1 ≥ b.length→addC 1000000000 a b k=0:=fun L C S=>by
   have:=addC_end (B:=1000000000) (by decide) F.out.1 G.out.1 C S
   rwa [show k - 1+1=k by omega] at this
  have T:=Hid.mk D;clear D;by_cases L:k<a.length
  ·have ha:=(n (by omega)).1;subst ha;have hc:wr.cell? ⟨p,N+k,none⟩=some (.int .i64 (at0 a k)):=cell_later g (h k L);by_cases C:k<b.length
   ·have A:=(m (by omega)).1;subst A;have U:wr.cell? ⟨p',t+k,none⟩=some (.int .i64 (at0 b k)):=cell_later g (d k C);clear h n d m
    go_wp2_with (at_builtin;(refine wpList_append_one wr rfl _ _ 36 rfl w 2 H (.int .i64 0) 8 Tryz.underlying36 I o q r rfl _ k _ ((addC 1000000000 a b k+at0 a k+at0 b k) % 1000000000) rfl (by exact e) g rfl (by unfold maxLen;omega) (by omega) ?_))
    intro V W f j;clear e g
    go_wp2
    go_roundw
    case rel=>exact⟨k+1,by omega,by go_num,by rw[K.out],by rw[J.out];exact f,j,Or.inr (Or.inl L)⟩
    case measure=>simp[intOf];omega
   ·have E:=Hid.mk (at0_ge (l:=b) (i:=k) (by omega));clear h n d m
    go_wp2_with (at_builtin;(refine wpList_append_one wr rfl _ _ 36 rfl w 2 H (.int .i64 0) 8 Tryz.underlying36 I o q r rfl _ k _ ((addC 1000000000 a b k+at0 a k) % 1000000000) rfl (by exact e) g rfl (by unfold maxLen;omega) (by omega) ?_))
    intro V W f j;clear e g
    go_wp2
    go_roundw
    case rel=>exact⟨k+1,by omega,by go_num,by rw[K.out,E.out,Int.add_zero],by rw[J.out,E.out,Int.add_zero];exact f,j,Or.inr (Or.inl L)⟩
    case measure=>simp[intOf];omega
  ·have M:=Hid.mk (at0_ge (l:=a) (i:=k) (by omega));by_cases C:k<b.length
   ·have A:=(m (by omega)).1;subst A;have U:wr.cell? ⟨p',t+k,none⟩=some (.int .i64 (at0 b k)):=cell_later g (d k C);clear h n d m
    go_wp2_with (at_builtin;(refine wpList_append_one wr rfl _ _ 36 rfl w 2 H (.int .i64 0) 8 Tryz.underlying36 I o q r rfl _ k _ ((addC 1000000000 a b k+at0 b k) % 1000000000) rfl (by exact e) g rfl (by unfold maxLen;omega) (by omega) ?_))
    intro V W f j;clear e g
    go_wp2
    go_roundw
    case rel=>exact⟨k+1,by omega,by go_num,by rw[K.out,M.out,Int.add_zero],by rw[J.out,M.out,Int.add_zero];exact f,j,Or.inr (Or.inr (Or.inl C))⟩
    case measure=>simp[intOf];omega
   ·have E:=Hid.mk (at0_ge (l:=b) (i:=k) (by omega));clear h n d m;by_cases S:0<addC 1000000000 a b k
    ·have ai:k≤a.length+b.length:=by
      rcases Nat.lt_or_ge (a.length+b.length) k with hh | hh
      ·have:=T.out (by omega) (by omega) (by omega);omega
      ·exact hh
     go_wp2_with (at_builtin;(refine wpList_append_one wr rfl _ _ 36 rfl w 2 H (.int .i64 0) 8 Tryz.underlying36 I o q r rfl _ k _ ((addC 1000000000 a b k) % 1000000000) rfl (by exact e) g rfl (by unfold maxLen;omega) (by omega) ?_))
     intro V W f j;clear e g
     go_wp2
     go_roundw
     case rel=>exact⟨k+1,by omega,by go_num,by rw[K.out,M.out,E.out,Int.add_zero,Int.add_zero],by rw[J.out,M.out,E.out,Int.add_zero,Int.add_zero];exact f,j,Or.inr (Or.inr (Or.inr S))⟩
     case measure=>simp[intOf];omega
    ·have HZ:Hid (addC 1000000000 a b k=0):=by have:=R.1;exact Int.le_antisymm (by omega) this
     have HD:=Hid.mk (add_done (B:=1000000000) (by decide) F.out G.out (k:=k) (by omega) (by omega) HZ.out z.out)
     go_wp2
     go_ret
     exact⟨_,rfl,⟨_,Row.of_owns e,HD.out⟩,g,fresh_of e⟩
end
section
open Go.RowKit
theorem subtract_end {w b:World} {u:Value} {l:List Int} {n:Nat} {x:Int} {c:Option Addr} {len a:Nat} (e:u=.slice c len a) (f:Row b 2 u l) (g:Dig 1000000000 l) (i:val 1000000000 l=x)
  (d:IsSig l n) (j:Kp w b) (k:Fresh w.heap.size u):RetRp 2 1000000000 w x (.returned (.slice c n a)) b:=by
 subst e;have h:=d.canon (B:=1000000000) (by decide) g;exact⟨_,rfl,⟨_,f.take d.1,h.1,by rw[h.2.1,i]⟩,j,k.cut⟩
theorem subtractLimbs_any (x y:Int) (u v:Value) (w:World) (Q:Rp 2 1000000000 w u x) (Y:Rp 2 1000000000 w v y) (R:Fit x) (t:y≤x) :
  Calls Tryz.prog 90 #[u,v] w (RetRp 2 1000000000 w (x - y)):=by
 obtain⟨a,Z,E,rfl,la⟩:=Q.len (by decide) R;obtain⟨b,hv,F,rfl⟩:=Y;have S:=Hid.mk (sub_done (B:=1000000000) (by decide) E F t);have DA:=Hid.mk E.1;have DB:=Hid.mk F.1;clear Q R t E F;obtain⟨ao,aa,p,G,rfl,T,U,hn,s,h⟩:=Z;obtain⟨ac,V,p',z,rfl,H,I,J,j,f⟩:=hv;clear hn J;obtain⟨i0,hi,K,L,M⟩:=info_parts Tryz.infoI64
 go_enter Tryz.func90,Tryz.ntmps90
 go_wp2_with (at_make;refine wpList_make_row _ rfl _ _ 36 rfl w 2 i0 8 Tryz.underlying36 hi K L M _ _ _ _ a.length rfl rfl rfl rfl (by omega) (by unfold maxLen;omega) (Below.refl _ _) ?_)
 intro w1 m A
 go_wp2
 go_loopw [6,7] (fun c i wr=>∃ k:Nat,k≤a.length∧i=.int .i64 k∧c=.int .i64 (subB a b k)∧wr.ownsRow w.heap.size 2 1 (.slice (some ⟨w.heap.size,0,none⟩) a.length a.length) a.length (vals (subS 1000000000 a b k))∧Kp w wr)
  (fun _ i _=>a.length - (intOf i).toNat)
 case atStart=>exact⟨0,by omega,rfl,rfl,m,A⟩
 case round =>
  obtain⟨k,hk,rfl,rfl,d,o⟩:=hrel;clear m A;have ad:=subB_le a b k;have ae:=DA.out k;have af:=DB.out k;by_cases W:k<a.length
  ·have ha:=(s (by omega)).1;subst ha;have hc:wr.cell? ⟨p,G+k,none⟩=some (.int .i64 (at0 a k)):=cell_later o (h k W);have ag:wr.frozen? ⟨w.heap.size,k,none⟩=false:=d.frozenAt k;have ah:=owns_cell d W;have C:=fun y=>owns_store d o k y;have g:=Hid.mk C;clear C d;by_cases h2:k<b.length
   ·have N:=(j (by omega)).1;subst N;have ai:wr.cell? ⟨p',z+k,none⟩=some (.int .i64 (at0 b k)):=cell_later o (f k h2);clear h s f j;by_cases q:at0 a k - subB a b k - at0 b k<0
    ·go_wp2
     go_roundw
     case rel=>exact⟨k+1,by omega,by go_num,by simp[subB,q],by have:=(g.out (at0 a k - subB a b k - at0 b k+1000000000)).1;simpa[subS,subD,q] using this,(g.out _).2⟩
     case measure=>simp[intOf];omega
    ·go_wp2
     go_roundw
     case rel=>exact⟨k+1,by omega,by go_num,by simp[subB,q],by have:=(g.out (at0 a k - subB a b k - at0 b k)).1;simpa[subS,subD,q] using this,(g.out _).2⟩
     case measure=>simp[intOf];omega
   ·have D:=Hid.mk (at0_ge (l:=b) (i:=k) (by omega));clear h s f j;by_cases q:at0 a k - subB a b k<0
    ·go_wp2
     go_roundw
     case rel=>exact⟨k+1,by omega,by go_num,by simp[subB,D.out,q],by have:=(g.out (at0 a k - subB a b k+1000000000)).1;simpa[subS,subD,D.out,q] using this,(g.out _).2⟩
     case measure=>simp[intOf];omega
    ·go_wp2
     go_roundw
     case rel=>exact⟨k+1,by omega,by go_num,by simp[subB,D.out,q],by have:=(g.out (at0 a k - subB a b k)).1;simpa[subS,subD,D.out,q] using this,(g.out _).2⟩
     case measure=>simp[intOf];omega
  ·have O:k=a.length:=by omega
   subst O;have X:=Row.of_owns d
   go_wp2_with (go_at_call 87;refine(significant_any _ _ _ (by exact X)).mono ?_;rintro e w2 ⟨n,rfl,rfl,r⟩;have P:=r.1;rw[subS_length] at P)
   go_ret
   exact subtract_end rfl X S.out.1 S.out.2 r o (fresh_of d)
end
section
open Go.RowKit
theorem multiplyLimbs_row (a b:List Int) (u v:Value) (w:World) (hu:Row w 2 u a) (hv:Row w 2 v b) (V:Dig 1000000000 a) (W:Dig 1000000000 b) (la:a.length≤400000000) (lb:b.length≤400000000) :
  Calls Tryz.prog 66 #[u,v] w (RetRp 2 1000000000 w (val 1000000000 a*val 1000000000 b)):=by
 have C:=Hid.mk V;have D:=Hid.mk W;clear V W;obtain⟨ao,aa,p,E,rfl,X,Y,hn,s,g⟩:=hu;obtain⟨ac,Z,p',z,rfl,F,G,H,l,f⟩:=hv;clear hn H;obtain⟨i0,hi,I,J,K⟩:=info_parts Tryz.infoI64
 go_enter Tryz.func66,Tryz.ntmps66
 go_wp2_with (at_make;refine wpList_make_row _ rfl _ _ 36 rfl w 2 i0 8 Tryz.underlying36 hi I J K _ _ _ _ (a.length+b.length) rfl rfl (by omega) (by omega) (by omega) (by unfold maxLen;omega) (Below.refl _ _) ?_)
 intro w1 m A
 go_wp2
 go_loopw [6] (fun i wr=>∃ k:Nat,k≤a.length∧i=.int .i64 k∧wr.ownsRow w.heap.size 2 1 (.slice (some ⟨w.heap.size,0,none⟩) (a.length+b.length) (a.length+b.length)) (a.length+b.length) (vals (mulTo 1000000000 a b k))∧Kp w wr)
  (fun i _=>a.length - (intOf i).toNat)
 case atStart=>exact⟨0,by omega,rfl,m,A⟩
 case round =>
  obtain⟨k,hk,rfl,h,t⟩:=hrel;clear m A;by_cases h1:k<a.length
  ·have ha:=(s (by omega)).1;subst ha;have L:=C.out k;have DT:=Hid.mk (mulTo_ok (B:=1000000000) (by decide) C.out D.out k)
   go_wp2
   go_loopw [7,8] (fun c j wq=>∃ i:Nat,i≤b.length∧j=.int .i64 i∧c=.int .i64 (mulC 1000000000 a b (mulTo 1000000000 a b k) k i)∧wq.ownsRow w.heap.size 2 1 (.slice (some ⟨w.heap.size,0,none⟩) (a.length+b.length) (a.length+b.length)) (a.length+b.length) (vals (mulS 1000000000 a b (mulTo 1000000000 a b k) k i))∧Kp w wq)
    (fun _ j _=>b.length - (intOf j).toNat)
   case atStart=>exact⟨0,by omega,rfl,rfl,h,t⟩
   case round =>
    obtain⟨j,hj,rfl,rfl,d,q⟩:=hrel;clear h t;have x:=mulIn_ok (B:=1000000000) (by decide) C.out D.out DT.out k j;have ad:=x.2;have ae:=x.1 (k+j);clear x;by_cases h2:j<b.length
    ·have M:=(l (by omega)).1;subst M;have N:=D.out j;have O:=dig_mul L N;have af:=O.1;have ag:at0 a k*at0 b j≤999999998000000001:=O.2;clear O;have hc:wr.cell? ⟨p,E+k,none⟩=some (.int .i64 (at0 a k)):=cell_later q (g k h1);have ah:wr.cell? ⟨p',z+j,none⟩=some (.int .i64 (at0 b j)):=cell_later q (f j h2);have P:=owns_cell d (i:=k+j) (by omega);have Q:wr.frozen? ⟨w.heap.size,k+j,none⟩=false:=d.frozenAt (k+j);have o:=Hid.mk (fun y=>owns_store d.drew q.drew (k+j) y);have R:=Hid.mk (mulS_succ 1000000000 a b (mulTo 1000000000 a b k) k j);have HC:=Hid.mk (mulC_succ 1000000000 a b (mulTo 1000000000 a b k) k j);clear g s f l d
     go_wp2
     go_region
     go_wp2
     go_roundw
     case rel=>exact⟨j+1,by omega,by go_num,by rw[HC.out],by rw[R.out];exact(o.out _).1,(o.out _).2⟩
     case measure=>simp[intOf];omega
    ·have S:j=b.length:=by omega
     subst S;have P:=owns_cell d (i:=k+b.length) (by omega);have Q:wr.frozen? ⟨w.heap.size,k+b.length,none⟩=false:=d.frozenAt (k+b.length);have o:=Hid.mk (fun y=>owns_store d q (k+b.length) y);have R:=Hid.mk (mulTo_succ 1000000000 a b k);clear g s f l d
     go_wp2
     go_roundw
     case rel=>exact⟨k+1,by omega,by go_num,by rw[R.out];exact(o.out _).1,(o.out _).2⟩
     case measure=>simp[intOf];omega
  ·have T:k=a.length:=by omega
   subst T;have hr:=Row.of_owns h
   go_wp2_with (go_at_call 87;refine(significant_any _ _ _ (by exact hr)).mono ?_;rintro e w2 ⟨n,rfl,rfl,r⟩;have U:=r.1;rw[mulTo_length] at U)
   go_ret
   exact subtract_end rfl hr (mulTo_ok (by decide) C.out D.out _) (mul_done _ _ _) r t (fresh_of h)
end
section
open Go.RowKit
theorem multiplyLimbs_any (x y:Int) (u v:Value) (w:World) (c:Rp 2 1000000000 w u x) (d:Rp 2 1000000000 w v y) (e:Fit x) (f:Fit y) :
  Calls Tryz.prog 66 #[u,v] w (RetRp 2 1000000000 w (x*y)):=by
 obtain⟨a,g,h,rfl,i⟩:=c.len (by decide) e;obtain⟨b,j,k,rfl,l⟩:=d.len (by decide) f;exact multiplyLimbs_row a b u v w g j h.1 k.1 i l
theorem limbAt_int (l:List Int) (v:Value) (i:Int) (w:World) (a:0≤i) (d:i≤9223372036854775807) (b:Row w 2 v l) :
  Calls Tryz.prog 110 #[v,.int .i64 i] w fun e c=>e=.returned (.int .i64 (at0 l i.toNat))∧c=w:=by
 obtain⟨n,rfl⟩:=Int.eq_ofNat_of_zero_le a;exact limbAt_any l v n w (by omega) b
theorem putBelow_any (x d:Int) (u:Value) (w:World) (o:Rp 2 1000000000 w u x) (p:Fit x) (s:0≤d∧d<1000000000) :
  Calls Tryz.prog 88 #[u,.int .i64 d] w (RetRp 2 1000000000 w (d+1000000000*x)):=by
 obtain⟨a,t,q,rfl,G⟩:=o.len (by decide) p;have v:=Hid.mk q.1;clear o p q;obtain⟨y,z,f,g,h⟩:=info_parts Tryz.infoI64
 go_enter Tryz.func88,Tryz.ntmps88
 go_wp2_with (at_builtin;refine wpList_append_row _ rfl _ _ 36 rfl w.heap.size 2 y (.int .i64 0) 8 Tryz.underlying36 z f g h rfl _ 1 [d] a _ rfl ?c1 rfl ?c2 ?c3 ?c4 ?c5 ?_)
 case c1=>exact World.ownsRow_lit w #[.int .i64 d] 1 (Nat.le_refl _) (by decide) rfl
 case c2=>exact t.keep (kp_alloc w _)
 case c3=>unfold maxLen;omega
 case c4=>omega
 case c5=>simp
 intro H A b r;have i:Kp w A:=(kp_alloc w _).grown' r (fun k i=>by simp[Value.ownBlock] at i;omega)
 have j:=Row.of_owns b;obtain⟨I,B,l,C,D⟩:=j.slice;have m:=fresh_of b;clear b r;subst l;have E:([d] ++ a).length=a.length+1:=by simp
 go_wp2_with (go_at_call 87;refine(significant_any _ _ _ (by exact j)).mono ?_;rintro e J ⟨n,rfl,rfl,c⟩;have F:=c.1)
 go_ret
 exact subtract_end rfl j (Dig.mk s v.out) rfl c i m
theorem estimate_any (R D:List Int) (u v:Value) (w:World) (m:Row w 2 u R) (n:Row w 2 v D) (c:Dig 1000000000 R) (d:Canon 1000000000 D) (j:0<D.length) :
  Calls Tryz.prog 91 #[u,v] w (RetV w (.int .i64 (estQ R D))):=by
 have q:=c D.length;have r:=c (D.length - 1);have s:=d.1 (D.length - 1);have t:1≤at0 D (D.length - 1):=by
  have:=d.2 j;omega
 have x:0≤(at0 R D.length*1000000000+at0 R (D.length - 1)) / at0 D (D.length - 1)∧(at0 R D.length*1000000000+at0 R (D.length - 1)) / at0 D (D.length - 1)≤1000000000000000000 :=
  ⟨Int.ediv_nonneg (by omega) (by omega),Int.le_trans (Int.ediv_le_self _ (by omega)) (by omega)⟩
 clear c d;obtain⟨o,k,y,l,rfl,f,g,h,b,a⟩:=n;have i:=(b j).1;subst i;have z:=a (D.length - 1) (by omega);clear h b a
 go_enter Tryz.func91,Tryz.ntmps91
 go_wp2_with (go_at_call 110;refine(limbAt_int R _ _ _ (by omega) (by omega) (by exact m)).mono ?_;rintro e A ⟨rfl,rfl⟩)
 ·go_ret
  exact⟨by rw[estQ,if_pos (by assumption)];rfl,Below.refl _ _⟩
 ·have p:(at0 R D.length*1000000000+at0 R (D.length - 1)) / at0 D (D.length - 1)<1000000000:=by assumption
  go_ret
  exact⟨by rw[estQ,if_neg (by omega)];rfl,Below.refl _ _⟩
end
end Go.Proofs.YtjahbjjekednfaaGreatDoor
