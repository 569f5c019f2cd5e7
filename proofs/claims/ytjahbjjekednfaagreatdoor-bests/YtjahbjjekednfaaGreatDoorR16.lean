import Derived.Test.YtjahbjjekednfaaGreatDoorR10
import Derived.Test.YtjahbjjekednfaaGreatDoorC1u
namespace Go.Proofs.YtjahbjjekednfaaGreatDoor
set_option maxHeartbeats 3200000
set_option maxRecDepth 100000
open Go.RowKit
theorem read_ref (s:ByteArray) (w:World) (hd:Digs (bl s)) (hl:s.size≤18):Calls Tryz.prog 99 #[.string s] w (RetI w (decN (bl s))):=by
 have f10:Fit 10:=⟨2,by decide,by decide⟩;have F:=bl_len s;have G:Kp w _:=Kp.alloc' (kp_alloc w (.cells #[.bool false,.slice none 0 0] 52)) (.cells #[.bool false,.slice none 0 0] 52);have H:Blk ((w.alloc (.cells #[.bool false,.slice none 0 0] 52)).alloc (.cells #[.bool false,.slice none 0 0] 52)) (w.heap.size) #[.bool false,.slice none 0 0] 52:=Blk.alloc (Blk.new w _ _) (.cells #[.bool false,.slice none 0 0] 52);have I:Blk ((w.alloc (.cells #[.bool false,.slice none 0 0] 52)).alloc (.cells #[.bool false,.slice none 0 0] 52)) (w.heap.size+1) #[.bool false,.slice none 0 0] 52:=Blk.at (Blk.new (w.alloc (.cells #[.bool false,.slice none 0 0] 52)) _ _) (by simp)
 go_enter Tryz.func99,Tryz.ntmps99
 go_wp2_with fail
 go_loopw [4] (fun i wr=>∃(j:Nat) (r:Bool) (g:Option Addr) (t c1:Nat),j≤s.size∧i=.int .i64 j∧Blk wr (w.heap.size+1) #[.bool r,.slice g t c1] 52∧Blk wr (w.heap.size) #[.bool false,.slice none 0 0] 52∧IN wr (.agg #[.bool r,.slice g t c1]) (decN ((bl s).take j))∧Kp w wr)
  (fun i _=>s.size - (intOf i).toNat)
 case atStart=>exact⟨0,false,none,0,0,by omega,rfl,I,H,in_zero _,G⟩
 case round =>
  clear H I G;obtain⟨j,r,g,t,c1,hj,rfl,V,J,X,L⟩:=hrel;have aE:=V.lt;have aF:=J.lt;by_cases h1:j<s.size
  ·have hb:=byteAt_eq s j h1;have M:j<(bl s).length:=by omega
   have HD:Hid (decN ((bl s).take (j+1))=decN ((bl s).take j)*10+(byteAt s j - 48)):=by
    unfold Hid;rw[take_snoc M,decN_snoc,byteAt_bl]
   have aG:48≤byteAt s j∧byteAt s j≤57:=by
    rw[byteAt_bl];exact isDig_bd (digs_at hd M)
   have W:=decN_bd (digs_take hd j);have Y:((bl s).take j).length=j:=by rw[List.length_take];omega
   rw[Y] at W;have aH:=W.1;have aI:decN ((bl s).take j)<1000000000000000000:=Int.lt_of_lt_of_le W.2 (show (10:Int) ^ j≤10 ^ 18 by exact_mod_cast Nat.pow_le_pow_right (show 0<10 by decide) (show j≤18 by omega));have aJ:(j:Int)<(s.size:Int):=by omega
   have aK:(0:Int)≤(j:Int):=by omega
   clear W;generalize decN ((bl s).take j)=N at *;generalize byteAt s j=C at *;have fN:Fit N:=⟨19,by decide,by omega⟩;have fT:Fit (N*10):=⟨20,by decide,by omega⟩;have Z:0≤C - 48:=by omega
   have fC:Fit (C - 48):=⟨2,by decide,by omega⟩;have aL:IntKind.i64.wrap C=C:=IntWalk.i64_in _ (by omega);have aM:IntKind.i64.wrap (C - 48)=C - 48:=IntWalk.i64_in _ (by omega)
   go_wp2_with fail
   refine wp_region_l (S:=fun u=>Kp wr u) (by kernel_rfl) (Kp.drew' (Below.refl _ _)) (fun h=>?_);generalize wr.drew=wd at *;refine wpAnyL_tk (i:=0) (k:=2) (v:=.agg #[.bool r,.slice g t c1]) rfl ?_ h ?_
   ·intro u m;have hc:=((V).keep m).cell;go_simp
   simp only[sq];refine wpAnyL_tk (i:=3) (k:=5) (v:=.string s) rfl ?_ h ?_
   ·intro u m;go_simp
   simp only[sq];refine wpAnyL_tk (i:=4) (k:=5) (v:=.int .i64 j) rfl ?_ h ?_
   ·intro u m;go_simp
   simp only[sq];refine wpAnyL_tk (i:=5) (k:=6) (v:=.int .u8 C) rfl ?_ h ?_
   ·intro u m;go_simp
   simp only[sq];refine wpAnyL_tk (i:=6) (k:=7) (v:=.int .i64 C) rfl ?_ h ?_
   ·intro u m;go_simp
   simp only[sq];refine wpAnyL_tk (i:=7) (k:=8) (v:=.int .i64 (C - 48)) rfl ?_ h ?_
   ·intro u m;go_simp
   simp only[sq];refine wpAnyL_on (i:=1) rfl (fun K l=>?_)
   go_simp
   refine(of_any 10 _ (by decide) (by decide)).mono ?_;rintro e am ⟨an,rfl,n,x⟩;obtain⟨ao,aa,ap,aq,rfl⟩:=n.shape'
   go_wp2_with fail
   refine l.out _ _ (h.trans' x) (fun O=>?_);clear l K;refine wpAnyL_on (i:=2) rfl (fun K l=>?_)
   go_simp
   refine(rtimes_any N 10 _ _ _ (X.keep O) n fN f10).mono ?_;rintro e ar ⟨au,rfl,f,y⟩;obtain⟨av,ac,aw,ax,rfl⟩:=f.shape'
   go_wp2_with fail
   refine l.out _ _ (O.trans' y) (fun ad=>?_);clear l K;refine wpAnyL_on (i:=8) rfl (fun K l=>?_)
   go_simp
   refine(of_any (C - 48) _ Z (by omega)).mono ?_;rintro e ay ⟨az,rfl,o,p⟩;obtain⟨aA,ae,aB,aC,rfl⟩:=o.shape';replace f:=f.keep p
   go_wp2_with fail
   refine l.out _ _ (ad.trans' p) (fun af=>?_);clear l K;refine wpAnyL_on (i:=9) rfl (fun K l=>?_)
   go_simp
   refine(rplus_any (N*10) (C - 48) _ _ _ f o fT fC).mono ?_;rintro e P ⟨aD,rfl,q,z⟩;obtain⟨b,a,c,d,rfl⟩:=q.shape'
   go_wp2_with fail
   refine l.out _ _ (af.trans' z) (fun B=>?_);clear l K;have D:=(V).keep B;have Q:=D.cell;have R:=D.frozen;have T:=D.lt;refine wpAnyL_last (i:=10) rfl (by kernel_rfl) (by kernel_rfl) (by kernel_rfl) (fun K l=>?_)
   go_simp
   refine l.out _ _ ?_;clear l K;have U:=(sf2 (E:=3) (.bool b) (.slice a c d) D (by decide));have ag:=(bl2 (.bool b) (.slice a c d) D);have ah:=(ot2 (A:=w.heap.size+1) (.bool b) (.slice a c d) (J.keep B) (by omega));have ai:=q.soft U;have aj:=(kp2 (A:=w.heap.size+1) (.bool b) (.slice a c d) (L.trans' B) (by show w.heap.size≤w.heap.size+1;omega))
   clear U Q R T D;generalize ((P.setCell ⟨w.heap.size+1,0,none⟩ (.bool b)).setCell ⟨w.heap.size+1,1,none⟩ (.slice a c d))=wk at *
   go_wp2_with fail
   go_roundw
   case rel=>exact⟨j+1,b,a,c,d,by omega,by go_num,ag,ah,by rw[HD.out];exact ai,aj⟩
   case measure=>simp[intOf];omega
  ·have ak:j=s.size:=by omega
   subst ak;rw[← F,List.take_length] at X;have aN:=V.cell;have al:=J.cell;have aO:=J.frozen
   go_wp2_with fail
   refine bodyPost_ret (v:=.agg #[.bool r,.slice g t c1]) (by simp[results,Tryz.results99,go_sem,al]) rfl ?_;exact retI_mk X (sf2 (.bool r) (.slice g t c1) J (by decide)) (kp2 (A:=w.heap.size) (.bool r) (.slice g t c1) L (Nat.le_refl _))
end Go.Proofs.YtjahbjjekednfaaGreatDoor
