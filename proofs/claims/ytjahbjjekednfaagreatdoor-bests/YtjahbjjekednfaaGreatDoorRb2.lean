import Derived.Test.YtjahbjjekednfaaGreatDoorRb
import Derived.Test.YtjahbjjekednfaaGreatDoorBz
import Derived.Test.YtjahbjjekednfaaGreatDoorRows
import Derived.Test.YtjahbjjekednfaaGreatDoorTie
import Derived.Test.YtjahbjjekednfaaGreatDoorCards
import Derived.WalkKit
import Derived.ProofKit
import Derived.LaidMore
import Derived.OpenShut
import Derived.ShutString
import Derived.ChangeOld
import Derived.Below
import Derived.Lib.LaidTab
import Derived.Stop.Joined
import Derived.SevenTiedAt
set_option maxHeartbeats 3200000
set_option maxRecDepth 100000
namespace Go.Proofs.YtjahbjjekednfaaGreatDoor
open Go.RowKit
theorem outB_ex (r:Rs) (n:Int) (c:r.e=0→Cn r.v):∃ d s2 er,OutB r n d s2 er:=by
 by_cases a:r.e=0
 ·by_cases b:1≤n∧n≤1000
  ·obtain⟨J,f⟩:=bat_ex (c a) n;exact⟨_,_,_,Or.inr (Or.inr ⟨a,b.1,b.2,J,f,rfl,rfl,rfl⟩)⟩
  ·exact⟨_,_,_,Or.inr (Or.inl ⟨a,by omega,rfl,rfl,rfl⟩)⟩
 ·exact⟨_,_,_,Or.inl ⟨a,rfl,rfl,rfl⟩⟩
theorem rbest_any (s:ByteArray) (n:Int) (r:Rs) (l s2:ByteArray) (er:Int) (w:World) (h:Rk s r) (p:-9223372036854775808≤n) (q:n≤9223372036854775807) (t:OutB r n l s2 er) :
  Calls Tryz.prog 13 #[.string s,.int .i64 n] w (RetV w (.tuple #[.string l,.string s2,.int .i64 er])):=by
 have m:=Hid.mk (rread_any s r w h);rcases t with ⟨a,rfl,rfl,rfl⟩|⟨a,o,rfl,rfl,rfl⟩|⟨a,d,u,J,x,rfl,rfl,rfl⟩
 ·have y:(r.e != 0)=true:=by simp[a]
  clear a
  go_enter Tryz.func13,Tryz.ntmps13
  go_wp2_with fail
  refine m.out.mono ?_;rintro e z ⟨A,B,rfl,f,_,b⟩;obtain⟨C,g,D,c1,E,i,G,c2,H,j,I,c3,rfl,_,_,_⟩:=id f
  go_wp2_with fail
  refine bodyPost_ret (v:=.tuple #[.string ⟨#[]⟩,.string ⟨#[]⟩,.int .i64 r.e]) (by simp[results,Tryz.results13,go_sem]) rfl ?_;exact⟨rfl,b.alloc' _⟩
 ·have y:(r.e != 0)=false:=by simp[a]
  clear a
  go_enter Tryz.func13,Tryz.ntmps13
  go_wp2_with fail
  refine m.out.mono ?_;rintro e z ⟨A,B,rfl,f,_,b⟩;obtain⟨C,g,D,c1,E,i,G,c2,H,j,I,c3,rfl,_,_,_⟩:=id f;by_cases O:n<1
  ·clear o
   go_wp2_with fail
   refine bodyPost_ret (v:=.tuple #[.string ⟨#[]⟩,.string ⟨#[]⟩,.int .i64 5]) (by simp[results,Tryz.results13,go_sem]) rfl ?_;exact⟨rfl,b.alloc' _⟩
  ·have R:1000<n:=by omega
   clear o
   go_wp2_with fail
   refine bodyPost_ret (v:=.tuple #[.string ⟨#[]⟩,.string ⟨#[]⟩,.int .i64 5]) (by simp[results,Tryz.results13,go_sem]) rfl ?_;exact⟨rfl,b.alloc' _⟩
 ·have c:=rk_cn h a;obtain⟨F,hF⟩:=flo_fun c (rk_size h a);refine(rbest_at s r n F w h a d u hF).mono fun e w' ⟨P,Q,hS,hR⟩=>?_;have K:=Srch.best c d (fun k L S=>(hF k L (by omega)).1) hS;obtain⟨M,N⟩:=K.uni (bst_ok c d x);rw[M,N] at hR;exact hR
theorem numb_any (n:Int) (w:World):Calls Tryz.prog 9 #[.int .i64 n] w (RetV w (.int .i64 n)):=by
 go_enter Tryz.func9,Tryz.ntmps9
 go_wp2_with fail
 go_ret
 exact⟨rfl,Below.refl _ _⟩
theorem bests_any (s:ByteArray) (n:Int) (w:World) (a:-9223372036854775808≤n) (b:n≤9223372036854775807) (g:Tens w):Calls Tryz.prog 5 #[.string s,.int .i64 n] w (RetV w (.bool true)):=by
 obtain⟨r,c⟩:=rk_all s;obtain⟨d,s2,er,f⟩:=outB_ex r n (fun h=>rk_cn c h)
 go_enter Tryz.func5,Tryz.ntmps5
 go_wp2_with fail
 refine(sbest_any s n r d s2 er _ c a b f g).mono ?_;rintro e l ⟨rfl,i⟩
 go_wp2_with fail
 refine(rbest_any s n r d s2 er _ c a b f).mono ?_;rintro e m ⟨rfl,j⟩
 go_wp2_with fail
 refine(numb_any er _).mono ?_;rintro e o ⟨rfl,k⟩
 go_wp2_with fail
 go_ret
 exact⟨rfl,(i.trans' j).trans' k⟩
end Go.Proofs.YtjahbjjekednfaaGreatDoor
namespace Go.Proofs.YtjahbjjekednfaaGreatDoor.bests
open Go.ChangeShapes Go.WideShapes Go.ChangeAt Go.RowKit
open Go.ChangeMaps (open_string shut_string)
theorem own:ownKnob Tryz.prog.godebug=none:=by kernel_rfl
theorem gTens:Tryz.prog.globalNamed "internal/strconv.uint64pow10" = some 0:=by kernel_rfl
theorem tTens:(Tryz.prog.globals[0]?).map (·.type)=some 150:=by kernel_rfl
theorem door_met (os:Os) (args:Array Value):laidMetH Tryz.prog Rows.bestsRow.laid ((World.doorLaid Tryz.prog 24 os).forCall (fun _ _=>0) ⟨#[],args,[]⟩).memory :=
 laidMetH_of_parts3 (fuel:=8) (laidMet_of_run' 8 (by kernel_rfl) (by kernel_rfl)) (by kernel_rfl) (by kernel_rfl)
theorem tens_of {W:World} (h:laidMetH Tryz.prog Rows.bestsRow.laid W):Tens W:=by
 rw[MakeChecks.laidMetH_plain _ _ _ (by kernel_rfl)] at h;obtain⟨i,⟨j,l,e,f0,p0,q0,_,_,_,_,⟨m,o,f,f1,p,q,_,_,_,_,⟨r,s,g,f2,t,u,a,b,c,d,_,_⟩,_⟩,_⟩,_,_⟩:=h;obtain rfl:=Option.some.inj (gTens.symm.trans a);obtain rfl:=Option.some.inj (tTens.symm.trans b);unfold Tens Lib.TabIs;rw[c,← Lib.cells_of_tab (k:=.u64) (zs:=Lib.pow10Tab) (n:=20) Tryz.underlying150 Tryz.underlying134 (by kernel_rfl) (by kernel_rfl) d]
theorem wf_bd {n:Int} (h:(Lit.int .i64 n).wf=true):-9223372036854775808≤n∧n≤9223372036854775807:=by
 simp only[Lit.wf,IntKind.min,IntKind.max,IntKind.signed,IntKind.bits,Bool.and_eq_true,decide_eq_true_eq,if_true] at h;omega
theorem walk (b:ByteArray) (a:Int) (w:World) (c:-9223372036854775808≤a) (d:a≤9223372036854775807) (f:Tens w) :
 Calls Tryz.prog 5 #[.string b,.int .i64 a] w fun e g=>e=.returned (.bool true)∧Below w.heap.size w g:=bests_any b a w c d f
theorem lifted (os:Os) (a:os.Started) (H:Type) (enc:TypeId × Value→H) :
 ReturnsInHanded {} Tryz.checked os 5 .any (fun w args=>(Rows.bestsSpec.pre enc Tryz.prog Tryz.f5 [] false w args∧laidMetH Tryz.prog Rows.bestsRow.laid w)∧sizedMet enc Tryz.prog Tryz.f5 (OpenSpec.ofChange Rows.bestsSpec) false w args)
  (Rows.bestsSpec.post enc Tryz.prog Tryz.f5 false true false false):=by
 refine returnsInHanded_of_change_and (C:=Tryz.checked) (X:=fun w _=>laidMetH Tryz.prog Rows.bestsRow.laid w) (fun _ _ _ r h=>h.of_heap r) own a (by kernel_rfl) Tryz.func5
  (ChangeSpec.witness_shaped (enc:=enc) (C:=Tryz.checked) (os:=os) (X:=fun w _=>laidMetH Tryz.prog Rows.bestsRow.laid w) false (World.doorLaid Tryz.prog 24 os) #[.string ByteArray.empty,.int .i64 0] 8 rfl (World.shaped_of_RefB (by kernel_rfl) (by kernel_rfl)) (by kernel_rfl) (by kernel_rfl) (by kernel_rfl) (door_met os _)) ?_
 intro W base args s N f b l _ _ u _;have c:∀(j:Nat) t v,Tryz.f5.params[j]?=some t→args[j]?=some v→Value.okWide Tryz.prog W .any base t v:=b;have g:=l;obtain⟨p,q,d,x,rfl,y,z⟩:=l;have m:DataW.TrodAll enc Tryz.prog W 0 (fun _=>true) true Tryz.f5.params.toList args.toList s p:=d;rw[Tryz.params5] at m c;obtain⟨n,A,O,B,p0,q0,i,rfl,rfl,D,E⟩:=trodAll_cons m;obtain⟨o,F,P,G,Q,R,rfl,rfl,rfl,I,J⟩:=trodAll_cons E;obtain⟨rfl,rfl,rfl⟩:=trodAll_nil J;obtain rfl:args=#[n,o]:=by cases args;simp_all
 obtain⟨rfl,rfl⟩:=trodVars_none x;obtain⟨K,rfl,rfl,rfl,L⟩:=open_string Tryz.underlying9 (c 0 9 n rfl rfl) D;obtain⟨M,rfl,rfl,rfl,k⟩:=open_int Tryz.underlying3 (c 1 3 o rfl rfl) I;clear d b;refine(walk K M W (wf_bd k).1 (wf_bd k).2 (tens_of u)).mono fun e W' ⟨he,bel⟩=>?_;subst he;exact⟨_,rfl,_,_,_,[],_,[],g,trodAll_mk1 (shut_bool Tryz.underlying4 _),trodAll_cons_mk (shut_string Tryz.underlying9 L) (trodAll_cons_mk (shut_int Tryz.underlying3 k) trodAll_mk0),rfl,bel.frame _,fun h=>by cases h⟩
theorem over:Rows.bestsRow.holds Tryz.pinned (OpenSpec.ofChange Rows.bestsSpec) :=
 OpenClaim.holds_of_wide 5 Tryz.f5 rfl rfl rfl rfl rfl rfl rfl ⟨rfl,rfl,rfl,rfl,rfl⟩ rfl rfl rfl rfl rfl (by kernel_rfl) Tryz.func5 (by kernel_rfl)
  (of_decide_eq_true (by kernel_rfl)) (by unfold Func.isWrapper;first | (rw[if_pos (by decide +kernel)];kernel_rfl) | (rw[if_neg (by decide +kernel)];exact⟨rfl,rfl⟩))
  (fun os a H enc _=>lifted os a H enc)
theorem card:Rows.BestsCardSaid :=
 Claim7.holds_tied_plain_at .later [] [.data,.data,.data] true Rows.bestsCard.stood.harness false
  over (fun _ h=>by cases h) (by kernel_rfl) (fun _ h=>by cases h) bests_row_tie rfl ⟨rfl,rfl⟩ (by kernel_rfl) rfl
  (fun f d e b=>by
   obtain rfl:f=5:=Option.some.inj ((show Tryz.prog.funcNamed "surd/surdlaw.Bests" = some 5 by kernel_rfl).symm.trans e) |>.symm;obtain rfl:d=Tryz.f5:=(Option.some.inj (Tryz.func5.symm.trans b)).symm;exact⟨by kernel_rfl,fun j t c=>by
    rw[Tryz.params5] at c;have g:t ∈ [9,3]:=by simpa using Array.mem_of_getElem? c
    have a:([9,3].all fun u=>!Tryz.prog.wantsStandIn u)=true:=by kernel_rfl
    exact(show Tryz.prog.wantsStandIn t=false by simpa using List.all_eq_true.1 a t g)⟩)
  (by kernel_rfl)
end Go.Proofs.YtjahbjjekednfaaGreatDoor.bests
namespace Go.Proofs.YtjahbjjekednfaaGreatDoor
theorem bests_holds:Rows.BestsCardSaid:=bests.card
#print axioms bests_holds
end Go.Proofs.YtjahbjjekednfaaGreatDoor
