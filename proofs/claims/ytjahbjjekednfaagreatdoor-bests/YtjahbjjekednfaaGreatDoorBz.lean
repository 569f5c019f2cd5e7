import Derived.Test.YtjahbjjekednfaaGreatDoorBb
import Derived.Test.YtjahbjjekednfaaGreatDoorBm
import Derived.Test.YtjahbjjekednfaaGreatDoorF10
import Derived.Test.YtjahbjjekednfaaGreatDoorQ2
namespace Go.Proofs.YtjahbjjekednfaaGreatDoor
set_option maxHeartbeats 3200000
set_option maxRecDepth 100000
open Go.RowKit
theorem nq_or (o:Int) (l g:Int × Int):nq o l g=l∨nq o l g=g:=by
 unfold nq;by_cases h:0<(if o=0 then (l.2 - g.2).sign else o)
 ·exact Or.inr (if_pos h)
 ·exact Or.inl (if_neg h)
theorem bst_ft {a:Qn} {n:Int} {J:Nat} (h:Cn a) (f:QF 1100000 a) (c:1≤n) (b:n≤1000) (d:BAt a n J):Ft 2400010 (bst a n J).1∧Ft 2400010 (bst a n J).2:=by
 have f1:=oth_ft h f c b d;have f2:Ft 2400010 (lst' a J).1∧Ft 2400010 (lst' a J).2:=⟨(d.ft h f c b J (Nat.le_refl _)).1.mono (by decide),(d.ft h f c b J (Nat.le_refl _)).2.mono (by decide)⟩;unfold bst
 split
 ·exact f2
 ·split
  ·rcases nq_or (qcmp a (md (lst' a J).1 (lst' a J).2 (oth a n J).1 (oth a n J).2)) (oth a n J) (lst' a J) with e | e <;> rw[e]
   ·exact f1
   ·exact f2
  ·rcases nq_or (qcmp a (md (lst' a J).1 (lst' a J).2 (oth a n J).1 (oth a n J).2)) (lst' a J) (oth a n J) with e | e <;> rw[e]
   ·exact f2
   ·exact f1
def OutB (r:Rs) (n:Int) (a s2:ByteArray) (er:Int):Prop :=
 (r.e≠0∧a=⟨#[]⟩∧s2=⟨#[]⟩∧er=r.e)∨(r.e=0∧(n<1∨1000<n)∧a=⟨#[]⟩∧s2=⟨#[]⟩∧er=5) ∨
 (r.e=0∧1≤n∧n≤1000∧∃ J,BAt r.v n J∧a=strOf (Go.Lib.itoa (bst r.v n J).1)∧s2=strOf (Go.Lib.itoa (bst r.v n J).2)∧er=0)
theorem sbest_any (s:ByteArray) (n:Int) (r:Rs) (S s2:ByteArray) (er:Int) (w:World) (h:Rk s r) (aa:-9223372036854775808≤n) (a:n≤9223372036854775807) (ho:OutB r n S s2 er) (ht:Tens w) :
  Calls Tryz.prog 12 #[.string s,.int .i64 n] w (RetV w (.tuple #[.string S,.string s2,.int .i64 er])):=by
 have E:=Hid.mk (reckon_any s r w h);rcases ho with ⟨b,rfl,rfl,rfl⟩|⟨b,T,rfl,rfl,rfl⟩|⟨b,U,V,J,F,rfl,rfl,rfl⟩
 ·have X:(r.e != 0)=true:=by simp[b]
  have Y:=Hid.mk b;clear b
  go_enter Tryz.func12,Tryz.ntmps12
  go_wp2_with fail
  refine E.out.mono ?_;rintro e D ⟨Z,rfl,l,a⟩;obtain⟨m,c,o,c1,p,f,q,c2,t,g,x,c3,rfl,_,_,_⟩:=id l
  go_wp2_with fail
  refine bodyPost_ret (v:=.tuple #[.string ⟨#[]⟩,.string ⟨#[]⟩,.int .i64 r.e]) (by simp[results,Tryz.results12,go_sem]) rfl ?_;exact⟨rfl,a.alloc' _⟩
 ·have X:(r.e != 0)=false:=by simp[b]
  have Y:=Hid.mk b;clear b
  go_enter Tryz.func12,Tryz.ntmps12
  go_wp2_with fail
  refine E.out.mono ?_;rintro e D ⟨Z,rfl,l,a⟩;obtain⟨m,c,o,c1,p,f,q,c2,t,g,x,c3,rfl,_,_,_⟩:=id l;by_cases h3:n<1
  ·clear T
   go_wp2_with fail
   refine bodyPost_ret (v:=.tuple #[.string ⟨#[]⟩,.string ⟨#[]⟩,.int .i64 5]) (by simp[results,Tryz.results12,go_sem]) rfl ?_;exact⟨rfl,a.alloc' _⟩
  ·have h4:1000<n:=by omega
   clear T
   go_wp2_with fail
   refine bodyPost_ret (v:=.tuple #[.string ⟨#[]⟩,.string ⟨#[]⟩,.int .i64 5]) (by simp[results,Tryz.results12,go_sem]) rfl ?_;exact⟨rfl,a.alloc' _⟩
 ·have X:(r.e != 0)=false:=by simp[b]
  have i:=Hid.mk (rk_cn h b);have y:=Hid.mk (rk_size h b);have G:Hid (QD r.v):=⟨by have:=i.out.ok.d0;omega,by have:=i.out.ok.d1;omega⟩
  have Y:=Hid.mk b;clear b;have j:=bst_ft i.out y.out U V F;have H:Hid (Fit (bst r.v n J).1):=j.1.fit (by decide);have I:Hid (Fit (bst r.v n J).2):=j.2.fit (by decide);clear j;have K:=Hid.mk (fun(u:Value) (W:World) (hu:XN W u r.v)=>best_any r.v n J u W hu i.out y.out G.out U V F);have k:=fun(u:Value) (W:World) (hu:FR W u (bst r.v n J).1 (bst r.v n J).2) (hW:Tens W)=>texts_any _ _ u W hu H.out I.out hW;clear F;generalize strOf (Go.Lib.itoa (bst r.v n J).1)=S1 at *;generalize strOf (Go.Lib.itoa (bst r.v n J).2)=S2 at *;replace k:=Hid.mk k
  go_enter Tryz.func12,Tryz.ntmps12
  go_wp2_with fail
  refine E.out.mono ?_;rintro e D ⟨Z,rfl,l,a⟩;obtain⟨m,c,o,c1,p,f,q,c2,t,g,x,c3,rfl,_,_,_⟩:=id l;have L:=a.alloc' (.cells #[.bool m,.slice c o c1,.bool p,.slice f q c2,.bool t,.slice g x c3,.int .i64 r.v.d] 40);have z:=K.out _ _ (l.keep (kp_alloc D (.cells #[.bool m,.slice c o c1,.bool p,.slice f q c2,.bool t,.slice g x c3,.int .i64 r.v.d] 40)));have M:=Blk.new D #[.bool m,.slice c o c1,.bool p,.slice f q c2,.bool t,.slice g x c3,.int .i64 r.v.d] 40;have N:=M.cell;have O:=M.lt
  go_wp2_with fail
  refine z.mono ?_;rintro e w2 ⟨v2,rfl,hF,P⟩;obtain⟨b5,A,n5,c5,b6,B,n6,c6,rfl,_,_⟩:=id hF;have C:=(L.trans' P).alloc' (.cells #[.bool b5,.slice A n5 c5,.bool b6,.slice B n6 c6] 62);have Q:=k.out _ _ (hF.soft (Sf.keep (kp_alloc w2 (.cells #[.bool b5,.slice A n5 c5,.bool b6,.slice B n6 c6] 62)))) (ht.keep C);clear N O M z
  go_wp2_with fail
  refine Q.mono ?_;rintro e w3 ⟨rfl,R⟩
  go_wp2_with fail
  refine bodyPost_ret (v:=.tuple #[.string S1,.string S2,.int .i64 0]) (by simp[results,Tryz.results12,go_sem]) rfl ?_;exact⟨rfl,C.trans' R⟩
end Go.Proofs.YtjahbjjekednfaaGreatDoor
