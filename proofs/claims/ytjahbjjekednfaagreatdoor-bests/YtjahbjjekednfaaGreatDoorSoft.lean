import Derived.Test.YtjahbjjekednfaaGreatDoorW7
namespace Go.Proofs.YtjahbjjekednfaaGreatDoor
set_option maxHeartbeats 1600000
section
open Go.RowKit
structure Sf (E:TypeId) (w W:World):Prop where
 blk:∀ k,elemOf w k=some E→W.heap[k]?=w.heap[k]?
theorem Sf.refl (E:TypeId) (w:World):Sf E w w:=⟨fun _ _=>rfl⟩
theorem Sf.elem {E:TypeId} {w W:World} (h:Sf E w W) {k:Nat} (a:elemOf w k=some E):elemOf W k=some E:=by rw[elemOf_block (h.blk k a),a]
theorem Sf.trans {E:TypeId} {a b c:World} (h:Sf E a b) (k:Sf E b c):Sf E a c:=⟨fun i d=>(k.blk i (h.elem d)).trans (h.blk i d)⟩
theorem Sf.keep {E:TypeId} {w W:World} (h:Kp w W):Sf E w W:=⟨fun k a=>h.block k (elemOf_lt a)⟩
theorem Sf.alloc {E:TypeId} {w W:World} (h:Sf E w W) (o:Obj):Sf E w (W.alloc o):=h.trans (Sf.keep (kp_alloc _ _))
theorem Sf.drew {E:TypeId} {w W:World} (h:Sf E w W):Sf E w W.drew:=h.trans (Sf.keep (Below.refl _ _).drew)
theorem Sf.set {E t:TypeId} {w W:World} (h:Sf E w W) {c o:Nat} {y:Value} (b:elemOf W c=some t) (d:t≠E):Sf E w (W.setCell ⟨c,o,none⟩ y) :=
 h.trans ⟨fun k a=>Below.heap_setCell W ⟨c,o,none⟩ y k (fun e=>by
  have f:k=c:=e;subst f;rw[b] at a;exact d (Option.some.inj a))⟩
theorem Sf.but {E:TypeId} {c:Nat} {w W:World} (h:KeepsBut c w W) (b:elemOf w c≠some E):Sf E w W :=
 ⟨fun k a=>h.block k (elemOf_lt a) (fun e=>b (by rw[← e];exact a))⟩
theorem Row.soft {w W:World} {E:TypeId} {v:Value} {l:List Int} (e:Sf E w W) (h:Row w E v l):Row W E v l:=by
 obtain⟨g,a,b,c,j,k,m,n,d,o⟩:=h;refine⟨g,a,b,c,j,k,m,n,fun f=>⟨(d f).1,e.elem (d f).2⟩,fun i p=>?_⟩;rw[World.cell?_of_block (w:=w) (e.blk b (d (by omega)).2)];exact o i p
theorem Rp.soft {E:TypeId} {B:Int} {w W:World} {v:Value} {x:Int} (a:Sf E w W) (h:Rp E B w v x):Rp E B W v x:=by
 obtain⟨l,b,c⟩:=h;exact⟨l,b.soft a,c⟩
theorem WN.soft {w W:World} {v:Value} {z:Int} (a:Sf 2 w W) (h:WN w v z):WN W v z:=by
 obtain⟨b,n,c,d,e⟩:=h;exact⟨b,n,c,d,e.soft a⟩
theorem WN.keep {w W:World} {v:Value} {z:Int} (a:Kp w W) (h:WN w v z):WN W v z:=h.soft (Sf.keep a)
theorem elemOf_at3 (w:World) (o p q:Obj) (c:Array Value) (t:TypeId):elemOf ((((w.alloc o).alloc p).alloc q).alloc (.cells c t)) (w.heap.size+3)=some t:=by
 have:=elemOf_alloc_new (((w.alloc o).alloc p).alloc q) c t
 simpa using this
theorem tdiv_abs (x y:Int):((x.tdiv y).natAbs:Int)=(x.natAbs:Int) / (y.natAbs:Int):=by
 rw[Int.natAbs_tdiv];exact Int.natCast_ediv _ _
theorem tmod_abs (x y:Int):((x.tmod y).natAbs:Int)=(x.natAbs:Int) % (y.natAbs:Int):=by
 rw[Int.natAbs_tmod];simp
theorem tdiv_nn {x y:Int} (h:(x<0∧y<0)∨(0≤x∧0≤y)):0≤x.tdiv y:=by
 rcases h with ⟨c,d⟩|⟨c,d⟩
 ·have:=Int.tdiv_nonneg (a:=-x) (b:=-y) (by omega) (by omega)
  rwa [Int.neg_tdiv_neg] at this
 ·exact Int.tdiv_nonneg c d
theorem tdiv_np {x y:Int} (h:(x<0∧0≤y)∨(0≤x∧y<0)):x.tdiv y≤0:=by
 rcases h with ⟨c,d⟩|⟨c,d⟩
 ·have:=Int.tdiv_nonneg (a:=-x) (b:=y) (by omega) d;rw[Int.neg_tdiv] at this;omega
 ·have:=Int.tdiv_nonneg (a:=x) (b:=-y) c (by omega);rw[Int.tdiv_neg] at this;omega
theorem tmod_nn {x y:Int} (h:0≤x):0≤x.tmod y:=Int.tmod_nonneg y h
theorem tmod_np {x y:Int} (h:x<0):x.tmod y≤0:=by
 have:=Int.tmod_nonneg y (a:=-x) (by omega);rw[Int.neg_tmod] at this;omega
end
section
open Go.RowKit
def RetW2 (w:World) (q r:Int) (e:Ending) (a:World):Prop:=∃ u v,e=.returned (.tuple #[u,v])∧WN a u q∧WN a v r∧Kp w a
theorem Ft.abs {m:Nat} {x:Int} (h:Ft m x):Ft m (x.natAbs:Int):=by
 unfold Ft at *
 simpa using h
theorem retW2_end {w d W:World} {q r:Int} {b h:Bool} {e a:Option Addr} {n c f g:Nat} (j:b=decide (q<0)) (k:h=decide (r<0)) (l:Rp 2 1000000000 d (.slice e n c) (q.natAbs:Int)) (m:Rp 2 1000000000 d (.slice a f g) (r.natAbs:Int))
  (i:Sf 2 d W) (o:Kp w W):RetW2 w q r (.returned (.tuple #[.agg #[.bool b,.slice e n c],.agg #[.bool h,.slice a f g]])) W :=
 ⟨_,_,rfl,⟨e,n,c,by rw[j],l.soft i⟩,⟨a,f,g,by rw[k],m.soft i⟩,o⟩
theorem divide_tt (x y:Int) (m:Nat) (q g:Option Addr) (n c r s:Nat) (w:World) (B:Rp 2 1000000000 w (.slice q n c) (x.natAbs:Int)) (l:Rp 2 1000000000 w (.slice g r s) (y.natAbs:Int)) (C:m≤300000000) (D:Ft m x) (E:Ft m y) (u:x<0) (z:y<0) :
  Calls Tryz.prog 41 #[.agg #[.bool true,.slice q n c],.agg #[.bool true,.slice g r s]] w (RetW2 w (x.tdiv y) (x.tmod y)):=by
 have d:=Hid.mk u;have h:=Hid.mk z;clear u z
 go_enter Tryz.func41,Tryz.ntmps41
 go_wp2_with fail
 refine(divideLimbs_any (x.natAbs:Int) (y.natAbs:Int) m _ _ _ (B.keep ((((kp_alloc w _).alloc' _).alloc' _).alloc' _)) (l.keep ((((kp_alloc w _).alloc' _).alloc' _).alloc' _)) C D.abs E.abs).mono ?_;rintro e b ⟨M,N,rfl,i,f,a⟩;obtain⟨o,F,c1,rfl⟩:=i.shape;obtain⟨p,A,c2,rfl⟩:=f.shape;obtain⟨G,O⟩:=bcell a;have H:w.heap.size+3<b.heap.size:=by have:=a.size;simp at this;omega
 have P:w.heap.size<b.heap.size:=by omega
 have I:w.heap.size+1<b.heap.size:=by omega
 have J:w.heap.size+1+1<b.heap.size:=by omega
 have K:w.heap.size+1+1+1<b.heap.size:=by omega
 go_wp2_with fail
 go_region
 all_goals go_wp2_with fail
 refine bodyPost_ret (v:=.tuple #[.agg #[.bool false,.slice o F c1],.agg #[.bool (decide (0<(A:Int))),.slice p A c2]]) (by simp[results,Tryz.results41,go_sem,G,I,J,K]) rfl ?_;have j:elemOf b (w.heap.size+1+1)=some 38:=by rw[elemOf_keep a (by simp),elemOf_alloc_old _ _ (by simp)];exact elemOf_at2 _ _ _ _ _
 have k:elemOf b (w.heap.size+1+1+1)=some 38:=by rw[elemOf_keep a (by simp)];exact elemOf_at3 _ _ _ _ _ _
 refine retW2_end ((decide_eq_false (by have:=tdiv_nn (x:=x) (y:=y) (by first | exact Or.inl ⟨d.out,h.out⟩ | exact Or.inr ⟨d.out,h.out⟩);omega)).symm) (neg_len (by decide) f (by rw[← tmod_abs];have:=tmod_np (x:=x) (y:=y) d.out;omega)) (by rw[tdiv_abs];exact i) (by rw[tmod_abs];exact f) ?_ ?_
 ·refine Sf.drew (Sf.alloc (Sf.alloc (Sf.set (t:=38) (Sf.set (t:=38) (Sf.set (t:=38) (Sf.set (Sf.refl _ _) j (by decide)) ?_ (by decide)) ?_ (by decide)) ?_ (by decide)) _) _)
  ·simp only[elemOf_setCell];exact j
  ·simp only[elemOf_setCell];exact k
  ·simp only[elemOf_setCell];exact k
 ·have L:Kp w b:=((((kp_alloc w _).alloc' _).alloc' _).alloc' _).trans' a;exact((Kp.alloc' (Kp.alloc' ((((L.setCell (by simp;omega) _).setCell (by simp;omega) _).setCell (by simp;omega) _).setCell (by simp;omega) _) _) _)).drew
theorem divide_tf (x y:Int) (m:Nat) (q h:Option Addr) (n c r s:Nat) (w:World) (C:Rp 2 1000000000 w (.slice q n c) (x.natAbs:Int)) (l:Rp 2 1000000000 w (.slice h r s) (y.natAbs:Int)) (D:m≤300000000) (E:Ft m x) (F:Ft m y) (u:x<0) (z:0≤y) :
  Calls Tryz.prog 41 #[.agg #[.bool true,.slice q n c],.agg #[.bool false,.slice h r s]] w (RetW2 w (x.tdiv y) (x.tmod y)):=by
 have d:=Hid.mk u;have i:=Hid.mk z;clear u z
 go_enter Tryz.func41,Tryz.ntmps41
 go_wp2_with fail
 refine(divideLimbs_any (x.natAbs:Int) (y.natAbs:Int) m _ _ _ (C.keep ((((kp_alloc w _).alloc' _).alloc' _).alloc' _)) (l.keep ((((kp_alloc w _).alloc' _).alloc' _).alloc' _)) D E.abs F.abs).mono ?_;rintro e b ⟨M,N,rfl,f,g,a⟩;obtain⟨o,A,c1,rfl⟩:=f.shape;obtain⟨p,B,c2,rfl⟩:=g.shape;obtain⟨G,O⟩:=bcell a;have H:w.heap.size+3<b.heap.size:=by have:=a.size;simp at this;omega
 have P:w.heap.size<b.heap.size:=by omega
 have I:w.heap.size+1<b.heap.size:=by omega
 have J:w.heap.size+1+1<b.heap.size:=by omega
 have K:w.heap.size+1+1+1<b.heap.size:=by omega
 go_wp2_with fail
 go_region
 all_goals go_wp2_with fail
 refine bodyPost_ret (v:=.tuple #[.agg #[.bool (decide (0<(A:Int))),.slice o A c1],.agg #[.bool (decide (0<(B:Int))),.slice p B c2]]) (by simp[results,Tryz.results41,go_sem,G,I,J,K]) rfl ?_;have j:elemOf b (w.heap.size+1+1)=some 38:=by rw[elemOf_keep a (by simp),elemOf_alloc_old _ _ (by simp)];exact elemOf_at2 _ _ _ _ _
 have k:elemOf b (w.heap.size+1+1+1)=some 38:=by rw[elemOf_keep a (by simp)];exact elemOf_at3 _ _ _ _ _ _
 refine retW2_end (neg_len (by decide) f (by rw[← tdiv_abs];have:=tdiv_np (x:=x) (y:=y) (by first | exact Or.inl ⟨d.out,i.out⟩ | exact Or.inr ⟨d.out,i.out⟩);omega)) (neg_len (by decide) g (by rw[← tmod_abs];have:=tmod_np (x:=x) (y:=y) d.out;omega)) (by rw[tdiv_abs];exact f) (by rw[tmod_abs];exact g) ?_ ?_
 ·refine Sf.drew (Sf.alloc (Sf.alloc (Sf.set (t:=38) (Sf.set (t:=38) (Sf.set (t:=38) (Sf.set (Sf.refl _ _) j (by decide)) ?_ (by decide)) ?_ (by decide)) ?_ (by decide)) _) _)
  ·simp only[elemOf_setCell];exact j
  ·simp only[elemOf_setCell];exact k
  ·simp only[elemOf_setCell];exact k
 ·have L:Kp w b:=((((kp_alloc w _).alloc' _).alloc' _).alloc' _).trans' a;exact((Kp.alloc' (Kp.alloc' ((((L.setCell (by simp;omega) _).setCell (by simp;omega) _).setCell (by simp;omega) _).setCell (by simp;omega) _) _) _)).drew
theorem divide_ft (x y:Int) (m:Nat) (q g:Option Addr) (n c r s:Nat) (w:World) (B:Rp 2 1000000000 w (.slice q n c) (x.natAbs:Int)) (l:Rp 2 1000000000 w (.slice g r s) (y.natAbs:Int)) (C:m≤300000000) (D:Ft m x) (E:Ft m y) (u:0≤x) (z:y<0) :
  Calls Tryz.prog 41 #[.agg #[.bool false,.slice q n c],.agg #[.bool true,.slice g r s]] w (RetW2 w (x.tdiv y) (x.tmod y)):=by
 have d:=Hid.mk u;have h:=Hid.mk z;clear u z
 go_enter Tryz.func41,Tryz.ntmps41
 go_wp2_with fail
 refine(divideLimbs_any (x.natAbs:Int) (y.natAbs:Int) m _ _ _ (B.keep ((((kp_alloc w _).alloc' _).alloc' _).alloc' _)) (l.keep ((((kp_alloc w _).alloc' _).alloc' _).alloc' _)) C D.abs E.abs).mono ?_;rintro e b ⟨M,N,rfl,f,i,a⟩;obtain⟨o,A,c1,rfl⟩:=f.shape;obtain⟨p,F,c2,rfl⟩:=i.shape;obtain⟨G,O⟩:=bcell a;have H:w.heap.size+3<b.heap.size:=by have:=a.size;simp at this;omega
 have P:w.heap.size<b.heap.size:=by omega
 have I:w.heap.size+1<b.heap.size:=by omega
 have J:w.heap.size+1+1<b.heap.size:=by omega
 have K:w.heap.size+1+1+1<b.heap.size:=by omega
 go_wp2_with fail
 go_region
 all_goals go_wp2_with fail
 refine bodyPost_ret (v:=.tuple #[.agg #[.bool (decide (0<(A:Int))),.slice o A c1],.agg #[.bool false,.slice p F c2]]) (by simp[results,Tryz.results41,go_sem,G,I,J,K]) rfl ?_;have j:elemOf b (w.heap.size+1+1)=some 38:=by rw[elemOf_keep a (by simp),elemOf_alloc_old _ _ (by simp)];exact elemOf_at2 _ _ _ _ _
 have k:elemOf b (w.heap.size+1+1+1)=some 38:=by rw[elemOf_keep a (by simp)];exact elemOf_at3 _ _ _ _ _ _
 refine retW2_end (neg_len (by decide) f (by rw[← tdiv_abs];have:=tdiv_np (x:=x) (y:=y) (by first | exact Or.inl ⟨d.out,h.out⟩ | exact Or.inr ⟨d.out,h.out⟩);omega)) ((decide_eq_false (by have:=tmod_nn (x:=x) (y:=y) d.out;omega)).symm) (by rw[tdiv_abs];exact f) (by rw[tmod_abs];exact i) ?_ ?_
 ·refine Sf.drew (Sf.alloc (Sf.alloc (Sf.set (t:=38) (Sf.set (t:=38) (Sf.set (t:=38) (Sf.set (Sf.refl _ _) j (by decide)) ?_ (by decide)) ?_ (by decide)) ?_ (by decide)) _) _)
  ·simp only[elemOf_setCell];exact j
  ·simp only[elemOf_setCell];exact k
  ·simp only[elemOf_setCell];exact k
 ·have L:Kp w b:=((((kp_alloc w _).alloc' _).alloc' _).alloc' _).trans' a;exact((Kp.alloc' (Kp.alloc' ((((L.setCell (by simp;omega) _).setCell (by simp;omega) _).setCell (by simp;omega) _).setCell (by simp;omega) _) _) _)).drew
theorem divide_ff (x y:Int) (m:Nat) (q f:Option Addr) (n c r s:Nat) (w:World) (A:Rp 2 1000000000 w (.slice q n c) (x.natAbs:Int)) (l:Rp 2 1000000000 w (.slice f r s) (y.natAbs:Int)) (B:m≤300000000) (C:Ft m x) (D:Ft m y) (u:0≤x) (z:0≤y) :
  Calls Tryz.prog 41 #[.agg #[.bool false,.slice q n c],.agg #[.bool false,.slice f r s]] w (RetW2 w (x.tdiv y) (x.tmod y)):=by
 have d:=Hid.mk u;have g:=Hid.mk z;clear u z
 go_enter Tryz.func41,Tryz.ntmps41
 go_wp2_with fail
 refine(divideLimbs_any (x.natAbs:Int) (y.natAbs:Int) m _ _ _ (A.keep ((((kp_alloc w _).alloc' _).alloc' _).alloc' _)) (l.keep ((((kp_alloc w _).alloc' _).alloc' _).alloc' _)) B C.abs D.abs).mono ?_;rintro e b ⟨M,N,rfl,h,i,a⟩;obtain⟨o,E,c1,rfl⟩:=h.shape;obtain⟨p,F,c2,rfl⟩:=i.shape;obtain⟨G,O⟩:=bcell a;have H:w.heap.size+3<b.heap.size:=by have:=a.size;simp at this;omega
 have P:w.heap.size<b.heap.size:=by omega
 have I:w.heap.size+1<b.heap.size:=by omega
 have J:w.heap.size+1+1<b.heap.size:=by omega
 have K:w.heap.size+1+1+1<b.heap.size:=by omega
 go_wp2_with fail
 go_region
 all_goals go_wp2_with fail
 refine bodyPost_ret (v:=.tuple #[.agg #[.bool false,.slice o E c1],.agg #[.bool false,.slice p F c2]]) (by simp[results,Tryz.results41,go_sem,G,I,J,K]) rfl ?_;have j:elemOf b (w.heap.size+1+1)=some 38:=by rw[elemOf_keep a (by simp),elemOf_alloc_old _ _ (by simp)];exact elemOf_at2 _ _ _ _ _
 have k:elemOf b (w.heap.size+1+1+1)=some 38:=by rw[elemOf_keep a (by simp)];exact elemOf_at3 _ _ _ _ _ _
 refine retW2_end ((decide_eq_false (by have:=tdiv_nn (x:=x) (y:=y) (by first | exact Or.inl ⟨d.out,g.out⟩ | exact Or.inr ⟨d.out,g.out⟩);omega)).symm) ((decide_eq_false (by have:=tmod_nn (x:=x) (y:=y) d.out;omega)).symm) (by rw[tdiv_abs];exact h) (by rw[tmod_abs];exact i) ?_ ?_
 ·refine Sf.drew (Sf.alloc (Sf.alloc (Sf.set (t:=38) (Sf.set (t:=38) (Sf.set (t:=38) (Sf.set (Sf.refl _ _) j (by decide)) ?_ (by decide)) ?_ (by decide)) ?_ (by decide)) _) _)
  ·simp only[elemOf_setCell];exact j
  ·simp only[elemOf_setCell];exact k
  ·simp only[elemOf_setCell];exact k
 ·have L:Kp w b:=((((kp_alloc w _).alloc' _).alloc' _).alloc' _).trans' a;exact((Kp.alloc' (Kp.alloc' ((((L.setCell (by simp;omega) _).setCell (by simp;omega) _).setCell (by simp;omega) _).setCell (by simp;omega) _) _) _)).drew
theorem divide_any (x y:Int) (m:Nat) (u v:Value) (w:World) (o:WN w u x) (p:WN w v y) (e:m≤300000000) (f:Ft m x) (g:Ft m y):Calls Tryz.prog 41 #[u,v] w (RetW2 w (x.tdiv y) (x.tmod y)):=by
 obtain⟨h,n,c,rfl,i⟩:=o;obtain⟨a,j,k,rfl,b⟩:=p;by_cases l:x<0
 ·rw[decide_eq_true l];by_cases d:y<0
  ·rw[decide_eq_true d];exact divide_tt x y m h a n c j k w i b e f g l d
  ·rw[decide_eq_false d];exact divide_tf x y m h a n c j k w i b e f g l (by omega)
 ·rw[decide_eq_false l];by_cases d:y<0
  ·rw[decide_eq_true d];exact divide_ft x y m h a n c j k w i b e f g (by omega) d
  ·rw[decide_eq_false d];exact divide_ff x y m h a n c j k w i b e f g (by omega) (by omega)
end
section
open Go.RowKit
def Blk (w:World) (b:Nat) (cs:Array Value) (t:TypeId):Prop:=w.heap[b]?=some (.cells cs t (0,0))
theorem Blk.cell {w:World} {b:Nat} {cs:Array Value} {t:TypeId} (h:Blk w b cs t):∀ o,w.cell? ⟨b,o,none⟩=cs[o]?:=by
 intro o;unfold World.cell?;unfold Blk at h;simp[h]
theorem Blk.frozen {w:World} {b:Nat} {cs:Array Value} {t:TypeId} (h:Blk w b cs t):∀ o,w.frozen? ⟨b,o,none⟩=false:=by
 intro o;unfold World.frozen?;unfold Blk at h;simp[h]
theorem Blk.lt {w:World} {b:Nat} {cs:Array Value} {t:TypeId} (h:Blk w b cs t):b<w.heap.size:=by
 unfold Blk at h;rcases Nat.lt_or_ge b w.heap.size with a | a
 ·exact a
 ·rw[Array.getElem?_eq_none a] at h
  cases h
theorem Blk.elem {w:World} {b:Nat} {cs:Array Value} {t:TypeId} (h:Blk w b cs t):elemOf w b=some t:=by
 unfold elemOf World.shape?;unfold Blk at h;rw[h];rfl
theorem Blk.all {w:World} {b:Nat} {cs:Array Value} {t:TypeId} (h:Blk w b cs t):(∀ o,w.cell? ⟨b,o,none⟩=cs[o]?)∧(∀ o,w.frozen? ⟨b,o,none⟩=false)∧b<w.heap.size:=⟨h.cell,h.frozen,h.lt⟩
theorem Blk.keep {w a:World} {b:Nat} {cs:Array Value} {t:TypeId} (c:Kp w a) (h:Blk w b cs t):Blk a b cs t:=by
 unfold Blk;rw[c.block b h.lt];exact h
theorem Blk.grown {W d:World} {a:Option Nat} {b:Nat} {cs:Array Value} {t:TypeId} (e:W.grownBy d a) (c:some b≠a) (h:Blk W b cs t):Blk d b cs t:=by
 unfold Blk;rw[e.block b h.lt c];exact h
theorem Blk.new (w:World) (cs:Array Value) (t:TypeId):Blk (w.alloc (.cells cs t)) w.heap.size cs t:=heap_alloc_new w _
theorem Blk.alloc {w:World} {b:Nat} {cs:Array Value} {t:TypeId} (h:Blk w b cs t) (o:Obj):Blk (w.alloc o) b cs t:=h.keep (kp_alloc w o)
theorem Blk.drew {w:World} {b:Nat} {cs:Array Value} {t:TypeId} (h:Blk w b cs t):Blk w.drew b cs t:=h
theorem Blk.other {w:World} {b c o:Nat} {cs:Array Value} {t:TypeId} {y:Value} (h:Blk w b cs t) (a:b≠c):Blk (w.setCell ⟨c,o,none⟩ y) b cs t:=by
 unfold Blk;rw[Below.heap_setCell w ⟨c,o,none⟩ y b a];exact h
theorem Blk.set {w:World} {b o:Nat} {cs:Array Value} {t:TypeId} {y:Value} (h:Blk w b cs t):Blk (w.setCell ⟨b,o,none⟩ y) b (cs.setIfInBounds o y) t:=by
 unfold Blk at *;simp[World.setCell,Array.getElem?_modify,h]
theorem Blk.at {w:World} {b c:Nat} {cs:Array Value} {t:TypeId} (h:Blk w b cs t) (e:c=b):Blk w c cs t:=e ▸ h
theorem size_setCell' (w:World) (a:Addr) (y:Value):(w.setCell a y).heap.size=w.heap.size:=by simp[World.setCell]
theorem size_drew' (w:World):w.drew.heap.size=w.heap.size:=rfl
theorem sz:(∀(w:World) o,(w.alloc o).heap.size=w.heap.size+1)∧(∀(w:World) a y,(w.setCell a y).heap.size=w.heap.size)∧(∀(w:World),w.drew.heap.size=w.heap.size):=⟨World.size_alloc,size_setCell',fun _=>rfl⟩
theorem retW_mk {w a W:World} {z:Int} {v:Value} (h:WN a v z) (b:Sf 2 a W) (c:Kp w W):RetW w z (.returned v) W:=⟨v,rfl,h.soft b,c⟩
theorem WN.shape {w:World} {v:Value} {z:Int} (h:WN w v z):∃ a n c,v=.agg #[.bool (decide (z<0)),.slice a n c]:=by
 obtain⟨a,n,c,b,_⟩:=h;exact⟨a,n,c,b⟩
theorem WN.shape' {w:World} {v:Value} {z:Int} (h:WN w v z):∃ b a n c,v=.agg #[.bool b,.slice a n c]:=by
 obtain⟨a,n,c,d,_⟩:=h;exact⟨_,a,n,c,d⟩
end
end Go.Proofs.YtjahbjjekednfaaGreatDoor
