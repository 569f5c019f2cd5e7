import Derived.Test.YtjahbjjekednfaaGreatDoorW6
namespace Go.Proofs.YtjahbjjekednfaaGreatDoor
set_option maxHeartbeats 3200000
set_option maxRecDepth 100000
section
open Go.RowKit
theorem bcell {W a:World} (c:Kp W a):(∀ b o,b<W.heap.size→a.cell? ⟨b,o,none⟩=W.cell? ⟨b,o,none⟩)∧(∀ b o,b<W.heap.size→a.frozen? ⟨b,o,none⟩=W.frozen? ⟨b,o,none⟩) :=
 ⟨fun b o h=>c.cell (p:=⟨b,o,none⟩) h,fun b o h=>c.frozen (p:=⟨b,o,none⟩) h⟩
def WN (w:World) (v:Value) (z:Int):Prop:=∃ ao n c,v=.agg #[.bool (decide (z<0)),.slice ao n c]∧Rp 2 1000000000 w (.slice ao n c) (z.natAbs:Int)
def RetW (w:World) (z:Int) (e:Ending) (a:World):Prop:=∃ v,e=.returned v∧WN a v z∧Kp w a
theorem Rp.shape {E:TypeId} {B:Int} {w:World} {v:Value} {x:Int} (h:Rp E B w v x):∃ a n c,v=.slice a n c:=by
 obtain⟨l,d,_⟩:=h;obtain⟨a,b,e,_⟩:=d.slice;exact⟨a,_,b,e⟩
theorem elemOf_alloc_new (w:World) (c:Array Value) (t:TypeId):elemOf (w.alloc (.cells c t)) w.heap.size=some t:=by
 unfold elemOf World.shape?;have:(w.alloc (.cells c t)).heap[w.heap.size]?=some (.cells c t):=heap_alloc_new w _;rw[this];rfl
theorem elemOf_at1 (w:World) (o:Obj) (c:Array Value) (t:TypeId):elemOf ((w.alloc o).alloc (.cells c t)) (w.heap.size+1)=some t:=by
 have:=elemOf_alloc_new (w.alloc o) c t
 simpa using this
theorem elemOf_at2 (w:World) (o p:Obj) (c:Array Value) (t:TypeId):elemOf (((w.alloc o).alloc p).alloc (.cells c t)) (w.heap.size+2)=some t:=by
 have:=elemOf_alloc_new ((w.alloc o).alloc p) c t
 simpa using this
theorem elemOf_alloc_old (w:World) (o:Obj) {b:Nat} (h:b<w.heap.size):elemOf (w.alloc o) b=elemOf w b:=elemOf_block (Below.heap_alloc w o b h)
theorem elemOf_keep {w a:World} (c:Kp w a) {b:Nat} (d:b<w.heap.size):elemOf a b=elemOf w b:=elemOf_block (c.block b d)
theorem Rp.store {E t:TypeId} {B:Int} {w:World} {v:Value} {x:Int} (h:Rp E B w v x) {c o:Nat} {y:Value} (a:elemOf w c=some t) (b:t≠E):Rp E B (w.setCell ⟨c,o,none⟩ y) v x :=
 h.but ((KeepsBut.refl c w).setCell o y) (by rw[a];simpa using b)
theorem elemOf_setCell (w:World) (c o b:Nat) (y:Value):elemOf (w.setCell ⟨c,o,none⟩ y) b=elemOf w b:=by
 unfold elemOf World.shape? World.setCell;simp only[Array.getElem?_modify];by_cases h:c=b
 ·subst h;rw[if_pos rfl]
  cases hh:w.heap[c]? with
  | none=>rfl
  | some ob=>cases ob <;> simp
 ·rw[if_neg h]
theorem retW_end {w a:World} {z:Int} {c:Nat} {d:Option Addr} {n k:Nat} {b:Bool} {g h:Value} (i:b=decide (z<0)) (j:Rp 2 1000000000 a (.slice d n k) (z.natAbs:Int)) (l:Kp w a)
  (e:w.heap.size≤c) (f:elemOf a c=some 38) :
  RetW w z (.returned (.agg #[.bool b,.slice d n k])) ((a.setCell ⟨c,0,none⟩ g).setCell ⟨c,1,none⟩ h):=by
 refine⟨_,rfl,⟨d,n,k,by rw[i],(j.store f (by decide)).store (by rw[elemOf_setCell];exact f) (by decide)⟩,?_⟩
 exact(l.setCell e _).setCell e _
theorem fit_abs {z:Int} (h:Fit z):Fit (z.natAbs:Int):=by obtain⟨n,a,b⟩:=h;exact⟨n,a,by simpa using b⟩
theorem Rp.zero_len {E:TypeId} {B:Int} (b:1<B) {w:World} {d:Option Addr} {n c:Nat} {x:Int} (h:Rp E B w (.slice d n c) x):(n=0↔x=0)∧n≤9223372036854775807:=by
 obtain⟨l,e,f,g⟩:=h;obtain⟨i,j,a,k,m⟩:=e.slice;simp only[Value.slice.injEq] at a;rw[a.2.1];exact⟨by rw[f.zero_iff b,g],by omega⟩
theorem negate_any (z:Int) (v:Value) (w:World) (x:WN w v z) (y:Fit z):Calls Tryz.prog 35 #[v] w (RetW w (-z)):=by
 obtain⟨r,n,c,rfl,s⟩:=x;have g:=fit_abs y;rcases Int.lt_trichotomy z 0 with h | h | h
 ·rw[decide_eq_true h]
  go_enter Tryz.func35,Tryz.ntmps35
  go_wp2_with fail
  refine(copyLimbs_any _ _ _ (s.keep ((kp_alloc w _).alloc' _)) g).mono ?_;rintro e k ⟨t,rfl,b,a,l⟩;obtain⟨d,j,c1,rfl⟩:=b.shape;obtain⟨f,i⟩:=b.zero_len (by decide);clear f;obtain⟨m,u⟩:=bcell a;have o:w.heap.size+1<k.heap.size:=by have:=a.size;simp at this;omega
  have p:=((kp_alloc w (.cells #[.bool true,.slice r n c] 38)).alloc' (.cells #[.bool false,.slice none 0 0] 38)).trans' a
  go_wp2_with fail
  refine bodyPost_ret (v:=.agg #[.bool false,.slice d j c1]) (by simp[results,Tryz.results35,go_sem,m]) rfl ?_;exact retW_end (by simp;omega) (by rw[Int.natAbs_neg];exact b) p (by omega) (by rw[elemOf_keep a (by simp)];exact elemOf_at1 _ _ _ _)
 ·rw[decide_eq_false (by omega)]
  go_enter Tryz.func35,Tryz.ntmps35
  go_wp2_with fail
  refine(copyLimbs_any _ _ _ (s.keep ((kp_alloc w _).alloc' _)) g).mono ?_;rintro e k ⟨t,rfl,b,a,l⟩;obtain⟨d,j,c1,rfl⟩:=b.shape;obtain⟨f,i⟩:=b.zero_len (by decide);have q:j=0:=by omega
  clear f i;subst q;obtain⟨m,u⟩:=bcell a;have o:w.heap.size+1<k.heap.size:=by have:=a.size;simp at this;omega
  have p:=((kp_alloc w (.cells #[.bool false,.slice r n c] 38)).alloc' (.cells #[.bool false,.slice none 0 0] 38)).trans' a
  go_wp2_with fail
  refine bodyPost_ret (v:=.agg #[.bool false,.slice d 0 c1]) (by simp[results,Tryz.results35,go_sem,m]) rfl ?_;exact retW_end (by simp;omega) (by rw[Int.natAbs_neg];exact b) p (by omega) (by rw[elemOf_keep a (by simp)];exact elemOf_at1 _ _ _ _)
 ·rw[decide_eq_false (by omega)]
  go_enter Tryz.func35,Tryz.ntmps35
  go_wp2_with fail
  refine(copyLimbs_any _ _ _ (s.keep ((kp_alloc w _).alloc' _)) g).mono ?_;rintro e k ⟨t,rfl,b,a,l⟩;obtain⟨d,j,c1,rfl⟩:=b.shape;obtain⟨f,i⟩:=b.zero_len (by decide);have q:0<j:=by omega
  clear f;obtain⟨m,u⟩:=bcell a;have o:w.heap.size+1<k.heap.size:=by have:=a.size;simp at this;omega
  have p:=((kp_alloc w (.cells #[.bool false,.slice r n c] 38)).alloc' (.cells #[.bool false,.slice none 0 0] 38)).trans' a
  go_wp2_with fail
  refine bodyPost_ret (v:=.agg #[.bool true,.slice d j c1]) (by simp[results,Tryz.results35,go_sem,m]) rfl ?_;exact retW_end (by simp;omega) (by rw[Int.natAbs_neg];exact b) p (by omega) (by rw[elemOf_keep a (by simp)];exact elemOf_at1 _ _ _ _)
theorem sign_any (z:Int) (v:Value) (w:World) (d:WN w v z):Calls Tryz.prog 34 #[v] w (RetV w (.int .i64 z.sign)):=by
 obtain⟨g,n,c,rfl,e⟩:=d;obtain⟨a,f⟩:=e.zero_len (by decide);rcases Int.lt_trichotomy z 0 with h | h | h
 ·rw[decide_eq_true h,Int.sign_eq_neg_one_of_neg h];clear a
  go_enter Tryz.func34,Tryz.ntmps34
  go_wp2
  go_ret
  exact⟨rfl,kp_alloc _ _⟩
 ·have b:n≤0:=by omega
  rw[decide_eq_false (by omega),Int.sign_eq_zero_iff_zero.2 h];clear a h
  go_enter Tryz.func34,Tryz.ntmps34
  go_wp2
  go_ret
  exact⟨rfl,kp_alloc _ _⟩
 ·have b:0<n:=by omega
  rw[decide_eq_false (by omega),Int.sign_eq_one_of_pos h];clear a h
  go_enter Tryz.func34,Tryz.ntmps34
  go_wp2
  go_ret
  exact⟨rfl,kp_alloc _ _⟩
theorem rp_none (E:TypeId) (w:World):Rp E 1000000000 w (.slice none 0 0) 0:=⟨[],Row.nil _ _,Canon.nil (by decide),rfl⟩
theorem add_any (x y:Int) (u v:Value) (w:World) (S:WN w u x) (T:WN w v y) (Q:Fit x) (R:Fit y):Calls Tryz.prog 68 #[u,v] w (RetW w (x+y)):=by
 obtain⟨D,n,c,rfl,r⟩:=S;obtain⟨k,E,F,rfl,g⟩:=T;have B:=fit_abs Q;have C:=fit_abs R;clear Q R;by_cases M:x<0
 ·by_cases L:y<0
  ·rw[decide_eq_true M,decide_eq_true L]
   go_enter Tryz.func68,Tryz.ntmps68
   go_wp2_with fail
   refine(addLimbs_any _ _ _ _ _ (r.keep (((kp_alloc w _).alloc' _).alloc' _)) (g.keep (((kp_alloc w _).alloc' _).alloc' _)) B C).mono ?_;rintro e l ⟨U,rfl,s,a,N⟩;obtain⟨G,O,c1,rfl⟩:=s.shape;obtain⟨m,t⟩:=bcell a;have o:w.heap.size+2<l.heap.size:=by have:=a.size;simp at this;omega
   have h:=(((kp_alloc w (.cells #[.bool true,.slice D n c] 38)).alloc' (.cells #[.bool true,.slice k E F] 38)).alloc' (.cells #[.bool false,.slice none 0 0] 38)).trans' a
   go_wp2_with fail
   refine bodyPost_ret (v:=.agg #[.bool true,.slice G O c1]) (by simp[results,Tryz.results68,go_sem,m]) rfl ?_;exact retW_end (by simp;omega) (by rw[show ((x+y).natAbs:Int)=x.natAbs+y.natAbs by omega];exact s) h (by omega) (by rw[elemOf_keep a (by simp)];exact elemOf_at2 _ _ _ _ _)
  ·rw[decide_eq_true M,decide_eq_false L];rcases Int.lt_trichotomy (x.natAbs:Int) (y.natAbs:Int) with z | z | z
   ·have b:=cmp3_lt z;have f:=b
    go_enter Tryz.func68,Tryz.ntmps68
    go_wp2_with fail
    refine(compareLimbs_any _ _ _ _ _ (r.keep (((kp_alloc w _).alloc' _).alloc' _)) (g.keep (((kp_alloc w _).alloc' _).alloc' _))).mono ?_;rintro e l ⟨rfl,a⟩;rw[f];obtain⟨m,t⟩:=bcell a;have o:w.heap.size+2<l.heap.size:=by have:=a.size;simp at this;omega
    have h:=(((kp_alloc w (.cells #[.bool true,.slice D n c] 38)).alloc' (.cells #[.bool false,.slice k E F] 38)).alloc' (.cells #[.bool false,.slice none 0 0] 38)).trans' a;clear f b
    go_wp2_with fail
    refine(subtractLimbs_any _ _ _ _ _ (g.keep h) (r.keep h) C (by omega)).mono ?_;rintro e H ⟨P,rfl,i,d,I⟩;obtain⟨p,J,c2,rfl⟩:=i.shape;obtain⟨q,A⟩:=bcell (a.trans' d);clear m t;have K:w.heap.size+2<H.heap.size:=by have:=d.size;omega
    have j:=h.trans' d
    go_wp2_with fail
    refine bodyPost_ret (v:=.agg #[.bool false,.slice p J c2]) (by simp[results,Tryz.results68,go_sem,q]) rfl ?_;exact retW_end (by simp;omega) (by rw[show ((x+y).natAbs:Int)=y.natAbs - x.natAbs by omega];exact i) j (by omega) (by rw[elemOf_keep d (by omega),elemOf_keep a (by simp)];exact elemOf_at2 _ _ _ _ _)
   ·have b:=cmp3_eq z;have f:=b
    go_enter Tryz.func68,Tryz.ntmps68
    go_wp2_with fail
    refine(compareLimbs_any _ _ _ _ _ (r.keep (((kp_alloc w _).alloc' _).alloc' _)) (g.keep (((kp_alloc w _).alloc' _).alloc' _))).mono ?_;rintro e l ⟨rfl,a⟩;rw[f];obtain⟨m,t⟩:=bcell a;have o:w.heap.size+2<l.heap.size:=by have:=a.size;simp at this;omega
    have h:=(((kp_alloc w (.cells #[.bool true,.slice D n c] 38)).alloc' (.cells #[.bool false,.slice k E F] 38)).alloc' (.cells #[.bool false,.slice none 0 0] 38)).trans' a;clear f b
    go_wp2_with fail
    refine bodyPost_ret (v:=.agg #[.bool false,.slice none 0 0]) (by simp[results,Tryz.results68,go_sem,m]) rfl ?_;exact retW_end (by simp;omega) (by rw[show ((x+y).natAbs:Int)=0 by omega];exact rp_none _ _) h (by omega) (by rw[elemOf_keep a (by simp)];exact elemOf_at2 _ _ _ _ _)
   ·have b:=cmp3_gt z;have f:=b
    go_enter Tryz.func68,Tryz.ntmps68
    go_wp2_with fail
    refine(compareLimbs_any _ _ _ _ _ (r.keep (((kp_alloc w _).alloc' _).alloc' _)) (g.keep (((kp_alloc w _).alloc' _).alloc' _))).mono ?_;rintro e l ⟨rfl,a⟩;rw[f];obtain⟨m,t⟩:=bcell a;have o:w.heap.size+2<l.heap.size:=by have:=a.size;simp at this;omega
    have h:=(((kp_alloc w (.cells #[.bool true,.slice D n c] 38)).alloc' (.cells #[.bool false,.slice k E F] 38)).alloc' (.cells #[.bool false,.slice none 0 0] 38)).trans' a;clear f b
    go_wp2_with fail
    refine(subtractLimbs_any _ _ _ _ _ (r.keep h) (g.keep h) B (by omega)).mono ?_;rintro e H ⟨P,rfl,i,d,I⟩;obtain⟨p,J,c2,rfl⟩:=i.shape;obtain⟨q,A⟩:=bcell (a.trans' d);clear m t;have K:w.heap.size+2<H.heap.size:=by have:=d.size;omega
    have j:=h.trans' d
    go_wp2_with fail
    refine bodyPost_ret (v:=.agg #[.bool true,.slice p J c2]) (by simp[results,Tryz.results68,go_sem,q]) rfl ?_;exact retW_end (by simp;omega) (by rw[show ((x+y).natAbs:Int)=x.natAbs - y.natAbs by omega];exact i) j (by omega) (by rw[elemOf_keep d (by omega),elemOf_keep a (by simp)];exact elemOf_at2 _ _ _ _ _)
 ·by_cases L:y<0
  ·rw[decide_eq_false M,decide_eq_true L];rcases Int.lt_trichotomy (x.natAbs:Int) (y.natAbs:Int) with z | z | z
   ·have b:=cmp3_lt z;have f:=b
    go_enter Tryz.func68,Tryz.ntmps68
    go_wp2_with fail
    refine(compareLimbs_any _ _ _ _ _ (r.keep (((kp_alloc w _).alloc' _).alloc' _)) (g.keep (((kp_alloc w _).alloc' _).alloc' _))).mono ?_;rintro e l ⟨rfl,a⟩;rw[f];obtain⟨m,t⟩:=bcell a;have o:w.heap.size+2<l.heap.size:=by have:=a.size;simp at this;omega
    have h:=(((kp_alloc w (.cells #[.bool false,.slice D n c] 38)).alloc' (.cells #[.bool true,.slice k E F] 38)).alloc' (.cells #[.bool false,.slice none 0 0] 38)).trans' a;clear f b
    go_wp2_with fail
    refine(subtractLimbs_any _ _ _ _ _ (g.keep h) (r.keep h) C (by omega)).mono ?_;rintro e H ⟨P,rfl,i,d,I⟩;obtain⟨p,J,c2,rfl⟩:=i.shape;obtain⟨q,A⟩:=bcell (a.trans' d);clear m t;have K:w.heap.size+2<H.heap.size:=by have:=d.size;omega
    have j:=h.trans' d
    go_wp2_with fail
    refine bodyPost_ret (v:=.agg #[.bool true,.slice p J c2]) (by simp[results,Tryz.results68,go_sem,q]) rfl ?_;exact retW_end (by simp;omega) (by rw[show ((x+y).natAbs:Int)=y.natAbs - x.natAbs by omega];exact i) j (by omega) (by rw[elemOf_keep d (by omega),elemOf_keep a (by simp)];exact elemOf_at2 _ _ _ _ _)
   ·have b:=cmp3_eq z;have f:=b
    go_enter Tryz.func68,Tryz.ntmps68
    go_wp2_with fail
    refine(compareLimbs_any _ _ _ _ _ (r.keep (((kp_alloc w _).alloc' _).alloc' _)) (g.keep (((kp_alloc w _).alloc' _).alloc' _))).mono ?_;rintro e l ⟨rfl,a⟩;rw[f];obtain⟨m,t⟩:=bcell a;have o:w.heap.size+2<l.heap.size:=by have:=a.size;simp at this;omega
    have h:=(((kp_alloc w (.cells #[.bool false,.slice D n c] 38)).alloc' (.cells #[.bool true,.slice k E F] 38)).alloc' (.cells #[.bool false,.slice none 0 0] 38)).trans' a;clear f b
    go_wp2_with fail
    refine bodyPost_ret (v:=.agg #[.bool false,.slice none 0 0]) (by simp[results,Tryz.results68,go_sem,m]) rfl ?_;exact retW_end (by simp;omega) (by rw[show ((x+y).natAbs:Int)=0 by omega];exact rp_none _ _) h (by omega) (by rw[elemOf_keep a (by simp)];exact elemOf_at2 _ _ _ _ _)
   ·have b:=cmp3_gt z;have f:=b
    go_enter Tryz.func68,Tryz.ntmps68
    go_wp2_with fail
    refine(compareLimbs_any _ _ _ _ _ (r.keep (((kp_alloc w _).alloc' _).alloc' _)) (g.keep (((kp_alloc w _).alloc' _).alloc' _))).mono ?_;rintro e l ⟨rfl,a⟩;rw[f];obtain⟨m,t⟩:=bcell a;have o:w.heap.size+2<l.heap.size:=by have:=a.size;simp at this;omega
    have h:=(((kp_alloc w (.cells #[.bool false,.slice D n c] 38)).alloc' (.cells #[.bool true,.slice k E F] 38)).alloc' (.cells #[.bool false,.slice none 0 0] 38)).trans' a;clear f b
    go_wp2_with fail
    refine(subtractLimbs_any _ _ _ _ _ (r.keep h) (g.keep h) B (by omega)).mono ?_;rintro e H ⟨P,rfl,i,d,I⟩;obtain⟨p,J,c2,rfl⟩:=i.shape;obtain⟨q,A⟩:=bcell (a.trans' d);clear m t;have K:w.heap.size+2<H.heap.size:=by have:=d.size;omega
    have j:=h.trans' d
    go_wp2_with fail
    refine bodyPost_ret (v:=.agg #[.bool false,.slice p J c2]) (by simp[results,Tryz.results68,go_sem,q]) rfl ?_;exact retW_end (by simp;omega) (by rw[show ((x+y).natAbs:Int)=x.natAbs - y.natAbs by omega];exact i) j (by omega) (by rw[elemOf_keep d (by omega),elemOf_keep a (by simp)];exact elemOf_at2 _ _ _ _ _)
  ·rw[decide_eq_false M,decide_eq_false L]
   go_enter Tryz.func68,Tryz.ntmps68
   go_wp2_with fail
   refine(addLimbs_any _ _ _ _ _ (r.keep (((kp_alloc w _).alloc' _).alloc' _)) (g.keep (((kp_alloc w _).alloc' _).alloc' _)) B C).mono ?_;rintro e l ⟨U,rfl,s,a,N⟩;obtain⟨G,O,c1,rfl⟩:=s.shape;obtain⟨m,t⟩:=bcell a;have o:w.heap.size+2<l.heap.size:=by have:=a.size;simp at this;omega
   have h:=(((kp_alloc w (.cells #[.bool false,.slice D n c] 38)).alloc' (.cells #[.bool false,.slice k E F] 38)).alloc' (.cells #[.bool false,.slice none 0 0] 38)).trans' a
   go_wp2_with fail
   refine bodyPost_ret (v:=.agg #[.bool false,.slice G O c1]) (by simp[results,Tryz.results68,go_sem,m]) rfl ?_;exact retW_end (by simp;omega) (by rw[show ((x+y).natAbs:Int)=x.natAbs+y.natAbs by omega];exact s) h (by omega) (by rw[elemOf_keep a (by simp)];exact elemOf_at2 _ _ _ _ _)
end
section
open Go.RowKit
theorem neg_len {E:TypeId} {B:Int} (a:1<B) {w:World} {b:Option Addr} {n c:Nat} {x z:Int} (h:Rp E B w (.slice b n c) x) (d:z<0↔x≠0):decide (0<(n:Int))=decide (z<0):=by
 have e:=(h.zero_len a).1;rw[decide_eq_decide,d,ne_eq,← e];omega
theorem mul_neg_iff {x y:Int} (h:(x<0∧0≤y)∨(0≤x∧y<0)):x*y<0↔(x.natAbs:Int)*y.natAbs≠0:=by
 have c:x*y≤0:=by
  rcases h with ⟨a,b⟩|⟨a,b⟩
  ·exact Int.mul_nonpos_of_nonpos_of_nonneg (by omega) b
  ·exact Int.mul_nonpos_of_nonneg_of_nonpos a (by omega)
 have a:(x.natAbs:Int)*y.natAbs=((x*y).natAbs:Int):=by rw[Int.natAbs_mul];simp
 rw[a];omega
theorem mul_nonneg_of {x y:Int} (h:(x<0∧y<0)∨(0≤x∧0≤y)):¬ x*y<0:=by
 have c:0≤x*y:=by
  rcases h with ⟨a,b⟩|⟨a,b⟩
  ·exact Int.mul_nonneg_of_nonpos_of_nonpos (by omega) (by omega)
  ·exact Int.mul_nonneg a b
 omega
theorem multiply_any (x y:Int) (u v:Value) (w:World) (I:WN w u x) (J:WN w v y) (G:Fit x) (H:Fit y):Calls Tryz.prog 36 #[u,v] w (RetW w (x*y)):=by
 obtain⟨z,n,c,rfl,A⟩:=I;obtain⟨j,B,C,rfl,k⟩:=J;have l:=fit_abs G;have m:=fit_abs H;have D:Hid ((x.natAbs:Int)*y.natAbs=((x*y).natAbs:Int)):=by unfold Hid;rw[Int.natAbs_mul];simp
 clear G H;by_cases f:x<0
 ·by_cases d:y<0
  ·rw[decide_eq_true f,decide_eq_true d];have g:=Hid.mk f;have h:=Hid.mk d;clear f d
   go_enter Tryz.func36,Tryz.ntmps36
   go_wp2_with fail
   refine(multiplyLimbs_any _ _ _ _ _ (A.keep (((kp_alloc w _).alloc' _).alloc' _)) (k.keep (((kp_alloc w _).alloc' _).alloc' _)) l m).mono ?_;rintro e p ⟨E,rfl,b,a,q⟩;obtain⟨i,o,c1,rfl⟩:=b.shape;obtain⟨r,F⟩:=bcell a;have s:w.heap.size+2<p.heap.size:=by have:=a.size;simp at this;omega
   have t:=(((kp_alloc w (.cells #[.bool true,.slice z n c] 38)).alloc' (.cells #[.bool true,.slice j B C] 38)).alloc' (.cells #[.bool false,.slice none 0 0] 38)).trans' a
   go_wp2_with fail
   refine bodyPost_ret (v:=.agg #[.bool false,.slice i o c1]) (by simp[results,Tryz.results36,go_sem,r]) rfl ?_;have f:=g.out;have d:=h.out;exact retW_end ((decide_eq_false (mul_nonneg_of (Or.inl ⟨by omega,by omega⟩))).symm) (by rw[← D.out];exact b) t (by omega) (by rw[elemOf_keep a (by simp)];exact elemOf_at2 _ _ _ _ _)
  ·rw[decide_eq_true f,decide_eq_false d];have g:=Hid.mk f;have h:=Hid.mk d;clear f d
   go_enter Tryz.func36,Tryz.ntmps36
   go_wp2_with fail
   refine(multiplyLimbs_any _ _ _ _ _ (A.keep (((kp_alloc w _).alloc' _).alloc' _)) (k.keep (((kp_alloc w _).alloc' _).alloc' _)) l m).mono ?_;rintro e p ⟨E,rfl,b,a,q⟩;obtain⟨i,o,c1,rfl⟩:=b.shape;obtain⟨r,F⟩:=bcell a;have s:w.heap.size+2<p.heap.size:=by have:=a.size;simp at this;omega
   have t:=(((kp_alloc w (.cells #[.bool true,.slice z n c] 38)).alloc' (.cells #[.bool false,.slice j B C] 38)).alloc' (.cells #[.bool false,.slice none 0 0] 38)).trans' a
   go_wp2_with fail
   refine bodyPost_ret (v:=.agg #[.bool (decide (0<(o:Int))),.slice i o c1]) (by simp[results,Tryz.results36,go_sem,r]) rfl ?_;have f:=g.out;have d:=h.out;exact retW_end (neg_len (by decide) b (mul_neg_iff (Or.inl ⟨by omega,by omega⟩))) (by rw[← D.out];exact b) t (by omega) (by rw[elemOf_keep a (by simp)];exact elemOf_at2 _ _ _ _ _)
 ·by_cases d:y<0
  ·rw[decide_eq_false f,decide_eq_true d];have g:=Hid.mk f;have h:=Hid.mk d;clear f d
   go_enter Tryz.func36,Tryz.ntmps36
   go_wp2_with fail
   refine(multiplyLimbs_any _ _ _ _ _ (A.keep (((kp_alloc w _).alloc' _).alloc' _)) (k.keep (((kp_alloc w _).alloc' _).alloc' _)) l m).mono ?_;rintro e p ⟨E,rfl,b,a,q⟩;obtain⟨i,o,c1,rfl⟩:=b.shape;obtain⟨r,F⟩:=bcell a;have s:w.heap.size+2<p.heap.size:=by have:=a.size;simp at this;omega
   have t:=(((kp_alloc w (.cells #[.bool false,.slice z n c] 38)).alloc' (.cells #[.bool true,.slice j B C] 38)).alloc' (.cells #[.bool false,.slice none 0 0] 38)).trans' a
   go_wp2_with fail
   refine bodyPost_ret (v:=.agg #[.bool (decide (0<(o:Int))),.slice i o c1]) (by simp[results,Tryz.results36,go_sem,r]) rfl ?_;have f:=g.out;have d:=h.out;exact retW_end (neg_len (by decide) b (mul_neg_iff (Or.inr ⟨by omega,by omega⟩))) (by rw[← D.out];exact b) t (by omega) (by rw[elemOf_keep a (by simp)];exact elemOf_at2 _ _ _ _ _)
  ·rw[decide_eq_false f,decide_eq_false d];have g:=Hid.mk f;have h:=Hid.mk d;clear f d
   go_enter Tryz.func36,Tryz.ntmps36
   go_wp2_with fail
   refine(multiplyLimbs_any _ _ _ _ _ (A.keep (((kp_alloc w _).alloc' _).alloc' _)) (k.keep (((kp_alloc w _).alloc' _).alloc' _)) l m).mono ?_;rintro e p ⟨E,rfl,b,a,q⟩;obtain⟨i,o,c1,rfl⟩:=b.shape;obtain⟨r,F⟩:=bcell a;have s:w.heap.size+2<p.heap.size:=by have:=a.size;simp at this;omega
   have t:=(((kp_alloc w (.cells #[.bool false,.slice z n c] 38)).alloc' (.cells #[.bool false,.slice j B C] 38)).alloc' (.cells #[.bool false,.slice none 0 0] 38)).trans' a
   go_wp2_with fail
   refine bodyPost_ret (v:=.agg #[.bool false,.slice i o c1]) (by simp[results,Tryz.results36,go_sem,r]) rfl ?_;have f:=g.out;have d:=h.out;exact retW_end ((decide_eq_false (mul_nonneg_of (Or.inr ⟨by omega,by omega⟩))).symm) (by rw[← D.out];exact b) t (by omega) (by rw[elemOf_keep a (by simp)];exact elemOf_at2 _ _ _ _ _)
end
section
open Go.RowKit
def readRow (w:World):Value→List Int
 | .slice (some a) n _=>(List.range n).map (fun i=>match w.cell? (a.add i) with | some (.int _ z)=>z | _=>0)
 | _=>[]
theorem Row.read {w:World} {E:TypeId} {v:Value} {l:List Int} (h:Row w E v l):readRow w v=l:=by
 obtain⟨e,f,b,g,rfl,n,o,p,j,k⟩:=h;rcases Nat.eq_zero_or_pos l.length with a | a
 ·have m:l=[]:=List.eq_nil_of_length_eq_zero a;subst m
  cases e <;> rfl
 ·rw[(j a).1]
  apply ext_at0 (by simp[readRow])
  intro i d;have c:i<l.length:=by simpa[readRow] using d
  rw[at0_eq d];simp only[readRow,List.getElem_map,List.getElem_range,Addr.add_lit,k i c]
def readNum (B:Int) (w:World) (v:Value):Nat:=(val B (readRow w v)).toNat
theorem Rp.read {E:TypeId} {B:Int} {w:World} {v:Value} {x:Int} (h:Rp E B w v x):readNum B w v=x.toNat:=by
 obtain⟨l,a,_,b⟩:=h;unfold readNum;rw[a.read,b]
theorem pow9_small {n:Int} {k:Nat} (a:0≤n) (h:n≤9223372036854775807) (b:3≤k):n / 1000000000 ^ k=0:=by
 have c:=pow_mono (B:=1000000000) (by decide) b;exact Int.ediv_eq_zero_of_lt a (by (have:(1000000000:Int) ^ 3=1000000000000000000000000000:=by decide);omega)
theorem fromInt_any (n:Int) (w:World) (l:0≤n) (D:n≤9223372036854775807):Calls Tryz.prog 37 #[.int .i64 n] w (RetW w n):=by
 obtain⟨E,F,m,i,o⟩:=info_parts Tryz.infoI64
 go_enter Tryz.func37,Tryz.ntmps37
 go_wp2
 go_loopw [3,4,5] (fun s r _ wr=>∃ k:Nat,k≤3∧r=.int .i64 (n / 1000000000 ^ k)∧wr.ownsRow (w.heap.size+1) 2 1 s k (vals (digTo 1000000000 n k))∧Kp (w.alloc (.cells #[.bool false,.slice none 0 0] 38)) wr∧Hid (k=0∨0<n / 1000000000 ^ (k - 1)))
  (fun _ r _ _=>(intOf r).toNat)
 case atStart=>exact⟨0,by omega,by simp,by have:=World.ownsRow_made (base:=w.heap.size+1) (e:=2) (size:=1) (w.alloc (.cells #[.bool false,.slice none 0 0] 38)) #[] 0 (by simp) (by decide) rfl;simp only[World.size_alloc] at this;exact this,kp_alloc _ _,Or.inl rfl⟩
 case round =>
  obtain⟨k,M,rfl,a,b,c⟩:=hrel;have G:0≤n / 1000000000 ^ k:=Int.ediv_nonneg l (Int.le_of_lt (pow_pos' (by decide) k));have H:n / 1000000000 ^ k≤n:=Int.ediv_le_self _ l;have y:=Hid.mk (digTo_succ 1000000000 n k);have z:=Hid.mk (div_pow_succ (B:=1000000000) (by decide) n k);have p:=Hid.mk (fun h=>pow9_small (k:=k) l D h);have t:=Hid.mk (fun h=>digTo_done (B:=1000000000) (n:=n) (k:=k) (by decide) h c.out);generalize hq:n / 1000000000 ^ k=q at *;have I:=Hid.mk hq;clear hq;by_cases g:q=0
  ·have u:=Hid.mk (t.out g);subst g;have d:=Row.of_owns a;obtain⟨x,c1,A,_,_⟩:=d.slice;rw[digTo_length] at A;subst A;obtain⟨J,N⟩:=bcell b;have i:w.heap.size<wr.heap.size:=by have:=b.size;simp at this;omega
   clear a t p z y c;have K:¬ n<0:=by omega
   go_wp2_with fail
   refine bodyPost_ret (v:=.agg #[.bool false,.slice x k c1]) (by simp[results,Tryz.results37,go_sem,J]) rfl ?_;exact retW_end (by simp;omega) (by rw[show (n.natAbs:Int)=n by omega];exact⟨_,d,u.out⟩) ((kp_alloc _ _).trans' b) (Nat.le_refl _) (by rw[elemOf_keep b (by simp)];exact elemOf_alloc_new _ _ _)
  ·have O:(q != 0)=true:=by simp[g]
   have L:k<3:=by
    rcases Nat.lt_or_ge k 3 with h | h
    ·exact h
    ·exact absurd (p.out h) g
   have C:=Hid.mk g;clear g t p
   go_wp2_with (at_builtin;(refine wpList_append_one wr rfl _ _ 36 rfl (w.alloc (.cells #[.bool false,.slice none 0 0] 38)) 2 E (.int .i64 0) 8 Tryz.underlying36 F m i o rfl _ k (digTo 1000000000 n k) (q % 1000000000) rfl (by rw[World.size_alloc];exact a) b rfl (by unfold maxLen;omega) (by omega) ?_))
   intro P Q f j;clear a b
   go_wp2
   go_roundw
   case rel=>exact⟨k+1,by omega,by rw[z.out],by rw[y.out];exact f,j,Or.inr (by rw[show k+1 - 1=k by omega,I.out];have:=C.out;omega)⟩
   case measure=>simp[intOf];have:=C.out;omega
theorem divisor_any (x y:Int) (m:Nat) (u v:Value) (w:World) (W:WN w u x) (X:WN w v y) (Y:m≤300000000) (R:Ft m x) (S:Ft m y):Calls Tryz.prog 119 #[u,v] w (RetW w (Int.gcd x y:Int)):=by
 obtain⟨Z,n,c,rfl,hs⟩:=W;obtain⟨E,n',c',rfl,F⟩:=X;have G:=fit_abs (R.fit (by omega));have H:=fit_abs (S.fit (by omega))
 go_enter Tryz.func119,Tryz.ntmps119
 go_wp2_with fail
 refine(copyLimbs_any _ _ _ (hs.keep (((kp_alloc w _).alloc' _).alloc' _)) G).mono ?_;rintro e w1 ⟨v1,rfl,j,f,aa⟩;obtain⟨ac,n1,c1,rfl⟩:=j.shape;obtain⟨I,T⟩:=bcell f;have ad:w.heap.size+2<w1.heap.size:=by have:=f.size;simp at this;omega
 have J:=(((kp_alloc w (.cells #[.bool (decide (x<0)),.slice Z n c] 38)).alloc' (.cells #[.bool (decide (y<0)),.slice E n' c'] 38)).alloc' (.cells #[.bool false,.slice none 0 0] 38)).trans' f
 go_wp2_with fail
 refine(copyLimbs_any _ _ _ (F.keep J) H).mono ?_;rintro e w2 ⟨v2,rfl,k,o,ae⟩;obtain⟨af,n2,c2,rfl⟩:=k.shape;have HK:=Hid.mk (f.trans' o);have K:=Hid.mk (J.trans' o);have i:=j.keep o;clear I T J f j
 go_wp2_with fail
 go_loopw [5,6,7,8] (fun g l _ _ wr=>∃ a b:Nat,Rp 2 1000000000 wr g a∧Rp 2 1000000000 wr l b∧Hid (Nat.gcd a b=Int.gcd x y)∧Hid (a<10 ^ m∧b<10 ^ m)∧Kp w2 wr)
  (fun _ l _ _ wr=>readNum 1000000000 wr l)
 case atStart=>exact⟨x.natAbs,y.natAbs,i,k,rfl,⟨R,S⟩,Below.refl _ _⟩
 case round =>
  obtain⟨a,b,D,p,h,d,q⟩:=hrel;obtain⟨L,ng,cg,rfl⟩:=D.shape;obtain⟨M,N,cl,rfl⟩:=p.shape;obtain⟨t,z⟩:=p.zero_len (by decide);clear i k;by_cases hb:b=0
  ·have A:N=0:=by omega
   subst A;subst hb;have O:Hid (a=Int.gcd x y):=by have:=h.out;rw[Nat.gcd_zero_right] at this;exact this
   have r:=HK.out.trans' q;obtain⟨I,T⟩:=bcell r;have ag:w.heap.size+2<wr.heap.size:=by have:=r.size;simp at this;omega
   clear t z h d p
   go_wp2_with fail
   refine bodyPost_ret (v:=.agg #[.bool false,.slice L ng cg]) (by simp[results,Tryz.results119,go_sem,I]) rfl ?_;exact retW_end (by simp) (by rw[← O.out];simpa using D) (K.out.trans' q) (by omega) (by rw[elemOf_keep r (by simp)];exact elemOf_at2 _ _ _ _ _)
  ·have A:0<N:=by omega
   have HB:=Hid.mk hb;clear t z hb
   go_wp2_with fail
   refine(divideLimbs_any a b m _ _ _ D p Y (by unfold Ft;simpa using d.out.1) (by unfold Ft;simpa using d.out.2)).mono ?_
   rintro e U ⟨v3,V,rfl,P,s,B⟩;have HM:Hid (readNum 1000000000 U V<readNum 1000000000 wr (.slice M N cl)):=by
    unfold Hid;rw[s.read,p.read];have:=Nat.mod_lt a (Nat.pos_of_ne_zero HB.out);omega
   have O:Hid (Nat.gcd b (a % b)=Int.gcd x y):=by
    unfold Hid;rw[← h.out,Nat.gcd_comm a b,Nat.gcd_rec b a,Nat.gcd_comm]
   have HS:Hid (b<10 ^ m∧a % b<10 ^ m):=⟨d.out.2,Nat.lt_of_le_of_lt (Nat.mod_le _ _) d.out.1⟩;have Q:=p.keep B;have C:Rp 2 1000000000 U V ((a % b:Nat):Int):=by simpa using s
   clear D p h d s P
   go_wp2_with fail
   go_roundw
   case rel=>exact⟨b,a % b,Q,C,O,HS,q.trans' B⟩
   case measure=>exact HM.out
end
end Go.Proofs.YtjahbjjekednfaaGreatDoor
