import Derived.Test.YtjahbjjekednfaaGreatDoorR8
import Derived.Test.YtjahbjjekednfaaGreatDoorE1
namespace Go.Proofs.YtjahbjjekednfaaGreatDoor
set_option maxHeartbeats 1600000
section
open Go.RowKit
theorem IN.len {w:World} {b:Bool} {d:Option Addr} {n c:Nat} {z:Int} (h:IN w (.agg #[.bool b,.slice d n c]) z):(n=0↔z=0)∧n≤9223372036854775807:=by
 have a:=h.rb.zero_len;exact⟨by rw[a.1];omega,a.2⟩
theorem IN.neg {w:World} {b:Bool} {a:Option Addr} {n c:Nat} {z:Int} (h:IN w (.agg #[.bool b,.slice a n c]) z):b=decide (z<0):=by
 obtain⟨d,f,g,e,_⟩:=h;simp only[Value.agg.injEq,Array.mk.injEq,List.cons.injEq,Value.bool.injEq] at e;exact e.1
theorem gcd_turn (x y:Int):Int.gcd x y=Int.gcd (y.natAbs:Int) ((x.natAbs:Int) % (y.natAbs:Int)):=by
 have e:(x.natAbs:Int) % (y.natAbs:Int)=((x.natAbs % y.natAbs:Nat):Int):=by omega
 rw[e];unfold Int.gcd;rw[Int.natAbs_natCast,Int.natAbs_natCast,Nat.gcd_comm,Nat.gcd_rec,Nat.gcd_comm]
theorem gcd_z (x y:Int) (m:Nat) (u v:Value) (w:World) (hx:IN w u x) (P:IN w v y) (_hm:m≤100000000) (_fx:Ft m x) (_fy:Ft m y) (hz:y=0):Calls Tryz.prog 116 #[u,v] w (RetI w (Int.gcd x y:Int)):=by
 obtain⟨V,r,W,c1,rfl⟩:=hx.shape';obtain⟨X,s,Y,c2,rfl⟩:=P.shape'
 go_enter Tryz.func116,Tryz.ntmps116
 go_wp2_with fail
 have h:Kp w _:=(Kp.alloc' (Kp.alloc' (Kp.alloc' (Below.refl w.heap.size w) (.cells #[.bool V,.slice r W c1] 52)) (.cells #[.bool X,.slice s Y c2] 52)) (.cells #[.bool false,.slice none 0 0] 52));have D:Sf 3 w _:=(Sf.alloc (Sf.alloc (Sf.alloc (Sf.refl 3 w) (.cells #[.bool V,.slice r W c1] 52)) (.cells #[.bool X,.slice s Y c2] 52)) (.cells #[.bool false,.slice none 0 0] 52));refine(size_any x _ _ (hx.soft D)).mono ?_;rintro e Q ⟨v1,rfl,i,f⟩;obtain⟨B,d,C,c3,rfl⟩:=i.shape';have Z:=h.trans' f;have aa:=D.trans (Sf.keep f);have j:Blk Q (w.heap.size) #[.bool V,.slice r W c1] 52:=Blk.keep f (Blk.at (Blk.alloc (Blk.alloc (Blk.new _ _ _) _) _) (by simp));have z:Blk Q (w.heap.size+1) #[.bool X,.slice s Y c2] 52:=Blk.keep f (Blk.at (Blk.alloc (Blk.new _ _ _) _) (by simp));have b:Blk Q (w.heap.size+1+1) #[.bool false,.slice none 0 0] 52:=Blk.keep f (Blk.at (Blk.new _ _ _) (by simp));obtain⟨F,G,ai⟩:=j.all;have H:w.heap.size≤w.heap.size:=by (first | omega | (have:=h.size;simp only[sz] at this;omega))
 obtain⟨I,J,aj⟩:=z.all;have ak:w.heap.size≤w.heap.size+1:=by (first | omega | (have:=h.size;simp only[sz] at this;omega))
 obtain⟨k,l,R⟩:=b.all;have S:w.heap.size≤w.heap.size+1+1:=by (first | omega | (have:=h.size;simp only[sz] at this;omega))
 replace P:=P.soft aa
 go_wp2_with fail
 have n:Kp w _:=(stK2 (A:=w.heap.size) (.bool B) (.slice d C c3) Z (by have:=H;omega))
 have K:Sf 3 Q _:=(stS2 (E:=3) (.bool B) (.slice d C c3) j (by decide));refine(size_any y _ _ (P.soft K)).mono ?_;rintro e w2 ⟨v2,rfl,L,g⟩;obtain⟨b4,M,n4,c4,rfl⟩:=L.shape';have ac:=n.trans' g;have ad:=K.trans (Sf.keep g);have ae:Blk w2 (w.heap.size) #[.bool B,.slice d C c3] 52:=Blk.keep g (Blk.set (Blk.set j));have N:=Blk.keep g (Blk.other (Blk.other z (by omega)) (by omega));have a:=Blk.keep g (Blk.other (Blk.other b (by omega)) (by omega));obtain⟨al,am,an⟩:=ae.all;have ao:w.heap.size≤w.heap.size:=by (first | omega | (have:=n.size;simp only[sz] at this;omega))
 obtain⟨ap,aq,ar⟩:=N.all;have O:w.heap.size≤w.heap.size+1:=by (first | omega | (have:=n.size;simp only[sz] at this;omega))
 obtain⟨p,T,U⟩:=a.all;have q:w.heap.size≤w.heap.size+1+1:=by (first | omega | (have:=n.size;simp only[sz] at this;omega))
 replace i:=i.soft ad;clear j F G z I J b k l;have af:n4=0:=L.len.1.mpr (by omega);subst af
 go_wp2_with fail
 refine bodyPost_ret (v:=.agg #[.bool B,.slice d C c3]) (by simp[results,Tryz.results116,go_sem,p]) rfl ?_;have ag:Kp w _:=(stK2 (A:=w.heap.size+1+1) (.bool B) (.slice d C c3) (stK2 (A:=w.heap.size+1) (.bool b4) (.slice M 0 c4) ac (by have:=O;omega)) (by have:=q;omega))
 have ah:Sf 3 w2 _:=(Sf.set (t:=52) (c:=w.heap.size+1+1) (o:=1) (y:=.slice d C c3) (Sf.set (t:=52) (c:=w.heap.size+1+1) (o:=0) (y:=.bool B) (stS2 (E:=3) (.bool b4) (.slice M 0 c4) N (by decide)) (by first | (simp only[elemOf_setCell];exact a.elem) | exact a.elem) (by decide)) (by first | (simp only[elemOf_setCell];exact a.elem) | exact a.elem) (by decide))
 have e:(Int.gcd x y:Int)=(x.natAbs:Int):=by rw[hz,Int.gcd_zero_right]
 rw[e];exact retI_mk i ah ag
theorem gcd_s (x y:Int) (m:Nat) (u v:Value) (w:World) (hx:IN w u x) (hy:IN w v y) (_hm:m≤100000000) (_fx:Ft m x) (_fy:Ft m y) (hz:y≠0) (IH:∀(u v:Value) (w:World),IN w u (y.natAbs:Int)→IN w v ((x.natAbs:Int) % (y.natAbs:Int))→Calls Tryz.prog 116 #[u,v] w (RetI w (Int.gcd (y.natAbs:Int) ((x.natAbs:Int) % (y.natAbs:Int)):Int))):Calls Tryz.prog 116 #[u,v] w (RetI w (Int.gcd x y:Int)):=by
 obtain⟨b1,C,n1,c1,rfl⟩:=hx.shape';obtain⟨b2,D,n2,c2,rfl⟩:=hy.shape'
 go_enter Tryz.func116,Tryz.ntmps116
 go_wp2_with fail
 have O:Kp w _:=(Kp.alloc' (Kp.alloc' (Kp.alloc' (Below.refl w.heap.size w) (.cells #[.bool b1,.slice C n1 c1] 52)) (.cells #[.bool b2,.slice D n2 c2] 52)) (.cells #[.bool false,.slice none 0 0] 52));have P:Sf 3 w _:=(Sf.alloc (Sf.alloc (Sf.alloc (Sf.refl 3 w) (.cells #[.bool b1,.slice C n1 c1] 52)) (.cells #[.bool b2,.slice D n2 c2] 52)) (.cells #[.bool false,.slice none 0 0] 52));refine(size_any x _ _ (hx.soft P)).mono ?_;rintro e w1 ⟨v1,rfl,k,f⟩;obtain⟨b3,F,n3,c3,rfl⟩:=k.shape';have av:=O.trans' f;have aw:=P.trans (Sf.keep f);have l:Blk w1 (w.heap.size) #[.bool b1,.slice C n1 c1] 52:=Blk.keep f (Blk.at (Blk.alloc (Blk.alloc (Blk.new _ _ _) _) _) (by simp));have G:Blk w1 (w.heap.size+1) #[.bool b2,.slice D n2 c2] 52:=Blk.keep f (Blk.at (Blk.alloc (Blk.new _ _ _) _) (by simp));have a:Blk w1 (w.heap.size+1+1) #[.bool false,.slice none 0 0] 52:=Blk.keep f (Blk.at (Blk.new _ _ _) (by simp));obtain⟨Q,R,aF⟩:=l.all;have S:w.heap.size≤w.heap.size:=by (first | omega | (have:=O.size;simp only[sz] at this;omega))
 obtain⟨T,U,aG⟩:=G.all;obtain⟨n,o,ao⟩:=a.all;replace hy:=hy.soft aw
 go_wp2_with fail
 have V:Kp w _:=(stK2 (A:=w.heap.size) (.bool b3) (.slice F n3 c3) av (by have:=S;omega))
 have W:Sf 3 w1 _:=(stS2 (E:=3) (.bool b3) (.slice F n3 c3) l (by decide));refine(size_any y _ _ (hy.soft W)).mono ?_;rintro e w2 ⟨v2,rfl,d,g⟩;obtain⟨b4,H,X,c4,rfl⟩:=d.shape';have ax:=V.trans' g;have ay:=W.trans (Sf.keep g);have I:Blk w2 (w.heap.size) #[.bool b3,.slice F n3 c3] 52:=Blk.keep g (Blk.set (Blk.set l));have p:=Blk.keep g (Blk.other (Blk.other G (by omega)) (by omega));have b:=Blk.keep g (Blk.other (Blk.other a (by omega)) (by omega));obtain⟨Y,Z,aH⟩:=I.all;obtain⟨aa,ac,aI⟩:=p.all;have ad:w.heap.size≤w.heap.size+1:=by (first | omega | (have:=V.size;simp only[sz] at this;omega))
 obtain⟨q,r,ap⟩:=b.all;replace k:=k.soft ay;clear l Q R G T U a n o;have J:=d.len;have aL:X≠0:=fun h=>by have:=J.1.mp h;omega
 have aM:((X:Int) == 0)=false:=by simp;omega
 have aN:=J.2;clear J
 go_wp2_with fail
 have kp2:Kp w _:=(stK2 (A:=w.heap.size+1) (.bool b4) (.slice H X c4) ax (by have:=ad;omega))
 have sf2:Sf 3 w2 _:=(stS2 (E:=3) (.bool b4) (.slice H X c4) p (by decide));refine(rdiv_any (x.natAbs:Int) (y.natAbs:Int) m _ _ _ (k.soft sf2) (d.soft sf2) (by omega) (by omega) _hm _fx.abs _fy.abs).mono ?_;rintro e w3 ⟨v3,v5,rfl,az,ae,i⟩;obtain⟨b5,af,n5,c5,rfl⟩:=az.shape';obtain⟨b6,ag,n6,c6,rfl⟩:=ae.shape';have aA:=kp2.trans' i;have aB:=sf2.trans (Sf.keep i);have ah:=Blk.keep i (Blk.other (Blk.other I (by omega)) (by omega));have ai:Blk w3 (w.heap.size+1) #[.bool b4,.slice H X c4] 52:=Blk.keep i (Blk.set (Blk.set p));have c:=Blk.keep i (Blk.other (Blk.other b (by omega)) (by omega));obtain⟨aj,ak,aJ⟩:=ah.all;obtain⟨al,am,aK⟩:=ai.all;obtain⟨s,t,aq⟩:=c.all;replace d:=d.soft aB;clear I Y Z p aa ac b q r
 go_wp2_with fail
 have an:Kp w _:=(Kp.alloc' (Kp.alloc' aA (.cells #[.bool b5,.slice af n5 c5] 52)) (.cells #[.bool b6,.slice ag n6 c6] 52));have K:Sf 3 w3 _:=(Sf.alloc (Sf.alloc (Sf.refl 3 w3) (.cells #[.bool b5,.slice af n5 c5] 52)) (.cells #[.bool b6,.slice ag n6 c6] 52));refine(IH _ _ _ (d.soft K) (ae.soft K)).mono ?_;rintro e w4 ⟨v7,rfl,L,M⟩;obtain⟨b7,N,n7,c7,rfl⟩:=L.shape';have aC:=an.trans' M;have aO:=K.trans (Sf.keep M);have j:=Blk.keep M (Blk.alloc (Blk.alloc c _) _);obtain⟨z,ar,au⟩:=j.all;have B:w.heap.size≤w.heap.size+1+1:=by (first | omega | (have:=an.size;simp only[sz] at this;omega))
 clear ah aj ak ai al am c s t;rw[← gcd_turn] at L
 go_wp2_with fail
 refine bodyPost_ret (v:=.agg #[.bool b7,.slice N n7 c7]) (by simp[results,Tryz.results116,go_sem,z]) rfl ?_;have aD:Kp w _:=(stK2 (A:=w.heap.size+1+1) (.bool b7) (.slice N n7 c7) aC (by have:=B;omega))
 have aE:Sf 3 w4 _:=(stS2 (E:=3) (.bool b7) (.slice N n7 c7) j (by decide));exact retI_mk L aE aD
theorem rgcd_any:∀(k:Nat) (x y:Int) (m:Nat) (u v:Value) (w:World),y.natAbs≤k→IN w u x→IN w v y→m≤100000000→Ft m x→Ft m y→Calls Tryz.prog 116 #[u,v] w (RetI w (Int.gcd x y:Int))
 | 0,x,y,m,u,v,w,hk,hx,hy,hm,fx,fy=>gcd_z x y m u v w hx hy hm fx fy (by omega)
 | k+1,x,y,m,u,v,w,hk,hx,hy,hm,fx,fy=>by
  by_cases hz:y=0
  ·exact gcd_z x y m u v w hx hy hm fx fy hz
  ·have f:0≤(x.natAbs:Int) % (y.natAbs:Int):=Int.emod_nonneg _ (by omega);have g:(x.natAbs:Int) % (y.natAbs:Int)<(y.natAbs:Int):=Int.emod_lt_of_pos _ (by omega);refine gcd_s x y m u v w hx hy hm fx fy hz (fun c d e a b=>rgcd_any k _ _ m c d e (by omega) a b hm fy.abs (fy.le (by omega)))
end
section
open Go.RowKit
def NN (w:World) (v:Value) (a:Qn):Prop:=∃ f b g c1 h c i c2 j e k c3,v=.agg #[.bool f,.slice b g c1,.bool h,.slice c i c2,.bool j,.slice e k c3,.int .i64 a.d] ∧
 IN w (.agg #[.bool f,.slice b g c1]) a.p∧IN w (.agg #[.bool h,.slice c i c2]) a.q∧IN w (.agg #[.bool j,.slice e k c3]) a.r
def RetNN (w:World) (a:Qn) (e:Ending) (b:World):Prop:=∃ v,e=.returned v∧NN b v a∧Kp w b
theorem NN.soft {w W:World} {v:Value} {a:Qn} (b:Sf 3 w W) (h:NN w v a):NN W v a:=by
 obtain⟨g,c,i,c1,j,d,k,c2,l,f,m,c3,e,n,o,p⟩:=h;exact⟨g,c,i,c1,j,d,k,c2,l,f,m,c3,e,n.soft b,o.soft b,p.soft b⟩
theorem NN.keep {w W:World} {v:Value} {a:Qn} (b:Kp w W) (h:NN w v a):NN W v a:=h.soft (Sf.keep b)
theorem nn_zero (w:World):NN w (.agg #[.bool false,.slice none 0 0,.bool false,.slice none 0 0,.bool false,.slice none 0 0,.int .i64 0]) qzero :=
 ⟨false,none,0,0,false,none,0,0,false,none,0,0,rfl,in_zero w,in_zero w,in_zero w⟩
theorem root_ref (a b:Qn) (u v:Value) (w:World) (ha:NN w u a) (c:NN w v b):Calls Tryz.prog 100 #[u,v] w (RetV w (.int .i64 (if 1<a.d then a.d else b.d))):=by
 obtain⟨r,e,s,c1,t,f,x,c2,y,g,z,c3,rfl,i,j,k⟩:=ha;obtain⟨A,l,B,c4,C,m,D,c5,E,n,F,G,rfl,o,p,q⟩:=c;clear i j k o p q;by_cases h:1<a.d
 ·rw[if_pos h]
  go_enter Tryz.func100,Tryz.ntmps100
  go_wp2_with fail
  go_ret
  exact⟨rfl,(kp_alloc _ _).alloc' _⟩
 ·rw[if_neg h]
  go_enter Tryz.func100,Tryz.ntmps100
  go_wp2_with fail
  go_ret
  exact⟨rfl,(kp_alloc _ _).alloc' _⟩
theorem zero_ref (a:Qn) (u:Value) (w:World) (ha:NN w u a):Calls Tryz.prog 75 #[u] w (RetV w (.bool (decide (a.p=0∧a.q=0)))):=by
 obtain⟨t,k,d,c1,v,l,e,c2,x,m,y,c3,rfl,f,g,n⟩:=ha;have b:=f.len;have c:=g.len;clear f g n;by_cases hp:a.p=0
 ·have i:=b.1.mpr hp;subst i;by_cases hq:a.q=0
  ·have j:=c.1.mpr hq;subst j;rw[decide_eq_true ⟨hp,hq⟩];clear b c
   go_enter Tryz.func75,Tryz.ntmps75
   go_wp2_with fail
   go_ret
   exact⟨rfl,kp_alloc _ _⟩
  ·have j:¬ e=0:=fun h=>hq (c.1.mp h);have o:((e:Int) == 0)=false:=by simp;omega
   have r:=c.2;rw[decide_eq_false (by simp[hq])];clear b c
   go_enter Tryz.func75,Tryz.ntmps75
   go_wp2_with fail
   go_ret
   exact⟨rfl,kp_alloc _ _⟩
 ·have i:¬ d=0:=fun h=>hp (b.1.mp h);have o:((d:Int) == 0)=false:=by simp;omega
  have s:=b.2;rw[decide_eq_false (by simp[hp])];clear b c
  go_enter Tryz.func75,Tryz.ntmps75
  go_wp2_with fail
  go_ret
  exact⟨rfl,kp_alloc _ _⟩
theorem sqf_one (n:Nat):sqf n 1=1:=by unfold sqf;split <;> simp[sqf]
theorem square_ref (n:Nat) (w:World) (u:n<1000000):Calls Tryz.prog 97 #[.int .i64 (n:Int)] w (RetV w (.int .i64 (sqf n 1000))):=by
 go_enter Tryz.func97,Tryz.ntmps97
 go_wp2_with fail
 go_loopw [3] (fun f wr=>∃ k:Nat,1≤k∧k≤1000∧f=.int .i64 k∧Kp w wr∧Hid (sqf n 1000=sqf n k))
  (fun f _=>(intOf f).toNat)
 case atStart=>exact⟨1000,by decide,by decide,rfl,Below.refl _ _,rfl⟩
 case round =>
  obtain⟨k,o,d,rfl,b,g⟩:=hrel;by_cases v:1<k
  ·have l:k*k≤1000000:=Nat.mul_le_mul d d;have m:0<k*k:=Nat.mul_pos (by omega) (by omega);have p:0<(k:Int)*(k:Int):=by rw[← Int.natCast_mul];omega
   have q:(k:Int)*(k:Int)≤1000000:=by rw[← Int.natCast_mul];omega
   have r:(k:Int)*(k:Int)≠0:=by omega
   have a:sqf n k=if n % (k*k)=0 then k else sqf n (k - 1):=by
    obtain⟨j,rfl⟩:∃ j,k=j+1:=⟨k - 1,by omega⟩
    rfl
   have s:(1:Int)<(k:Int):=by omega
   by_cases c:n % (k*k)=0
   ·have e:Hid (sqf n 1000=k):=by unfold Hid;rw[g.out,a,if_pos c]
    have t:((n:Int) % ((k:Int)*(k:Int)) == 0)=true:=by rw[← Int.natCast_mul,← Int.natCast_emod,c];rfl
    clear a c
    go_wp2_with fail
    go_ret
    exact⟨by rw[e.out];rfl,b⟩
   ·have e:Hid (sqf n 1000=sqf n (k - 1)):=by unfold Hid;rw[g.out,a,if_neg c]
    have t:((n:Int) % ((k:Int)*(k:Int)) == 0)=false:=beq_eq_false_iff_ne.2 (fun h=>c (by exact_mod_cast h));clear a c
    go_wp2_with fail
    go_roundw
    case rel=>exact⟨k - 1,by omega,by omega,by rw[show ((k - 1:Nat):Int)=(k:Int) - 1 by omega],b,e⟩
    case measure=>simp[intOf];omega
  ·have i:k=1:=by omega
   subst i;have e:Hid (sqf n 1000=1):=by unfold Hid;rw[g.out,sqf_one]
   go_wp2_with fail
   go_ret
   exact⟨by rw[e.out];rfl,b⟩
end
end Go.Proofs.YtjahbjjekednfaaGreatDoor
