import Derived.Test.YtjahbjjekednfaaGreatDoorSoft
import Derived.Test.YtjahbjjekednfaaGreatDoorC1u
import Derived.Test.YtjahbjjekednfaaGreatDoorH1
import Derived.Test.YtjahbjjekednfaaGreatDoorW7
import Derived.Test.YtjahbjjekednfaaGreatDoorX1
import Derived.Test.YtjahbjjekednfaaGreatDoorSt
namespace Go.Proofs.YtjahbjjekednfaaGreatDoor
set_option maxHeartbeats 3200000
set_option maxRecDepth 100000
section
open Go.RowKit
theorem Fit.neg {x:Int} (h:Fit x):Fit (-x):=by
 obtain⟨n,a,b⟩:=h;exact⟨n,a,by rw[Int.natAbs_neg];exact b⟩
def fl (x y:Int):Int:=if 0<y then x / y else (-x) / (-y)
theorem ediv_uni {a b q:Int} (c:0<b) (d:q*b≤a) (e:a<(q+1)*b):a / b=q:=by
 have f:=(Int.le_ediv_iff_mul_le c).2 d;have g:=(Int.ediv_lt_iff_lt_mul c).2 e;omega
theorem fl_uni {x y t:Int} (h:(0<y∧t*y≤x∧x<t*y+y)∨(y<0∧x≤t*y∧t*y+y<x)):fl x y=t:=by
 unfold fl;rcases h with ⟨a,b,c⟩|⟨a,b,c⟩
 ·rw[if_pos a];exact ediv_uni a b (by rw[Int.add_mul,Int.one_mul];exact c)
 ·rw[if_neg (by omega)];refine ediv_uni (by omega) ?_ ?_
  ·rw[Int.mul_neg];omega
  ·rw[Int.mul_neg,Int.add_mul,Int.one_mul];omega
theorem fl_div {x y:Int} (b:y≠0):fl x y=if x.tmod y≠0∧(x.tmod y<0↔¬ y<0) then x.tdiv y - 1 else x.tdiv y:=by
 have e:=Int.tmod_add_mul_tdiv x y;have l:(x.tmod y).natAbs<y.natAbs:=by rw[Int.natAbs_tmod];exact Nat.mod_lt _ (by omega)
 rw[Int.mul_comm] at e
 split
 ·rename_i h
  refine fl_uni ?_;rw[Int.sub_mul,Int.one_mul];by_cases a:0<y
  ·exact Or.inl ⟨a,by omega,by omega⟩
  ·exact Or.inr ⟨by omega,by omega,by omega⟩
 ·rename_i h
  refine fl_uni ?_;by_cases a:0<y
  ·exact Or.inl ⟨a,by omega,by omega⟩
  ·exact Or.inr ⟨by omega,by omega,by omega⟩
theorem wsub_any (x y:Int) (u v:Value) (w:World) (C:WN w u x) (T:WN w v y) (Z:Fit x) (U:Fit y) :
  Calls Tryz.prog 40 #[u,v] w (RetW w (x - y)):=by
 obtain⟨J,j,K,c1,rfl⟩:=C.shape';obtain⟨V,p,W,c2,rfl⟩:=T.shape'
 go_enter Tryz.func40,Tryz.ntmps40
 go_wp2_with fail
 have q:Kp w _:=(Kp.alloc' (Kp.alloc' (Kp.alloc' (Below.refl w.heap.size w) (.cells #[.bool J,.slice j K c1] 38)) (.cells #[.bool V,.slice p W c2] 38)) (.cells #[.bool false,.slice none 0 0] 38));have r:Sf 2 w _:=(Sf.alloc (Sf.alloc (Sf.alloc (Sf.refl 2 w) (.cells #[.bool J,.slice j K c1] 38)) (.cells #[.bool V,.slice p W c2] 38)) (.cells #[.bool false,.slice none 0 0] 38));refine(negate_any y _ _ (T.soft r) U).mono ?_;rintro e D ⟨v1,rfl,s,c⟩;obtain⟨X,t,Y,c3,rfl⟩:=s.shape';have L:=q.trans' c;have M:=r.trans (Sf.keep c);have i:Blk D (w.heap.size) #[.bool J,.slice j K c1] 38:=Blk.keep c (Blk.at (Blk.alloc (Blk.alloc (Blk.new _ _ _) _) _) (by simp));have a:Blk D (w.heap.size+1+1) #[.bool false,.slice none 0 0] 38:=Blk.keep c (Blk.at (Blk.new _ _ _) (by simp));obtain⟨k,l,N⟩:=i.all;obtain⟨d,f,F⟩:=a.all;have G:w.heap.size≤w.heap.size+1+1:=by (first | omega | (have:=q.size;simp only[sz] at this;omega))
 replace C:=C.soft M
 go_wp2_with fail
 have z:Kp w _:=(Kp.alloc' L (.cells #[.bool X,.slice t Y c3] 38));have m:Sf 2 D _:=(Sf.alloc (Sf.refl 2 D) (.cells #[.bool X,.slice t Y c3] 38));refine(add_any x (-y) _ _ _ (C.soft m) (s.soft m) Z U.neg).mono ?_;rintro e w2 ⟨v2,rfl,B,n⟩;obtain⟨O,o,P,c4,rfl⟩:=B.shape';have Q:=z.trans' n;have aa:=m.trans (Sf.keep n);have b:=Blk.keep n (Blk.alloc a _);obtain⟨g,H,I⟩:=b.all;have h:w.heap.size≤w.heap.size+1+1:=by (first | omega | (have:=z.size;simp only[sz] at this;omega))
 clear i k l a d f
 go_wp2_with fail
 refine bodyPost_ret (v:=.agg #[.bool O,.slice o P c4]) (by simp[results,Tryz.results40,go_sem,g]) rfl ?_;have R:Kp w _:=(stK2 (A:=w.heap.size+1+1) (.bool O) (.slice o P c4) Q (by have:=h;omega))
 have S:Sf 2 w2 _:=(stS2 (E:=2) (.bool O) (.slice o P c4) b (by decide));rw[Int.sub_eq_add_neg];exact retW_mk B S R
theorem floor_none (x y:Int) (m:Nat) (u v:Value) (w:World) (Z:WN w u x) (F:WN w v y) (hm:m≤300000000) (fx:Ft m x) (fy:Ft m y) (h0:y≠0) (h:x.tmod y=0) :
  Calls Tryz.prog 69 #[u,v] w (RetW w (x.tdiv y)):=by
 obtain⟨b1,s,n1,c1,rfl⟩:=Z.shape';obtain⟨G,i,t,c2,rfl⟩:=F.shape';have z:=Hid.mk F.rp.1;have ae:0<t:=by
  have:=(F.rp.2.zero_len (by decide)).1;omega
 go_enter Tryz.func69,Tryz.ntmps69
 go_wp2_with fail
 have n:Kp w _:=(Kp.alloc' (Kp.alloc' (Kp.alloc' (Below.refl w.heap.size w) (.cells #[.bool b1,.slice s n1 c1] 38)) (.cells #[.bool G,.slice i t c2] 38)) (.cells #[.bool false,.slice none 0 0] 38));have p:Sf 2 w _:=(Sf.alloc (Sf.alloc (Sf.alloc (Sf.refl 2 w) (.cells #[.bool b1,.slice s n1 c1] 38)) (.cells #[.bool G,.slice i t c2] 38)) (.cells #[.bool false,.slice none 0 0] 38));refine(divide_any x y m _ _ _ (Z.soft p) (F.soft p) (by omega) fx fy).mono ?_;rintro e g ⟨v1,v2,rfl,B,q,j⟩;obtain⟨d,a,f,c3,rfl⟩:=B.shape';obtain⟨r,c,n4,c4,rfl⟩:=q.shape';have K:=q.rp.1;have L:=z.out;clear z;have M:=(q.rp.2.zero_len (by decide)).1;have N:=n.trans' j;have af:=p.trans (Sf.keep j);have l:Blk g (w.heap.size+1) #[.bool G,.slice i t c2] 38:=Blk.keep j (Blk.at (Blk.alloc (Blk.new _ _ _) _) (by simp));have b:Blk g (w.heap.size+1+1) #[.bool false,.slice none 0 0] 38:=Blk.keep j (Blk.at (Blk.new _ _ _) (by simp));obtain⟨O,P,Q⟩:=l.all;have R:w.heap.size≤w.heap.size+1:=by (first | omega | (have:=n.size;simp only[sz] at this;omega))
 obtain⟨H,I,J⟩:=b.all;have k:w.heap.size≤w.heap.size+1+1:=by (first | omega | (have:=n.size;simp only[sz] at this;omega))
 have ag:¬ (w.heap.size=g.heap.size):=by omega
 have ah:¬ (w.heap.size+1=g.heap.size):=by omega
 obtain rfl:n4=0:=by omega
 clear K M L;have S:Blk ((g.alloc (.cells #[.bool d,.slice a f c3] 38)).alloc (.cells #[.bool r,.slice c 0 c4] 38)) (w.heap.size+1) #[.bool G,.slice i t c2] 38:=Blk.alloc (Blk.alloc l _) _;obtain⟨aa,ac,ad⟩:=S.all;have C:Blk ((g.alloc (.cells #[.bool d,.slice a f c3] 38)).alloc (.cells #[.bool r,.slice c 0 c4] 38)) (w.heap.size+1+1) #[.bool false,.slice none 0 0] 38:=Blk.alloc (Blk.alloc b _) _;obtain⟨T,U,V⟩:=C.all;have D:Blk ((g.alloc (.cells #[.bool d,.slice a f c3] 38)).alloc (.cells #[.bool r,.slice c 0 c4] 38)) (g.heap.size+1) #[.bool r,.slice c 0 c4] 38:=Blk.at (Blk.new (g.alloc (.cells #[.bool d,.slice a f c3] 38)) _ _) (by simp);have W:=D.cell
 go_wp2_with fail
 have TR:=Blk.alloc (Blk.alloc (Blk.set (o:=1) (y:=.slice a f c3) (Blk.set (o:=0) (y:=.bool d) b)) (.cells #[.bool d,.slice a f c3] 38)) (.cells #[.bool r,.slice c 0 c4] 38);refine bodyPost_ret (v:=.agg #[.bool d,.slice a f c3]) (by simp[results,Tryz.results69,go_sem,TR.cell]) rfl ?_;have X:Kp w _:=(Kp.alloc' (Kp.alloc' (stK2 (A:=w.heap.size+1+1) (.bool d) (.slice a f c3) N (by have:=k;omega)) (.cells #[.bool d,.slice a f c3] 38)) (.cells #[.bool r,.slice c 0 c4] 38))
 have Y:Sf 2 g _:=(Sf.alloc (Sf.alloc (stS2 (E:=2) (.bool d) (.slice a f c3) b (by decide)) (.cells #[.bool d,.slice a f c3] 38)) (.cells #[.bool r,.slice c 0 c4] 38));exact retW_mk B Y X
theorem floor_same (x y:Int) (m:Nat) (u v:Value) (w:World) (hx:WN w u x) (J:WN w v y) (hm:m≤300000000) (fx:Ft m x) (fy:Ft m y) (h0:y≠0) (h:x.tmod y≠0) (k:(x.tmod y<0↔y<0)) :
  Calls Tryz.prog 69 #[u,v] w (RetW w (x.tdiv y)):=by
 obtain⟨b1,z,n1,c1,rfl⟩:=hx.shape';obtain⟨K,i,B,c2,rfl⟩:=J.shape';have C:=Hid.mk J.rp.1;have af:0<B:=by
  have:=(J.rp.2.zero_len (by decide)).1;omega
 go_enter Tryz.func69,Tryz.ntmps69
 go_wp2_with fail
 have r:Kp w _:=(Kp.alloc' (Kp.alloc' (Kp.alloc' (Below.refl w.heap.size w) (.cells #[.bool b1,.slice z n1 c1] 38)) (.cells #[.bool K,.slice i B c2] 38)) (.cells #[.bool false,.slice none 0 0] 38));have s:Sf 2 w _:=(Sf.alloc (Sf.alloc (Sf.alloc (Sf.refl 2 w) (.cells #[.bool b1,.slice z n1 c1] 38)) (.cells #[.bool K,.slice i B c2] 38)) (.cells #[.bool false,.slice none 0 0] 38));refine(divide_any x y m _ _ _ (hx.soft s) (J.soft s) (by omega) fx fy).mono ?_;rintro e g ⟨v1,v2,rfl,D,t,j⟩;obtain⟨d,a,f,c3,rfl⟩:=D.shape';obtain⟨l,c,p,c4,rfl⟩:=t.shape';have F:=t.rp.1;have G:=C.out;clear C;have O:=(t.rp.2.zero_len (by decide)).1;have P:=r.trans' j;have ag:=s.trans (Sf.keep j);have q:Blk g (w.heap.size+1) #[.bool K,.slice i B c2] 38:=Blk.keep j (Blk.at (Blk.alloc (Blk.new _ _ _) _) (by simp));have b:Blk g (w.heap.size+1+1) #[.bool false,.slice none 0 0] 38:=Blk.keep j (Blk.at (Blk.new _ _ _) (by simp));obtain⟨Q,R,S⟩:=q.all;have T:w.heap.size≤w.heap.size+1:=by (first | omega | (have:=r.size;simp only[sz] at this;omega))
 obtain⟨L,M,N⟩:=b.all;have n:w.heap.size≤w.heap.size+1+1:=by (first | omega | (have:=r.size;simp only[sz] at this;omega))
 have ah:¬ (w.heap.size=g.heap.size):=by omega
 have ai:¬ (w.heap.size+1=g.heap.size):=by omega
 have aj:0<p:=by omega
 obtain rfl:l=K:=by rw[F,G];simp only[k]
 clear F O G;have U:Blk ((g.alloc (.cells #[.bool d,.slice a f c3] 38)).alloc (.cells #[.bool l,.slice c p c4] 38)) (w.heap.size+1) #[.bool l,.slice i B c2] 38:=Blk.alloc (Blk.alloc q _) _;obtain⟨ac,ad,ae⟩:=U.all;have H:Blk ((g.alloc (.cells #[.bool d,.slice a f c3] 38)).alloc (.cells #[.bool l,.slice c p c4] 38)) (w.heap.size+1+1) #[.bool false,.slice none 0 0] 38:=Blk.alloc (Blk.alloc b _) _;obtain⟨V,W,X⟩:=H.all;have I:Blk ((g.alloc (.cells #[.bool d,.slice a f c3] 38)).alloc (.cells #[.bool l,.slice c p c4] 38)) (g.heap.size+1) #[.bool l,.slice c p c4] 38:=Blk.at (Blk.new (g.alloc (.cells #[.bool d,.slice a f c3] 38)) _ _) (by simp);have Y:=I.cell
 go_wp2_with fail
 have TR:=Blk.alloc (Blk.alloc (Blk.set (o:=1) (y:=.slice a f c3) (Blk.set (o:=0) (y:=.bool d) b)) (.cells #[.bool d,.slice a f c3] 38)) (.cells #[.bool l,.slice c p c4] 38);refine bodyPost_ret (v:=.agg #[.bool d,.slice a f c3]) (by simp[results,Tryz.results69,go_sem,TR.cell]) rfl ?_;have Z:Kp w _:=(Kp.alloc' (Kp.alloc' (stK2 (A:=w.heap.size+1+1) (.bool d) (.slice a f c3) P (by have:=n;omega)) (.cells #[.bool d,.slice a f c3] 38)) (.cells #[.bool l,.slice c p c4] 38))
 have aa:Sf 2 g _:=(Sf.alloc (Sf.alloc (stS2 (E:=2) (.bool d) (.slice a f c3) b (by decide)) (.cells #[.bool d,.slice a f c3] 38)) (.cells #[.bool l,.slice c p c4] 38));exact retW_mk D aa Z
theorem floor_lowp (x y:Int) (m:Nat) (u v:Value) (w:World) (hx:WN w u x) (hy:WN w v y) (hm:m≤300000000) (fx:Ft m x) (fy:Ft m y) (h:x.tmod y<0) (k:0<y) :
  Calls Tryz.prog 69 #[u,v] w (RetW w (x.tdiv y - 1)):=by
 obtain⟨b1,V,n1,c1,rfl⟩:=hx.shape';obtain⟨b2,q,W,c2,rfl⟩:=hy.shape';have X:=Hid.mk hy.rp.1;have aL:0<W:=by
  have:=(hy.rp.2.zero_len (by decide)).1;omega
 go_enter Tryz.func69,Tryz.ntmps69
 go_wp2_with fail
 have M:Kp w _:=(Kp.alloc' (Kp.alloc' (Kp.alloc' (Below.refl w.heap.size w) (.cells #[.bool b1,.slice V n1 c1] 38)) (.cells #[.bool b2,.slice q W c2] 38)) (.cells #[.bool false,.slice none 0 0] 38));have N:Sf 2 w _:=(Sf.alloc (Sf.alloc (Sf.alloc (Sf.refl 2 w) (.cells #[.bool b1,.slice V n1 c1] 38)) (.cells #[.bool b2,.slice q W c2] 38)) (.cells #[.bool false,.slice none 0 0] 38));refine(divide_any x y m _ _ _ (hx.soft N) (hy.soft N) (by omega) fx fy).mono ?_;rintro e d ⟨v1,v2,rfl,r,O,s⟩;obtain⟨P,f,Q,c3,rfl⟩:=r.shape';obtain⟨b4,j,R,c4,rfl⟩:=O.shape';have Y:=O.rp.1;have Z:=X.out;clear X;have ar:=(O.rp.2.zero_len (by decide)).1;have au:=M.trans' s;have aM:=N.trans (Sf.keep s);have l:Blk d (w.heap.size+1) #[.bool b2,.slice q W c2] 38:=Blk.keep s (Blk.at (Blk.alloc (Blk.new _ _ _) _) (by simp));have b:Blk d (w.heap.size+1+1) #[.bool false,.slice none 0 0] 38:=Blk.keep s (Blk.at (Blk.new _ _ _) (by simp));obtain⟨S,T,av⟩:=l.all;have aw:w.heap.size≤w.heap.size+1:=by (first | omega | (have:=M.size;simp only[sz] at this;omega))
 obtain⟨z,B,ag⟩:=b.all;have ah:w.heap.size≤w.heap.size+1+1:=by (first | omega | (have:=M.size;simp only[sz] at this;omega))
 have aN:¬ (w.heap.size=d.heap.size):=by omega
 have aO:¬ (w.heap.size+1=d.heap.size):=by omega
 have aP:0<R:=by omega
 obtain rfl:b4=true:=by rw[Y];simpa using h
 obtain rfl:b2=false:=by rw[Z];simp;omega
 clear Y ar Z;have ax:Blk ((d.alloc (.cells #[.bool P,.slice f Q c3] 38)).alloc (.cells #[.bool true,.slice j R c4] 38)) (w.heap.size+1) #[.bool false,.slice q W c2] 38:=Blk.alloc (Blk.alloc l _) _;obtain⟨aI,aJ,aK⟩:=ax.all;have aa:Blk ((d.alloc (.cells #[.bool P,.slice f Q c3] 38)).alloc (.cells #[.bool true,.slice j R c4] 38)) (w.heap.size+1+1) #[.bool false,.slice none 0 0] 38:=Blk.alloc (Blk.alloc b _) _;obtain⟨ay,az,aA⟩:=aa.all;have ac:Blk ((d.alloc (.cells #[.bool P,.slice f Q c3] 38)).alloc (.cells #[.bool true,.slice j R c4] 38)) (d.heap.size+1) #[.bool true,.slice j R c4] 38:=Blk.at (Blk.new (d.alloc (.cells #[.bool P,.slice f Q c3] 38)) _ _) (by simp);have aB:=ac.cell
 go_wp2_with fail
 have U:Kp w _:=(Kp.alloc' (Kp.alloc' au (.cells #[.bool P,.slice f Q c3] 38)) (.cells #[.bool true,.slice j R c4] 38));have aC:Sf 2 d _:=(Sf.alloc (Sf.alloc (Sf.refl 2 d) (.cells #[.bool P,.slice f Q c3] 38)) (.cells #[.bool true,.slice j R c4] 38));refine(fromInt_any 1 _ (by decide) (by decide)).mono ?_;rintro e w2 ⟨v3,rfl,ad,C⟩;obtain⟨b5,ae,n5,c5,rfl⟩:=ad.shape';have aD:=U.trans' C;have aE:=aC.trans (Sf.keep C);have g:=Blk.keep C (Blk.alloc (Blk.alloc b _) _);have i:Blk w2 (d.heap.size) #[.bool P,.slice f Q c3] 38:=Blk.keep C (Blk.at (Blk.alloc (Blk.new _ _ _) _) (by simp));obtain⟨D,F,ai⟩:=g.all;have aj:w.heap.size≤w.heap.size+1+1:=by (first | omega | (have:=U.size;simp only[sz] at this;omega))
 obtain⟨G,H,ak⟩:=i.all;have al:w.heap.size≤d.heap.size:=by (first | omega | (have:=U.size;simp only[sz] at this;omega))
 replace r:=r.soft aE;clear l S T b z B
 go_wp2_with fail
 have kp2:Kp w _:=(Kp.alloc' aD (.cells #[.bool b5,.slice ae n5 c5] 38));have sf2:Sf 2 w2 _:=(Sf.alloc (Sf.refl 2 w2) (.cells #[.bool b5,.slice ae n5 c5] 38));have fq:Ft m (x.tdiv y):=by refine fx.le ?_;rw[Int.natAbs_tdiv];exact Nat.div_le_self _ _
 have f1:Ft 1 1:=by unfold Ft;decide
 refine(wsub_any (x.tdiv y) 1 _ _ _ (r.soft sf2) (ad.soft sf2) (fq.fit (by omega)) (f1.fit (by decide))).mono ?_;rintro e w3 ⟨v4,rfl,af,I⟩;obtain⟨b6,n,n6,c6,rfl⟩:=af.shape';have aF:=kp2.trans' I;have aQ:=sf2.trans (Sf.keep I);have a:=Blk.keep I (Blk.alloc g _);have p:=Blk.keep I (Blk.alloc i _);obtain⟨J,am,an⟩:=a.all;have K:w.heap.size≤w.heap.size+1+1:=by (first | omega | (have:=kp2.size;simp only[sz] at this;omega))
 obtain⟨ao,ap,aq⟩:=p.all;have L:w.heap.size≤d.heap.size:=by (first | omega | (have:=kp2.size;simp only[sz] at this;omega))
 clear g D F i G H
 go_wp2_with fail
 refine bodyPost_ret (v:=.agg #[.bool b6,.slice n n6 c6]) (by simp[results,Tryz.results69,go_sem,J]) rfl ?_;have aG:Kp w _:=(stK2 (A:=w.heap.size+1+1) (.bool b6) (.slice n n6 c6) (stK2 (A:=d.heap.size) (.bool b6) (.slice n n6 c6) aF (by have:=L;omega)) (by have:=K;omega))
 have aH:Sf 2 w3 _:=(Sf.set (t:=38) (c:=w.heap.size+1+1) (o:=1) (y:=.slice n n6 c6) (Sf.set (t:=38) (c:=w.heap.size+1+1) (o:=0) (y:=.bool b6) (stS2 (E:=2) (.bool b6) (.slice n n6 c6) p (by decide)) (by first | (simp only[elemOf_setCell];exact a.elem) | exact a.elem) (by decide)) (by first | (simp only[elemOf_setCell];exact a.elem) | exact a.elem) (by decide))
 exact retW_mk af aH aG
theorem floor_lowm (x y:Int) (m:Nat) (u v:Value) (w:World) (hx:WN w u x) (hy:WN w v y) (hm:m≤300000000) (fx:Ft m x) (fy:Ft m y) (h:0<x.tmod y) (k:y<0) :
  Calls Tryz.prog 69 #[u,v] w (RetW w (x.tdiv y - 1)):=by
 obtain⟨b1,T,n1,c1,rfl⟩:=hx.shape';obtain⟨b2,q,U,c2,rfl⟩:=hy.shape';have V:=Hid.mk hy.rp.1;have aH:0<U:=by
  have:=(hy.rp.2.zero_len (by decide)).1;omega
 go_enter Tryz.func69,Tryz.ntmps69
 go_wp2_with fail
 have am:Kp w _:=(Kp.alloc' (Kp.alloc' (Kp.alloc' (Below.refl w.heap.size w) (.cells #[.bool b1,.slice T n1 c1] 38)) (.cells #[.bool b2,.slice q U c2] 38)) (.cells #[.bool false,.slice none 0 0] 38));have M:Sf 2 w _:=(Sf.alloc (Sf.alloc (Sf.alloc (Sf.refl 2 w) (.cells #[.bool b1,.slice T n1 c1] 38)) (.cells #[.bool b2,.slice q U c2] 38)) (.cells #[.bool false,.slice none 0 0] 38));refine(divide_any x y m _ _ _ (hx.soft M) (hy.soft M) (by omega) fx fy).mono ?_;rintro e i ⟨v1,v2,rfl,r,N,s⟩;obtain⟨O,d,P,c3,rfl⟩:=r.shape';obtain⟨b4,j,Q,c4,rfl⟩:=N.shape';have W:=N.rp.1;have X:=V.out;clear V;have an:=(N.rp.2.zero_len (by decide)).1;have ao:=am.trans' s;have aI:=M.trans (Sf.keep s);have l:Blk i (w.heap.size+1) #[.bool b2,.slice q U c2] 38:=Blk.keep s (Blk.at (Blk.alloc (Blk.new _ _ _) _) (by simp));have b:Blk i (w.heap.size+1+1) #[.bool false,.slice none 0 0] 38:=Blk.keep s (Blk.at (Blk.new _ _ _) (by simp));obtain⟨R,S,ap⟩:=l.all;obtain⟨z,B,ae⟩:=b.all;have aJ:¬ (w.heap.size=i.heap.size):=by omega
 have aK:¬ (w.heap.size+1=i.heap.size):=by omega
 have aL:0<Q:=by omega
 obtain rfl:b4=false:=by rw[W];simp;omega
 obtain rfl:b2=true:=by rw[X];simpa using k
 clear W an X;have aq:Blk ((i.alloc (.cells #[.bool O,.slice d P c3] 38)).alloc (.cells #[.bool false,.slice j Q c4] 38)) (w.heap.size+1) #[.bool true,.slice q U c2] 38:=Blk.alloc (Blk.alloc l _) _;obtain⟨aE,aF,aG⟩:=aq.all;have Y:Blk ((i.alloc (.cells #[.bool O,.slice d P c3] 38)).alloc (.cells #[.bool false,.slice j Q c4] 38)) (w.heap.size+1+1) #[.bool false,.slice none 0 0] 38:=Blk.alloc (Blk.alloc b _) _;obtain⟨ar,au,av⟩:=Y.all;have Z:Blk ((i.alloc (.cells #[.bool O,.slice d P c3] 38)).alloc (.cells #[.bool false,.slice j Q c4] 38)) (i.heap.size+1) #[.bool false,.slice j Q c4] 38:=Blk.at (Blk.new (i.alloc (.cells #[.bool O,.slice d P c3] 38)) _ _) (by simp);have aw:=Z.cell
 go_wp2_with fail
 have ax:Kp w _:=(Kp.alloc' (Kp.alloc' ao (.cells #[.bool O,.slice d P c3] 38)) (.cells #[.bool false,.slice j Q c4] 38));have ay:Sf 2 i _:=(Sf.alloc (Sf.alloc (Sf.refl 2 i) (.cells #[.bool O,.slice d P c3] 38)) (.cells #[.bool false,.slice j Q c4] 38));refine(fromInt_any 1 _ (by decide) (by decide)).mono ?_;rintro e w2 ⟨v3,rfl,aa,C⟩;obtain⟨b5,ac,n5,c5,rfl⟩:=aa.shape';have az:=ax.trans' C;have aA:=ay.trans (Sf.keep C);have f:=Blk.keep C (Blk.alloc (Blk.alloc b _) _);have g:Blk w2 (i.heap.size) #[.bool O,.slice d P c3] 38:=Blk.keep C (Blk.at (Blk.alloc (Blk.new _ _ _) _) (by simp));obtain⟨D,F,af⟩:=f.all;obtain⟨G,H,ag⟩:=g.all;replace r:=r.soft aA;clear l R S b z B
 go_wp2_with fail
 have kp2:Kp w _:=(Kp.alloc' az (.cells #[.bool b5,.slice ac n5 c5] 38));have sf2:Sf 2 w2 _:=(Sf.alloc (Sf.refl 2 w2) (.cells #[.bool b5,.slice ac n5 c5] 38));have fq:Ft m (x.tdiv y):=by refine fx.le ?_;rw[Int.natAbs_tdiv];exact Nat.div_le_self _ _
 have f1:Ft 1 1:=by unfold Ft;decide
 refine(wsub_any (x.tdiv y) 1 _ _ _ (r.soft sf2) (aa.soft sf2) (fq.fit (by omega)) (f1.fit (by decide))).mono ?_;rintro e w3 ⟨v4,rfl,ad,I⟩;obtain⟨b6,n,n6,c6,rfl⟩:=ad.shape';have aB:=kp2.trans' I;have aM:=sf2.trans (Sf.keep I);have a:=Blk.keep I (Blk.alloc f _);have p:=Blk.keep I (Blk.alloc g _);obtain⟨J,ah,ai⟩:=a.all;have K:w.heap.size≤w.heap.size+1+1:=by (first | omega | (have:=kp2.size;simp only[sz] at this;omega))
 obtain⟨aj,ak,al⟩:=p.all;have L:w.heap.size≤i.heap.size:=by (first | omega | (have:=kp2.size;simp only[sz] at this;omega))
 clear f D F g G H
 go_wp2_with fail
 refine bodyPost_ret (v:=.agg #[.bool b6,.slice n n6 c6]) (by simp[results,Tryz.results69,go_sem,J]) rfl ?_;have aC:Kp w _:=(stK2 (A:=w.heap.size+1+1) (.bool b6) (.slice n n6 c6) (stK2 (A:=i.heap.size) (.bool b6) (.slice n n6 c6) aB (by have:=L;omega)) (by have:=K;omega))
 have aD:Sf 2 w3 _:=(Sf.set (t:=38) (c:=w.heap.size+1+1) (o:=1) (y:=.slice n n6 c6) (Sf.set (t:=38) (c:=w.heap.size+1+1) (o:=0) (y:=.bool b6) (stS2 (E:=2) (.bool b6) (.slice n n6 c6) p (by decide)) (by first | (simp only[elemOf_setCell];exact a.elem) | exact a.elem) (by decide)) (by first | (simp only[elemOf_setCell];exact a.elem) | exact a.elem) (by decide))
 exact retW_mk ad aD aC
theorem floor_any (x y:Int) (m:Nat) (u v:Value) (w:World) (a:WN w u x) (b:WN w v y) (c:m≤300000000) (d:Ft m x) (e:Ft m y) (f:y≠0) :
  Calls Tryz.prog 69 #[u,v] w (RetW w (fl x y)):=by
 rw[fl_div f];by_cases h:x.tmod y=0
 ·rw[if_neg (by omega)];exact floor_none x y m u v w a b c d e f h
 ·by_cases k:x.tmod y<0↔¬ y<0
  ·rw[if_pos ⟨h,k⟩];by_cases g:0<y
   ·exact floor_lowp x y m u v w a b c d e (by omega) g
   ·exact floor_lowm x y m u v w a b c d e (by omega) (by omega)
  ·rw[if_neg (fun i=>k i.2)];exact floor_same x y m u v w a b c d e f h (by omega)
end
section
open Go.RowKit
theorem isq_uni {n k:Nat} (a:k*k≤n) (b:n<(k+1)*(k+1)):isq n=k:=by
 obtain⟨c,d⟩:=isq_ok n;generalize isq n=j at *;rcases Nat.lt_trichotomy j k with h | h | h
 ·have:=Nat.mul_le_mul (show j+1≤k from h) (show j+1≤k from h);omega
 ·exact h
 ·have:=Nat.mul_le_mul (show k+1≤j from h) (show k+1≤j from h);omega
theorem newton_low {a r:Nat} (b:0<r):a<((r+a / r) / 2+1)*((r+a / r) / 2+1):=by
 have c:a<r*(a / r)+r:=by
  have:=Nat.div_add_mod a r;have:=Nat.mod_lt a b;omega
 have f:r+a / r≤2*((r+a / r) / 2)+1:=by omega
 generalize (r+a / r) / 2=n at *;generalize a / r=q at *;have g:(r:Int)*q+r≤(r:Int)*(2*(n+1) - r):=by
  have:(r:Int)*(q+1)≤(r:Int)*(2*(n+1) - r):=Int.mul_le_mul_of_nonneg_left (by omega) (by omega);rw[Int.mul_add,Int.mul_one] at this;exact this
 have h:(r:Int)*(2*(n+1) - r)=(n+1)*(n+1) - (n+1 - r)*(n+1 - r):=by grind
 have i:=sq_nonneg' ((n:Int)+1 - r);have d:(a:Int)<((n+1:Nat):Int)*((n+1:Nat):Int):=by
  have j:(a:Int)<(r:Int)*q+r:=by exact_mod_cast c
  have e:((n+1:Nat):Int)=(n:Int)+1:=by omega
  rw[e];omega
 exact_mod_cast d
theorem newton_end {a r:Nat} (h:r≤(r+a / r) / 2):r*r≤a:=by
 have b:r≤a / r:=by omega
 exact Nat.le_trans (Nat.mul_le_mul_right r b) (Nat.div_mul_le_self a r)
def RetRk (w:World) (x:Int) (e:Ending) (a:World):Prop:=∃ v,e=.returned v∧Rp 2 1000000000 a v x∧Kp w a
theorem rp_lit (w:World) {d:Int} (a:0<d) (b:d<1000000000):Rp 2 1000000000 (w.alloc (.cells #[.int .i64 d] 2)) (.slice (some ⟨w.heap.size,0,none⟩) 1 1) d:=by
 refine⟨[d],row_lit1 w _ d,⟨fun i=>?_,fun _=>?_⟩,by simp only[val];omega⟩
 ·cases i with
  | zero=>simp[at0];omega
  | succ i=>simp[at0]
 ·simp[at0];omega
theorem ten_pow (j:Nat):(1000000000:Int) ^ j=(10:Int) ^ (9*j):=by
 rw[Int.pow_mul]
 rfl
theorem root_room {l:List Int} {m:Nat} (h:Canon 1000000000 l) (f:Ft m (val 1000000000 l)):9*l.length≤m+9:=by
 have c:=h.1.val_nonneg (by decide);have b:val 1000000000 l<(10:Int) ^ m:=by
  have e:((val 1000000000 l).natAbs:Int)=val 1000000000 l:=by omega
  have a:((val 1000000000 l).natAbs:Int)<((10 ^ m:Nat):Int):=Int.ofNat_lt.2 f;rw[e] at a
  simpa using a
 have a:(10:Int) ^ m≤(1000000000:Int) ^ (m / 9+1):=by
  rw[ten_pow];exact pow_mono (by decide) (by omega)
 have:=h.len_le (by decide) (k:=m / 9+1) (Int.lt_of_lt_of_le b a);omega
theorem rootLimbs_any (x:Nat) (m:Nat) (u:Value) (w:World) (T:Rp 2 1000000000 w u x) (hm:m≤200000000) (fx:Ft m x):Calls Tryz.prog 67 #[u] w (RetRk w (isq x:Nat)):=by
 obtain⟨l,hl,U,V⟩:=id T;have hr:=root_room U (by rw[V];exact fx)
 have D:=U.1.val_lt (by decide);rw[V] at D;have ac:l.length≤30000000:=by omega
 obtain⟨ao,ad,hu,ae,af⟩:=hl.slice;subst hu;have HX:=Hid.mk D;clear D V U hl;have H:=kp_alloc w (.cells #[.int .i64 1] 2);have v:=rp_lit w (d:=1) (by decide) (by decide)
 go_enter Tryz.func67,Tryz.ntmps67
 go_wp2_with fail
 go_loopw [3,4] (fun r i wr=>∃ j:Nat,i=.int .i64 (2*(j:Int))∧2*j≤l.length+1∧Rp 2 1000000000 wr r ((1000000000:Int) ^ j)∧Kp w wr)
  (fun _ i _=>(l.length+2 - intOf i).toNat)
 case atStart=>exact⟨0,by simp,by omega,by simpa using v,H⟩
 case round =>
  clear v H;obtain⟨j,rfl,hj,g,E⟩:=hrel;by_cases h:2*j<l.length
  ·have fj:Ft (9*j+1) ((1000000000:Int) ^ j):=by
    unfold Ft;rw[ten_pow,Int.natAbs_pow];exact Nat.pow_lt_pow_right (by decide) (by omega)
   have HF:=fj.fit (by omega);have HE:=Hid.mk (show (0:Int)+1000000000*1000000000 ^ j=1000000000 ^ (j+1) by rw[Int.pow_succ];omega)
   have F:2*(j:Int)<(l.length:Int):=by omega
   clear fj
   go_wp2_with (go_at_call 88;refine(putBelow_any _ 0 _ _ g HF (by decide)).mono ?_;rintro e w1 ⟨v1,rfl,c,k,_⟩)
   go_roundw
   case rel =>
    rw[HE.out] at c;exact⟨j+1,by go_num,by omega,c,E.trans' k⟩
   case measure=>simp[intOf];omega
  ·have F:¬ 2*(j:Int)<(l.length:Int):=by omega
   have W:Hid (0<1000000000 ^ j∧x<(1000000000 ^ j+1)*(1000000000 ^ j+1)∧1000000000 ^ j<10 ^ (m+20)):=by
    have g0:0<1000000000 ^ j:=Nat.pow_pos (by decide);refine⟨g0,?_,?_⟩
    ·have g1:(x:Int)<((1000000000 ^ (2*j):Nat):Int):=by
      refine Int.lt_of_lt_of_le HX.out ?_;have:=pow_mono (B:=1000000000) (by decide) (show l.length≤2*j by omega)
      simpa using this
     have g2:x<1000000000 ^ (2*j):=by exact_mod_cast g1
     have g3:1000000000 ^ (2*j)=1000000000 ^ j*1000000000 ^ j:=by rw[Nat.two_mul,Nat.pow_add]
     have g4:=Nat.mul_le_mul (Nat.le_succ (1000000000 ^ j)) (Nat.le_succ (1000000000 ^ j));rw[g3] at g2;exact Nat.lt_of_lt_of_le g2 g4
    ·have:1000000000 ^ j=10 ^ (9*j):=by rw[Nat.pow_mul]
     rw[this];exact Nat.pow_lt_pow_right (by decide) (by omega)
   have I:(1000000000:Int) ^ j=((1000000000 ^ j:Nat):Int):=by simp
   rw[I] at g;clear I;have y:=g;clear g;generalize 1000000000 ^ j=r0 at *;have X:=T.keep E
   go_wp2_with fail
   go_loopw [3,5,6,7,8,9] (fun r _ _ _ _ _ Q=>∃ a:Nat,Rp 2 1000000000 Q r a∧Hid ((0<a∨x=0)∧x<(a+1)*(a+1)∧a<10 ^ (m+20))∧Kp w Q)
    (fun r _ _ _ _ _ Q=>readNum 1000000000 Q r)
   case atStart=>exact⟨r0,y,⟨Or.inl W.out.1,W.out.2⟩,E⟩
   case round =>
    clear y W X HX;obtain⟨a,ha,J,K⟩:=hrel;have Y:=Hid.mk ha.read;have Z:Ft (m+20) (x:Int):=fx.mono (by omega);have fa:Ft (m+20) (a:Int):=by unfold Ft;simpa using J.out.2.2
    have hD:=divideLimbs_any x a (m+20) _ _ _ (T.keep K) ha (by omega) Z fa
    go_wp2_with fail
    refine hD.mono ?_;rintro e w1 ⟨v1,v2,rfl,c,aa,k⟩;have G:=ha.keep k;have fq:Ft (m+20) ((x / a:Nat):Int):=by
     unfold Ft at *;have:=Nat.div_le_self x a;simp only[Int.natAbs_natCast] at *;omega
    have z:Rp 2 1000000000 w1 v1 ((x / a:Nat):Int):=by simpa using c
    have HR:Hid (a≤(a+x / a) / 2→isq x=a):=Hid.mk (fun p=>by
     rcases J.out.1 with R | R
     ·exact isq_uni (newton_end p) J.out.2.1
     ·subst R;rw[Nat.zero_div] at p;have:a=0:=by omega
      subst this
      rfl)
    have HN:Hid (¬ a≤(a+x / a) / 2→(0<(a+x / a) / 2∨x=0)∧x<((a+x / a) / 2+1)*((a+x / a) / 2+1)∧(a+x / a) / 2<10 ^ (m+20)):=Hid.mk (fun p=>by
     have R:0<a:=Nat.pos_of_ne_zero (fun h=>p (by subst h;exact Nat.zero_le _))
     have h1:=newton_low (a:=x) R;have h2:=J.out.2.2;refine⟨?_,h1,Nat.lt_trans (Nat.lt_of_not_le p) h2⟩;by_cases hz:(a+x / a) / 2=0
     ·rw[hz] at h1;exact Or.inr (by omega)
     ·exact Or.inl (Nat.pos_of_ne_zero hz))
    clear hD c aa ha J;generalize x / a=q at *
    go_wp2_with fail
    refine(addLimbs_any a (q:Nat) _ _ _ G z (fa.fit (by omega)) (fq.fit (by omega))).mono ?_;rintro e w2 ⟨v3,rfl,L,M,_⟩;have fs:Ft (m+21) ((a+q:Nat):Int):=by
     unfold Ft at *;simp only[Int.natAbs_natCast] at *;rw[show m+21=(m+20)+1 by omega,Nat.pow_succ];omega
    have A:Rp 2 1000000000 w2 v3 ((a+q:Nat):Int):=by simpa using L
    have kp2:=kp_alloc w2 (.cells #[.int .i64 2] 2);have C:=rp_lit w2 (d:=2) (by decide) (by decide);have f2:Ft (m+21) (2:Int):=by
     have:Ft 1 (2:Int):=by unfold Ft;decide
     exact this.mono (by omega)
    have N:=divideLimbs_any (a+q:Nat) 2 (m+21) _ _ _ (A.keep kp2) C (by omega) fs f2;clear z L
    go_wp2_with fail
    refine N.mono ?_;rintro e w3 ⟨v4,v5,rfl,O,s,P⟩;have f:Rp 2 1000000000 w3 v4 (((a+q) / 2:Nat):Int):=by simpa using O
    have t:=((G.keep M).keep kp2).keep P;have kq:=(((K.trans' k).trans' M).trans' kp2).trans' P;clear N O s A C G;have S:=compareLimbs_any (((a+q) / 2:Nat):Int) a _ _ _ f t;by_cases p:a≤(a+q) / 2
    ·have HQ:=Hid.mk (HR.out p);clear HR HN;have ag:¬ cmp3 (((a+q) / 2:Nat):Int) a<0:=by
      unfold cmp3;rw[if_neg (by omega)]
      split <;> omega
     generalize cmp3 (((a+q) / 2:Nat):Int) a=o at *
     go_wp2_with fail
     refine S.mono ?_;rintro e w4 ⟨rfl,b⟩
     go_wp2_with fail
     go_ret
     exact⟨_,rfl,by rw[HQ.out];exact t.keep b,kq.trans' b⟩
    ·rw[cmp3_lt (by omega)] at S;have HQ:=Hid.mk (HN.out p);clear HN HR;have HM:Hid ((a+q) / 2<a):=Hid.mk (by omega);generalize (a+q) / 2=n at *;clear p
     go_wp2_with fail
     refine S.mono ?_;rintro e w4 ⟨rfl,b⟩;have s:=f.keep b;have ah:=t.keep b;clear f t S
     go_wp2_with fail
     go_roundw
     case rel=>exact⟨n,s,HQ,kq.trans' b⟩
     case measure =>
      have h1:=HM.out;rw[s.read,Y.out];omega
theorem wroot_any (x:Nat) (m:Nat) (u:Value) (w:World) (q:WN w u x) (r:m≤200000000) (s:Ft m x):Calls Tryz.prog 38 #[u] w (RetW w (isq x:Nat)):=by
 obtain⟨i,n,c,rfl,h⟩:=q;rw[show decide ((x:Int)<0)=false by simp] at *;have z:Rp 2 1000000000 w (.slice i n c) x:=by simpa using h
 have b:=Kp.alloc' (kp_alloc w (.cells #[.bool false,.slice i n c] 38)) (.cells #[.bool false,.slice none 0 0] 38);have j:Blk ((w.alloc (.cells #[.bool false,.slice i n c] 38)).alloc (.cells #[.bool false,.slice none 0 0] 38)) (w.heap.size+1) #[.bool false,.slice none 0 0] 38:=Blk.at (Blk.new (w.alloc (.cells #[.bool false,.slice i n c] 38)) _ _) (by simp);clear h
 go_enter Tryz.func38,Tryz.ntmps38
 go_wp2_with fail
 refine(rootLimbs_any x m _ _ (z.keep b) r s).mono ?_;rintro e A ⟨D,rfl,d,f⟩;obtain⟨a,k,c1,rfl⟩:=d.shape;have g:=j.keep f;have l:=g.cell;have B:=g.frozen;have C:=g.lt
 go_wp2_with fail
 refine bodyPost_ret (v:=.agg #[.bool false,.slice a k c1]) (by simp[results,Tryz.results38,go_sem,l]) rfl ?_;refine⟨_,rfl,?_,Below.setCell (Below.setCell (b.trans' f) (p:=⟨w.heap.size+1,0,none⟩) (by simp) _) (p:=⟨w.heap.size+1,1,none⟩) (by simp) _⟩;refine WN.soft (Sf.set (t:=38) (c:=w.heap.size+1) (o:=1) (y:=.slice a k c1) (Sf.set (t:=38) (c:=w.heap.size+1) (o:=0) (y:=.bool false) (Sf.refl 2 A) g.elem (by decide)) (by simp only[elemOf_setCell];exact g.elem) (by decide)) ?_
 exact⟨a,k,c1,by simp,by simpa using d⟩
end
section
open Go.RowKit
def RetParts (w:World) (a:Qn) (e:Ending) (b:World):Prop:=∃ u v t,e=.returned (.tuple #[u,v,t,.int .i64 a.d])∧WN b u a.p∧WN b v a.q∧WN b t a.r∧Kp w b
theorem parts_any (a:Qn) (v:Value) (w:World) (m:XN w v a):Calls Tryz.prog 33 #[v] w (RetParts w a):=by
 obtain⟨g,c,h,c1,i,e,j,c2,k,f,l,c3,rfl,n,o,p⟩:=m
 go_enter Tryz.func33,Tryz.ntmps33
 go_wp2_with fail
 go_region
 all_goals
  go_wp2_with fail
  have b:=Kp.drew' (Kp.alloc' (Kp.alloc' (Kp.alloc' (kp_alloc w (.cells #[.bool g,.slice c h c1,.bool i,.slice e j c2,.bool k,.slice f l c3,.int .i64 a.d] 40)) (.cells #[.bool g,.slice c h c1] 38)) (.cells #[.bool i,.slice e j c2] 38)) (.cells #[.bool k,.slice f l c3] 38));refine bodyPost_ret (v:=.tuple #[.agg #[.bool g,.slice c h c1],.agg #[.bool i,.slice e j c2],.agg #[.bool k,.slice f l c3],.int .i64 a.d]) (by simp[results,Tryz.results33,go_sem]) rfl ?_;exact⟨_,_,_,rfl,n.keep b,o.keep b,p.keep b,b⟩
end
section
open Go.RowKit
def RR (w:World) (v:Value) (p q n:Int):Prop:=∃ e a f c1 g b h c2 i c j c3 k d l c4,v=.agg #[.bool e,.slice a f c1,.bool g,.slice b h c2,.bool i,.slice c j c3,.bool k,.slice d l c4] ∧
 WN w (.agg #[.bool e,.slice a f c1]) p∧WN w (.agg #[.bool g,.slice b h c2]) q∧WN w (.agg #[.bool i,.slice c j c3]) n∧WN w (.agg #[.bool k,.slice d l c4]) (isq n.toNat:Nat)
def RetRR (w:World) (p q n:Int) (e:Ending) (a:World):Prop:=∃ v,e=.returned v∧RR a v p q n∧Kp w a
theorem RR.soft {w W:World} {v:Value} {p q n:Int} (a:Sf 2 w W) (h:RR w v p q n):RR W v p q n:=by
 obtain⟨g,b,i,c1,j,c,k,c2,l,d,m,c3,o,f,r,c4,e,s,t,u,x⟩:=h;exact⟨g,b,i,c1,j,c,k,c2,l,d,m,c3,o,f,r,c4,e,s.soft a,t.soft a,u.soft a,x.soft a⟩
theorem RR.keep {w W:World} {v:Value} {p q n:Int} (a:Kp w W) (h:RR w v p q n):RR W v p q n:=h.soft (Sf.keep a)
theorem retRR_mk {w e W:World} {p q n:Int} {g h i j:Bool} {a b c d:Option Addr} {k c1 l c2 m c3 o c4:Nat} (r:WN e (.agg #[.bool g,.slice a k c1]) p) (s:WN e (.agg #[.bool h,.slice b l c2]) q) (t:WN e (.agg #[.bool i,.slice c m c3]) n) (u:WN e (.agg #[.bool j,.slice d o c4]) (isq n.toNat:Nat)) (f:Sf 2 e W) (v:Kp w W) :
  RetRR w p q n (.returned (.agg #[.bool g,.slice a k c1,.bool h,.slice b l c2,.bool i,.slice c m c3,.bool j,.slice d o c4])) W :=
 ⟨_,rfl,⟨g,a,k,c1,h,b,l,c2,i,c,m,c3,j,d,o,c4,rfl,r.soft f,s.soft f,t.soft f,u.soft f⟩,v⟩
theorem of_neg (a:Qn) (m:Nat) (v:Value) (w:World) (hv:XN w v a) (hm:m≤40000000) (f:QF m a) (hd:QD a) (hs:a.q.sign = -1) :
  Calls Tryz.prog 15 #[v] w (RetRR w ((-a.p)*a.r) ((-a.r)*a.r) (a.q*a.r*(a.q*a.r)*a.d)):=by
 obtain⟨f1,f2,f3⟩:=f;have HN:Hid (((a.q*a.r*(a.q*a.r)*a.d).toNat:Int)=a.q*a.r*(a.q*a.r)*a.d):=Hid.mk (Int.toNat_of_nonneg (Int.mul_nonneg (sq_nonneg' _) hd.1));obtain⟨d0,d1⟩:=hd;have fd:Ft 7 a.d:=by unfold Ft;omega
 have HS:=Hid.mk hs;clear hs;obtain⟨b1,ce,n1,c1,b2,cf,n2,c2,b3,cg,n3,c3,rfl,_,_,_⟩:=id hv
 go_enter Tryz.func15,Tryz.ntmps15
 go_wp2_with fail
 have ch:Kp w _:=(Kp.alloc' (Kp.alloc' (Below.refl w.heap.size w) (.cells #[.bool b1,.slice ce n1 c1,.bool b2,.slice cf n2 c2,.bool b3,.slice cg n3 c3,.int .i64 a.d] 40)) (.cells #[.bool false,.slice none 0 0,.bool false,.slice none 0 0,.bool false,.slice none 0 0,.bool false,.slice none 0 0] 44));have ci:Sf 2 w _:=(Sf.alloc (Sf.alloc (Sf.refl 2 w) (.cells #[.bool b1,.slice ce n1 c1,.bool b2,.slice cf n2 c2,.bool b3,.slice cg n3 c3,.int .i64 a.d] 40)) (.cells #[.bool false,.slice none 0 0,.bool false,.slice none 0 0,.bool false,.slice none 0 0,.bool false,.slice none 0 0] 44));refine(parts_any a _ _ (hv.soft ci)).mono ?_;rintro e b ⟨v1,v2,v3,rfl,hp,hq,H,bg⟩;obtain⟨b4,bh,n4,c4,rfl⟩:=hp.shape';obtain⟨b5,bi,n5,c5,rfl⟩:=hq.shape';obtain⟨b6,aj,n6,c6,rfl⟩:=H.shape';have dT:=ch.trans' bg;have e4:=ci.trans (Sf.keep bg);have I:Blk b (w.heap.size+1) #[.bool false,.slice none 0 0,.bool false,.slice none 0 0,.bool false,.slice none 0 0,.bool false,.slice none 0 0] 44:=Blk.keep bg (Blk.at (Blk.new _ _ _) (by simp));obtain⟨aJ,aK,dB⟩:=I.all;have dC:w.heap.size≤w.heap.size+1:=by (first | omega | (have:=ch.size;simp only[sz] at this;omega))
 go_wp2_with fail
 have ak:Kp w _:=(Kp.alloc' (Kp.alloc' (Kp.alloc' (Kp.alloc' dT (.cells #[.bool b4,.slice bh n4 c4] 38)) (.cells #[.bool b5,.slice bi n5 c5] 38)) (.cells #[.bool b6,.slice aj n6 c6] 38)) (.cells #[.bool b6,.slice aj n6 c6] 38));have cj:Sf 2 b _:=(Sf.alloc (Sf.alloc (Sf.alloc (Sf.alloc (Sf.refl 2 b) (.cells #[.bool b4,.slice bh n4 c4] 38)) (.cells #[.bool b5,.slice bi n5 c5] 38)) (.cells #[.bool b6,.slice aj n6 c6] 38)) (.cells #[.bool b6,.slice aj n6 c6] 38));have hS:=sign_any a.q _ _ (hq.soft cj);rw[HS.out] at hS;refine hS.mono ?_;rintro e w2 ⟨rfl,J⟩;clear hS;have dU:=ak.trans' J;have bj:=cj.trans (Sf.keep J);have K:=Blk.keep J (Blk.alloc (Blk.alloc (Blk.alloc (Blk.alloc I _) _) _) _);have bm:Blk w2 (b.heap.size) #[.bool b4,.slice bh n4 c4] 38:=Blk.keep J (Blk.at (Blk.alloc (Blk.alloc (Blk.alloc (Blk.new _ _ _) _) _) _) (by simp));have h:Blk w2 (b.heap.size+1) #[.bool b5,.slice bi n5 c5] 38:=Blk.keep J (Blk.at (Blk.alloc (Blk.alloc (Blk.new _ _ _) _) _) (by simp));have bn:Blk w2 (b.heap.size+1+1) #[.bool b6,.slice aj n6 c6] 38:=Blk.keep J (Blk.at (Blk.alloc (Blk.new _ _ _) _) (by simp));have bo:Blk w2 (b.heap.size+1+1+1) #[.bool b6,.slice aj n6 c6] 38:=Blk.keep J (Blk.at (Blk.new _ _ _) (by simp));obtain⟨aL,aM,dD⟩:=K.all;have dE:w.heap.size≤w.heap.size+1:=by (first | omega | (have:=ak.size;simp only[sz] at this;omega))
 obtain⟨ck,cl,el⟩:=bm.all;have em:w.heap.size≤b.heap.size:=by (first | omega | (have:=ak.size;simp only[sz] at this;omega))
 obtain⟨L,M,bp⟩:=h.all;have bq:w.heap.size≤b.heap.size+1:=by (first | omega | (have:=ak.size;simp only[sz] at this;omega))
 obtain⟨cm,cn,en⟩:=bn.all;have eo:w.heap.size≤b.heap.size+1+1:=by (first | omega | (have:=ak.size;simp only[sz] at this;omega))
 obtain⟨co,cp,ep⟩:=bo.all;have eq:w.heap.size≤b.heap.size+1+1+1:=by (first | omega | (have:=ak.size;simp only[sz] at this;omega))
 replace hp:=hp.soft bj;replace hq:=hq.soft bj;replace H:=H.soft bj;clear I aJ aK
 go_wp2_with fail
 have kp2:Kp w _:=dU;have sf2:Sf 2 w2 _:=(Sf.refl 2 w2);refine(negate_any a.p _ _ (hp.soft sf2) (f1.fit (by omega))).mono ?_;rintro e w3 ⟨es,rfl,aN,N⟩;obtain⟨b7,br,n7,c7,rfl⟩:=aN.shape';have dV:=kp2.trans' N;have cq:=sf2.trans (Sf.keep N);have O:=Blk.keep N K;have aO:=Blk.keep N bm;have i:=Blk.keep N h;have bs:=Blk.keep N bn;have bt:=Blk.keep N bo;obtain⟨aP,aQ,dF⟩:=O.all;have dG:w.heap.size≤w.heap.size+1:=by (first | omega | (have:=kp2.size;simp only[sz] at this;omega))
 obtain⟨cr,ct,et⟩:=aO.all;have cu:w.heap.size≤b.heap.size:=by (first | omega | (have:=kp2.size;simp only[sz] at this;omega))
 obtain⟨P,Q,bu⟩:=i.all;have bv:w.heap.size≤b.heap.size+1:=by (first | omega | (have:=kp2.size;simp only[sz] at this;omega))
 obtain⟨cw,cx,eu⟩:=bs.all;have ev:w.heap.size≤b.heap.size+1+1:=by (first | omega | (have:=kp2.size;simp only[sz] at this;omega))
 obtain⟨cy,cz,ew⟩:=bt.all;have ex:w.heap.size≤b.heap.size+1+1+1:=by (first | omega | (have:=kp2.size;simp only[sz] at this;omega))
 replace hq:=hq.soft cq;replace H:=H.soft cq;clear K aL aM bm ck cl h L M bn cm cn bo co cp
 go_wp2_with fail
 have al:Kp w _:=(stK2 (A:=b.heap.size) (.bool b7) (.slice br n7 c7) dV (by have:=cu;omega))
 have cA:Sf 2 w3 _:=(stS2 (E:=2) (.bool b7) (.slice br n7 c7) aO (by decide));refine(negate_any a.r _ _ (H.soft cA) (f3.fit (by omega))).mono ?_;rintro e w4 ⟨ey,rfl,aR,R⟩;obtain⟨b8,bw,n8,c8,rfl⟩:=aR.shape';have dW:=al.trans' R;have bx:=cA.trans (Sf.keep R);have S:=Blk.keep R (Blk.other (Blk.other O (by omega)) (by omega));have bz:Blk w4 (b.heap.size) #[.bool b7,.slice br n7 c7] 38:=Blk.keep R (Blk.set (Blk.set aO));have j:=Blk.keep R (Blk.other (Blk.other i (by omega)) (by omega));have bA:=Blk.keep R (Blk.other (Blk.other bs (by omega)) (by omega));have aS:=Blk.keep R (Blk.other (Blk.other bt (by omega)) (by omega));obtain⟨aT,aU,dH⟩:=S.all;have dI:w.heap.size≤w.heap.size+1:=by (first | omega | (have:=al.size;simp only[sz] at this;omega))
 obtain⟨cB,cC,ez⟩:=bz.all;have eA:w.heap.size≤b.heap.size:=by (first | omega | (have:=al.size;simp only[sz] at this;omega))
 obtain⟨T,U,bB⟩:=j.all;have bC:w.heap.size≤b.heap.size+1:=by (first | omega | (have:=al.size;simp only[sz] at this;omega))
 obtain⟨cD,cE,eB⟩:=bA.all;have eC:w.heap.size≤b.heap.size+1+1:=by (first | omega | (have:=al.size;simp only[sz] at this;omega))
 obtain⟨cF,cG,eD⟩:=aS.all;have cH:w.heap.size≤b.heap.size+1+1+1:=by (first | omega | (have:=al.size;simp only[sz] at this;omega))
 replace hq:=hq.soft bx;replace H:=H.soft bx;replace aN:=aN.soft bx;clear O aP aQ aO cr ct i P Q bs cw cx bt cy cz
 go_wp2_with fail
 have kp4:Kp w _:=(stK2 (A:=b.heap.size+1+1+1) (.bool b8) (.slice bw n8 c8) dW (by have:=cH;omega))
 have sf4:Sf 2 w4 _:=(stS2 (E:=2) (.bool b8) (.slice bw n8 c8) aS (by decide));refine(multiply_any (-a.p) (a.r) _ _ _ (aN.soft sf4) (H.soft sf4) (f1.neg.fit (by omega)) (f3.fit (by omega))).mono ?_;rintro e w5 ⟨eE,rfl,g,V⟩;obtain⟨b9,am,n9,c9,rfl⟩:=g.shape';have dX:=kp4.trans' V;have bD:=sf4.trans (Sf.keep V);have W:=Blk.keep V (Blk.other (Blk.other S (by omega)) (by omega));have aV:=Blk.keep V (Blk.other (Blk.other bz (by omega)) (by omega));have k:=Blk.keep V (Blk.other (Blk.other j (by omega)) (by omega));have bE:=Blk.keep V (Blk.other (Blk.other bA (by omega)) (by omega));have bF:Blk w5 (b.heap.size+1+1+1) #[.bool b8,.slice bw n8 c8] 38:=Blk.keep V (Blk.set (Blk.set aS));obtain⟨aW,aX,dJ⟩:=W.all;have dK:w.heap.size≤w.heap.size+1:=by (first | omega | (have:=kp4.size;simp only[sz] at this;omega))
 obtain⟨cI,cJ,eF⟩:=aV.all;have cK:w.heap.size≤b.heap.size:=by (first | omega | (have:=kp4.size;simp only[sz] at this;omega))
 obtain⟨X,Y,bG⟩:=k.all;obtain⟨cL,cM,eG⟩:=bE.all;obtain⟨cN,cO,eH⟩:=bF.all;have eI:w.heap.size≤b.heap.size+1+1+1:=by (first | omega | (have:=kp4.size;simp only[sz] at this;omega))
 replace hq:=hq.soft bD;replace H:=H.soft bD;replace aR:=aR.soft bD;clear S aT aU bz cB cC j T U bA cD cE aS cF cG
 go_wp2_with fail
 have aY:Kp w _:=(stK2 (A:=b.heap.size) (.bool b9) (.slice am n9 c9) dX (by have:=cK;omega))
 have bH:Sf 2 w5 _:=(stS2 (E:=2) (.bool b9) (.slice am n9 c9) aV (by decide));refine(multiply_any (-a.r) (a.r) _ _ _ (aR.soft bH) (H.soft bH) (f3.neg.fit (by omega)) (f3.fit (by omega))).mono ?_;rintro e w6 ⟨eJ,rfl,l,Z⟩;obtain⟨an,s,ao,ap,rfl⟩:=l.shape';have dY:=aY.trans' Z;have bI:=bH.trans (Sf.keep Z);have aa:=Blk.keep Z (Blk.other (Blk.other W (by omega)) (by omega));have bJ:Blk w6 (b.heap.size) #[.bool b9,.slice am n9 c9] 38:=Blk.keep Z (Blk.set (Blk.set aV));have u:=Blk.keep Z (Blk.other (Blk.other k (by omega)) (by omega));have cP:=Blk.keep Z (Blk.other (Blk.other bE (by omega)) (by omega));have aZ:=Blk.keep Z (Blk.other (Blk.other bF (by omega)) (by omega));obtain⟨a0,a1,dL⟩:=aa.all;have dM:w.heap.size≤w.heap.size+1:=by (first | omega | (have:=aY.size;simp only[sz] at this;omega))
 obtain⟨cQ,cR,eK⟩:=bJ.all;have eL:w.heap.size≤b.heap.size:=by (first | omega | (have:=aY.size;simp only[sz] at this;omega))
 obtain⟨ac,ad,bK⟩:=u.all;obtain⟨cS,cT,eM⟩:=cP.all;obtain⟨cU,cV,eN⟩:=aZ.all;have cW:w.heap.size≤b.heap.size+1+1+1:=by (first | omega | (have:=aY.size;simp only[sz] at this;omega))
 replace hq:=hq.soft bI;replace H:=H.soft bI;replace g:=g.soft bI;clear W aW aX aV cI cJ k X Y bE cL cM bF cN cO
 go_wp2_with fail
 have a2:Kp w _:=(stK2 (A:=b.heap.size+1+1+1) (.bool an) (.slice s ao ap) dY (by have:=cW;omega))
 have bL:Sf 2 w6 _:=(stS2 (E:=2) (.bool an) (.slice s ao ap) aZ (by decide));refine(multiply_any (a.q) (a.r) _ _ _ (hq.soft bL) (H.soft bL) (f2.fit (by omega)) (f3.fit (by omega))).mono ?_;rintro e w7 ⟨eO,rfl,bM,aw⟩;obtain⟨cX,bb,cY,cZ,rfl⟩:=bM.shape';have dZ:=a2.trans' aw;have c0:=bL.trans (Sf.keep aw);have ae:=Blk.keep aw (Blk.other (Blk.other aa (by omega)) (by omega));have bN:=Blk.keep aw (Blk.other (Blk.other bJ (by omega)) (by omega));have bO:Blk w7 (b.heap.size+1+1+1) #[.bool an,.slice s ao ap] 38:=Blk.keep aw (Blk.set (Blk.set aZ));obtain⟨a3,a4,dN⟩:=ae.all;have dO:w.heap.size≤w.heap.size+1:=by (first | omega | (have:=a2.size;simp only[sz] at this;omega))
 obtain⟨da,db,eP⟩:=bN.all;have eQ:w.heap.size≤b.heap.size:=by (first | omega | (have:=a2.size;simp only[sz] at this;omega))
 obtain⟨dc,dd,eR⟩:=bO.all;have eS:w.heap.size≤b.heap.size+1+1+1:=by (first | omega | (have:=a2.size;simp only[sz] at this;omega))
 replace g:=g.soft c0;replace l:=l.soft c0;clear aa a0 a1 bJ cQ cR u ac ad cP cS cT aZ cU cV
 go_wp2_with fail
 have kp7:Kp w _:=(Kp.alloc' dZ (.cells #[.bool cX,.slice bb cY cZ] 38));have sf7:Sf 2 w7 _:=(Sf.alloc (Sf.refl 2 w7) (.cells #[.bool cX,.slice bb cY cZ] 38));refine(multiply_any (a.q*a.r) (a.q*a.r) _ _ _ (bM.soft sf7) (bM.soft sf7) ((f2.mul f3).fit (by omega)) ((f2.mul f3).fit (by omega))).mono ?_;rintro e w8 ⟨eT,rfl,a5,ax⟩;obtain⟨bP,ay,bQ,bR,rfl⟩:=a5.shape';have d2:=kp7.trans' ax;have de:=sf7.trans (Sf.keep ax);have af:=Blk.keep ax (Blk.alloc ae _);have bS:=Blk.keep ax (Blk.alloc bN _);have bT:=Blk.keep ax (Blk.alloc bO _);obtain⟨a6,a7,dP⟩:=af.all;have dQ:w.heap.size≤w.heap.size+1:=by (first | omega | (have:=kp7.size;simp only[sz] at this;omega))
 obtain⟨df,dg,eU⟩:=bS.all;have eV:w.heap.size≤b.heap.size:=by (first | omega | (have:=kp7.size;simp only[sz] at this;omega))
 obtain⟨dh,di,eW⟩:=bT.all;have eX:w.heap.size≤b.heap.size+1+1+1:=by (first | omega | (have:=kp7.size;simp only[sz] at this;omega))
 replace g:=g.soft de;replace l:=l.soft de;clear ae a3 a4 bN da db bO dc dd
 go_wp2_with fail
 have a8:Kp w _:=(Kp.alloc' d2 (.cells #[.bool bP,.slice ay bQ bR] 38));have d3:Sf 2 w8 _:=(Sf.alloc (Sf.refl 2 w8) (.cells #[.bool bP,.slice ay bQ bR] 38));refine(fromInt_any a.d _ d0 (by omega)).mono ?_;rintro e w9 ⟨eY,rfl,dj,aq⟩;obtain⟨dk,bc,dl,dm,rfl⟩:=dj.shape';have d4:=a8.trans' aq;have bU:=d3.trans (Sf.keep aq);have ag:=Blk.keep aq (Blk.alloc af _);have bV:=Blk.keep aq (Blk.alloc bS _);have bW:=Blk.keep aq (Blk.alloc bT _);have x:Blk w9 (w8.heap.size) #[.bool bP,.slice ay bQ bR] 38:=Blk.keep aq (Blk.at (Blk.new _ _ _) (by simp));obtain⟨a9,ba,dR⟩:=ag.all;have dS:w.heap.size≤w.heap.size+1:=by (first | omega | (have:=a8.size;simp only[sz] at this;omega))
 obtain⟨dn,dp,eZ⟩:=bV.all;have e0:w.heap.size≤b.heap.size:=by (first | omega | (have:=a8.size;simp only[sz] at this;omega))
 obtain⟨dq,dr,e1⟩:=bW.all;have e2:w.heap.size≤b.heap.size+1+1+1:=by (first | omega | (have:=a8.size;simp only[sz] at this;omega))
 obtain⟨ah,ai,bX⟩:=x.all;replace g:=g.soft bU;replace l:=l.soft bU;replace a5:=a5.soft bU;clear af a6 a7 bS df dg bT dh di
 go_wp2_with fail
 have d5:Kp w _:=(Kp.alloc' d4 (.cells #[.bool dk,.slice bc dl dm] 38));have bY:Sf 2 w9 _:=(Sf.alloc (Sf.refl 2 w9) (.cells #[.bool dk,.slice bc dl dm] 38));refine(multiply_any (a.q*a.r*(a.q*a.r)) (a.d) _ _ _ (a5.soft bY) (dj.soft bY) (((f2.mul f3).mul (f2.mul f3)).fit (by omega)) (fd.fit (by decide))).mono ?_;rintro e bZ ⟨e5,rfl,hn,D⟩;obtain⟨ar,z,au,av,rfl⟩:=hn.shape';have d6:=d5.trans' D;have ds:=bY.trans (Sf.keep D);have C:=Blk.keep D (Blk.alloc ag _);have az:=Blk.keep D (Blk.alloc bV _);have aA:=Blk.keep D (Blk.alloc bW _);obtain⟨aB,aC,dt⟩:=C.all;obtain⟨b0,ca,d7⟩:=az.all;obtain⟨cb,cc,d8⟩:=aA.all;replace g:=g.soft ds;replace l:=l.soft ds;clear ag a9 ba bV dn dp bW dq dr x ah ai
 go_wp2_with fail
 have be:Kp w _:=(Kp.alloc' d6 (.cells #[.bool ar,.slice z au av] 38));have bf:Sf 2 bZ _:=(Sf.alloc (Sf.refl 2 bZ) (.cells #[.bool ar,.slice z au av] 38));have cd:=(hn.soft bf);have fn:Ft (m+m+(m+m)+7) (a.q*a.r*(a.q*a.r)*a.d):=((f2.mul f3).mul (f2.mul f3)).mul fd;rw[← HN.out] at cd fn;refine(wroot_any _ (m+m+(m+m)+7) _ _ cd (by omega) fn).mono ?_;rintro e du ⟨e3,rfl,dv,B⟩;obtain⟨aD,F,aE,aF,rfl⟩:=dv.shape';clear cd fn;have dw:=be.trans' B;have aG:=bf.trans (Sf.keep B);have n:=Blk.keep B (Blk.alloc C _);have dx:=Blk.keep B (Blk.alloc az _);have dy:=Blk.keep B (Blk.alloc aA _);have dz:Blk du (bZ.heap.size) #[.bool ar,.slice z au av] 38:=Blk.keep B (Blk.at (Blk.new _ _ _) (by simp));obtain⟨aH,dA,aI⟩:=n.all;have G:w.heap.size≤w.heap.size+1:=by (first | omega | (have:=be.size;simp only[sz] at this;omega))
 obtain⟨d9,eb,ec⟩:=dx.all;obtain⟨ed,ee,ef⟩:=dy.all;obtain⟨eg,eh,ei⟩:=dz.all;replace g:=g.soft aG;replace l:=l.soft aG;replace hn:=hn.soft aG;clear C aB aC az b0 ca aA cb cc
 go_wp2_with fail
 refine bodyPost_ret (v:=.agg #[.bool b9,.slice am n9 c9,.bool an,.slice s ao ap,.bool ar,.slice z au av,.bool aD,.slice F aE aF]) (by simp[results,Tryz.results15,go_sem,aH,aI]) rfl ?_;have ej:Kp w _:=(Kp.alloc' (Below.setCell (stK7 (A:=w.heap.size+1) (.bool b9) (.slice am n9 c9) (.bool an) (.slice s ao ap) (.bool ar) (.slice z au av) (.bool aD) dw (by have:=G;omega)) (p:=⟨w.heap.size+1,7,none⟩) (by have:=G;omega) (.slice F aE aF)) (.cells #[.bool aD,.slice F aE aF] 38))
 have ek:Sf 2 du _:=(Sf.alloc (Sf.set (t:=44) (c:=w.heap.size+1) (o:=7) (y:=.slice F aE aF) (stS7 (E:=2) (.bool b9) (.slice am n9 c9) (.bool an) (.slice s ao ap) (.bool ar) (.slice z au av) (.bool aD) n (by decide)) (by first | (simp only[elemOf_setCell];exact n.elem) | exact n.elem) (by decide)) (.cells #[.bool aD,.slice F aE aF] 38))
 exact retRR_mk g l hn dv ek ej
theorem of_pos (a:Qn) (m:Nat) (v:Value) (w:World) (hv:XN w v a) (hm:m≤40000000) (f:QF m a) (hd:QD a) (hs:¬ a.q.sign<0) :
  Calls Tryz.prog 15 #[v] w (RetRR w ((a.p)*a.r) ((a.r)*a.r) (a.q*a.r*(a.q*a.r)*a.d)):=by
 obtain⟨f1,f2,f3⟩:=f;have HN:Hid (((a.q*a.r*(a.q*a.r)*a.d).toNat:Int)=a.q*a.r*(a.q*a.r)*a.d):=Hid.mk (Int.toNat_of_nonneg (Int.mul_nonneg (sq_nonneg' _) hd.1));obtain⟨d0,d1⟩:=hd;have fd:Ft 7 a.d:=by unfold Ft;omega
 have HS:=Hid.mk hs;clear hs;obtain⟨b1,bf,n1,c1,b2,bg,n2,c2,b3,bh,n3,c3,rfl,_,_,_⟩:=id hv
 go_enter Tryz.func15,Tryz.ntmps15
 go_wp2_with fail
 have cu:Kp w _:=(Kp.alloc' (Kp.alloc' (Below.refl w.heap.size w) (.cells #[.bool b1,.slice bf n1 c1,.bool b2,.slice bg n2 c2,.bool b3,.slice bh n3 c3,.int .i64 a.d] 40)) (.cells #[.bool false,.slice none 0 0,.bool false,.slice none 0 0,.bool false,.slice none 0 0,.bool false,.slice none 0 0] 44));have bi:Sf 2 w _:=(Sf.alloc (Sf.alloc (Sf.refl 2 w) (.cells #[.bool b1,.slice bf n1 c1,.bool b2,.slice bg n2 c2,.bool b3,.slice bh n3 c3,.int .i64 a.d] 40)) (.cells #[.bool false,.slice none 0 0,.bool false,.slice none 0 0,.bool false,.slice none 0 0,.bool false,.slice none 0 0] 44));refine(parts_any a _ _ (hv.soft bi)).mono ?_;rintro e T ⟨v1,v2,v3,rfl,hp,hq,hr,aI⟩;obtain⟨b4,aJ,n4,c4,rfl⟩:=hp.shape';obtain⟨b5,aK,n5,c5,rfl⟩:=hq.shape';obtain⟨b6,U,n6,c6,rfl⟩:=hr.shape';have cw:=cu.trans' aI;have du:=bi.trans (Sf.keep aI);have u:Blk T (w.heap.size+1) #[.bool false,.slice none 0 0,.bool false,.slice none 0 0,.bool false,.slice none 0 0,.bool false,.slice none 0 0] 44:=Blk.keep aI (Blk.at (Blk.new _ _ _) (by simp));obtain⟨ak,al,ck⟩:=u.all
 go_wp2_with fail
 have cx:Kp w _:=(Kp.alloc' (Kp.alloc' (Kp.alloc' (Kp.alloc' cw (.cells #[.bool b4,.slice aJ n4 c4] 38)) (.cells #[.bool b5,.slice aK n5 c5] 38)) (.cells #[.bool b6,.slice U n6 c6] 38)) (.cells #[.bool b6,.slice U n6 c6] 38));have bj:Sf 2 T _:=(Sf.alloc (Sf.alloc (Sf.alloc (Sf.alloc (Sf.refl 2 T) (.cells #[.bool b4,.slice aJ n4 c4] 38)) (.cells #[.bool b5,.slice aK n5 c5] 38)) (.cells #[.bool b6,.slice U n6 c6] 38)) (.cells #[.bool b6,.slice U n6 c6] 38));have hS:=sign_any a.q _ _ (hq.soft bj);have HG:=HS.out;generalize a.q.sign=sq at hS HG;refine hS.mono ?_;rintro e w2 ⟨rfl,x⟩;clear hS;have cy:=cx.trans' x;have aL:=bj.trans (Sf.keep x);have z:=Blk.keep x (Blk.alloc (Blk.alloc (Blk.alloc (Blk.alloc u _) _) _) _);have aM:Blk w2 (T.heap.size) #[.bool b4,.slice aJ n4 c4] 38:=Blk.keep x (Blk.at (Blk.alloc (Blk.alloc (Blk.alloc (Blk.new _ _ _) _) _) _) (by simp));have g:Blk w2 (T.heap.size+1) #[.bool b5,.slice aK n5 c5] 38:=Blk.keep x (Blk.at (Blk.alloc (Blk.alloc (Blk.new _ _ _) _) _) (by simp));have aN:Blk w2 (T.heap.size+1+1) #[.bool b6,.slice U n6 c6] 38:=Blk.keep x (Blk.at (Blk.alloc (Blk.new _ _ _) _) (by simp));have aO:Blk w2 (T.heap.size+1+1+1) #[.bool b6,.slice U n6 c6] 38:=Blk.keep x (Blk.at (Blk.new _ _ _) (by simp));obtain⟨am,an,cl⟩:=z.all;obtain⟨bm,bn,cO⟩:=aM.all;obtain⟨B,C,aP⟩:=g.all;obtain⟨bo,bp,cP⟩:=aN.all;obtain⟨bq,br,cQ⟩:=aO.all;replace hp:=hp.soft aL;replace hq:=hq.soft aL;replace hr:=hr.soft aL;clear u ak al
 go_wp2_with fail
 have kp2:Kp w _:=cy;have sf2:Sf 2 w2 _:=(Sf.refl 2 w2);refine(multiply_any (a.p) (a.r) _ _ _ (hp.soft sf2) (hr.soft sf2) (f1.fit (by omega)) (f3.fit (by omega))).mono ?_;rintro e w3 ⟨cR,rfl,b,D⟩;obtain⟨b7,V,n7,c7,rfl⟩:=b.shape';have cz:=kp2.trans' D;have bs:=sf2.trans (Sf.keep D);have F:=Blk.keep D z;have ao:=Blk.keep D aM;have h:=Blk.keep D g;have aQ:=Blk.keep D aN;have aR:=Blk.keep D aO;obtain⟨ap,aq,cm⟩:=F.all;obtain⟨bt,bu,cS⟩:=ao.all;have bv:w.heap.size≤T.heap.size:=by (first | omega | (have:=kp2.size;simp only[sz] at this;omega))
 obtain⟨G,H,aS⟩:=h.all;obtain⟨bw,bx,cT⟩:=aQ.all;obtain⟨bz,bA,cU⟩:=aR.all;replace hq:=hq.soft bs;replace hr:=hr.soft bs;clear z am an aM bm bn g B C aN bo bp aO bq br
 go_wp2_with fail
 have bB:Kp w _:=(stK2 (A:=T.heap.size) (.bool b7) (.slice V n7 c7) cz (by have:=bv;omega))
 have aT:Sf 2 w3 _:=(stS2 (E:=2) (.bool b7) (.slice V n7 c7) ao (by decide));refine(multiply_any (a.r) (a.r) _ _ _ (hr.soft aT) (hr.soft aT) (f3.fit (by omega)) (f3.fit (by omega))).mono ?_;rintro e w4 ⟨cV,rfl,i,I⟩;obtain⟨b8,W,n8,c8,rfl⟩:=i.shape';have cA:=bB.trans' I;have aU:=aT.trans (Sf.keep I);have J:=Blk.keep I (Blk.other (Blk.other F (by omega)) (by omega));have aV:Blk w4 (T.heap.size) #[.bool b7,.slice V n7 c7] 38:=Blk.keep I (Blk.set (Blk.set ao));have j:=Blk.keep I (Blk.other (Blk.other h (by omega)) (by omega));have bC:=Blk.keep I (Blk.other (Blk.other aQ (by omega)) (by omega));have ar:=Blk.keep I (Blk.other (Blk.other aR (by omega)) (by omega));obtain⟨au,av,cn⟩:=J.all;obtain⟨bD,bE,cW⟩:=aV.all;obtain⟨K,L,aW⟩:=j.all;obtain⟨bF,bG,cX⟩:=bC.all;obtain⟨bH,bI,cY⟩:=ar.all;have bJ:w.heap.size≤T.heap.size+1+1+1:=by (first | omega | (have:=bB.size;simp only[sz] at this;omega))
 replace hq:=hq.soft aU;replace hr:=hr.soft aU;replace b:=b.soft aU;clear F ap aq ao bt bu h G H aQ bw bx aR bz bA
 go_wp2_with fail
 have kp4:Kp w _:=(stK2 (A:=T.heap.size+1+1+1) (.bool b8) (.slice W n8 c8) cA (by have:=bJ;omega))
 have sf4:Sf 2 w4 _:=(stS2 (E:=2) (.bool b8) (.slice W n8 c8) ar (by decide));refine(multiply_any (a.q) (a.r) _ _ _ (hq.soft sf4) (hr.soft sf4) (f2.fit (by omega)) (f3.fit (by omega))).mono ?_;rintro e w5 ⟨cZ,rfl,aX,ad⟩;obtain⟨b9,bK,n9,c9,rfl⟩:=aX.shape';have cB:=kp4.trans' ad;have bL:=sf4.trans (Sf.keep ad);have M:=Blk.keep ad (Blk.other (Blk.other J (by omega)) (by omega));have aY:=Blk.keep ad (Blk.other (Blk.other aV (by omega)) (by omega));have aZ:Blk w5 (T.heap.size+1+1+1) #[.bool b8,.slice W n8 c8] 38:=Blk.keep ad (Blk.set (Blk.set ar));obtain⟨aw,ax,co⟩:=M.all;obtain⟨bM,bN,c0⟩:=aY.all;obtain⟨bO,bP,da⟩:=aZ.all;replace b:=b.soft bL;replace i:=i.soft bL;clear J au av aV bD bE j K L bC bF bG ar bH bI
 go_wp2_with fail
 have cC:Kp w _:=(Kp.alloc' cB (.cells #[.bool b9,.slice bK n9 c9] 38));have a0:Sf 2 w5 _:=(Sf.alloc (Sf.refl 2 w5) (.cells #[.bool b9,.slice bK n9 c9] 38));refine(multiply_any (a.q*a.r) (a.q*a.r) _ _ _ (aX.soft a0) (aX.soft a0) ((f2.mul f3).fit (by omega)) ((f2.mul f3).fit (by omega))).mono ?_;rintro e w6 ⟨db,rfl,ay,ae⟩;obtain⟨a1,af,a2,a3,rfl⟩:=ay.shape';have cD:=cC.trans' ae;have bQ:=a0.trans (Sf.keep ae);have N:=Blk.keep ae (Blk.alloc M _);have a4:=Blk.keep ae (Blk.alloc aY _);have a5:=Blk.keep ae (Blk.alloc aZ _);obtain⟨az,aA,cp⟩:=N.all;obtain⟨bR,bS,dc⟩:=a4.all;obtain⟨bT,bU,dd⟩:=a5.all;replace b:=b.soft bQ;replace i:=i.soft bQ;clear M aw ax aY bM bN aZ bO bP
 go_wp2_with fail
 have cE:Kp w _:=(Kp.alloc' cD (.cells #[.bool a1,.slice af a2 a3] 38));have cF:Sf 2 w6 _:=(Sf.alloc (Sf.refl 2 w6) (.cells #[.bool a1,.slice af a2 a3] 38));refine(fromInt_any a.d _ d0 (by omega)).mono ?_;rintro e w7 ⟨de,rfl,bV,X⟩;obtain⟨bW,aH,bX,bY,rfl⟩:=bV.shape';have cG:=cE.trans' X;have a6:=cF.trans (Sf.keep X);have O:=Blk.keep X (Blk.alloc N _);have a7:=Blk.keep X (Blk.alloc a4 _);have a8:=Blk.keep X (Blk.alloc a5 _);have k:Blk w7 (w6.heap.size) #[.bool a1,.slice af a2 a3] 38:=Blk.keep X (Blk.at (Blk.new _ _ _) (by simp));obtain⟨aB,aC,cq⟩:=O.all;obtain⟨bZ,b0,df⟩:=a7.all;obtain⟨ca,cb,dg⟩:=a8.all;obtain⟨P,Q,a9⟩:=k.all;replace b:=b.soft a6;replace i:=i.soft a6;replace ay:=ay.soft a6;clear N az aA a4 bR bS a5 bT bU
 go_wp2_with fail
 have kp7:Kp w _:=(Kp.alloc' cG (.cells #[.bool bW,.slice aH bX bY] 38));have sf7:Sf 2 w7 _:=(Sf.alloc (Sf.refl 2 w7) (.cells #[.bool bW,.slice aH bX bY] 38));refine(multiply_any (a.q*a.r*(a.q*a.r)) (a.d) _ _ _ (ay.soft sf7) (bV.soft sf7) (((f2.mul f3).mul (f2.mul f3)).fit (by omega)) (fd.fit (by decide))).mono ?_;rintro e w8 ⟨dv,rfl,hn,ag⟩;obtain⟨Y,l,Z,aa,rfl⟩:=hn.shape';have cH:=kp7.trans' ag;have cc:=sf7.trans (Sf.keep ag);have R:=Blk.keep ag (Blk.alloc O _);have ba:=Blk.keep ag (Blk.alloc a7 _);have bb:=Blk.keep ag (Blk.alloc a8 _);obtain⟨aD,aE,cr⟩:=R.all;obtain⟨cd,ce,dh⟩:=ba.all;obtain⟨cf,cg,di⟩:=bb.all;replace b:=b.soft cc;replace i:=i.soft cc;clear O aB aC a7 bZ b0 a8 ca cb k P Q
 go_wp2_with fail
 have ch:Kp w _:=(Kp.alloc' cH (.cells #[.bool Y,.slice l Z aa] 38));have ci:Sf 2 w8 _:=(Sf.alloc (Sf.refl 2 w8) (.cells #[.bool Y,.slice l Z aa] 38));have bc:=(hn.soft ci);have fn:Ft (m+m+(m+m)+7) (a.q*a.r*(a.q*a.r)*a.d):=((f2.mul f3).mul (f2.mul f3)).mul fd;rw[← HN.out] at bc fn;refine(wroot_any _ (m+m+(m+m)+7) _ _ bc (by omega) fn).mono ?_;rintro e w9 ⟨dj,rfl,cj,ac⟩;obtain⟨ah,s,ai,aj,rfl⟩:=cj.shape';clear bc fn;have cI:=ch.trans' ac;have be:=ci.trans (Sf.keep ac);have n:=Blk.keep ac (Blk.alloc R _);have cJ:=Blk.keep ac (Blk.alloc ba _);have cK:=Blk.keep ac (Blk.alloc bb _);have cL:Blk w9 (w8.heap.size) #[.bool Y,.slice l Z aa] 38:=Blk.keep ac (Blk.at (Blk.new _ _ _) (by simp));obtain⟨aF,ct,aG⟩:=n.all;have S:w.heap.size≤w.heap.size+1:=by (first | omega | (have:=ch.size;simp only[sz] at this;omega))
 obtain⟨dk,dl,dm⟩:=cJ.all;obtain⟨dn,dp,dq⟩:=cK.all;obtain⟨dr,ds,dt⟩:=cL.all;replace b:=b.soft be;replace i:=i.soft be;replace hn:=hn.soft be;clear R aD aE ba cd ce bb cf cg
 go_wp2_with fail
 refine bodyPost_ret (v:=.agg #[.bool b7,.slice V n7 c7,.bool b8,.slice W n8 c8,.bool Y,.slice l Z aa,.bool ah,.slice s ai aj]) (by simp[results,Tryz.results15,go_sem,aF,aG]) rfl ?_;have cM:Kp w _:=(Kp.alloc' (Below.setCell (stK7 (A:=w.heap.size+1) (.bool b7) (.slice V n7 c7) (.bool b8) (.slice W n8 c8) (.bool Y) (.slice l Z aa) (.bool ah) cI (by have:=S;omega)) (p:=⟨w.heap.size+1,7,none⟩) (by have:=S;omega) (.slice s ai aj)) (.cells #[.bool ah,.slice s ai aj] 38))
 have cN:Sf 2 w9 _:=(Sf.alloc (Sf.set (t:=44) (c:=w.heap.size+1) (o:=7) (y:=.slice s ai aj) (stS7 (E:=2) (.bool b7) (.slice V n7 c7) (.bool b8) (.slice W n8 c8) (.bool Y) (.slice l Z aa) (.bool ah) n (by decide)) (by first | (simp only[elemOf_setCell];exact n.elem) | exact n.elem) (by decide)) (.cells #[.bool ah,.slice s ai aj] 38))
 exact retRR_mk b i hn cj cN cM
end
section
open Go.RowKit
theorem ended_any (p q n:Int) (v:Value) (w:World) (t:RR w v p q n):Calls Tryz.prog 16 #[v] w (RetV w (.bool (decide (q=0)))):=by
 obtain⟨u,g,x,c1,y,i,z,c2,A,j,B,c3,C,k,D,c4,rfl,l,d,m,o⟩:=t;have b:=kp_alloc w (.cells #[.bool u,.slice g x c1,.bool y,.slice i z c2,.bool A,.slice j B c3,.bool C,.slice k D c4] 44);by_cases h:q=0
 ·rw[decide_eq_true h];have r:q.sign=0:=by rw[h];rfl
  have f:=sign_any q _ _ (d.keep b);rw[r] at f;clear l d m o
  go_enter Tryz.func16,Tryz.ntmps16
  go_wp2_with fail
  refine f.mono ?_;rintro e E ⟨rfl,c⟩
  go_wp2_with fail
  go_ret
  exact⟨rfl,b.trans' c⟩
 ·rw[decide_eq_false h];have r:(q.sign == 0)=false:=by
   have:=Int.sign_eq_zero_iff_zero (a:=q);simp[h]
  have f:=sign_any q _ _ (d.keep b);generalize q.sign=s at *;clear l d m o
  go_enter Tryz.func16,Tryz.ntmps16
  go_wp2_with fail
  refine f.mono ?_;rintro e E ⟨rfl,c⟩
  go_wp2_with fail
  go_ret
  exact⟨rfl,b.trans' c⟩
def trm (p q n:Int):Int:=fl (p+(isq n.toNat:Nat)+(if q<0∧0<n then 1 else 0)) q
theorem fl_abs (x y:Int):(fl x y).natAbs≤x.natAbs:=by
 unfold fl
 split
 ·rename_i h
  have:=Int.natAbs_ediv_le_natAbs x y;omega
 ·have:=Int.natAbs_ediv_le_natAbs (-x) (-y);omega
theorem term_pos (p q n:Int) (m:Nat) (v:Value) (w:World) (hv:RR w v p q n) (hm:m≤100000000) (fp:Ft m p) (fq:Ft m q) (fr:Ft m ((isq n.toNat:Nat):Int)) (h:0<q) :
  Calls Tryz.prog 39 #[v] w (RetW w (fl (p+(isq n.toNat:Nat)) q)):=by
 obtain⟨b1,L,n1,c1,b2,M,n2,c2,b3,N,n3,c3,b4,O,n4,c4,rfl,hp,J,hn,hr⟩:=hv;have HQ:Hid (q.sign=1):=Hid.mk (Int.sign_eq_one_of_pos h);have ay:q≠0:=by omega
 have f1:Ft m (1:Int):=fq.le (by omega);generalize ((isq n.toNat:Nat):Int)=rt at *;clear h
 go_enter Tryz.func39,Tryz.ntmps39
 go_wp2_with fail
 have P:Kp w _:=(Kp.alloc' (Kp.alloc' (Below.refl w.heap.size w) (.cells #[.bool b1,.slice L n1 c1,.bool b2,.slice M n2 c2,.bool b3,.slice N n3 c3,.bool b4,.slice O n4 c4] 44)) (.cells #[.bool false,.slice none 0 0] 38));have Q:Sf 2 w _:=(Sf.alloc (Sf.alloc (Sf.refl 2 w) (.cells #[.bool b1,.slice L n1 c1,.bool b2,.slice M n2 c2,.bool b3,.slice N n3 c3,.bool b4,.slice O n4 c4] 44)) (.cells #[.bool false,.slice none 0 0] 38));refine(add_any p rt _ _ _ (hp.soft Q) (hr.soft Q) (fp.fit (by omega)) (fr.fit (by omega))).mono ?_;rintro e R ⟨v1,rfl,g,x⟩;obtain⟨b5,S,n5,c5,rfl⟩:=g.shape';have az:=P.trans' x;have aj:=Q.trans (Sf.keep x);have o:Blk R (w.heap.size) #[.bool b1,.slice L n1 c1,.bool b2,.slice M n2 c2,.bool b3,.slice N n3 c3,.bool b4,.slice O n4 c4] 44:=Blk.keep x (Blk.at (Blk.alloc (Blk.new _ _ _) _) (by simp));have c:Blk R (w.heap.size+1) #[.bool false,.slice none 0 0] 38:=Blk.keep x (Blk.at (Blk.new _ _ _) (by simp));obtain⟨T,U,aA⟩:=o.all;have aB:w.heap.size≤w.heap.size:=by (first | omega | (have:=P.size;simp only[sz] at this;omega))
 obtain⟨y,z,ao⟩:=c.all;have ap:w.heap.size≤w.heap.size+1:=by (first | omega | (have:=P.size;simp only[sz] at this;omega))
 replace J:=J.soft aj;replace hn:=hn.soft aj
 go_wp2_with fail
 have B:Kp w _:=(Kp.alloc' az (.cells #[.bool b5,.slice S n5 c5] 38));have ak:Sf 2 R _:=(Sf.alloc (Sf.refl 2 R) (.cells #[.bool b5,.slice S n5 c5] 38));have V:=sign_any q _ _ (J.soft ak);rw[HQ.out] at V;refine V.mono ?_;rintro e w2 ⟨rfl,r⟩;clear V;have aC:=B.trans' r;have W:=ak.trans (Sf.keep r);have s:=Blk.keep r (Blk.alloc o _);have d:=Blk.keep r (Blk.alloc c _);have a:Blk w2 (R.heap.size) #[.bool b5,.slice S n5 c5] 38:=Blk.keep r (Blk.at (Blk.new _ _ _) (by simp));obtain⟨X,Y,aD⟩:=s.all;have aE:w.heap.size≤w.heap.size:=by (first | omega | (have:=B.size;simp only[sz] at this;omega))
 obtain⟨C,D,aq⟩:=d.all;have ar:w.heap.size≤w.heap.size+1:=by (first | omega | (have:=B.size;simp only[sz] at this;omega))
 obtain⟨i,j,af⟩:=a.all;have ag:w.heap.size≤R.heap.size:=by (first | omega | (have:=B.size;simp only[sz] at this;omega))
 replace J:=J.soft W;replace hn:=hn.soft W;replace g:=g.soft W;clear o T U c y z
 go_wp2_with fail
 have kp2:Kp w _:=aC;have sf2:Sf 2 w2 _:=(Sf.refl 2 w2);have V:=sign_any n _ _ (hn.soft sf2);generalize n.sign=sn at V;refine V.mono ?_;rintro e w3 ⟨rfl,t⟩;clear V;have aF:=kp2.trans' t;have al:=sf2.trans (Sf.keep t);have K:=Blk.keep t s;have f:=Blk.keep t d;have b:=Blk.keep t a;obtain⟨Z,aa,aG⟩:=K.all;have aH:w.heap.size≤w.heap.size:=by (first | omega | (have:=kp2.size;simp only[sz] at this;omega))
 obtain⟨F,G,au⟩:=f.all;have av:w.heap.size≤w.heap.size+1:=by (first | omega | (have:=kp2.size;simp only[sz] at this;omega))
 obtain⟨k,l,ah⟩:=b.all;have ai:w.heap.size≤R.heap.size:=by (first | omega | (have:=kp2.size;simp only[sz] at this;omega))
 replace J:=J.soft al;replace g:=g.soft al;clear s X Y d C D a i j
 go_wp2_with fail
 have am:Kp w _:=aF;have ac:Sf 2 w3 _:=(Sf.refl 2 w3);refine(floor_any (p+rt) q (m+1) _ _ _ (g.soft ac) (J.soft ac) (by omega) (Ft.add fp fr) (fq.mono (by omega)) ay).mono ?_;rintro e w4 ⟨v6,rfl,an,ad⟩;obtain⟨b8,ae,n8,c8,rfl⟩:=an.shape';have aI:=am.trans' ad;have aL:=ac.trans (Sf.keep ad);have u:=Blk.keep ad f;obtain⟨H,aw,ax⟩:=u.all;have I:w.heap.size≤w.heap.size+1:=by (first | omega | (have:=am.size;simp only[sz] at this;omega))
 clear K Z aa f F G b k l
 go_wp2_with fail
 refine bodyPost_ret (v:=.agg #[.bool b8,.slice ae n8 c8]) (by simp[results,Tryz.results39,go_sem,H]) rfl ?_;have aJ:Kp w _:=(stK2 (A:=w.heap.size+1) (.bool b8) (.slice ae n8 c8) aI (by have:=I;omega))
 have aK:Sf 2 w4 _:=(stS2 (E:=2) (.bool b8) (.slice ae n8 c8) u (by decide));exact retW_mk an aK aJ
theorem term_nil (p q n:Int) (m:Nat) (v:Value) (w:World) (hv:RR w v p q n) (hm:m≤100000000) (fp:Ft m p) (fq:Ft m q) (fr:Ft m ((isq n.toNat:Nat):Int)) (h:q<0) (k:n=0) :
  Calls Tryz.prog 39 #[v] w (RetW w (fl (p+(isq n.toNat:Nat)) q)):=by
 obtain⟨b1,M,n1,c1,b2,N,n2,c2,b3,O,n3,c3,b4,P,n4,c4,rfl,hp,K,hn,hr⟩:=hv;have HQ:Hid (q.sign = -1):=Hid.mk (Int.sign_eq_neg_one_of_neg h);have HK:Hid (n.sign=0):=Hid.mk (by rw[k];rfl)
 have az:q≠0:=by omega
 have f1:Ft m (1:Int):=fq.le (by omega);generalize ((isq n.toNat:Nat):Int)=rt at *;clear h k
 go_enter Tryz.func39,Tryz.ntmps39
 go_wp2_with fail
 have Q:Kp w _:=(Kp.alloc' (Kp.alloc' (Below.refl w.heap.size w) (.cells #[.bool b1,.slice M n1 c1,.bool b2,.slice N n2 c2,.bool b3,.slice O n3 c3,.bool b4,.slice P n4 c4] 44)) (.cells #[.bool false,.slice none 0 0] 38));have R:Sf 2 w _:=(Sf.alloc (Sf.alloc (Sf.refl 2 w) (.cells #[.bool b1,.slice M n1 c1,.bool b2,.slice N n2 c2,.bool b3,.slice O n3 c3,.bool b4,.slice P n4 c4] 44)) (.cells #[.bool false,.slice none 0 0] 38));refine(add_any p rt _ _ _ (hp.soft R) (hr.soft R) (fp.fit (by omega)) (fr.fit (by omega))).mono ?_;rintro e S ⟨v1,rfl,g,y⟩;obtain⟨b5,T,n5,c5,rfl⟩:=g.shape';have aA:=Q.trans' y;have ak:=R.trans (Sf.keep y);have r:Blk S (w.heap.size) #[.bool b1,.slice M n1 c1,.bool b2,.slice N n2 c2,.bool b3,.slice O n3 c3,.bool b4,.slice P n4 c4] 44:=Blk.keep y (Blk.at (Blk.alloc (Blk.new _ _ _) _) (by simp));have c:Blk S (w.heap.size+1) #[.bool false,.slice none 0 0] 38:=Blk.keep y (Blk.at (Blk.new _ _ _) (by simp));obtain⟨U,V,aB⟩:=r.all;have aC:w.heap.size≤w.heap.size:=by (first | omega | (have:=Q.size;simp only[sz] at this;omega))
 obtain⟨z,B,ap⟩:=c.all;have aq:w.heap.size≤w.heap.size+1:=by (first | omega | (have:=Q.size;simp only[sz] at this;omega))
 replace K:=K.soft ak;replace hn:=hn.soft ak
 go_wp2_with fail
 have C:Kp w _:=(Kp.alloc' aA (.cells #[.bool b5,.slice T n5 c5] 38));have al:Sf 2 S _:=(Sf.alloc (Sf.refl 2 S) (.cells #[.bool b5,.slice T n5 c5] 38));have W:=sign_any q _ _ (K.soft al);rw[HQ.out] at W;refine W.mono ?_;rintro e w2 ⟨rfl,s⟩;clear W;have aD:=C.trans' s;have X:=al.trans (Sf.keep s);have t:=Blk.keep s (Blk.alloc r _);have d:=Blk.keep s (Blk.alloc c _);have a:Blk w2 (S.heap.size) #[.bool b5,.slice T n5 c5] 38:=Blk.keep s (Blk.at (Blk.new _ _ _) (by simp));obtain⟨Y,Z,aE⟩:=t.all;have aF:w.heap.size≤w.heap.size:=by (first | omega | (have:=C.size;simp only[sz] at this;omega))
 obtain⟨D,F,ar⟩:=d.all;have au:w.heap.size≤w.heap.size+1:=by (first | omega | (have:=C.size;simp only[sz] at this;omega))
 obtain⟨i,j,ag⟩:=a.all;have ah:w.heap.size≤S.heap.size:=by (first | omega | (have:=C.size;simp only[sz] at this;omega))
 replace K:=K.soft X;replace hn:=hn.soft X;replace g:=g.soft X;clear r U V c z B
 go_wp2_with fail
 have kp2:Kp w _:=aD;have sf2:Sf 2 w2 _:=(Sf.refl 2 w2);have W:=sign_any n _ _ (hn.soft sf2);rw[HK.out] at W;refine W.mono ?_;rintro e w3 ⟨rfl,u⟩;clear W;have aG:=kp2.trans' u;have am:=sf2.trans (Sf.keep u);have L:=Blk.keep u t;have f:=Blk.keep u d;have b:=Blk.keep u a;obtain⟨aa,ac,aH⟩:=L.all;have aI:w.heap.size≤w.heap.size:=by (first | omega | (have:=kp2.size;simp only[sz] at this;omega))
 obtain⟨G,H,av⟩:=f.all;have aw:w.heap.size≤w.heap.size+1:=by (first | omega | (have:=kp2.size;simp only[sz] at this;omega))
 obtain⟨l,o,ai⟩:=b.all;have aj:w.heap.size≤S.heap.size:=by (first | omega | (have:=kp2.size;simp only[sz] at this;omega))
 replace K:=K.soft am;replace g:=g.soft am;clear t Y Z d D F a i j
 go_wp2_with fail
 have an:Kp w _:=aG;have ad:Sf 2 w3 _:=(Sf.refl 2 w3);refine(floor_any (p+rt) q (m+1) _ _ _ (g.soft ad) (K.soft ad) (by omega) (Ft.add fp fr) (fq.mono (by omega)) az).mono ?_;rintro e w4 ⟨v6,rfl,ao,ae⟩;obtain⟨b8,af,n8,c8,rfl⟩:=ao.shape';have aJ:=an.trans' ae;have aM:=ad.trans (Sf.keep ae);have x:=Blk.keep ae f;obtain⟨I,ax,ay⟩:=x.all;have J:w.heap.size≤w.heap.size+1:=by (first | omega | (have:=an.size;simp only[sz] at this;omega))
 clear L aa ac f G H b l o
 go_wp2_with fail
 refine bodyPost_ret (v:=.agg #[.bool b8,.slice af n8 c8]) (by simp[results,Tryz.results39,go_sem,I]) rfl ?_;have aK:Kp w _:=(stK2 (A:=w.heap.size+1) (.bool b8) (.slice af n8 c8) aJ (by have:=J;omega))
 have aL:Sf 2 w4 _:=(stS2 (E:=2) (.bool b8) (.slice af n8 c8) x (by decide));exact retW_mk ao aL aK
theorem term_min (p q n:Int) (m:Nat) (v:Value) (w:World) (hv:RR w v p q n) (hm:m≤100000000) (fp:Ft m p) (fq:Ft m q) (fr:Ft m ((isq n.toNat:Nat):Int)) (h:q<0) (k:0<n) :
  Calls Tryz.prog 39 #[v] w (RetW w (fl (p+(isq n.toNat:Nat)+1) q)):=by
 obtain⟨b1,af,n1,c1,b2,ag,n2,c2,b3,ah,n3,c3,b4,ai,n4,c4,rfl,hp,D,hn,hr⟩:=hv;have HQ:Hid (q.sign = -1):=Hid.mk (Int.sign_eq_neg_one_of_neg h);have HK:Hid (n.sign=1):=Hid.mk (Int.sign_eq_one_of_pos k);have aU:q≠0:=by omega
 have f1:Ft m (1:Int):=fq.le (by omega);generalize ((isq n.toNat:Nat):Int)=rt at *;clear h k
 go_enter Tryz.func39,Tryz.ntmps39
 go_wp2_with fail
 have aV:Kp w _:=(Kp.alloc' (Kp.alloc' (Below.refl w.heap.size w) (.cells #[.bool b1,.slice af n1 c1,.bool b2,.slice ag n2 c2,.bool b3,.slice ah n3 c3,.bool b4,.slice ai n4 c4] 44)) (.cells #[.bool false,.slice none 0 0] 38));have aj:Sf 2 w _:=(Sf.alloc (Sf.alloc (Sf.refl 2 w) (.cells #[.bool b1,.slice af n1 c1,.bool b2,.slice ag n2 c2,.bool b3,.slice ah n3 c3,.bool b4,.slice ai n4 c4] 44)) (.cells #[.bool false,.slice none 0 0] 38));refine(add_any p rt _ _ _ (hp.soft aj) (hr.soft aj) (fp.fit (by omega)) (fr.fit (by omega))).mono ?_;rintro e w1 ⟨v1,rfl,f,O⟩;obtain⟨b5,ak,n5,c5,rfl⟩:=f.shape';have aW:=aV.trans' O;have aF:=aj.trans (Sf.keep O);have F:Blk w1 (w.heap.size) #[.bool b1,.slice af n1 c1,.bool b2,.slice ag n2 c2,.bool b3,.slice ah n3 c3,.bool b4,.slice ai n4 c4] 44:=Blk.keep O (Blk.at (Blk.alloc (Blk.new _ _ _) _) (by simp));have g:Blk w1 (w.heap.size+1) #[.bool false,.slice none 0 0] 38:=Blk.keep O (Blk.at (Blk.new _ _ _) (by simp));obtain⟨al,am,aX⟩:=F.all;obtain⟨P,Q,aN⟩:=g.all;replace D:=D.soft aF;replace hn:=hn.soft aF
 go_wp2_with fail
 have aY:Kp w _:=(Kp.alloc' aW (.cells #[.bool b5,.slice ak n5 c5] 38));have aG:Sf 2 w1 _:=(Sf.alloc (Sf.refl 2 w1) (.cells #[.bool b5,.slice ak n5 c5] 38));have hS:=sign_any q _ _ (D.soft aG);rw[HQ.out] at hS;refine hS.mono ?_;rintro e w2 ⟨rfl,G⟩;clear hS;have aZ:=aY.trans' G;have an:=aG.trans (Sf.keep G);have H:=Blk.keep G (Blk.alloc F _);have i:=Blk.keep G (Blk.alloc g _);have a:Blk w2 (w1.heap.size) #[.bool b5,.slice ak n5 c5] 38:=Blk.keep G (Blk.at (Blk.new _ _ _) (by simp));obtain⟨ao,ap,a0⟩:=H.all;obtain⟨R,S,aO⟩:=i.all;obtain⟨r,s,aB⟩:=a.all;replace D:=D.soft an;replace hn:=hn.soft an;replace f:=f.soft an;clear F al am g P Q
 go_wp2_with fail
 have kp2:Kp w _:=aZ;have sf2:Sf 2 w2 _:=(Sf.refl 2 w2);have hS:=sign_any n _ _ (hn.soft sf2);rw[HK.out] at hS;refine hS.mono ?_;rintro e w3 ⟨rfl,I⟩;clear hS;have a1:=kp2.trans' I;have aH:=sf2.trans (Sf.keep I);have J:=Blk.keep I H;have j:=Blk.keep I i;have b:=Blk.keep I a;obtain⟨aq,ar,a2⟩:=J.all;obtain⟨T,U,aP⟩:=j.all;obtain⟨t,u,aC⟩:=b.all;replace D:=D.soft aH;replace f:=f.soft aH;clear H ao ap i R S a r s
 go_wp2_with fail
 have a3:Kp w _:=a1;have a4:Sf 2 w3 _:=(Sf.refl 2 w3);refine(fromInt_any 1 _ (by decide) (by decide)).mono ?_;rintro e w4 ⟨v4,rfl,ac,K⟩;obtain⟨b6,aI,n6,c6,rfl⟩:=ac.shape';have a5:=a3.trans' K;have aJ:=a4.trans (Sf.keep K);have L:=Blk.keep K J;have l:=Blk.keep K j;have c:=Blk.keep K b;obtain⟨au,av,a6⟩:=L.all;obtain⟨V,W,aQ⟩:=l.all;obtain⟨x,y,aD⟩:=c.all;replace D:=D.soft aJ;replace f:=f.soft aJ;clear J aq ar j T U b t u
 go_wp2_with fail
 have kp4:Kp w _:=(Kp.alloc' a5 (.cells #[.bool b6,.slice aI n6 c6] 38));have sf4:Sf 2 w4 _:=(Sf.alloc (Sf.refl 2 w4) (.cells #[.bool b6,.slice aI n6 c6] 38));refine(add_any (p+rt) 1 _ _ _ (f.soft sf4) (ac.soft sf4) ((Ft.add fp fr).fit (by omega)) (f1.fit (by omega))).mono ?_;rintro e w5 ⟨v5,rfl,ad,M⟩;obtain⟨b7,aK,n7,c7,rfl⟩:=ad.shape';have a7:=kp4.trans' M;have a8:=sf4.trans (Sf.keep M);have ae:=Blk.keep M (Blk.alloc L _);have o:=Blk.keep M (Blk.alloc l _);have d:=Blk.keep M (Blk.alloc c _);obtain⟨aw,ax,a9⟩:=ae.all;obtain⟨X,Y,aR⟩:=o.all;obtain⟨z,B,aE⟩:=d.all;have C:w.heap.size≤w1.heap.size:=by (first | omega | (have:=kp4.size;simp only[sz] at this;omega))
 replace D:=D.soft a8;clear L au av l V W c x y
 go_wp2_with fail
 have aL:Kp w _:=(stK2 (A:=w1.heap.size) (.bool b7) (.slice aK n7 c7) a7 (by have:=C;omega))
 have ay:Sf 2 w5 _:=(stS2 (E:=2) (.bool b7) (.slice aK n7 c7) d (by decide));refine(floor_any (p+rt+1) q (m+1+1) _ _ _ (ad.soft ay) (D.soft ay) (by omega) (Ft.add (Ft.add fp fr) (f1.mono (by omega))) (fq.mono (by omega)) aU).mono ?_;rintro e w6 ⟨v6,rfl,aM,az⟩;obtain⟨b8,aA,n8,c8,rfl⟩:=aM.shape';have ba:=aL.trans' az;have be:=ay.trans (Sf.keep az);have N:=Blk.keep az (Blk.other (Blk.other o (by omega)) (by omega));obtain⟨Z,aS,aT⟩:=N.all;have aa:w.heap.size≤w.heap.size+1:=by (first | omega | (have:=aL.size;simp only[sz] at this;omega))
 clear ae aw ax o X Y d z B
 go_wp2_with fail
 refine bodyPost_ret (v:=.agg #[.bool b8,.slice aA n8 c8]) (by simp[results,Tryz.results39,go_sem,Z]) rfl ?_;have bb:Kp w _:=(stK2 (A:=w.heap.size+1) (.bool b8) (.slice aA n8 c8) ba (by have:=aa;omega))
 have bc:Sf 2 w6 _:=(stS2 (E:=2) (.bool b8) (.slice aA n8 c8) N (by decide));exact retW_mk aM bc bb
theorem term_any (p q n:Int) (m:Nat) (v:Value) (w:World) (a:RR w v p q n) (b:m≤100000000) (c:Ft m p) (d:Ft m q) (fr:Ft m ((isq n.toNat:Nat):Int)) (e:q≠0) (f:0≤n) :
  Calls Tryz.prog 39 #[v] w (RetW w (trm p q n)):=by
 unfold trm;by_cases h:0<q
 ·rw[if_neg (by omega),Int.add_zero];exact term_pos p q n m v w a b c d fr h
 ·by_cases k:n=0
  ·rw[if_neg (by omega),Int.add_zero];exact term_nil p q n m v w a b c d fr (by omega) k
  ·rw[if_pos (by omega)];exact term_min p q n m v w a b c d fr (by omega) (by omega)
end
section
open Go.RowKit
def nxp (p q n:Int):Int:=trm p q n*q - p
def nxq (p q n:Int):Int:=(n - nxp p q n*nxp p q n).tdiv q
def RetNx (w:World) (t p q n:Int) (e:Ending) (a:World):Prop:=∃ u v,e=.returned (.tuple #[u,v])∧WN a u t∧RR a v p q n∧Kp w a
theorem trm_ft {p q n:Int} {m:Nat} (b:Ft m p) (a:Ft m q) (fr:Ft m ((isq n.toNat:Nat):Int)) (c:q≠0):Ft (m+1+1) (trm p q n):=by
 have f1:Ft m (1:Int):=a.le (by omega);have f0:Ft m (0:Int):=a.le (by omega);have f:Ft (m+1+1) (p+(isq n.toNat:Nat)+(if q<0∧0<n then 1 else 0)):=by
  refine Ft.add (Ft.add b fr) ?_
  split
  ·exact f1.mono (by omega)
  ·exact f0.mono (by omega)
 exact f.le (fl_abs _ _)
theorem next_any (p q n:Int) (m:Nat) (v:Value) (w:World) (hv:RR w v p q n) (hm:m≤40000000) (fp:Ft m p) (fq:Ft m q) (fn:Ft m n) (fr:Ft m ((isq n.toNat:Nat):Int)) (bg:q≠0) (b0:0≤n) :
  Calls Tryz.prog 17 #[v] w (RetNx w (trm p q n) (nxp p q n) (nxq p q n) n):=by
 have ft:=trm_ft fp fq fr bg;have HT:=fun(W:World) (hW:RR W v p q n)=>term_any p q n m v W hW (by omega) fp fq fr bg b0;obtain⟨b1,aG,n1,c1,b2,aH,n2,c2,b3,i,n3,c3,b4,j,n4,c4,rfl,hp,hq,U,X⟩:=id hv;have HP:Hid (trm p q n*q - p=nxp p q n):=Hid.mk rfl;have HQ:Hid ((n - nxp p q n*nxp p q n).tdiv q=nxq p q n):=Hid.mk rfl;generalize trm p q n=t at *;have fx:Ft (m+1+1+m+1) (nxp p q n):=by
  rw[← HP.out];have:=Ft.add (ft.mul fq) (fp.neg.mono (show m≤m+1+1+m by omega))
  rwa [← Int.sub_eq_add_neg] at this
 generalize nxp p q n=x at *;generalize nxq p q n=y at *
 go_enter Tryz.func17,Tryz.ntmps17
 go_wp2_with fail
 have ca:Kp w _:=(Kp.alloc' (Kp.alloc' (Kp.alloc' (Below.refl w.heap.size w) (.cells #[.bool b1,.slice aG n1 c1,.bool b2,.slice aH n2 c2,.bool b3,.slice i n3 c3,.bool b4,.slice j n4 c4] 44)) (.cells #[.bool false,.slice none 0 0] 38)) (.cells #[.bool false,.slice none 0 0,.bool false,.slice none 0 0,.bool false,.slice none 0 0,.bool false,.slice none 0 0] 44));have bh:Sf 2 w _:=(Sf.alloc (Sf.alloc (Sf.alloc (Sf.refl 2 w) (.cells #[.bool b1,.slice aG n1 c1,.bool b2,.slice aH n2 c2,.bool b3,.slice i n3 c3,.bool b4,.slice j n4 c4] 44)) (.cells #[.bool false,.slice none 0 0] 38)) (.cells #[.bool false,.slice none 0 0,.bool false,.slice none 0 0,.bool false,.slice none 0 0,.bool false,.slice none 0 0] 44));refine(HT _ (hv.soft bh)).mono ?_;rintro e w1 ⟨v1,rfl,Y,ac⟩;obtain⟨b5,u,n5,c5,rfl⟩:=Y.shape';clear HT;have cb:=ca.trans' ac;have aI:=bh.trans (Sf.keep ac);have ad:Blk w1 (w.heap.size) #[.bool b1,.slice aG n1 c1,.bool b2,.slice aH n2 c2,.bool b3,.slice i n3 c3,.bool b4,.slice j n4 c4] 44:=Blk.keep ac (Blk.at (Blk.alloc (Blk.alloc (Blk.new _ _ _) _) _) (by simp));have M:Blk w1 (w.heap.size+1) #[.bool false,.slice none 0 0] 38:=Blk.keep ac (Blk.at (Blk.alloc (Blk.new _ _ _) _) (by simp));have z:Blk w1 (w.heap.size+1+1) #[.bool false,.slice none 0 0,.bool false,.slice none 0 0,.bool false,.slice none 0 0,.bool false,.slice none 0 0] 44:=Blk.keep ac (Blk.at (Blk.new _ _ _) (by simp));obtain⟨aX,aY,cc⟩:=ad.all;obtain⟨aJ,aK,bM⟩:=M.all;obtain⟨ae,af,bi⟩:=z.all;replace hp:=hp.soft aI;replace hq:=hq.soft aI;replace U:=U.soft aI;replace X:=X.soft aI
 go_wp2_with fail
 have cd:Kp w _:=(Kp.alloc' cb (.cells #[.bool b5,.slice u n5 c5] 38));have aZ:Sf 2 w1 _:=(Sf.alloc (Sf.refl 2 w1) (.cells #[.bool b5,.slice u n5 c5] 38));refine(multiply_any t q _ _ _ (Y.soft aZ) (hq.soft aZ) (ft.fit (by omega)) (fq.fit (by omega))).mono ?_;rintro e w2 ⟨v2,rfl,bj,Z⟩;obtain⟨b6,bm,n6,c6,rfl⟩:=bj.shape';have ce:=cd.trans' Z;have ag:=aZ.trans (Sf.keep Z);have ah:=Blk.keep Z (Blk.alloc ad _);have N:=Blk.keep Z (Blk.alloc M _);have B:=Blk.keep Z (Blk.alloc z _);have C:Blk w2 (w1.heap.size) #[.bool b5,.slice u n5 c5] 38:=Blk.keep Z (Blk.at (Blk.new _ _ _) (by simp));obtain⟨a0,a1,cf⟩:=ah.all;obtain⟨aL,aM,bN⟩:=N.all;obtain⟨ai,aj,bn⟩:=B.all;obtain⟨ak,al,bo⟩:=C.all;replace hp:=hp.soft ag;replace hq:=hq.soft ag;replace U:=U.soft ag;replace X:=X.soft ag;replace Y:=Y.soft ag;clear ad aX aY M aJ aK z ae af
 go_wp2_with fail
 have kp2:Kp w _:=(Kp.alloc' ce (.cells #[.bool b6,.slice bm n6 c6] 38));have sf2:Sf 2 w2 _:=(Sf.alloc (Sf.refl 2 w2) (.cells #[.bool b6,.slice bm n6 c6] 38));refine(wsub_any (t*q) p _ _ _ (bj.soft sf2) (hp.soft sf2) ((ft.mul fq).fit (by omega)) (fp.fit (by omega))).mono ?_;rintro e w3 ⟨v3,rfl,hx,aa⟩;obtain⟨b7,k,n7,c7,rfl⟩:=hx.shape';rw[HP.out] at hx;have cg:=kp2.trans' aa;have aN:=sf2.trans (Sf.keep aa);have am:=Blk.keep aa (Blk.alloc ah _);have O:=Blk.keep aa (Blk.alloc N _);have D:=Blk.keep aa (Blk.alloc B _);have F:=Blk.keep aa (Blk.alloc C _);obtain⟨a2,a3,ch⟩:=am.all;obtain⟨aO,aP,bO⟩:=O.all;obtain⟨an,ao,bp⟩:=D.all;obtain⟨ap,aq,bq⟩:=F.all;replace hq:=hq.soft aN;replace U:=U.soft aN;replace X:=X.soft aN;replace Y:=Y.soft aN;clear ah a0 a1 N aL aM B ai aj C ak al
 go_wp2_with fail
 have ci:Kp w _:=(Kp.alloc' cg (.cells #[.bool b7,.slice k n7 c7] 38));have a4:Sf 2 w3 _:=(Sf.alloc (Sf.refl 2 w3) (.cells #[.bool b7,.slice k n7 c7] 38));refine(multiply_any x x _ _ _ (hx.soft a4) (hx.soft a4) (fx.fit (by omega)) (fx.fit (by omega))).mono ?_;rintro e w4 ⟨v4,rfl,hs,P⟩;obtain⟨b8,br,n8,c8,rfl⟩:=hs.shape';have cj:=ci.trans' P;have ar:=a4.trans (Sf.keep P);have au:=Blk.keep P (Blk.alloc am _);have Q:=Blk.keep P (Blk.alloc O _);have G:=Blk.keep P (Blk.alloc D _);have H:=Blk.keep P (Blk.alloc F _);have a5:Blk w4 (w3.heap.size) #[.bool b7,.slice k n7 c7] 38:=Blk.keep P (Blk.at (Blk.new _ _ _) (by simp));obtain⟨a6,a7,ck⟩:=au.all;obtain⟨aQ,aR,bP⟩:=Q.all;obtain⟨av,aw,bs⟩:=G.all;obtain⟨ax,ay,bt⟩:=H.all;obtain⟨bu,bv,cz⟩:=a5.all;replace hq:=hq.soft ar;replace U:=U.soft ar;replace X:=X.soft ar;replace Y:=Y.soft ar;replace hx:=hx.soft ar;clear am a2 a3 O aO aP D an ao F ap aq
 go_wp2_with fail
 have kp4:Kp w _:=(Kp.alloc' cj (.cells #[.bool b8,.slice br n8 c8] 38));have sf4:Sf 2 w4 _:=(Sf.alloc (Sf.refl 2 w4) (.cells #[.bool b8,.slice br n8 c8] 38));have fs:=fx.mul fx;refine(wsub_any n (x*x) _ _ _ (U.soft sf4) (hs.soft sf4) (fn.fit (by omega)) (fs.fit (by omega))).mono ?_;rintro e w5 ⟨v5,rfl,bw,R⟩;obtain⟨b9,bx,n9,c9,rfl⟩:=bw.shape';have cl:=kp4.trans' R;have az:=sf4.trans (Sf.keep R);have aA:=Blk.keep R (Blk.alloc au _);have S:=Blk.keep R (Blk.alloc Q _);have I:=Blk.keep R (Blk.alloc G _);have J:=Blk.keep R (Blk.alloc H _);have a8:=Blk.keep R (Blk.alloc a5 _);obtain⟨a9,ba,cm⟩:=aA.all;obtain⟨aS,aT,bQ⟩:=S.all;obtain⟨aB,aC,bz⟩:=I.all;obtain⟨aD,aE,bA⟩:=J.all;obtain⟨bB,bC,cA⟩:=a8.all;replace hq:=hq.soft az;replace U:=U.soft az;replace X:=X.soft az;replace Y:=Y.soft az;replace hx:=hx.soft az;clear au a6 a7 Q aQ aR G av aw H ax ay a5 bu bv
 go_wp2_with fail
 have bb:Kp w _:=(Kp.alloc' cl (.cells #[.bool b9,.slice bx n9 c9] 38));have bc:Sf 2 w5 _:=(Sf.alloc (Sf.refl 2 w5) (.cells #[.bool b9,.slice bx n9 c9] 38));have cn:Ft (m+1+1+m+1+(m+1+1+m+1)+1) (n - x*x):=by
  have:=Ft.add (fn.mono (show m≤m+1+1+m+1+(m+1+1+m+1) by omega)) fs.neg
  rwa [← Int.sub_eq_add_neg] at this
 refine(divide_any (n - x*x) q _ _ _ _ (bw.soft bc) (hq.soft bc) (by omega) cn (fq.mono (by omega))).mono ?_;rintro e w6 ⟨v6,v7,rfl,hy,bD,T⟩;obtain⟨d,b,f,g,rfl⟩:=hy.shape';obtain⟨l,h,r,s,rfl⟩:=bD.shape';rw[HQ.out] at hy;clear bD;have co:=bb.trans' T;have aU:=bc.trans (Sf.keep T);have aW:=Blk.keep T (Blk.alloc aA _);have K:=Blk.keep T (Blk.alloc S _);have a:=Blk.keep T (Blk.alloc I _);have V:=Blk.keep T (Blk.alloc J _);have bE:=Blk.keep T (Blk.alloc a8 _);obtain⟨cp,cq,cr⟩:=aW.all;obtain⟨bR,bS,bT⟩:=K.all;have aV:w.heap.size≤w.heap.size+1:=by (first | omega | (have:=bb.size;simp only[sz] at this;omega))
 obtain⟨bF,bG,bH⟩:=a.all;have L:w.heap.size≤w.heap.size+1+1:=by (first | omega | (have:=bb.size;simp only[sz] at this;omega))
 obtain⟨bI,bJ,bK⟩:=V.all;obtain⟨cB,cC,cD⟩:=bE.all;replace U:=U.soft aU;replace X:=X.soft aU;replace Y:=Y.soft aU;replace hx:=hx.soft aU;clear aA a9 ba S aS aT I aB aC J aD aE a8 bB bC;have ct:Blk ((w6.alloc (.cells #[.bool d,.slice b f g] 38)).alloc (.cells #[.bool l,.slice h r s] 38)) (w.heap.size) #[.bool b1,.slice aG n1 c1,.bool b2,.slice aH n2 c2,.bool b3,.slice i n3 c3,.bool b4,.slice j n4 c4] 44:=Blk.alloc (Blk.alloc aW _) _;obtain⟨cE,cF,cG⟩:=ct.all;have bL:Blk ((w6.alloc (.cells #[.bool d,.slice b f g] 38)).alloc (.cells #[.bool l,.slice h r s] 38)) (w.heap.size+1) #[.bool false,.slice none 0 0] 38:=Blk.alloc (Blk.alloc K _) _;obtain⟨cu,cw,cx⟩:=bL.all;have be:Blk ((w6.alloc (.cells #[.bool d,.slice b f g] 38)).alloc (.cells #[.bool l,.slice h r s] 38)) (w.heap.size+1+1) #[.bool false,.slice none 0 0,.bool false,.slice none 0 0,.bool false,.slice none 0 0,.bool false,.slice none 0 0] 44:=Blk.alloc (Blk.alloc a _) _;obtain⟨bU,bV,bW⟩:=be.all;have bf:Blk ((w6.alloc (.cells #[.bool d,.slice b f g] 38)).alloc (.cells #[.bool l,.slice h r s] 38)) (w1.heap.size) #[.bool b5,.slice u n5 c5] 38:=Blk.alloc (Blk.alloc V _) _;obtain⟨bX,bY,bZ⟩:=bf.all;have Tp:Blk ((w6.alloc (.cells #[.bool d,.slice b f g] 38)).alloc (.cells #[.bool l,.slice h r s] 38)) (w3.heap.size) #[.bool b7,.slice k n7 c7] 38:=Blk.alloc (Blk.alloc bE _) _;obtain⟨cH,cI,cJ⟩:=Tp.all;have Tq:Blk ((w6.alloc (.cells #[.bool d,.slice b f g] 38)).alloc (.cells #[.bool l,.slice h r s] 38)) (w6.heap.size) #[.bool d,.slice b f g] 38:=Blk.alloc (Blk.new w6 _ _) _;have cK:=Tq.cell
 go_wp2_with fail
 go_region
 all_goals
  go_wp2_with fail
  have E1:=Blk.drew (Blk.alloc (Blk.alloc (Blk.other (c:=w.heap.size+1+1) (o:=7) (y:=.slice j n4 c4) (Blk.other (c:=w.heap.size+1+1) (o:=6) (y:=.bool b4) (Blk.other (c:=w.heap.size+1+1) (o:=5) (y:=.slice i n3 c3) (Blk.other (c:=w.heap.size+1+1) (o:=4) (y:=.bool b3) (Blk.other (c:=w.heap.size+1+1) (o:=3) (y:=.slice b f g) (Blk.other (c:=w.heap.size+1+1) (o:=2) (y:=.bool d) (Blk.other (c:=w.heap.size+1+1) (o:=1) (y:=.slice k n7 c7) (Blk.other (c:=w.heap.size+1+1) (o:=0) (y:=.bool b7) (Blk.set (o:=1) (y:=.slice u n5 c5) (Blk.set (o:=0) (y:=.bool b5) K)) (by omega)) (by omega)) (by omega)) (by omega)) (by omega)) (by omega)) (by omega)) (by omega)) (.cells #[.bool d,.slice b f g] 38)) (.cells #[.bool l,.slice h r s] 38));have E2:=Blk.drew (Blk.alloc (Blk.alloc (Blk.set (o:=7) (y:=.slice j n4 c4) (Blk.set (o:=6) (y:=.bool b4) (Blk.set (o:=5) (y:=.slice i n3 c3) (Blk.set (o:=4) (y:=.bool b3) (Blk.set (o:=3) (y:=.slice b f g) (Blk.set (o:=2) (y:=.bool d) (Blk.set (o:=1) (y:=.slice k n7 c7) (Blk.set (o:=0) (y:=.bool b7) (Blk.other (c:=w.heap.size+1) (o:=1) (y:=.slice u n5 c5) (Blk.other (c:=w.heap.size+1) (o:=0) (y:=.bool b5) a (by omega)) (by omega)))))))))) (.cells #[.bool d,.slice b f g] 38)) (.cells #[.bool l,.slice h r s] 38));simp only[List.setIfInBounds_toArray,List.set_cons_zero,List.set_cons_succ] at E1 E2;have cy:Kp w _:=(Kp.drew' (Kp.alloc' (Kp.alloc' (Below.setCell (stK7 (A:=w.heap.size+1+1) (.bool b7) (.slice k n7 c7) (.bool d) (.slice b f g) (.bool b3) (.slice i n3 c3) (.bool b4) (stK2 (A:=w.heap.size+1) (.bool b5) (.slice u n5 c5) co (by have:=aV;omega)) (by have:=L;omega)) (p:=⟨w.heap.size+1+1,7,none⟩) (by have:=L;omega) (.slice j n4 c4)) (.cells #[.bool d,.slice b f g] 38)) (.cells #[.bool l,.slice h r s] 38)))
  have aF:Sf 2 w6 _:=(Sf.drew (Sf.alloc (Sf.alloc (Sf.set (t:=44) (c:=w.heap.size+1+1) (o:=7) (y:=.slice j n4 c4) (Sf.set (t:=44) (c:=w.heap.size+1+1) (o:=6) (y:=.bool b4) (Sf.set (t:=44) (c:=w.heap.size+1+1) (o:=5) (y:=.slice i n3 c3) (Sf.set (t:=44) (c:=w.heap.size+1+1) (o:=4) (y:=.bool b3) (Sf.set (t:=44) (c:=w.heap.size+1+1) (o:=3) (y:=.slice b f g) (Sf.set (t:=44) (c:=w.heap.size+1+1) (o:=2) (y:=.bool d) (Sf.set (t:=44) (c:=w.heap.size+1+1) (o:=1) (y:=.slice k n7 c7) (Sf.set (t:=44) (c:=w.heap.size+1+1) (o:=0) (y:=.bool b7) (stS2 (E:=2) (.bool b5) (.slice u n5 c5) K (by decide)) (by first | (simp only[elemOf_setCell];exact a.elem) | exact a.elem) (by decide)) (by first | (simp only[elemOf_setCell];exact a.elem) | exact a.elem) (by decide)) (by first | (simp only[elemOf_setCell];exact a.elem) | exact a.elem) (by decide)) (by first | (simp only[elemOf_setCell];exact a.elem) | exact a.elem) (by decide)) (by first | (simp only[elemOf_setCell];exact a.elem) | exact a.elem) (by decide)) (by first | (simp only[elemOf_setCell];exact a.elem) | exact a.elem) (by decide)) (by first | (simp only[elemOf_setCell];exact a.elem) | exact a.elem) (by decide)) (by first | (simp only[elemOf_setCell];exact a.elem) | exact a.elem) (by decide)) (.cells #[.bool d,.slice b f g] 38)) (.cells #[.bool l,.slice h r s] 38)))
  refine bodyPost_ret (v:=.tuple #[.agg #[.bool b5,.slice u n5 c5],.agg #[.bool b7,.slice k n7 c7,.bool d,.slice b f g,.bool b3,.slice i n3 c3,.bool b4,.slice j n4 c4]]) (by simp[results,Tryz.results17,go_sem,E1.cell,E2.cell]) rfl ?_;exact⟨_,_,rfl,Y.soft aF,⟨b7,k,n7,c7,d,b,f,g,b3,i,n3,c3,b4,j,n4,c4,rfl,hx.soft aF,hy.soft aF,U.soft aF,X.soft aF⟩,cy⟩
end
section
theorem fl_pos {x y:Int} (h:0<y):fl x y*y≤x∧x<fl x y*y+y:=by
 unfold fl;rw[if_pos h];have a:=Int.emod_add_mul_ediv x y;have b:=Int.emod_nonneg x (show y≠0 by omega);have c:=Int.emod_lt_of_pos x h;rw[Int.mul_comm] at a;omega
theorem fl_neg {x y:Int} (h:y<0):x≤fl x y*y∧fl x y*y+y<x:=by
 unfold fl;rw[if_neg (by omega)];have a:=Int.emod_add_mul_ediv (-x) (-y);have b:=Int.emod_nonneg (-x) (show -y≠0 by omega);have c:=Int.emod_lt_of_pos (-x) (show 0 < -y by omega);have e:-y*(-x / -y) = -(-x / -y*y):=by rw[Int.neg_mul,Int.mul_comm]
 rw[e] at a;omega
theorem isq_int {n:Int} (h:0≤n):((isq n.toNat:Nat):Int)*(isq n.toNat:Nat)≤n∧n<((isq n.toNat:Nat)+1)*((isq n.toNat:Nat)+1):=by
 obtain⟨a,b⟩:=isq_ok n.toNat;have e:(n.toNat:Int)=n:=Int.toNat_of_nonneg h;constructor
 ·rw[← e];exact_mod_cast a
 ·rw[← e];exact_mod_cast b
theorem nxp_at {p q n:Int}:(0<q→(isq n.toNat:Nat) - q<nxp p q n∧nxp p q n≤(isq n.toNat:Nat)) ∧
  (q<0→0<n→(isq n.toNat:Nat)+1≤nxp p q n∧nxp p q n<(isq n.toNat:Nat)+1 - q)∧(q<0→¬ 0<n→(isq n.toNat:Nat)≤nxp p q n∧nxp p q n<(isq n.toNat:Nat) - q):=by
 unfold nxp trm;refine⟨fun h=>?_,fun h k=>?_,fun h k=>?_⟩
 ·rw[if_neg (by omega)];have:=fl_pos (x:=p+(isq n.toNat:Nat)+0) h;omega
 ·rw[if_pos ⟨h,k⟩];have:=fl_neg (x:=p+(isq n.toNat:Nat)+1) h;omega
 ·rw[if_neg (by omega)];have:=fl_neg (x:=p+(isq n.toNat:Nat)+0) h;omega
theorem nxp_bd {p q n:Int} (d:q≠0):(nxp p q n).natAbs≤isq n.toNat+1+q.natAbs:=by
 obtain⟨a,b,c⟩:=nxp_at (p:=p) (q:=q) (n:=n);by_cases h:0<q
 ·have:=a h;omega
 ·by_cases k:0<n
  ·have:=b (by omega) k;omega
  ·have:=c (by omega) k;omega
theorem tdiv_bd {a b k:Int} (c:0≤k) (h:(a.natAbs:Int)≤b.natAbs*k):(a.tdiv b).natAbs≤k.natAbs:=by
 rw[Int.natAbs_tdiv];refine Nat.div_le_of_le_mul ?_;have:((a.natAbs:Nat):Int)≤((b.natAbs*k.natAbs:Nat):Int):=by
  rw[Int.natCast_mul,show ((k.natAbs:Nat):Int)=k by omega];exact h
 exact_mod_cast this
theorem nxq_bd {p q n:Int} (C:q≠0) (m:0≤n):(nxq p q n).natAbs≤4*isq n.toNat+4+q.natAbs:=by
 obtain⟨o,r,s⟩:=nxp_at (p:=p) (q:=q) (n:=n);obtain⟨t,D⟩:=isq_int m;unfold nxq;have u:0≤((isq n.toNat:Nat):Int):=by omega
 generalize hx:nxp p q n=x at *
 suffices v:∃ k:Int,0≤k∧(((n - x*x).natAbs:Nat):Int)≤q.natAbs*k∧k≤4*(isq n.toNat:Nat)+4+q.natAbs by
  obtain⟨k,w,y,E⟩:=v;have:=tdiv_bd w y;omega
 generalize ((isq n.toNat:Nat):Int)=S at *;by_cases h:0<q
 ·obtain⟨a,b⟩:=o h;refine⟨3*S+x.natAbs,by omega,?_,by omega⟩;have e:n - x*x=(n - S*S)+(S - x)*(S+x):=by grind
  have d:(q.natAbs:Int)=q:=by omega
  have i:0≤(S - x):=by omega
  have j:(S - x)*(S+x)≤q*(S+x.natAbs):=by
   refine Int.le_trans (Int.mul_le_mul_of_nonneg_left (show S+x≤S+x.natAbs by omega) i) ?_;exact Int.mul_le_mul_of_nonneg_right (by omega) (by omega)
  have l:-(q*(S+x.natAbs))≤(S - x)*(S+x):=by
   have:=Int.mul_le_mul_of_nonneg_left (show -(S+x)≤S+x.natAbs by omega) i;have c:=Int.mul_le_mul_of_nonneg_right (show S - x≤q by omega) (show 0≤S+(x.natAbs:Int) by omega);rw[Int.mul_neg] at this;omega
  have z:2*S≤q*(2*S):=by
   have:=Int.mul_le_mul_of_nonneg_right (show 1≤q by omega) (show 0≤2*S by omega);omega
  have A:n - S*S≤2*S:=by
   have:(S+1)*(S+1)=S*S+2*S+1:=by grind
   omega
  have f:q*(3*S+x.natAbs)=q*(S+x.natAbs)+q*(2*S):=by grind
  rw[d,f];omega
 ·have d:(q.natAbs:Int) = -q:=by omega
  by_cases k:0<n
  ·obtain⟨a,b⟩:=r (by omega) k;refine⟨3*S+2+x.natAbs,by omega,?_,by omega⟩;have e:n - x*x=(n - (S+1)*(S+1)) - (x - (S+1))*(x+(S+1)):=by grind
   have j:(x - (S+1))*(x+(S+1))≤-q*(x+(S+1)):=Int.mul_le_mul_of_nonneg_right (by omega) (by omega);have l:0≤(x - (S+1))*(x+(S+1)):=Int.mul_nonneg (by omega) (by omega);have z:2*S+1≤-q*(2*S+1):=by
    have:=Int.mul_le_mul_of_nonneg_right (show 1≤-q by omega) (show 0≤2*S+1 by omega);omega
   have A:(S+1)*(S+1)=S*S+2*S+1:=by grind
   have f:-q*(3*S+2+x.natAbs) = -q*(x+(S+1))+-q*(2*S+1):=by rw[show (x.natAbs:Int)=x by omega];grind
   rw[d,f];omega
  ·obtain⟨a,b⟩:=s (by omega) k;have g:n=0:=by omega
   subst g;have B:S=0:=by
    have:S*S≤0:=t;rcases Int.lt_or_eq_of_le u with h | h
    ·have:=Int.mul_pos h h;omega
    ·omega
   refine⟨x,by omega,?_,by omega⟩;have j:x*x≤-q*x:=Int.mul_le_mul_of_nonneg_right (by omega) (by omega);have l:0≤x*x:=sq_nonneg' x;rw[d];omega
def rst (p q n:Int):Nat→Int × Int
 | 0=>(p,q)
 | i+1=>(nxp (rst p q n i).1 (rst p q n i).2 n,nxq (rst p q n i).1 (rst p q n i).2 n)
theorem rst_bd {p q n:Int} (a:0≤n):∀ i,(∀ j,j<i→(rst p q n j).2≠0)→(rst p q n i).2.natAbs≤q.natAbs+(4*isq n.toNat+4)*i∧(rst p q n i).1.natAbs≤p.natAbs+q.natAbs+(4*isq n.toNat+4)*i
 | 0,_=>⟨by simp[rst],by simp[rst]⟩
 | i+1,h=>by
  obtain⟨c,d⟩:=rst_bd a i (fun j f=>h j (by omega));have b:=h i (by omega);have g:=nxq_bd (p:=(rst p q n i).1) b a;have k:=nxp_bd (p:=(rst p q n i).1) (n:=n) b;have e:(4*isq n.toNat+4)*(i+1)=(4*isq n.toNat+4)*i+(4*isq n.toNat+4):=by rw[Nat.mul_add,Nat.mul_one]
  simp only[rst];rw[e];omega
end
end Go.Proofs.YtjahbjjekednfaaGreatDoor
