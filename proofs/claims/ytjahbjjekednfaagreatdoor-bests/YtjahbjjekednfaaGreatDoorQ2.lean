import Derived.Test.YtjahbjjekednfaaGreatDoorC1u
namespace Go.Proofs.YtjahbjjekednfaaGreatDoor
set_option maxHeartbeats 3200000
set_option maxRecDepth 100000
section
open Go.RowKit
theorem combine_qadd (c:Int) (a b:Qn) (m:Nat) (u v:Value) (w:World) (ha:XN w u a) (U:XN w v b) (hm:m≤15000000) (fa:QF m a) (fb:QF m b) (da:QD a) (db:QD b) (C:c=43) :
  Calls Tryz.prog 86 #[u,.int .u8 c,v] w (RetXE w (comb c a b).1 (comb c a b).2):=by
 have V:comb c a b=qadd a b:=by unfold comb;rw[if_pos C]
 rw[V];clear V;have e0:(c == 43)=true:=by simp[C]
 clear C;obtain⟨W,o,X,c1,Y,p,Z,c2,b3,q,n3,c3,rfl,hp,hq,hr⟩:=id ha;obtain⟨b4,r,n4,c4,b5,s,n5,c5,b6,t,n6,c6,rfl,D,F,G⟩:=id U;clear hp hq hr D F G
 go_enter Tryz.func86,Tryz.ntmps86
 go_wp2_with fail
 have x:Kp w _:=(Kp.alloc' (Kp.alloc' (Kp.alloc' (Below.refl w.heap.size w) (.cells #[.bool W,.slice o X c1,.bool Y,.slice p Z c2,.bool b3,.slice q n3 c3,.int .i64 a.d] 40)) (.cells #[.bool b4,.slice r n4 c4,.bool b5,.slice s n5 c5,.bool b6,.slice t n6 c6,.int .i64 b.d] 40)) (.cells #[.bool false,.slice none 0 0,.bool false,.slice none 0 0,.bool false,.slice none 0 0,.int .i64 0] 40));have i:Sf 2 w _:=(Sf.alloc (Sf.alloc (Sf.alloc (Sf.refl 2 w) (.cells #[.bool W,.slice o X c1,.bool Y,.slice p Z c2,.bool b3,.slice q n3 c3,.int .i64 a.d] 40)) (.cells #[.bool b4,.slice r n4 c4,.bool b5,.slice s n5 c5,.bool b6,.slice t n6 c6,.int .i64 b.d] 40)) (.cells #[.bool false,.slice none 0 0,.bool false,.slice none 0 0,.bool false,.slice none 0 0,.int .i64 0] 40));refine(xadd_any a b m _ _ _ (ha.soft i) (U.soft i) (by omega) fa fb da db).mono ?_;rintro e w1 ⟨v1,rfl,y,j⟩;obtain⟨H,k,I,J,K,l,L,M,N,n,O,P,rfl,g1,g2,g3⟩:=id y;clear g1 g2 g3;have R:=x.trans' j;have aa:=i.trans (Sf.keep j);have f:Blk w1 (w.heap.size+1+1) #[.bool false,.slice none 0 0,.bool false,.slice none 0 0,.bool false,.slice none 0 0,.int .i64 0] 40:=Blk.keep j (Blk.at (Blk.new _ _ _) (by simp));obtain⟨g,z,B⟩:=f.all;have h:w.heap.size≤w.heap.size+1+1:=by (first | omega | (have:=x.size;simp only[sz] at this;omega))
 generalize hQ:qadd a b=Q at *
 go_wp2_with fail
 refine bodyPost_ret (v:=.tuple #[.agg #[.bool H,.slice k I J,.bool K,.slice l L M,.bool N,.slice n O P,.int .i64 Q.1.d],.int .i64 Q.2]) (by simp[results,Tryz.results86,go_sem,g]) rfl ?_;have S:Kp w _:=(stK7 (A:=w.heap.size+1+1) (.bool H) (.slice k I J) (.bool K) (.slice l L M) (.bool N) (.slice n O P) (.int .i64 Q.1.d) R (by have:=h;omega))
 have T:Sf 2 w1 _:=(stS7 (E:=2) (.bool H) (.slice k I J) (.bool K) (.slice l L M) (.bool N) (.slice n O P) (.int .i64 Q.1.d) f (by decide));exact⟨_,rfl,y.soft T,S⟩
theorem combine_qsub (c:Int) (a b:Qn) (m:Nat) (u v:Value) (w:World) (ha:XN w u a) (V:XN w v b) (hm:m≤15000000) (fa:QF m a) (fb:QF m b) (da:QD a) (db:QD b) (C:¬ c=43) (D:c=45) :
  Calls Tryz.prog 86 #[u,.int .u8 c,v] w (RetXE w (comb c a b).1 (comb c a b).2):=by
 have W:comb c a b=qsub a b:=by unfold comb;rw[if_neg C,if_pos D]
 rw[W];clear W;have e0:(c == 43)=false:=by simp[C]
 have e1:(c == 45)=true:=by simp[D]
 clear C D;obtain⟨X,o,Y,c1,Z,p,n2,c2,b3,q,n3,c3,rfl,hp,hq,hr⟩:=id ha;obtain⟨b4,r,n4,c4,b5,s,n5,c5,b6,t,n6,c6,rfl,F,G,H⟩:=id V;clear hp hq hr F G H
 go_enter Tryz.func86,Tryz.ntmps86
 go_wp2_with fail
 have x:Kp w _:=(Kp.alloc' (Kp.alloc' (Kp.alloc' (Below.refl w.heap.size w) (.cells #[.bool X,.slice o Y c1,.bool Z,.slice p n2 c2,.bool b3,.slice q n3 c3,.int .i64 a.d] 40)) (.cells #[.bool b4,.slice r n4 c4,.bool b5,.slice s n5 c5,.bool b6,.slice t n6 c6,.int .i64 b.d] 40)) (.cells #[.bool false,.slice none 0 0,.bool false,.slice none 0 0,.bool false,.slice none 0 0,.int .i64 0] 40));have i:Sf 2 w _:=(Sf.alloc (Sf.alloc (Sf.alloc (Sf.refl 2 w) (.cells #[.bool X,.slice o Y c1,.bool Z,.slice p n2 c2,.bool b3,.slice q n3 c3,.int .i64 a.d] 40)) (.cells #[.bool b4,.slice r n4 c4,.bool b5,.slice s n5 c5,.bool b6,.slice t n6 c6,.int .i64 b.d] 40)) (.cells #[.bool false,.slice none 0 0,.bool false,.slice none 0 0,.bool false,.slice none 0 0,.int .i64 0] 40));refine(xsub_any a b m _ _ _ (ha.soft i) (V.soft i) (by omega) fa fb da db).mono ?_;rintro e w1 ⟨v1,rfl,y,j⟩;obtain⟨I,k,J,K,L,l,M,N,O,n,P,R,rfl,g1,g2,g3⟩:=id y;clear g1 g2 g3;have S:=x.trans' j;have aa:=i.trans (Sf.keep j);have f:Blk w1 (w.heap.size+1+1) #[.bool false,.slice none 0 0,.bool false,.slice none 0 0,.bool false,.slice none 0 0,.int .i64 0] 40:=Blk.keep j (Blk.at (Blk.new _ _ _) (by simp));obtain⟨g,z,B⟩:=f.all;have h:w.heap.size≤w.heap.size+1+1:=by (first | omega | (have:=x.size;simp only[sz] at this;omega))
 generalize hQ:qsub a b=Q at *
 go_wp2_with fail
 refine bodyPost_ret (v:=.tuple #[.agg #[.bool I,.slice k J K,.bool L,.slice l M N,.bool O,.slice n P R,.int .i64 Q.1.d],.int .i64 Q.2]) (by simp[results,Tryz.results86,go_sem,g]) rfl ?_;have T:Kp w _:=(stK7 (A:=w.heap.size+1+1) (.bool I) (.slice k J K) (.bool L) (.slice l M N) (.bool O) (.slice n P R) (.int .i64 Q.1.d) S (by have:=h;omega))
 have U:Sf 2 w1 _:=(stS7 (E:=2) (.bool I) (.slice k J K) (.bool L) (.slice l M N) (.bool O) (.slice n P R) (.int .i64 Q.1.d) f (by decide));exact⟨_,rfl,y.soft U,T⟩
theorem combine_qmul (c:Int) (a b:Qn) (m:Nat) (u v:Value) (w:World) (ha:XN w u a) (W:XN w v b) (hm:m≤15000000) (fa:QF m a) (fb:QF m b) (da:QD a) (db:QD b) (C:¬ c=43) (D:¬ c=45) (F:c=42) :
  Calls Tryz.prog 86 #[u,.int .u8 c,v] w (RetXE w (comb c a b).1 (comb c a b).2):=by
 have X:comb c a b=qmul a b:=by unfold comb;rw[if_neg C,if_neg D,if_pos F]
 rw[X];clear X;have e0:(c == 43)=false:=by simp[C]
 have e1:(c == 45)=false:=by simp[D]
 have e2:(c == 42)=true:=by simp[F]
 clear C D F;obtain⟨Y,o,Z,c1,b2,p,n2,c2,b3,q,n3,c3,rfl,hp,hq,hr⟩:=id ha;obtain⟨b4,r,n4,c4,b5,s,n5,c5,b6,t,n6,c6,rfl,G,H,I⟩:=id W;clear hp hq hr G H I
 go_enter Tryz.func86,Tryz.ntmps86
 go_wp2_with fail
 have x:Kp w _:=(Kp.alloc' (Kp.alloc' (Kp.alloc' (Below.refl w.heap.size w) (.cells #[.bool Y,.slice o Z c1,.bool b2,.slice p n2 c2,.bool b3,.slice q n3 c3,.int .i64 a.d] 40)) (.cells #[.bool b4,.slice r n4 c4,.bool b5,.slice s n5 c5,.bool b6,.slice t n6 c6,.int .i64 b.d] 40)) (.cells #[.bool false,.slice none 0 0,.bool false,.slice none 0 0,.bool false,.slice none 0 0,.int .i64 0] 40));have i:Sf 2 w _:=(Sf.alloc (Sf.alloc (Sf.alloc (Sf.refl 2 w) (.cells #[.bool Y,.slice o Z c1,.bool b2,.slice p n2 c2,.bool b3,.slice q n3 c3,.int .i64 a.d] 40)) (.cells #[.bool b4,.slice r n4 c4,.bool b5,.slice s n5 c5,.bool b6,.slice t n6 c6,.int .i64 b.d] 40)) (.cells #[.bool false,.slice none 0 0,.bool false,.slice none 0 0,.bool false,.slice none 0 0,.int .i64 0] 40));refine(xmul_any a b m _ _ _ (ha.soft i) (W.soft i) (by omega) fa fb da db).mono ?_;rintro e w1 ⟨v1,rfl,y,j⟩;obtain⟨J,k,K,L,M,l,N,O,P,n,R,S,rfl,g1,g2,g3⟩:=id y;clear g1 g2 g3;have T:=x.trans' j;have aa:=i.trans (Sf.keep j);have f:Blk w1 (w.heap.size+1+1) #[.bool false,.slice none 0 0,.bool false,.slice none 0 0,.bool false,.slice none 0 0,.int .i64 0] 40:=Blk.keep j (Blk.at (Blk.new _ _ _) (by simp));obtain⟨g,z,B⟩:=f.all;have h:w.heap.size≤w.heap.size+1+1:=by (first | omega | (have:=x.size;simp only[sz] at this;omega))
 generalize hQ:qmul a b=Q at *
 go_wp2_with fail
 refine bodyPost_ret (v:=.tuple #[.agg #[.bool J,.slice k K L,.bool M,.slice l N O,.bool P,.slice n R S,.int .i64 Q.1.d],.int .i64 Q.2]) (by simp[results,Tryz.results86,go_sem,g]) rfl ?_;have U:Kp w _:=(stK7 (A:=w.heap.size+1+1) (.bool J) (.slice k K L) (.bool M) (.slice l N O) (.bool P) (.slice n R S) (.int .i64 Q.1.d) T (by have:=h;omega))
 have V:Sf 2 w1 _:=(stS7 (E:=2) (.bool J) (.slice k K L) (.bool M) (.slice l N O) (.bool P) (.slice n R S) (.int .i64 Q.1.d) f (by decide));exact⟨_,rfl,y.soft V,U⟩
theorem combine_qdiv (c:Int) (a b:Qn) (m:Nat) (u v:Value) (w:World) (ha:XN w u a) (W:XN w v b) (hm:m≤15000000) (fa:QF m a) (fb:QF m b) (da:QD a) (db:QD b) (C:¬ c=43) (D:¬ c=45) (F:¬ c=42) :
  Calls Tryz.prog 86 #[u,.int .u8 c,v] w (RetXE w (comb c a b).1 (comb c a b).2):=by
 have X:comb c a b=qdiv a b:=by unfold comb;rw[if_neg C,if_neg D,if_neg F]
 rw[X];clear X;have e0:(c == 43)=false:=by simp[C]
 have e1:(c == 45)=false:=by simp[D]
 have e2:(c == 42)=false:=by simp[F]
 clear C D F;obtain⟨Y,o,Z,c1,b2,p,n2,c2,b3,q,n3,c3,rfl,hp,hq,hr⟩:=id ha;obtain⟨b4,r,n4,c4,b5,s,n5,c5,b6,t,n6,c6,rfl,G,H,I⟩:=id W;clear hp hq hr G H I
 go_enter Tryz.func86,Tryz.ntmps86
 go_wp2_with fail
 have x:Kp w _:=(Kp.alloc' (Kp.alloc' (Kp.alloc' (Below.refl w.heap.size w) (.cells #[.bool Y,.slice o Z c1,.bool b2,.slice p n2 c2,.bool b3,.slice q n3 c3,.int .i64 a.d] 40)) (.cells #[.bool b4,.slice r n4 c4,.bool b5,.slice s n5 c5,.bool b6,.slice t n6 c6,.int .i64 b.d] 40)) (.cells #[.bool false,.slice none 0 0,.bool false,.slice none 0 0,.bool false,.slice none 0 0,.int .i64 0] 40));have i:Sf 2 w _:=(Sf.alloc (Sf.alloc (Sf.alloc (Sf.refl 2 w) (.cells #[.bool Y,.slice o Z c1,.bool b2,.slice p n2 c2,.bool b3,.slice q n3 c3,.int .i64 a.d] 40)) (.cells #[.bool b4,.slice r n4 c4,.bool b5,.slice s n5 c5,.bool b6,.slice t n6 c6,.int .i64 b.d] 40)) (.cells #[.bool false,.slice none 0 0,.bool false,.slice none 0 0,.bool false,.slice none 0 0,.int .i64 0] 40));refine(xdiv_any a b m _ _ _ (ha.soft i) (W.soft i) (by omega) fa fb da db).mono ?_;rintro e w1 ⟨v1,rfl,y,j⟩;obtain⟨J,k,K,L,M,l,N,O,P,n,R,S,rfl,g1,g2,g3⟩:=id y;clear g1 g2 g3;have T:=x.trans' j;have aa:=i.trans (Sf.keep j);have f:Blk w1 (w.heap.size+1+1) #[.bool false,.slice none 0 0,.bool false,.slice none 0 0,.bool false,.slice none 0 0,.int .i64 0] 40:=Blk.keep j (Blk.at (Blk.new _ _ _) (by simp));obtain⟨g,z,B⟩:=f.all;have h:w.heap.size≤w.heap.size+1+1:=by (first | omega | (have:=x.size;simp only[sz] at this;omega))
 generalize hQ:qdiv a b=Q at *
 go_wp2_with fail
 refine bodyPost_ret (v:=.tuple #[.agg #[.bool J,.slice k K L,.bool M,.slice l N O,.bool P,.slice n R S,.int .i64 Q.1.d],.int .i64 Q.2]) (by simp[results,Tryz.results86,go_sem,g]) rfl ?_;have U:Kp w _:=(stK7 (A:=w.heap.size+1+1) (.bool J) (.slice k K L) (.bool M) (.slice l N O) (.bool P) (.slice n R S) (.int .i64 Q.1.d) T (by have:=h;omega))
 have V:Sf 2 w1 _:=(stS7 (E:=2) (.bool J) (.slice k K L) (.bool M) (.slice l N O) (.bool P) (.slice n R S) (.int .i64 Q.1.d) f (by decide));exact⟨_,rfl,y.soft V,U⟩
theorem combine_any (c:Int) (a b:Qn) (m:Nat) (u v:Value) (w:World) (ha:XN w u a) (d:XN w v b) (e:m≤15000000) (f:QF m a) (fb:QF m b) (g:QD a) (h:QD b) :
  Calls Tryz.prog 86 #[u,.int .u8 c,v] w (RetXE w (comb c a b).1 (comb c a b).2):=by
 by_cases i:c=43
 ·exact combine_qadd c a b m u v w ha d e f fb g h i
 by_cases j:c=45
 ·exact combine_qsub c a b m u v w ha d e f fb g h i j
 by_cases k:c=42
 ·exact combine_qmul c a b m u v w ha d e f fb g h i j k
 ·exact combine_qdiv c a b m u v w ha d e f fb g h i j k
theorem KeepsBut.of_kp {c:Nat} {x w:World} (h:Kp x w):KeepsBut c x w:=⟨h.os,h.tape,h.output,h.size,fun k a _=>h.block k a⟩
theorem KeepsBut.setNew {c d o:Nat} {x w:World} {y:Value} (h:KeepsBut c x w) (e:x.heap.size≤d):KeepsBut c x (w.setCell ⟨d,o,none⟩ y) :=
 ⟨h.os,h.tape,h.output,by simpa[World.setCell] using h.size,fun k a b=>(Below.heap_setCell _ _ _ _ (show k≠d by omega)).trans (h.block k a b)⟩
theorem Blk.but {c:Nat} {w a:World} {b:Nat} {cs:Array Value} {t:TypeId} (d:KeepsBut c w a) (e:b≠c) (h:Blk w b cs t):Blk a b cs t:=by
 unfold Blk;rw[d.block b h.lt e];exact h
def RetO (b:Nat) (s:ByteArray) (p:Int) (r:Rs) (w:World) (e:Ending) (a:World):Prop :=
 ∃ v,e=.returned v∧XN a v r.v∧Blk a b #[.string s,.int .i64 p,.int .i64 r.e,.int .i64 r.k] 73∧KeepsBut b w a
theorem operate_e (s:ByteArray) (i:Int) (er ea c:Int) (p:Nat) (a:Rs) (t:Qn) (b:Nat) (u v:Value) (w:World) (F:Blk w b #[.string s,.int .i64 i,.int .i64 er,.int .i64 ea] 73) (ha:XN w u a.v) (M:XN w v t) (L:er≠0) :
  Calls Tryz.prog 64 #[.pointer (some ⟨b,0,none⟩),u,.int .u8 c,.int .i64 p,v] w (RetO b s i ⟨a.v,er,ea⟩ w):=by
 have S:(er != 0)=true:=by simp[L]
 have T:=F.lt;have U:=F.cell;clear L;obtain⟨l,e,m,c1,n,f,o,c2,q,g,r,c3,rfl,N,O,P⟩:=id ha;obtain⟨x,h,y,c4,z,j,A,c5,B,k,C,D,rfl,G,H,I⟩:=id M;clear N O P G H I;have E:Blk (((w.alloc (.cells #[.bool l,.slice e m c1,.bool n,.slice f o c2,.bool q,.slice g r c3,.int .i64 a.v.d] 40)).alloc (.cells #[.bool x,.slice h y c4,.bool z,.slice j A c5,.bool B,.slice k C D,.int .i64 t.d] 40)).alloc (.cells #[.bool false,.slice none 0 0,.bool false,.slice none 0 0,.bool false,.slice none 0 0,.int .i64 0] 40)) b #[.string s,.int .i64 i,.int .i64 er,.int .i64 ea] 73:=Blk.alloc (Blk.alloc (Blk.alloc F (.cells #[.bool l,.slice e m c1,.bool n,.slice f o c2,.bool q,.slice g r c3,.int .i64 a.v.d] 40)) (.cells #[.bool x,.slice h y c4,.bool z,.slice j A c5,.bool B,.slice k C D,.int .i64 t.d] 40)) (.cells #[.bool false,.slice none 0 0,.bool false,.slice none 0 0,.bool false,.slice none 0 0,.int .i64 0] 40);have Q:=E.cell;have R:=E.lt
 go_enter Tryz.func64,Tryz.ntmps64
 go_wp2_with fail
 refine bodyPost_ret (v:=.agg #[.bool l,.slice e m c1,.bool n,.slice f o c2,.bool q,.slice g r c3,.int .i64 a.v.d]) (by simp[results,Tryz.results64,go_sem]) rfl ?_;have J:Kp w _:=(Kp.alloc' (Kp.alloc' (Kp.alloc' (Below.refl w.heap.size w) (.cells #[.bool l,.slice e m c1,.bool n,.slice f o c2,.bool q,.slice g r c3,.int .i64 a.v.d] 40)) (.cells #[.bool x,.slice h y c4,.bool z,.slice j A c5,.bool B,.slice k C D,.int .i64 t.d] 40)) (.cells #[.bool l,.slice e m c1,.bool n,.slice f o c2,.bool q,.slice g r c3,.int .i64 a.v.d] 40));have K:Sf 2 w _:=(Sf.alloc (Sf.alloc (Sf.alloc (Sf.refl 2 w) (.cells #[.bool l,.slice e m c1,.bool n,.slice f o c2,.bool q,.slice g r c3,.int .i64 a.v.d] 40)) (.cells #[.bool x,.slice h y c4,.bool z,.slice j A c5,.bool B,.slice k C D,.int .i64 t.d] 40)) (.cells #[.bool l,.slice e m c1,.bool n,.slice f o c2,.bool q,.slice g r c3,.int .i64 a.v.d] 40));exact⟨_,rfl,ha.soft K,(Blk.alloc (Blk.alloc (Blk.alloc F (.cells #[.bool l,.slice e m c1,.bool n,.slice f o c2,.bool q,.slice g r c3,.int .i64 a.v.d] 40)) (.cells #[.bool x,.slice h y c4,.bool z,.slice j A c5,.bool B,.slice k C D,.int .i64 t.d] 40)) (.cells #[.bool l,.slice e m c1,.bool n,.slice f o c2,.bool q,.slice g r c3,.int .i64 a.v.d] 40)),KeepsBut.of_kp J⟩
theorem operate_ok (s:ByteArray) (i:Int) (er ea c:Int) (p:Nat) (a:Rs) (k:Qn) (m:Nat) (b:Nat) (u v:Value) (w:World) (n:Blk w b #[.string s,.int .i64 i,.int .i64 er,.int .i64 ea] 73) (ha:XN w u a.v) (hb:XN w v k) (h1:er=0) (h2:(comb c a.v k).2=0) (hm:m≤15000000) (fa:QF m a.v) (fb:QF m k) (da:QD a.v) (db:QD k) :
  Calls Tryz.prog 64 #[.pointer (some ⟨b,0,none⟩),u,.int .u8 c,.int .i64 p,v] w (RetO b s i ⟨(comb c a.v k).1,0,ea⟩ w):=by
 subst h1;have hl:=n.lt;have hc:=n.cell;have hf:=n.frozen;obtain⟨T,q,U,c1,V,r,W,c2,X,t,Y,c3,rfl,hp,hq,hr⟩:=id ha;obtain⟨Z,x,n4,c4,b5,z,n5,c5,b6,A,n6,c6,rfl,ac,ad,ae⟩:=id hb;clear hp hq hr ac ad ae;have F:Blk (((w.alloc (.cells #[.bool T,.slice q U c1,.bool V,.slice r W c2,.bool X,.slice t Y c3,.int .i64 a.v.d] 40)).alloc (.cells #[.bool Z,.slice x n4 c4,.bool b5,.slice z n5 c5,.bool b6,.slice A n6 c6,.int .i64 k.d] 40)).alloc (.cells #[.bool false,.slice none 0 0,.bool false,.slice none 0 0,.bool false,.slice none 0 0,.int .i64 0] 40)) b #[.string s,.int .i64 i,.int .i64 0,.int .i64 ea] 73:=Blk.alloc (Blk.alloc (Blk.alloc n (.cells #[.bool T,.slice q U c1,.bool V,.slice r W c2,.bool X,.slice t Y c3,.int .i64 a.v.d] 40)) (.cells #[.bool Z,.slice x n4 c4,.bool b5,.slice z n5 c5,.bool b6,.slice A n6 c6,.int .i64 k.d] 40)) (.cells #[.bool false,.slice none 0 0,.bool false,.slice none 0 0,.bool false,.slice none 0 0,.int .i64 0] 40);have af:=F.cell;have ag:=F.lt
 go_enter Tryz.func64,Tryz.ntmps64
 go_wp2_with fail
 have R:Kp w _:=(Kp.alloc' (Kp.alloc' (Kp.alloc' (Below.refl w.heap.size w) (.cells #[.bool T,.slice q U c1,.bool V,.slice r W c2,.bool X,.slice t Y c3,.int .i64 a.v.d] 40)) (.cells #[.bool Z,.slice x n4 c4,.bool b5,.slice z n5 c5,.bool b6,.slice A n6 c6,.int .i64 k.d] 40)) (.cells #[.bool false,.slice none 0 0,.bool false,.slice none 0 0,.bool false,.slice none 0 0,.int .i64 0] 40));have G:Sf 2 w _:=(Sf.alloc (Sf.alloc (Sf.alloc (Sf.refl 2 w) (.cells #[.bool T,.slice q U c1,.bool V,.slice r W c2,.bool X,.slice t Y c3,.int .i64 a.v.d] 40)) (.cells #[.bool Z,.slice x n4 c4,.bool b5,.slice z n5 c5,.bool b6,.slice A n6 c6,.int .i64 k.d] 40)) (.cells #[.bool false,.slice none 0 0,.bool false,.slice none 0 0,.bool false,.slice none 0 0,.int .i64 0] 40));refine(combine_any c a.v k m _ _ _ (ha.soft G) (hb.soft G) hm fa fb da db).mono ?_;rintro e w1 ⟨v1,rfl,S,B⟩;obtain⟨H,g,I,J,K,h,L,M,N,j,O,P,rfl,g1,g2,g3⟩:=id S;clear g1 g2 g3;replace n:Blk w1 b #[.string s,.int .i64 i,.int .i64 0,.int .i64 ea] 73:=Blk.keep B (Blk.alloc (Blk.alloc (Blk.alloc n _) _) _);replace hc:=n.cell;replace hf:=n.frozen;have ai:=n.lt;clear F af ag;have ah:=R.trans' B;have aj:=G.trans (Sf.keep B);have l:Blk w1 (w.heap.size+1+1) #[.bool false,.slice none 0 0,.bool false,.slice none 0 0,.bool false,.slice none 0 0,.int .i64 0] 40:=Blk.keep B (Blk.at (Blk.new _ _ _) (by simp));obtain⟨C,aa,D⟩:=l.all;have f:w.heap.size≤w.heap.size+1+1:=by (first | omega | (have:=R.size;simp only[sz] at this;omega))
 generalize hQ:comb c a.v k=Q at *;rw[h2];clear h2
 go_wp2_with fail
 refine bodyPost_ret (v:=.agg #[.bool H,.slice g I J,.bool K,.slice h L M,.bool N,.slice j O P,.int .i64 Q.1.d]) (by simp[results,Tryz.results64,go_sem,C,D]) rfl ?_;exact⟨_,rfl,S.soft (Sf.alloc (stS7 (E:=2) (.bool H) (.slice g I J) (.bool K) (.slice h L M) (.bool N) (.slice j O P) (.int .i64 Q.1.d) l (by decide)) (.cells #[.bool H,.slice g I J,.bool K,.slice h L M,.bool N,.slice j O P,.int .i64 Q.1.d] 40)),(Blk.alloc (Blk.other (Blk.other (Blk.other (Blk.other (Blk.other (Blk.other (Blk.other n (by omega)) (by omega)) (by omega)) (by omega)) (by omega)) (by omega)) (by omega)) (.cells #[.bool H,.slice g I J,.bool K,.slice h L M,.bool N,.slice j O P,.int .i64 Q.1.d] 40)),(KeepsBut.alloc (KeepsBut.setNew (d:=w.heap.size+1+1) (o:=6) (y:=.int .i64 Q.1.d) (KeepsBut.setNew (d:=w.heap.size+1+1) (o:=5) (y:=.slice j O P) (KeepsBut.setNew (d:=w.heap.size+1+1) (o:=4) (y:=.bool N) (KeepsBut.setNew (d:=w.heap.size+1+1) (o:=3) (y:=.slice h L M) (KeepsBut.setNew (d:=w.heap.size+1+1) (o:=2) (y:=.bool K) (KeepsBut.setNew (d:=w.heap.size+1+1) (o:=1) (y:=.slice g I J) (KeepsBut.setNew (d:=w.heap.size+1+1) (o:=0) (y:=.bool H) (KeepsBut.of_kp ah) (by have:=f;omega)) (by have:=f;omega)) (by have:=f;omega)) (by have:=f;omega)) (by have:=f;omega)) (by have:=f;omega)) (by have:=f;omega)) (.cells #[.bool H,.slice g I J,.bool K,.slice h L M,.bool N,.slice j O P,.int .i64 Q.1.d] 40))⟩
theorem operate_bad (s:ByteArray) (i:Int) (er ea c:Int) (p:Nat) (a:Rs) (n:Qn) (m:Nat) (b:Nat) (u v:Value) (w:World) (h:Blk w b #[.string s,.int .i64 i,.int .i64 er,.int .i64 ea] 73) (ha:XN w u a.v) (hb:XN w v n) (h1:er=0) (h2:(comb c a.v n).2≠0) (hm:m≤15000000) (fa:QF m a.v) (fb:QF m n) (da:QD a.v) (db:QD n) :
  Calls Tryz.prog 64 #[.pointer (some ⟨b,0,none⟩),u,.int .u8 c,.int .i64 p,v] w (RetO b s i ⟨(comb c a.v n).1,(comb c a.v n).2,p⟩ w):=by
 subst h1;have hl:=h.lt;have hc:=h.cell;have hf:=h.frozen;obtain⟨T,q,U,c1,V,r,W,c2,X,x,Y,c3,rfl,hp,hq,hr⟩:=id ha;obtain⟨Z,z,n4,c4,b5,A,n5,c5,b6,B,n6,c6,rfl,ac,ad,ae⟩:=id hb;clear hp hq hr ac ad ae;have F:Blk (((w.alloc (.cells #[.bool T,.slice q U c1,.bool V,.slice r W c2,.bool X,.slice x Y c3,.int .i64 a.v.d] 40)).alloc (.cells #[.bool Z,.slice z n4 c4,.bool b5,.slice A n5 c5,.bool b6,.slice B n6 c6,.int .i64 n.d] 40)).alloc (.cells #[.bool false,.slice none 0 0,.bool false,.slice none 0 0,.bool false,.slice none 0 0,.int .i64 0] 40)) b #[.string s,.int .i64 i,.int .i64 0,.int .i64 ea] 73:=Blk.alloc (Blk.alloc (Blk.alloc h (.cells #[.bool T,.slice q U c1,.bool V,.slice r W c2,.bool X,.slice x Y c3,.int .i64 a.v.d] 40)) (.cells #[.bool Z,.slice z n4 c4,.bool b5,.slice A n5 c5,.bool b6,.slice B n6 c6,.int .i64 n.d] 40)) (.cells #[.bool false,.slice none 0 0,.bool false,.slice none 0 0,.bool false,.slice none 0 0,.int .i64 0] 40);have af:=F.cell;have ag:=F.lt
 go_enter Tryz.func64,Tryz.ntmps64
 go_wp2_with fail
 have R:Kp w _:=(Kp.alloc' (Kp.alloc' (Kp.alloc' (Below.refl w.heap.size w) (.cells #[.bool T,.slice q U c1,.bool V,.slice r W c2,.bool X,.slice x Y c3,.int .i64 a.v.d] 40)) (.cells #[.bool Z,.slice z n4 c4,.bool b5,.slice A n5 c5,.bool b6,.slice B n6 c6,.int .i64 n.d] 40)) (.cells #[.bool false,.slice none 0 0,.bool false,.slice none 0 0,.bool false,.slice none 0 0,.int .i64 0] 40));have G:Sf 2 w _:=(Sf.alloc (Sf.alloc (Sf.alloc (Sf.refl 2 w) (.cells #[.bool T,.slice q U c1,.bool V,.slice r W c2,.bool X,.slice x Y c3,.int .i64 a.v.d] 40)) (.cells #[.bool Z,.slice z n4 c4,.bool b5,.slice A n5 c5,.bool b6,.slice B n6 c6,.int .i64 n.d] 40)) (.cells #[.bool false,.slice none 0 0,.bool false,.slice none 0 0,.bool false,.slice none 0 0,.int .i64 0] 40));refine(combine_any c a.v n m _ _ _ (ha.soft G) (hb.soft G) hm fa fb da db).mono ?_;rintro e w1 ⟨v1,rfl,S,C⟩;obtain⟨H,j,I,J,K,k,L,M,N,l,O,P,rfl,g1,g2,g3⟩:=id S;clear g1 g2 g3;replace h:Blk w1 b #[.string s,.int .i64 i,.int .i64 0,.int .i64 ea] 73:=Blk.keep C (Blk.alloc (Blk.alloc (Blk.alloc h _) _) _);replace hc:=h.cell;replace hf:=h.frozen;have ai:=h.lt;clear F af ag;have ah:=R.trans' C;have aj:=G.trans (Sf.keep C);have f:Blk w1 (w.heap.size+1+1) #[.bool false,.slice none 0 0,.bool false,.slice none 0 0,.bool false,.slice none 0 0,.int .i64 0] 40:=Blk.keep C (Blk.at (Blk.new _ _ _) (by simp));obtain⟨D,aa,E⟩:=f.all;have g:w.heap.size≤w.heap.size+1+1:=by (first | omega | (have:=R.size;simp only[sz] at this;omega))
 generalize hQ:comb c a.v n=Q at *;have e2:(Q.2 != 0)=true:=by simp[h2]
 clear h2
 go_wp2_with fail
 refine bodyPost_ret (v:=.agg #[.bool H,.slice j I J,.bool K,.slice k L M,.bool N,.slice l O P,.int .i64 Q.1.d]) (by simp[results,Tryz.results64,go_sem,D,E]) rfl ?_
 exact⟨_,rfl,S.soft (Sf.alloc (Sf.set (t:=40) (c:=w.heap.size+1+1) (o:=6) (y:=.int .i64 Q.1.d) (Sf.set (t:=40) (c:=w.heap.size+1+1) (o:=5) (y:=.slice l O P) (Sf.set (t:=40) (c:=w.heap.size+1+1) (o:=4) (y:=.bool N) (Sf.set (t:=40) (c:=w.heap.size+1+1) (o:=3) (y:=.slice k L M) (Sf.set (t:=40) (c:=w.heap.size+1+1) (o:=2) (y:=.bool K) (Sf.set (t:=40) (c:=w.heap.size+1+1) (o:=1) (y:=.slice j I J) (Sf.set (t:=40) (c:=w.heap.size+1+1) (o:=0) (y:=.bool H) (Sf.set (t:=73) (c:=b) (o:=3) (y:=.int .i64 p) (Sf.set (t:=73) (c:=b) (o:=2) (y:=.int .i64 Q.2) (Sf.refl 2 w1) (by first | (simp only[elemOf_setCell];exact h.elem) | exact h.elem) (by decide)) (by first | (simp only[elemOf_setCell];exact h.elem) | exact h.elem) (by decide)) (by first | (simp only[elemOf_setCell];exact f.elem) | exact f.elem) (by decide)) (by first | (simp only[elemOf_setCell];exact f.elem) | exact f.elem) (by decide)) (by first | (simp only[elemOf_setCell];exact f.elem) | exact f.elem) (by decide)) (by first | (simp only[elemOf_setCell];exact f.elem) | exact f.elem) (by decide)) (by first | (simp only[elemOf_setCell];exact f.elem) | exact f.elem) (by decide)) (by first | (simp only[elemOf_setCell];exact f.elem) | exact f.elem) (by decide)) (by first | (simp only[elemOf_setCell];exact f.elem) | exact f.elem) (by decide)) (.cells #[.bool H,.slice j I J,.bool K,.slice k L M,.bool N,.slice l O P,.int .i64 Q.1.d] 40)),(Blk.alloc (Blk.other (Blk.other (Blk.other (Blk.other (Blk.other (Blk.other (Blk.other (Blk.set (o:=3) (y:=.int .i64 p) (Blk.set (o:=2) (y:=.int .i64 Q.2) h)) (by omega)) (by omega)) (by omega)) (by omega)) (by omega)) (by omega)) (by omega)) (.cells #[.bool H,.slice j I J,.bool K,.slice k L M,.bool N,.slice l O P,.int .i64 Q.1.d] 40)),(KeepsBut.alloc (KeepsBut.setNew (d:=w.heap.size+1+1) (o:=6) (y:=.int .i64 Q.1.d) (KeepsBut.setNew (d:=w.heap.size+1+1) (o:=5) (y:=.slice l O P) (KeepsBut.setNew (d:=w.heap.size+1+1) (o:=4) (y:=.bool N) (KeepsBut.setNew (d:=w.heap.size+1+1) (o:=3) (y:=.slice k L M) (KeepsBut.setNew (d:=w.heap.size+1+1) (o:=2) (y:=.bool K) (KeepsBut.setNew (d:=w.heap.size+1+1) (o:=1) (y:=.slice j I J) (KeepsBut.setNew (d:=w.heap.size+1+1) (o:=0) (y:=.bool H) (KeepsBut.setCell (KeepsBut.setCell (KeepsBut.of_kp ah) 2 (.int .i64 Q.2)) 3 (.int .i64 p)) (by have:=g;omega)) (by have:=g;omega)) (by have:=g;omega)) (by have:=g;omega)) (by have:=g;omega)) (by have:=g;omega)) (by have:=g;omega)) (.cells #[.bool H,.slice j I J,.bool K,.slice k L M,.bool N,.slice l O P,.int .i64 Q.1.d] 40))⟩
end
section
open Go.RowKit
theorem operate_any (s:ByteArray) (i:Int) (c:Int) (p:Nat) (a r:Rs) (m:Nat) (b:Nat) (u v:Value) (w:World) (l:Blk w b #[.string s,.int .i64 i,.int .i64 r.e,.int .i64 r.k] 73) (ha:XN w u a.v) (n:XN w v r.v)
  (q:a.e=0) (o:m≤15000000) (h:RsOk m a) (fb:RsOk m r) :
  Calls Tryz.prog 64 #[.pointer (some ⟨b,0,none⟩),u,.int .u8 c,.int .i64 p,v] w (RetO b s i (opR c p a r) w):=by
 by_cases g:r.e=0
 ·by_cases j:(comb c a.v r.v).2=0
  ·have e:opR c p a r=⟨(comb c a.v r.v).1,0,r.k⟩:=by
    unfold opR;rw[if_neg (by omega),if_neg (by omega),j,if_pos rfl,fb.k g]
   rw[e];exact operate_ok s i r.e r.k c p a r.v m b u v w l ha n g j o h.f fb.f h.d fb.d
  ·have e:opR c p a r=⟨(comb c a.v r.v).1,(comb c a.v r.v).2,p⟩:=by
    unfold opR;rw[if_neg (by omega),if_neg (by omega),if_neg j]
   rw[e];exact operate_bad s i r.e r.k c p a r.v m b u v w l ha n g j o h.f fb.f h.d fb.d
 ·have e:opR c p a r=⟨a.v,r.e,r.k⟩:=by
   unfold opR;rw[if_neg (by omega),if_pos g]
  rw[e];exact operate_e s i r.e r.k c p a r.v b u v w l ha n g
def RetS (b:Nat) (s:ByteArray) (q:Nat) (r:Rs) (w:World) (e:Ending) (a:World):Prop :=
 ∃ v,∃ i:Nat,e=.returned v∧XN a v r.v∧Blk a b #[.string s,.int .i64 i,.int .i64 r.e,.int .i64 r.k] 73∧(r.e=0→i=q)∧i≤q∧KeepsBut b w a
def Rds (f:Nat) (F:List Int→Nat→Rs→Prop) (P:Int→Prop):Prop:=∀(s:ByteArray) (p:Nat) (t post:List Int) (r:Rs) (b:Nat) (w:World),s.size≤100→At s p (t ++ post)→F t p r→Hd P post →
 Blk w b #[.string s,.int .i64 p,.int .i64 0,.int .i64 0] 73→Calls Tryz.prog f #[.pointer (some ⟨b,0,none⟩)] w (RetS b s (p+t.length) r w)
def Bare (n:Nat) (a:List Int) (p:Nat) (r:Rs):Prop:=Atom a r∨∃ n' t,n=n'+1∧a=40 :: (t ++ [41])∧Sm n' t (p+1) r
theorem fc_bare {n:Nat} {s:List Int} {p:Nat} {r:Rs} (h:Fc n s p r):∃ m a b,s=List.replicate m 45 ++ a∧Bare n a (p+m) b∧r=negs m b:=by
 cases n with
 | zero =>
  obtain⟨m,a,b,d,c,e⟩:=h;exact⟨m,a,b,d,Or.inl c,e⟩
 | succ n =>
  obtain⟨m,a,b,d,c,e⟩:=h;refine⟨m,a,b,d,?_,e⟩;rcases c with c | ⟨t,f,g⟩
  ·exact Or.inl c
  ·exact Or.inr ⟨n,t,rfl,f,g⟩
def closes (c:Int):Prop:=(isD c∨mulOp c)∨addOp c
theorem Sf.butB {b:Nat} {w W:World} {cs:Array Value} (a:Blk w b cs 73) (h:KeepsBut b w W):Sf 2 w W:=Sf.but h (by rw[a.elem];decide)
theorem bare_num (s:ByteArray) (p:Nat) (t post:List Int) (b:Nat) (w:World) (hs:s.size≤100) (i:At s p (t ++ post)) (Q:t≠[]) (N:t.length≤18) (G:Digs t) (R:Hd isD post) (O:Blk w b #[.string s,.int .i64 p,.int .i64 0,.int .i64 0] 73) :
  Calls Tryz.prog 104 #[.pointer (some ⟨b,0,none⟩)] w (RetS b s (p+t.length) ⟨⟨decN t,0,1,1⟩,0,0⟩ w):=by
 have S:=i.size;have l:0<t.length:=List.length_pos_iff.mpr Q;have T:p≤1000:=by omega
 have m:isDig (byteAt s p)=true:=by
  have:=i.byte 0;rw[Nat.add_zero,at0_append_lt l] at this;rw[this];exact digs_at G l
 have U:=isDig_bd m;have e1:(byteAt s p == 40)=false:=by simp;omega
 have e2:(byteAt s p == 114)=false:=by simp;omega
 have V:=decN_bd G;have H:decN t≤9223372036854775807:=by
  have:(10:Int) ^ t.length≤10 ^ 18:=by exact_mod_cast Nat.pow_le_pow_right (show 0<10 by decide) N
  omega
 have W:=O.lt;have a:Blk (w.alloc (.cells #[.bool false,.slice none 0 0,.bool false,.slice none 0 0,.bool false,.slice none 0 0,.int .i64 0] 40)) b #[.string s,.int .i64 p,.int .i64 0,.int .i64 0] 73:=Blk.alloc O (.cells #[.bool false,.slice none 0 0,.bool false,.slice none 0 0,.bool false,.slice none 0 0,.int .i64 0] 40);have I:=Blk.new w #[.bool false,.slice none 0 0,.bool false,.slice none 0 0,.bool false,.slice none 0 0,.int .i64 0] 40
 go_enter Tryz.func104,Tryz.ntmps104
 go_wp2_with fail
 refine(peek_any s p 0 0 b _ a (by omega) T).mono ?_;rintro e X ⟨rfl,j⟩;replace a:=a.keep j;replace I:=I.keep j;have J:Kp w X:=(kp_alloc w (.cells #[.bool false,.slice none 0 0,.bool false,.slice none 0 0,.bool false,.slice none 0 0,.int .i64 0] 40)).trans' j;generalize byteAt s p=c0 at *
 go_wp2_with fail
 refine(digits_any s p t post b _ a (by omega) i G N R).mono ?_;rintro e w2 ⟨rfl,K,n⟩;have Y:=I.but n (by omega)
 go_wp2_with fail
 refine(xfromInt_any (decN t) _ V.1 H).mono ?_;rintro e w3 ⟨v3,rfl,q,k⟩;obtain⟨r,f,u,x,z,g,A,B,C,h,D,F,rfl,Z,g2,g3⟩:=id q;clear Z g2 g3;have P:=Y.keep k;obtain⟨L,aa,ac⟩:=P.all;have M:=K.keep k
 go_wp2_with fail
 refine bodyPost_ret (v:=.agg #[.bool r,.slice f u x,.bool z,.slice g A B,.bool C,.slice h D F,.int .i64 1]) (by simp[results,Tryz.results104,go_sem,L]) rfl ?_;exact⟨_,p+t.length,rfl,q.soft (stS7 (E:=2) (.bool r) (.slice f u x) (.bool z) (.slice g A B) (.bool C) (.slice h D F) (.int .i64 1) P (by decide)),(Blk.other (c:=w.heap.size) (o:=6) (y:=.int .i64 1) (Blk.other (c:=w.heap.size) (o:=5) (y:=.slice h D F) (Blk.other (c:=w.heap.size) (o:=4) (y:=.bool C) (Blk.other (c:=w.heap.size) (o:=3) (y:=.slice g A B) (Blk.other (c:=w.heap.size) (o:=2) (y:=.bool z) (Blk.other (c:=w.heap.size) (o:=1) (y:=.slice f u x) (Blk.other (c:=w.heap.size) (o:=0) (y:=.bool r) M (by omega)) (by omega)) (by omega)) (by omega)) (by omega)) (by omega)) (by omega)),fun _=>rfl,Nat.le_refl _,(KeepsBut.setNew (d:=w.heap.size) (o:=6) (y:=.int .i64 1) (KeepsBut.setNew (d:=w.heap.size) (o:=5) (y:=.slice h D F) (KeepsBut.setNew (d:=w.heap.size) (o:=4) (y:=.bool C) (KeepsBut.setNew (d:=w.heap.size) (o:=3) (y:=.slice g A B) (KeepsBut.setNew (d:=w.heap.size) (o:=2) (y:=.bool z) (KeepsBut.setNew (d:=w.heap.size) (o:=1) (y:=.slice f u x) (KeepsBut.setNew (d:=w.heap.size) (o:=0) (y:=.bool r) (((KeepsBut.of_kp J).trans n).trans (KeepsBut.of_kp k)) (Nat.le_refl _)) (Nat.le_refl _)) (Nat.le_refl _)) (Nat.le_refl _)) (Nat.le_refl _)) (Nat.le_refl _)) (Nat.le_refl _))⟩
theorem bare_root (s:ByteArray) (p:Nat) (t post:List Int) (b:Nat) (w:World) (hs:s.size≤100) (k:At s p (114 :: (t ++ post))) (X:t≠[]) (Y:t.length≤6) (T:Digs t) (Z:Hd isD post) (U:Blk w b #[.string s,.int .i64 p,.int .i64 0,.int .i64 0] 73) :
  Calls Tryz.prog 104 #[.pointer (some ⟨b,0,none⟩)] w (RetS b s (p+(t.length+1)) ⟨qsqrt (decN t).toNat,0,0⟩ w):=by
 have aa:=k.size;have i:At s (p+1) (t ++ post):=At.step (t:=[114]) k;have ac:0<t.length:=List.length_pos_iff.mpr X;have V:=i.size;have hp:p≤1000:=by omega
 have I:byteAt s p=114:=by
  have:=k.byte 0
  rwa [Nat.add_zero,at0_cons_zero] at this
 have hn:=decN_bd T;have J:(decN t).toNat<1000000:=by
  have:(10:Int) ^ t.length≤10 ^ 6:=by exact_mod_cast Nat.pow_le_pow_right (show 0<10 by decide) Y
  omega
 have K:=fun(w':World) (hB':Blk w' b #[.string s,.int .i64 ((p+1:Nat):Int),.int .i64 0,.int .i64 0] 73)=>digits_any s (p+1) t post b w' hB' (by omega) i T (by omega) Z;generalize decN t=D at *;obtain⟨N,rfl⟩:=Int.eq_ofNat_of_zero_le hn.1;rw[Int.toNat_natCast] at *;have ad:=U.lt;have a:Blk (w.alloc (.cells #[.bool false,.slice none 0 0,.bool false,.slice none 0 0,.bool false,.slice none 0 0,.int .i64 0] 40)) b #[.string s,.int .i64 p,.int .i64 0,.int .i64 0] 73:=Blk.alloc U (.cells #[.bool false,.slice none 0 0,.bool false,.slice none 0 0,.bool false,.slice none 0 0,.int .i64 0] 40);have L:=Blk.new w #[.bool false,.slice none 0 0,.bool false,.slice none 0 0,.bool false,.slice none 0 0,.int .i64 0] 40
 go_enter Tryz.func104,Tryz.ntmps104
 go_wp2_with fail
 refine(peek_any s p 0 0 b _ a (by omega) hp).mono ?_;rintro e r ⟨rfl,l⟩;replace a:=a.keep l;replace L:=L.keep l;have M:Kp w r:=(kp_alloc w (.cells #[.bool false,.slice none 0 0,.bool false,.slice none 0 0,.bool false,.slice none 0 0,.int .i64 0] 40)).trans' l;rw[I];have ae:=a.cell;have af:=a.frozen;have ag:=a.lt
 go_wp2_with fail
 have n:Blk (r.setCell ⟨b,1,none⟩ (.int .i64 ((p:Int)+1))) b #[.string s,.int .i64 ((p+1:Nat):Int),.int .i64 0,.int .i64 0] 73:=by
  rw[show ((p+1:Nat):Int)=(p:Int)+1 by omega];exact Blk.set (o:=1) (y:=.int .i64 ((p:Int)+1)) a
 refine(K _ n).mono ?_;rintro e w2 ⟨rfl,O,P⟩;have j:KeepsBut b r w2:=(KeepsBut.setCell (KeepsBut.refl b r) 1 (.int .i64 ((p:Int)+1))).trans P;have R2:=L.but j (by omega)
 go_wp2_with fail
 refine(root_any N _ J).mono ?_;rintro e w3 ⟨v3,rfl,q,m⟩;obtain⟨u,f,x,z,A,g,B,C,F,h,G,H,rfl,g1,g2,g3⟩:=id q;clear g1 g2 g3;generalize qsqrt N=Q at *;have W:=R2.keep m;obtain⟨R,ah,ai⟩:=W.all;have S:=O.keep m
 go_wp2_with fail
 refine bodyPost_ret (v:=.agg #[.bool u,.slice f x z,.bool A,.slice g B C,.bool F,.slice h G H,.int .i64 Q.d]) (by simp[results,Tryz.results104,go_sem,R]) rfl ?_;exact⟨_,p+1+t.length,rfl,q.soft (stS7 (E:=2) (.bool u) (.slice f x z) (.bool A) (.slice g B C) (.bool F) (.slice h G H) (.int .i64 Q.d) W (by decide)),(Blk.other (c:=w.heap.size) (o:=6) (y:=.int .i64 Q.d) (Blk.other (c:=w.heap.size) (o:=5) (y:=.slice h G H) (Blk.other (c:=w.heap.size) (o:=4) (y:=.bool F) (Blk.other (c:=w.heap.size) (o:=3) (y:=.slice g B C) (Blk.other (c:=w.heap.size) (o:=2) (y:=.bool A) (Blk.other (c:=w.heap.size) (o:=1) (y:=.slice f x z) (Blk.other (c:=w.heap.size) (o:=0) (y:=.bool u) S (by omega)) (by omega)) (by omega)) (by omega)) (by omega)) (by omega)) (by omega)),fun _=>by omega,by omega,(KeepsBut.setNew (d:=w.heap.size) (o:=6) (y:=.int .i64 Q.d) (KeepsBut.setNew (d:=w.heap.size) (o:=5) (y:=.slice h G H) (KeepsBut.setNew (d:=w.heap.size) (o:=4) (y:=.bool F) (KeepsBut.setNew (d:=w.heap.size) (o:=3) (y:=.slice g B C) (KeepsBut.setNew (d:=w.heap.size) (o:=2) (y:=.bool A) (KeepsBut.setNew (d:=w.heap.size) (o:=1) (y:=.slice f x z) (KeepsBut.setNew (d:=w.heap.size) (o:=0) (y:=.bool u) (((KeepsBut.of_kp M).trans j).trans (KeepsBut.of_kp m)) (Nat.le_refl _)) (Nat.le_refl _)) (Nat.le_refl _)) (Nat.le_refl _)) (Nat.le_refl _)) (Nat.le_refl _)) (Nat.le_refl _))⟩
theorem bare_par (n:Nat) (Z:Rds 32 (Sm n) closes) (s:ByteArray) (p:Nat) (t post:List Int) (r:Rs) (b:Nat) (w:World) (hs:s.size≤100) (z:At s p (40 :: (t ++ (41 :: post)))) (ht:Sm n t (p+1) r) (W:Blk w b #[.string s,.int .i64 p,.int .i64 0,.int .i64 0] 73) :
  Calls Tryz.prog 104 #[.pointer (some ⟨b,0,none⟩)] w (RetS b s (p+(t.length+1+1)) r w):=by
 have aa:=z.size;have u:At s (p+1) (t ++ (41 :: post)):=At.step (t:=[40]) z;have K:=u.size;rw[List.length_append] at K;have hp:p≤1000:=by omega
 have P:byteAt s p=40:=by
  have:=z.byte 0
  rwa [Nat.add_zero,at0_cons_zero] at this
 have Q:Hd closes (41 :: post):=by
  intro c l e
  cases e
  unfold closes isD mulOp addOp isDig
  decide
 have ac:=W.lt;have f:Blk (w.alloc (.cells #[.bool false,.slice none 0 0,.bool false,.slice none 0 0,.bool false,.slice none 0 0,.int .i64 0] 40)) b #[.string s,.int .i64 p,.int .i64 0,.int .i64 0] 73:=Blk.alloc W (.cells #[.bool false,.slice none 0 0,.bool false,.slice none 0 0,.bool false,.slice none 0 0,.int .i64 0] 40);have R:=Blk.new w #[.bool false,.slice none 0 0,.bool false,.slice none 0 0,.bool false,.slice none 0 0,.int .i64 0] 40
 go_enter Tryz.func104,Tryz.ntmps104
 go_wp2_with fail
 refine(peek_any s p 0 0 b _ f (by omega) hp).mono ?_;rintro e O ⟨rfl,A⟩;replace f:=f.keep A;replace R:=R.keep A;have S:Kp w O:=(kp_alloc w (.cells #[.bool false,.slice none 0 0,.bool false,.slice none 0 0,.bool false,.slice none 0 0,.int .i64 0] 40)).trans' A;rw[P];have ad:=f.cell;have ae:=f.frozen;have af:=f.lt
 go_wp2_with fail
 have L:Blk (O.setCell ⟨b,1,none⟩ (.int .i64 ((p:Int)+1))) b #[.string s,.int .i64 ((p+1:Nat):Int),.int .i64 0,.int .i64 0] 73:=by
  rw[show ((p+1:Nat):Int)=(p:Int)+1 by omega];exact Blk.set (o:=1) (y:=.int .i64 ((p:Int)+1)) f
 refine(Z s (p+1) t (41 :: post) r b _ hs u ht Q L).mono ?_;rintro e X ⟨v2,i,rfl,M,q,N,ag,T⟩;have x:KeepsBut b O X:=(KeepsBut.setCell (KeepsBut.refl b O) 1 (.int .i64 ((p:Int)+1))).trans T;have a:=R.but x (by omega);obtain⟨B,g,C,D,E,j,F,G,H,m,I,J,rfl,g1,g2,g3⟩:=id M;clear g1 g2 g3;have U:=a.cell;have ah:=a.frozen;have V:=a.lt;have ai:=q.cell;have aj:=q.frozen;have ak:=q.lt;have HI:=Hid.mk N;clear N
 go_wp2_with fail
 refine bodyPost_ret (v:=.agg #[.bool B,.slice g C D,.bool E,.slice j F G,.bool H,.slice m I J,.int .i64 r.v.d]) (by simp[results,Tryz.results104,go_sem,U,V]) rfl ?_;have Y:Blk _ b #[.string s,.int .i64 ((i:Int)+1),.int .i64 r.e,.int .i64 r.k] 73:=Blk.alloc (Blk.other (c:=w.heap.size) (o:=6) (y:=.int .i64 r.v.d) (Blk.other (c:=w.heap.size) (o:=5) (y:=.slice m I J) (Blk.other (c:=w.heap.size) (o:=4) (y:=.bool H) (Blk.other (c:=w.heap.size) (o:=3) (y:=.slice j F G) (Blk.other (c:=w.heap.size) (o:=2) (y:=.bool E) (Blk.other (c:=w.heap.size) (o:=1) (y:=.slice g C D) (Blk.other (c:=w.heap.size) (o:=0) (y:=.bool B) (Blk.set (o:=1) (y:=.int .i64 ((i:Int)+1)) q) (by omega)) (by omega)) (by omega)) (by omega)) (by omega)) (by omega)) (by omega)) (.cells #[.bool B,.slice g C D,.bool E,.slice j F G,.bool H,.slice m I J,.int .i64 r.v.d] 40);rw[show (i:Int)+1=((i+1:Nat):Int) by omega] at Y
 exact⟨_,i+1,rfl,M.soft (Sf.alloc (Sf.set (t:=40) (c:=w.heap.size) (o:=6) (y:=.int .i64 r.v.d) (Sf.set (t:=40) (c:=w.heap.size) (o:=5) (y:=.slice m I J) (Sf.set (t:=40) (c:=w.heap.size) (o:=4) (y:=.bool H) (Sf.set (t:=40) (c:=w.heap.size) (o:=3) (y:=.slice j F G) (Sf.set (t:=40) (c:=w.heap.size) (o:=2) (y:=.bool E) (Sf.set (t:=40) (c:=w.heap.size) (o:=1) (y:=.slice g C D) (Sf.set (t:=40) (c:=w.heap.size) (o:=0) (y:=.bool B) (Sf.set (t:=73) (c:=b) (o:=1) (y:=.int .i64 ((i:Int)+1)) (Sf.refl 2 X) q.elem (by decide)) (by first | (simp only[elemOf_setCell];exact a.elem) | exact a.elem) (by decide)) (by first | (simp only[elemOf_setCell];exact a.elem) | exact a.elem) (by decide)) (by first | (simp only[elemOf_setCell];exact a.elem) | exact a.elem) (by decide)) (by first | (simp only[elemOf_setCell];exact a.elem) | exact a.elem) (by decide)) (by first | (simp only[elemOf_setCell];exact a.elem) | exact a.elem) (by decide)) (by first | (simp only[elemOf_setCell];exact a.elem) | exact a.elem) (by decide)) (by first | (simp only[elemOf_setCell];exact a.elem) | exact a.elem) (by decide)) (.cells #[.bool B,.slice g C D,.bool E,.slice j F G,.bool H,.slice m I J,.int .i64 r.v.d] 40)),Y,fun h=>by have:=HI.out h;omega,by omega,KeepsBut.alloc (KeepsBut.setNew (d:=w.heap.size) (o:=6) (y:=.int .i64 r.v.d) (KeepsBut.setNew (d:=w.heap.size) (o:=5) (y:=.slice m I J) (KeepsBut.setNew (d:=w.heap.size) (o:=4) (y:=.bool H) (KeepsBut.setNew (d:=w.heap.size) (o:=3) (y:=.slice j F G) (KeepsBut.setNew (d:=w.heap.size) (o:=2) (y:=.bool E) (KeepsBut.setNew (d:=w.heap.size) (o:=1) (y:=.slice g C D) (KeepsBut.setNew (d:=w.heap.size) (o:=0) (y:=.bool B) (KeepsBut.setCell ((KeepsBut.of_kp S).trans x) 1 (.int .i64 ((i:Int)+1))) (Nat.le_refl _)) (Nat.le_refl _)) (Nat.le_refl _)) (Nat.le_refl _)) (Nat.le_refl _)) (Nat.le_refl _)) (Nat.le_refl _)) (.cells #[.bool B,.slice g C D,.bool E,.slice j F G,.bool H,.slice m I J,.int .i64 r.v.d] 40)⟩
theorem bare_any (n:Nat) (o:∀ d,n=d+1→Rds 32 (Sm d) closes):Rds 104 (Bare n) isD:=by
 intro s p t post r b w j c q m k;rcases q with (⟨f,g,l,rfl⟩|⟨a,rfl,f,g,l,rfl⟩) | ⟨d,a,f,rfl,g⟩
 ·exact bare_num s p t post b w j c f g l m k
 ·exact bare_root s p a post b w j c f g l m k
 ·have i:At s p (40 :: (a ++ (41 :: post))):=by
   have e:40 :: (a ++ [41]) ++ post=40 :: (a ++ (41 :: post)):=by simp
   rwa [e] at c
  have h:=bare_par d (o d f) s p a post r b w j i g k;have e:(40 :: (a ++ [(41:Int)])).length=a.length+1+1:=by simp
  rw[e];exact h
end
section
open Go.RowKit
theorem bare_head {n:Nat} {a:List Int} {p:Nat} {r:Rs} (h:Bare n a p r):0<a.length∧at0 a 0≠45:=by
 rcases h with (⟨c,e,d,_⟩|⟨t,rfl,_⟩) | ⟨f,t,_,rfl,_⟩
 ·have b:0<a.length:=List.length_pos_iff.mpr c;have:=isDig_bd (digs_at d b);exact⟨b,by omega⟩
 ·exact⟨by simp,by rw[at0_cons_zero];decide⟩
 ·exact⟨by simp,by rw[at0_cons_zero];decide⟩
theorem bare_ok {n:Nat} {a:List Int} {p:Nat} {r:Rs} (h:Bare n a p r) (e:n≤8) (f:a.length≤100):RsOk 1000000 r:=by
 have g:Fc n a p r:=by
  cases n with
  | zero =>
   rcases h with h | ⟨c,t,b,_⟩
   ·exact⟨0,a,r,rfl,h,rfl⟩
   ·omega
  | succ n =>
   refine⟨0,a,r,rfl,?_,rfl⟩;rcases h with h | ⟨c,t,b,d,i⟩
   ·exact Or.inl h
   ·have:n=c:=by omega
    subst this;exact Or.inr ⟨t,d,i⟩
 refine(fc_ok n a p r g).mono ?_;have b:2 ^ n≤2 ^ 8:=Nat.pow_le_pow_right (by decide) e;have d:=Nat.mul_le_mul (Nat.mul_le_mul_left 20 b) f;omega
theorem factor_at (n m:Nat) (hn:n≤8) (hF:Rds 104 (Bare n) isD) (s:ByteArray) (p:Nat) (g post:List Int) (r:Rs) (b:Nat) (w:World) (hs:s.size≤100) (aa:At s p (List.replicate m 45 ++ (g ++ post))) (ht:Bare n g (p+m) r) (hh:Hd isD post) (hB:Blk w b #[.string s,.int .i64 p,.int .i64 0,.int .i64 0] 73) :
  Calls Tryz.prog 85 #[.pointer (some ⟨b,0,none⟩)] w (RetS b s (p+(m+g.length)) (negs m r) w):=by
 have ap:=aa.size;rw[List.length_append,List.length_append,List.length_replicate] at ap;have ac:At s (p+m) (g ++ post):=by
  have:=At.step aa
  rwa [List.length_replicate] at this
 obtain⟨aq,ar⟩:=bare_head ht;have HR:=Hid.mk (bare_ok ht hn (by omega));have HA:=Hid.mk aa;have ad:=Hid.mk ac;have HT:=Hid.mk ht;have az:=hB.lt;clear aa ac ht
 go_enter Tryz.func85,Tryz.ntmps85
 go_wp2_with fail
 go_loopw [3] (fun ng wr=>∃ j i:Nat,Hid (i=p+j)∧j≤m∧ng=.bool (decide (j % 2=1))∧Blk wr b #[.string s,.int .i64 i,.int .i64 0,.int .i64 0] 73∧Blk wr w.heap.size #[.bool false,.slice none 0 0,.bool false,.slice none 0 0,.bool false,.slice none 0 0,.int .i64 0] 40∧KeepsBut b w wr)
  (fun _ wr=>s.size+1 - atOf b wr)
 case atStart=>exact⟨0,p,rfl,by omega,rfl,Blk.alloc hB _,Blk.new w _ _,KeepsBut.alloc (KeepsBut.refl _ _) _⟩
 case round =>
  obtain⟨j,i,HI,hj,rfl,l,R,z⟩:=hrel;have G:=HI.out;have HM:=Hid.mk (atOf_blk l);by_cases h1:j<m
  ·have ag:byteAt s i=45:=by
    rw[G,HA.out.byte j,at0_append_lt (by rw[List.length_replicate];exact h1),at0_eq (by rw[List.length_replicate];exact h1),List.getElem_replicate]
   have hi:i≤1000:=by omega
   clear G
   go_wp2_with fail
   refine(peek_any s i 0 0 b _ l (by omega) hi).mono ?_;rintro e w1 ⟨rfl,a⟩;replace l:=l.keep a;replace R:=R.keep a;have bc:=l.cell;have bf:=l.frozen;have aA:=l.lt;rw[ag]
   go_wp2_with fail
   go_roundw
   case rel =>
    refine⟨j+1,i+1,by have:=HI.out;unfold Hid;omega,by omega,?_,?_,Blk.other R (by omega),KeepsBut.setCell (z.trans (KeepsBut.of_kp a)) _ _⟩
    ·by_cases h5:j % 2=1
     ·rw[decide_eq_true h5,decide_eq_false (show ¬ (j+1) % 2=1 by omega)];rfl
     ·rw[decide_eq_false h5,decide_eq_true (show (j+1) % 2=1 by omega)];rfl
    ·rw[show ((i+1:Nat):Int)=(i:Int)+1 by omega];exact Blk.set (o:=1) (y:=.int .i64 ((i:Int)+1)) l
   case measure =>
    rw[HM.out,atOf_blk (i:=i+1) (s:=s) (er:=0) (ea:=0) (by rw[show ((i+1:Nat):Int)=(i:Int)+1 by omega];exact Blk.set (o:=1) (y:=.int .i64 ((i:Int)+1)) l)]
    have:=HI.out;omega
  ·have au:j=m:=by omega
   subst au;have ag:(byteAt s i == 45)=false:=by
    have:=ad.out.byte 0;rw[Nat.add_zero,at0_append_lt aq,← G] at this;rw[this]
    simpa using ar
   have hi:i≤1000:=by omega
   have ah:Hid (At s i (g ++ post)):=by unfold Hid;rw[G];exact ad.out
   have ai:Hid (Bare n g i r):=by unfold Hid;rw[G];exact HT.out
   clear G HA ad HT
   go_wp2_with fail
   refine(peek_any s i 0 0 b _ l (by omega) hi).mono ?_;rintro e w1 ⟨rfl,a⟩;replace l:=l.keep a;replace R:=R.keep a;generalize byteAt s i=c0 at *
   go_wp2_with fail
   refine(hF s i g post r b _ hs ah.out ai.out hh l).mono ?_;rintro e F ⟨v2,i2,rfl,ae,af,aj,av,A⟩;have G:=HI.out;have ak:Hid (r.e=0→i2=p+(j+g.length)):=by unfold Hid;intro h;have:=aj h;omega
   have aB:i2≤p+(j+g.length):=by omega
   clear aj av G HI ah ai;have R2:=R.but A (by omega);obtain⟨T,B,U,V,W,C,X,Y,Z,D,n9,c9,rfl,g1,g2,g3⟩:=id ae;clear g1 g2 g3;obtain⟨al,aw,am⟩:=R2.all;have aC:=af.lt;by_cases h5:j % 2=1
   ·rw[decide_eq_true h5]
    go_wp2_with fail
    refine(xnegate_any r.v 1000000 _ _ (ae.soft (Sf.alloc (Sf.refl 2 F) (.cells #[.bool T,.slice B U V,.bool W,.slice C X Y,.bool Z,.slice D n9 c9,.int .i64 r.v.d] 40))) (by omega) (HR.out).f).mono ?_;rintro e w3 ⟨v3,rfl,an,ao⟩;obtain⟨H,q,I,J,K,u,L,M,N,x,O,P,rfl,g1,g2,g3⟩:=id an;clear g1 g2 g3;have S:Kp F w3:=(kp_alloc F (.cells #[.bool T,.slice B U V,.bool W,.slice C X Y,.bool Z,.slice D n9 c9,.int .i64 r.v.d] 40)).trans' ao;have ax:=af.keep S;have Q:=R2.keep S;have V3:Blk w3 F.heap.size #[.bool T,.slice B U V,.bool W,.slice C X Y,.bool Z,.slice D n9 c9,.int .i64 r.v.d] 40:=Blk.keep ao (Blk.new F _ _);obtain⟨ay,aD,aE⟩:=Q.all;obtain⟨aF,aG,aH⟩:=V3.all;have aI:w.heap.size≠F.heap.size:=by omega
    clear al aw am
    go_wp2_with fail
    refine bodyPost_ret (v:=.agg #[.bool H,.slice q I J,.bool K,.slice u L M,.bool N,.slice x O P,.int .i64 (qneg r.v).d]) (by simp[results,Tryz.results85,go_sem,ay]) rfl ?_;have e9:negs j r=⟨qneg r.v,r.e,r.k⟩:=by unfold negs;rw[if_pos (by omega)]
    rw[e9]
    exact⟨_,i2,rfl,an.soft (Sf.set (t:=40) (c:=w.heap.size) (o:=6) (y:=.int .i64 (qneg r.v).d) (Sf.set (t:=40) (c:=w.heap.size) (o:=5) (y:=.slice x O P) (Sf.set (t:=40) (c:=w.heap.size) (o:=4) (y:=.bool N) (Sf.set (t:=40) (c:=w.heap.size) (o:=3) (y:=.slice u L M) (Sf.set (t:=40) (c:=w.heap.size) (o:=2) (y:=.bool K) (Sf.set (t:=40) (c:=w.heap.size) (o:=1) (y:=.slice q I J) (Sf.set (t:=40) (c:=w.heap.size) (o:=0) (y:=.bool H) (stS7 (E:=2) (.bool H) (.slice q I J) (.bool K) (.slice u L M) (.bool N) (.slice x O P) (.int .i64 (qneg r.v).d) V3 (by decide)) (by first | (simp only[elemOf_setCell];exact Q.elem) | exact Q.elem) (by decide)) (by first | (simp only[elemOf_setCell];exact Q.elem) | exact Q.elem) (by decide)) (by first | (simp only[elemOf_setCell];exact Q.elem) | exact Q.elem) (by decide)) (by first | (simp only[elemOf_setCell];exact Q.elem) | exact Q.elem) (by decide)) (by first | (simp only[elemOf_setCell];exact Q.elem) | exact Q.elem) (by decide)) (by first | (simp only[elemOf_setCell];exact Q.elem) | exact Q.elem) (by decide)) (by first | (simp only[elemOf_setCell];exact Q.elem) | exact Q.elem) (by decide)),(Blk.other (c:=w.heap.size) (o:=6) (y:=.int .i64 (qneg r.v).d) (Blk.other (c:=w.heap.size) (o:=5) (y:=.slice x O P) (Blk.other (c:=w.heap.size) (o:=4) (y:=.bool N) (Blk.other (c:=w.heap.size) (o:=3) (y:=.slice u L M) (Blk.other (c:=w.heap.size) (o:=2) (y:=.bool K) (Blk.other (c:=w.heap.size) (o:=1) (y:=.slice q I J) (Blk.other (c:=w.heap.size) (o:=0) (y:=.bool H) (Blk.other (c:=F.heap.size) (o:=6) (y:=.int .i64 (qneg r.v).d) (Blk.other (c:=F.heap.size) (o:=5) (y:=.slice x O P) (Blk.other (c:=F.heap.size) (o:=4) (y:=.bool N) (Blk.other (c:=F.heap.size) (o:=3) (y:=.slice u L M) (Blk.other (c:=F.heap.size) (o:=2) (y:=.bool K) (Blk.other (c:=F.heap.size) (o:=1) (y:=.slice q I J) (Blk.other (c:=F.heap.size) (o:=0) (y:=.bool H) ax (by omega)) (by omega)) (by omega)) (by omega)) (by omega)) (by omega)) (by omega)) (by omega)) (by omega)) (by omega)) (by omega)) (by omega)) (by omega)) (by omega)),fun h=>by have:=ak.out h;omega,by omega,(KeepsBut.setNew (d:=w.heap.size) (o:=6) (y:=.int .i64 (qneg r.v).d) (KeepsBut.setNew (d:=w.heap.size) (o:=5) (y:=.slice x O P) (KeepsBut.setNew (d:=w.heap.size) (o:=4) (y:=.bool N) (KeepsBut.setNew (d:=w.heap.size) (o:=3) (y:=.slice u L M) (KeepsBut.setNew (d:=w.heap.size) (o:=2) (y:=.bool K) (KeepsBut.setNew (d:=w.heap.size) (o:=1) (y:=.slice q I J) (KeepsBut.setNew (d:=w.heap.size) (o:=0) (y:=.bool H) (KeepsBut.setNew (d:=F.heap.size) (o:=6) (y:=.int .i64 (qneg r.v).d) (KeepsBut.setNew (d:=F.heap.size) (o:=5) (y:=.slice x O P) (KeepsBut.setNew (d:=F.heap.size) (o:=4) (y:=.bool N) (KeepsBut.setNew (d:=F.heap.size) (o:=3) (y:=.slice u L M) (KeepsBut.setNew (d:=F.heap.size) (o:=2) (y:=.bool K) (KeepsBut.setNew (d:=F.heap.size) (o:=1) (y:=.slice q I J) (KeepsBut.setNew (d:=F.heap.size) (o:=0) (y:=.bool H) (((z.trans (KeepsBut.of_kp a)).trans A).trans (KeepsBut.of_kp S)) (by have:=z.size;have:=a.size;have:=A.size;omega)) (by have:=z.size;have:=a.size;have:=A.size;omega)) (by have:=z.size;have:=a.size;have:=A.size;omega)) (by have:=z.size;have:=a.size;have:=A.size;omega)) (by have:=z.size;have:=a.size;have:=A.size;omega)) (by have:=z.size;have:=a.size;have:=A.size;omega)) (by have:=z.size;have:=a.size;have:=A.size;omega)) (Nat.le_refl _)) (Nat.le_refl _)) (Nat.le_refl _)) (Nat.le_refl _)) (Nat.le_refl _)) (Nat.le_refl _)) (Nat.le_refl _))⟩
   ·rw[decide_eq_false h5]
    go_wp2_with fail
    refine bodyPost_ret (v:=.agg #[.bool T,.slice B U V,.bool W,.slice C X Y,.bool Z,.slice D n9 c9,.int .i64 r.v.d]) (by simp[results,Tryz.results85,go_sem,al,am]) rfl ?_;have e9:negs j r=r:=by unfold negs;rw[if_neg (by omega)]
    rw[e9];exact⟨_,i2,rfl,ae.soft (Sf.alloc (stS7 (E:=2) (.bool T) (.slice B U V) (.bool W) (.slice C X Y) (.bool Z) (.slice D n9 c9) (.int .i64 r.v.d) R2 (by decide)) (.cells #[.bool T,.slice B U V,.bool W,.slice C X Y,.bool Z,.slice D n9 c9,.int .i64 r.v.d] 40)),Blk.alloc (Blk.other (c:=w.heap.size) (o:=6) (y:=.int .i64 r.v.d) (Blk.other (c:=w.heap.size) (o:=5) (y:=.slice D n9 c9) (Blk.other (c:=w.heap.size) (o:=4) (y:=.bool Z) (Blk.other (c:=w.heap.size) (o:=3) (y:=.slice C X Y) (Blk.other (c:=w.heap.size) (o:=2) (y:=.bool W) (Blk.other (c:=w.heap.size) (o:=1) (y:=.slice B U V) (Blk.other (c:=w.heap.size) (o:=0) (y:=.bool T) af (by omega)) (by omega)) (by omega)) (by omega)) (by omega)) (by omega)) (by omega)) (.cells #[.bool T,.slice B U V,.bool W,.slice C X Y,.bool Z,.slice D n9 c9,.int .i64 r.v.d] 40),fun h=>by have:=ak.out h;omega,by omega,KeepsBut.alloc (KeepsBut.setNew (d:=w.heap.size) (o:=6) (y:=.int .i64 r.v.d) (KeepsBut.setNew (d:=w.heap.size) (o:=5) (y:=.slice D n9 c9) (KeepsBut.setNew (d:=w.heap.size) (o:=4) (y:=.bool Z) (KeepsBut.setNew (d:=w.heap.size) (o:=3) (y:=.slice C X Y) (KeepsBut.setNew (d:=w.heap.size) (o:=2) (y:=.bool W) (KeepsBut.setNew (d:=w.heap.size) (o:=1) (y:=.slice B U V) (KeepsBut.setNew (d:=w.heap.size) (o:=0) (y:=.bool T) ((z.trans (KeepsBut.of_kp a)).trans A) (Nat.le_refl _)) (Nat.le_refl _)) (Nat.le_refl _)) (Nat.le_refl _)) (Nat.le_refl _)) (Nat.le_refl _)) (Nat.le_refl _)) (.cells #[.bool T,.slice B U V,.bool W,.slice C X Y,.bool Z,.slice D n9 c9,.int .i64 r.v.d] 40)⟩
theorem factor_any (n:Nat) (d:n≤8) (hF:Rds 104 (Bare n) isD):Rds 85 (Fc n) isD:=by
 intro s p t post r b w e a f g h;obtain⟨m,c,i,rfl,j,rfl⟩:=fc_bare f;rw[List.append_assoc] at a;rw[List.length_append,List.length_replicate];exact factor_at n m d hF s p c post i b w e a j g h
end
section
open Go.RowKit
def errOf (b:Nat) (w:World):Int:=((w.cell? ⟨b,2,none⟩).map intOf).getD 0
theorem errOf_blk {w:World} {b:Nat} {s:ByteArray} {i:Int} {er ea:Int} (h:Blk w b #[.string s,.int .i64 i,.int .i64 er,.int .i64 ea] 73):errOf b w=er:=by
 unfold errOf;rw[h.cell 2];simp[intOf]
def farOf (s:ByteArray) (b:Nat) (w:World):Nat:=if errOf b w=0 then s.size+1 - atOf b w else 0
theorem chT_err {F:List Int→Nat→Rs→Prop} {ops:Int→Prop}:∀(k:Nat) (acc:Rs) (q:Nat) (rest:List Int) (r:Rs),acc.e≠0→ChT F ops k acc q rest r→r=acc
 | 0,acc,q,rest,r,_,h=>h.2
 | k+1,acc,q,rest,r,he,h=>by
  obtain⟨c,t,b,d,_,_,_,a⟩:=h;have e:opR c q acc d=acc:=by unfold opR;rw[if_pos he]
  rw[e] at a;exact chT_err k acc _ b r he a
def LoopAt (F:List Int→Nat→Rs→Prop) (ops:Int→Prop) (j C:Nat) (s:ByteArray) (post:List Int) (r:Rs) (fin:Nat) (acc:Rs) (i:Nat):Prop :=
 ∃ k q rest M,ChT F ops k acc q rest r∧(acc.e=0→i=q)∧i≤q∧q+rest.length=fin∧At s q (rest ++ post)∧RsOk M acc∧M+j*C*rest.length≤15000000
theorem loop_err {F:List Int→Nat→Rs→Prop} {ops:Int→Prop} {j C:Nat} {s:ByteArray} {post:List Int} {r:Rs} {fin:Nat} {acc:Rs} {i:Nat} (h:LoopAt F ops j C s post r fin acc i) (a:acc.e≠0):r=acc∧i≤fin:=by
 obtain⟨k,q,rest,M,b,c,d,f,g,l,m⟩:=h;exact⟨chT_err k acc q rest r a b,by omega⟩
theorem loop_ok {F:List Int→Nat→Rs→Prop} {ops:Int→Prop} {j C:Nat} {s:ByteArray} {post:List Int} {r:Rs} {fin:Nat} {acc:Rs} {i:Nat} (h:LoopAt F ops j C s post r fin acc i):RsOk 15000000 acc∧fin+post.length=s.size∧i≤s.size:=by
 obtain⟨k,q,rest,M,c,d,e,f,a,b,g⟩:=h;have:=a.size;rw[List.length_append] at this;exact⟨b.mono (by omega),by omega,by omega⟩
theorem loop_step {F:List Int→Nat→Rs→Prop} {ops Pc:Int→Prop} {j C:Nat} (Z:20≤C) (K:1≤j) (hF:∀ t p r,F t p r→RsOk (C*t.length) r)
  (B:∀ c a b m n,ops c→QF m a→QF n b→QD a→QD b→QF (m+j*n+20) (comb c a b).1) (D:∀ c,ops c→¬ Pc c) (R:¬ ops 0)
  {s:ByteArray} {post:List Int} {r:Rs} {fin:Nat} {acc:Rs} {i:Nat} (g:Hd (fun c=>Pc c∨ops c) post) (h:LoopAt F ops j C s post r fin acc i) (S:acc.e=0) :
  (r=acc∧i=fin∧¬ ops (byteAt s i))∨∃ t o post',ops (byteAt s i)∧i<s.size∧F t (i+1) o∧At s (i+1) (t ++ post')∧Hd Pc post'∧RsOk 15000000 o ∧
   ∀ z,(o.e=0→z=i+1+t.length)→z≤i+1+t.length→LoopAt F ops j C s post r fin (opR (byteAt s i) i acc o) z:=by
 obtain⟨k,q,rest,M,L,T,h3,N,x,E,U⟩:=h;have G:=T S;subst G
 cases k with
 | zero =>
  obtain⟨rfl,rfl⟩:=L;refine Or.inl ⟨rfl,by simpa using N,?_⟩;have y:=x.byte 0;rw[Nat.add_zero,List.nil_append] at y;rw[y]
  cases post with
  | nil=>rw[at0_nil];exact R
  | cons c l=>rw[at0_cons_zero];exact fun H=>g c l rfl (Or.inr H)
 | succ k =>
  obtain⟨c,t,u,o,O,rfl,P,I⟩:=L;have y:=x.byte 0;rw[Nat.add_zero,List.cons_append,at0_cons_zero] at y;have J:=x.size;simp only[List.length_append,List.length_cons] at J N U;have A:=hF t _ o P;have e1:j*C*(t.length+u.length+1)=j*(C*t.length)+j*C*u.length+j*C:=by
   rw[Nat.mul_add,Nat.mul_add,Nat.mul_one,Nat.mul_assoc]
  have e2:C≤j*C:=Nat.le_mul_of_pos_left C K;have e3:C*t.length≤j*(C*t.length):=Nat.le_mul_of_pos_left _ K;rw[y];refine Or.inr ⟨t,o,u ++ post,O,by omega,P,?_,?_,A.mono (by omega),?_⟩
  ·have:=At.step (t:=[c]) (l:=t ++ (u ++ post)) (by simpa using x);exact this
  ·intro Q l e
   cases u with
   | nil=>exact fun H=>g Q l e (Or.inl H)
   | cons c'' s'' =>
    rw[List.cons_append] at e
    cases e
    cases k with
    | zero=>cases I.1
    | succ k =>
     obtain⟨c3,_,_,_,V,W,_⟩:=I
     cases W
     exact D Q V
  ·intro z X Y;refine⟨k,i+1+t.length,u,M+j*(C*t.length)+20,I,?_,Y,by omega,?_,?_,by omega⟩
   ·intro v;refine X ?_;by_cases w:o.e=0
    ·exact w
    ·exfalso
     unfold opR at v;rw[if_neg (by omega),if_pos w] at v;exact w v
   ·have:=At.step (t:=c :: t) (l:=u ++ post) (by simpa using x);rw[List.length_cons] at this
    rwa [show i+1+t.length=i+(t.length+1) by omega]
   ·exact opR_ok (k:=j) (p:=i) E A (B c _ _ _ _ O E.f A.f E.d A.d)
def isM (c:Int):Prop:=isD c∨mulOp c
theorem product_at (n m:Nat) (hn:n≤8) (hF:Rds 85 (Fc n) isD) (s:ByteArray) (p:Nat) (f s' post:List Int) (rf r:Rs) (b:Nat) (w:World) (hs:s.size≤100) (au:At s p (f ++ (s' ++ post))) (hf:Fc n f p rf) (hc:ChT (Fc n) mulOp m rf (p+f.length) s' r) (hh:Hd (fun c=>isD c∨mulOp c) post) (hB:Blk w b #[.string s,.int .i64 p,.int .i64 0,.int .i64 0] 73) :
  Calls Tryz.prog 62 #[.pointer (some ⟨b,0,none⟩)] w (RetS b s (p+(f.length+s'.length)) r w):=by
 have a6:=au.size;rw[List.length_append,List.length_append] at a6;have aB:∀ t p r,Fc n t p r→RsOk (20*2 ^ n*t.length) r:=fc_ok n;have a7:20*2 ^ n≤5120:=by
  have h1:2 ^ n≤2 ^ 8:=Nat.pow_le_pow_right (by decide) hn;omega
 have aS:20≤20*2 ^ n:=by
  have h1:0<2 ^ n:=Nat.pow_pos (by decide);omega
 have aC:∀ c,mulOp c→¬ isD c:=by
  intro c h1 h2;unfold mulOp at h1;unfold isD at h2;rcases h1 with rfl | rfl <;> revert h2 <;> decide
 have aT:¬ mulOp 0:=by unfold mulOp;decide
 have a8:Hd isD (s' ++ post):=by
  intro c' l e
  cases s' with
  | nil=>exact fun hc=>hh c' l e (Or.inl hc)
  | cons c'' s'' =>
   rw[List.cons_append] at e
   cases e
   cases m with
   | zero=>cases hc.1
   | succ k =>
    obtain⟨c3,_,_,_,g5,g6,_⟩:=hc
    cases g6
    exact aC c' g5
 have HL:Hid (∀ i,(rf.e=0→i=p+f.length)→i≤p+f.length→LoopAt (Fc n) mulOp 2 (20*2 ^ n) s post r (p+(f.length+s'.length)) rf i):=by
  intro i h1 h2;refine⟨m,p+f.length,s',20*2 ^ n*f.length,hc,h1,h2,by omega,At.step au,aB f p rf hf,?_⟩;have h3:20*2 ^ n*f.length≤10240*100:=Nat.mul_le_mul (by omega) (by omega);have h4:2*(20*2 ^ n)*s'.length≤20480*100:=Nat.mul_le_mul (by omega) (by omega);omega
 have av:=Hid.mk (fun(acc:Rs) (i:Nat) h he=>loop_step (F:=Fc n) (ops:=mulOp) (Pc:=isD) (j:=2) (C:=20*2 ^ n) aS (by decide) aB mul_cost aC aT (s:=s) (post:=post) (r:=r) (fin:=p+(f.length+s'.length)) (acc:=acc) (i:=i) hh h he);have al:=Hid.mk au;have HF:=Hid.mk hf;clear au hf hc hh aC aT aB a7 aS;have bh:=hB.lt;have aw:Blk (w.alloc (.cells #[.bool false,.slice none 0 0,.bool false,.slice none 0 0,.bool false,.slice none 0 0,.int .i64 0] 40)) b #[.string s,.int .i64 p,.int .i64 0,.int .i64 0] 73:=Blk.alloc hB (.cells #[.bool false,.slice none 0 0,.bool false,.slice none 0 0,.bool false,.slice none 0 0,.int .i64 0] 40);have ai:=Blk.new w #[.bool false,.slice none 0 0,.bool false,.slice none 0 0,.bool false,.slice none 0 0,.int .i64 0] 40
 go_enter Tryz.func62,Tryz.ntmps62
 go_wp2_with fail
 refine(hF s p f (s' ++ post) rf b _ hs al.out HF.out a8 aw).mono ?_;rintro e a ⟨vA,iA,rfl,aD,aE,aa,aj,aF⟩;have aG:=ai.but aF (by omega);have ay:KeepsBut b w a:=(KeepsBut.alloc (KeepsBut.refl b w) (.cells #[.bool false,.slice none 0 0,.bool false,.slice none 0 0,.bool false,.slice none 0 0,.int .i64 0] 40)).trans aF;have be:=aF.size;have aU:Hid (LoopAt (Fc n) mulOp 2 (20*2 ^ n) s post r (p+(f.length+s'.length)) rf iA):=HL.out iA aa aj;obtain⟨b1,M,n1,c1,b2,N,n2,c2,b3,O,n3,c3,rfl,g1,g2,g3⟩:=id aD;clear g1 g2 g3 HL al HF aa aj;have bi:=aG.lt;have bj:=aE.lt
 go_wp2_with fail
 go_loopw [4,5,6] (fun _ _ _ wr=>∃(acc:Rs) (i:Nat) (b1:Bool) (M:Option Addr) (n1 c1:Nat) (b2:Bool) (N:Option Addr) (n2 c2:Nat) (b3:Bool) (O:Option Addr) (n3 c3:Nat),
   XN wr (.agg #[.bool b1,.slice M n1 c1,.bool b2,.slice N n2 c2,.bool b3,.slice O n3 c3,.int .i64 acc.v.d]) acc.v∧Blk wr a.heap.size #[.bool b1,.slice M n1 c1,.bool b2,.slice N n2 c2,.bool b3,.slice O n3 c3,.int .i64 acc.v.d] 40∧Blk wr b #[.string s,.int .i64 i,.int .i64 acc.e,.int .i64 acc.k] 73∧Blk wr w.heap.size #[.bool false,.slice none 0 0,.bool false,.slice none 0 0,.bool false,.slice none 0 0,.int .i64 0] 40∧KeepsBut b w wr∧Hid (LoopAt (Fc n) mulOp 2 (20*2 ^ n) s post r (p+(f.length+s'.length)) acc i))
  (fun _ _ _ wr=>farOf s b wr)
 case atStart=>exact⟨rf,iA,b1,M,n1,c1,b2,N,n2,c2,b3,O,n3,c3,aD.soft (Sf.alloc (Sf.refl _ _) _),Blk.new a _ _,Blk.alloc aE _,Blk.alloc aG _,KeepsBut.alloc ay _,aU⟩
 case round =>
  clear aD aE aG aU ay;obtain⟨acc,i,b1,M,n1,c1,b2,N,n2,c2,b3,O,n3,c3,ac,U,V,P,aH,ak⟩:=hrel;have HM:Hid (farOf s b wr=if acc.e=0 then s.size+1 - i else 0):=by unfold Hid farOf;rw[errOf_blk V,atOf_blk V]
  obtain⟨am,bm,bn⟩:=loop_ok ak.out;have ax:=Hid.mk am;clear am;have bc:=V.cell;have bl:=V.lt;have vc:=U.cell;have vl:=U.lt;have rc:=P.cell;have aI:=P.frozen;have rl:=P.lt;have bg:w.heap.size≠a.heap.size:=by omega
  by_cases he:acc.e=0
  ·rcases av.out acc i ak.out he with ⟨am,aV,aJ⟩|⟨t,W,aK,a9,bo,aW,az,aX,aY,an⟩
   ·
    have x1:(byteAt s i != 42)=true:=by
     have:byteAt s i≠42:=fun h=>aJ (Or.inl h);simp[this]
    have x2:(byteAt s i != 47)=true:=by
     have:byteAt s i≠47:=fun h=>aJ (Or.inr h);simp[this]
    have aZ:Blk wr b #[.string s,.int .i64 i,.int .i64 0,.int .i64 0] 73:=by have h9:=V;rw[he,(ax.out).k he] at h9;exact h9
    have HE:Hid (r=acc∧i=p+(f.length+s'.length)):=⟨am,aV⟩;clear aJ av ak am aV;rw[he] at bc
    go_wp2_with fail
    refine(peek_any s i 0 0 b _ aZ (by omega) (by omega)).mono ?_;rintro e w1 ⟨rfl,Q⟩;have aw:=V.keep Q;have ai:=P.keep Q;have a0:=U.keep Q;replace ac:=ac.keep Q;generalize byteAt s i=cc at *;clear bc bl vc vl rc aI rl V P U aZ;have vc:=a0.cell;have vl:=a0.lt;have rc:=ai.cell;have aI:=ai.frozen;have rl:=ai.lt;have bl:=aw.lt
    go_wp2_with fail
    refine bodyPost_ret (v:=.agg #[.bool b1,.slice M n1 c1,.bool b2,.slice N n2 c2,.bool b3,.slice O n3 c3,.int .i64 acc.v.d]) (by simp[results,Tryz.results62,go_sem,rc]) rfl ?_;obtain⟨e1,e2⟩:=HE.out;rw[e1];exact⟨_,i,rfl,ac.soft (stS7 (E:=2) (.bool b1) (.slice M n1 c1) (.bool b2) (.slice N n2 c2) (.bool b3) (.slice O n3 c3) (.int .i64 acc.v.d) ai (by decide)),(Blk.other (c:=w.heap.size) (o:=6) (y:=.int .i64 acc.v.d) (Blk.other (c:=w.heap.size) (o:=5) (y:=.slice O n3 c3) (Blk.other (c:=w.heap.size) (o:=4) (y:=.bool b3) (Blk.other (c:=w.heap.size) (o:=3) (y:=.slice N n2 c2) (Blk.other (c:=w.heap.size) (o:=2) (y:=.bool b2) (Blk.other (c:=w.heap.size) (o:=1) (y:=.slice M n1 c1) (Blk.other (c:=w.heap.size) (o:=0) (y:=.bool b1) aw (by omega)) (by omega)) (by omega)) (by omega)) (by omega)) (by omega)) (by omega)),fun _=>e2,by omega,(KeepsBut.setNew (d:=w.heap.size) (o:=6) (y:=.int .i64 acc.v.d) (KeepsBut.setNew (d:=w.heap.size) (o:=5) (y:=.slice O n3 c3) (KeepsBut.setNew (d:=w.heap.size) (o:=4) (y:=.bool b3) (KeepsBut.setNew (d:=w.heap.size) (o:=3) (y:=.slice N n2 c2) (KeepsBut.setNew (d:=w.heap.size) (o:=2) (y:=.bool b2) (KeepsBut.setNew (d:=w.heap.size) (o:=1) (y:=.slice M n1 c1) (KeepsBut.setNew (d:=w.heap.size) (o:=0) (y:=.bool b1) (aH.trans (KeepsBut.of_kp Q)) (Nat.le_refl _)) (Nat.le_refl _)) (Nat.le_refl _)) (Nat.le_refl _)) (Nat.le_refl _)) (Nat.le_refl _)) (Nat.le_refl _))⟩
   ·
    have R:Blk wr b #[.string s,.int .i64 i,.int .i64 0,.int .i64 0] 73:=by have h9:=V;rw[he,(ax.out).k he] at h9;exact h9
    have HN:=Hid.mk an;have a1:=Hid.mk aW;have al:=Hid.mk az;have a2:=Hid.mk aY;have a3:=Hid.mk aX;clear an aW az aY aX av ak bc rc aI;have bc:=R.cell;have bf:=R.frozen;have step:∀ cc:Int,byteAt s i=cc→((cc != 42)=false∨((cc != 42)=true∧(cc != 47)=false))→True:=fun _ _ _=>trivial;clear step
    go_wp2_with fail
    refine(peek_any s i 0 0 b _ R (by omega) (by omega)).mono ?_;rintro e w1 ⟨rfl,Q⟩;replace R:=R.keep Q;replace P:=P.keep Q;replace U:=U.keep Q;replace ac:=ac.keep Q;clear bc bf bl vc vl rl V;have bc:=R.cell;have bf:=R.frozen;have bl:=R.lt;have vc:=U.cell;have vl:=U.lt;have rl:=P.lt;have aA:=aH.trans (KeepsBut.of_kp Q);have a4:Blk (w1.setCell ⟨b,1,none⟩ (.int .i64 ((i:Int)+1))) b #[.string s,.int .i64 ((i+1:Nat):Int),.int .i64 0,.int .i64 0] 73:=by
     rw[show ((i+1:Nat):Int)=(i:Int)+1 by omega];exact Blk.set (o:=1) (y:=.int .i64 ((i:Int)+1)) R
    have hT:=Hid.mk (fun w' ba=>hF s (i+1) t aK W b w' hs al.out a1.out a3.out ba);have a5:Hid (farOf s b wr=s.size+1 - i):=by unfold Hid;rw[HM.out,if_pos he]
    clear al a1 a3 HM;have bb:=a9;generalize byteAt s i=cc at *;rcases bb with rfl | rfl
    ·have x1:((42:Int) == 42)=true:=by decide
     go_wp2_with fail
     refine(hT.out _ a4).mono ?_;rintro e w3 ⟨v3,i3,rfl,ao,aL,aa,aj,ap⟩;have L:KeepsBut b w1 w3:=(KeepsBut.setCell (KeepsBut.refl b w1) 1 (.int .i64 ((i:Int)+1))).trans ap;have aM:=P.but L (by omega);have ad:=U.but L (by omega);have aq:=ac.soft (Sf.butB R L);have ae:=Hid.mk aa;clear aa ap bc bf bl vc vl rl;obtain⟨b4,X,n4,c4,b5,Y,n5,c5,b6,Z,n6,c6,rfl,g1,g2,g3⟩:=id ao;clear g1 g2 g3;have vc:=ad.cell;have vl:=ad.lt
     go_wp2_with fail
     refine(operate_any s i3 (42) i acc W 15000000 b _ _ _ (Blk.alloc aL (.cells #[.bool b4,.slice X n4 c4,.bool b5,.slice Y n5 c5,.bool b6,.slice Z n6 c6,.int .i64 W.v.d] 40)) (aq.soft (Sf.alloc (Sf.refl _ _) (.cells #[.bool b4,.slice X n4 c4,.bool b5,.slice Y n5 c5,.bool b6,.slice Z n6 c6,.int .i64 W.v.d] 40))) (ao.soft (Sf.alloc (Sf.refl _ _) (.cells #[.bool b4,.slice X n4 c4,.bool b5,.slice Y n5 c5,.bool b6,.slice Z n6 c6,.int .i64 W.v.d] 40))) he (by omega) ax.out a2.out).mono ?_;rintro e w4 ⟨v4,rfl,ar,af,aN⟩;have S:KeepsBut b w3 w4:=(KeepsBut.alloc (KeepsBut.refl b w3) (.cells #[.bool b4,.slice X n4 c4,.bool b5,.slice Y n5 c5,.bool b6,.slice Z n6 c6,.int .i64 W.v.d] 40)).trans aN;have aO:=aM.but S (by omega);have T:=ad.but S (by omega);have aP:Hid (LoopAt (Fc n) mulOp 2 (20*2 ^ n) s post r (p+(f.length+s'.length)) (opR (42) i acc W) i3):=HN.out i3 ae.out aj;have aQ:Hid ((opR (42) i acc W).e=0→i3=i+1+t.length):=by
      intro ag;refine ae.out ?_;by_cases ah:W.e=0
      ·exact ah
      ·exfalso
       unfold opR at ag;rw[if_neg (by omega),if_pos ah] at ag;exact ah ag
     obtain⟨x,g,z,B,D,q,G,H,I,u,J,K,rfl,g1,g2,g3⟩:=id ar;clear g1 g2 g3 vc vl HN hT ae;generalize opR (42) i acc W=A at *;have vc:=T.cell;have vf:=T.frozen;have vl:=T.lt
     go_wp2_with fail
     go_roundw
     case rel =>
      refine⟨A,i3,x,g,z,B,D,q,G,H,I,u,J,K,ar.soft (stS7 (E:=2) (.bool x) (.slice g z B) (.bool D) (.slice q G H) (.bool I) (.slice u J K) (.int .i64 A.v.d) T (by decide)),(Blk.set (o:=6) (y:=.int .i64 A.v.d) (Blk.set (o:=5) (y:=.slice u J K) (Blk.set (o:=4) (y:=.bool I) (Blk.set (o:=3) (y:=.slice q G H) (Blk.set (o:=2) (y:=.bool D) (Blk.set (o:=1) (y:=.slice g z B) (Blk.set (o:=0) (y:=.bool x) T))))))),(Blk.other (c:=a.heap.size) (o:=6) (y:=.int .i64 A.v.d) (Blk.other (c:=a.heap.size) (o:=5) (y:=.slice u J K) (Blk.other (c:=a.heap.size) (o:=4) (y:=.bool I) (Blk.other (c:=a.heap.size) (o:=3) (y:=.slice q G H) (Blk.other (c:=a.heap.size) (o:=2) (y:=.bool D) (Blk.other (c:=a.heap.size) (o:=1) (y:=.slice g z B) (Blk.other (c:=a.heap.size) (o:=0) (y:=.bool x) af (by omega)) (by omega)) (by omega)) (by omega)) (by omega)) (by omega)) (by omega)),(Blk.other (c:=a.heap.size) (o:=6) (y:=.int .i64 A.v.d) (Blk.other (c:=a.heap.size) (o:=5) (y:=.slice u J K) (Blk.other (c:=a.heap.size) (o:=4) (y:=.bool I) (Blk.other (c:=a.heap.size) (o:=3) (y:=.slice q G H) (Blk.other (c:=a.heap.size) (o:=2) (y:=.bool D) (Blk.other (c:=a.heap.size) (o:=1) (y:=.slice g z B) (Blk.other (c:=a.heap.size) (o:=0) (y:=.bool x) aO (by omega)) (by omega)) (by omega)) (by omega)) (by omega)) (by omega)) (by omega)),(KeepsBut.setNew (d:=a.heap.size) (o:=6) (y:=.int .i64 A.v.d) (KeepsBut.setNew (d:=a.heap.size) (o:=5) (y:=.slice u J K) (KeepsBut.setNew (d:=a.heap.size) (o:=4) (y:=.bool I) (KeepsBut.setNew (d:=a.heap.size) (o:=3) (y:=.slice q G H) (KeepsBut.setNew (d:=a.heap.size) (o:=2) (y:=.bool D) (KeepsBut.setNew (d:=a.heap.size) (o:=1) (y:=.slice g z B) (KeepsBut.setNew (d:=a.heap.size) (o:=0) (y:=.bool x) ((aA.trans L).trans S) (by omega)) (by omega)) (by omega)) (by omega)) (by omega)) (by omega)) (by omega)),aP⟩
     case measure =>
      rw[a5.out];unfold farOf;rw[errOf_blk (Blk.other (c:=a.heap.size) (o:=6) (y:=.int .i64 A.v.d) (Blk.other (c:=a.heap.size) (o:=5) (y:=.slice u J K) (Blk.other (c:=a.heap.size) (o:=4) (y:=.bool I) (Blk.other (c:=a.heap.size) (o:=3) (y:=.slice q G H) (Blk.other (c:=a.heap.size) (o:=2) (y:=.bool D) (Blk.other (c:=a.heap.size) (o:=1) (y:=.slice g z B) (Blk.other (c:=a.heap.size) (o:=0) (y:=.bool x) af (by omega)) (by omega)) (by omega)) (by omega)) (by omega)) (by omega)) (by omega)),atOf_blk (Blk.other (c:=a.heap.size) (o:=6) (y:=.int .i64 A.v.d) (Blk.other (c:=a.heap.size) (o:=5) (y:=.slice u J K) (Blk.other (c:=a.heap.size) (o:=4) (y:=.bool I) (Blk.other (c:=a.heap.size) (o:=3) (y:=.slice q G H) (Blk.other (c:=a.heap.size) (o:=2) (y:=.bool D) (Blk.other (c:=a.heap.size) (o:=1) (y:=.slice g z B) (Blk.other (c:=a.heap.size) (o:=0) (y:=.bool x) af (by omega)) (by omega)) (by omega)) (by omega)) (by omega)) (by omega)) (by omega))]
      split
      ·rename_i aR
       have:=aQ.out aR;omega
      ·omega
    ·have x1:((47:Int) == 42)=false:=by decide
     go_wp2_with fail
     refine(hT.out _ a4).mono ?_;rintro e w3 ⟨v3,i3,rfl,ao,aL,aa,aj,ap⟩;have L:KeepsBut b w1 w3:=(KeepsBut.setCell (KeepsBut.refl b w1) 1 (.int .i64 ((i:Int)+1))).trans ap;have aM:=P.but L (by omega);have ad:=U.but L (by omega);have aq:=ac.soft (Sf.butB R L);have ae:=Hid.mk aa;clear aa ap bc bf bl vc vl rl;obtain⟨b4,X,n4,c4,b5,Y,n5,c5,b6,Z,n6,c6,rfl,g1,g2,g3⟩:=id ao;clear g1 g2 g3;have vc:=ad.cell;have vl:=ad.lt
     go_wp2_with fail
     refine(operate_any s i3 (47) i acc W 15000000 b _ _ _ (Blk.alloc aL (.cells #[.bool b4,.slice X n4 c4,.bool b5,.slice Y n5 c5,.bool b6,.slice Z n6 c6,.int .i64 W.v.d] 40)) (aq.soft (Sf.alloc (Sf.refl _ _) (.cells #[.bool b4,.slice X n4 c4,.bool b5,.slice Y n5 c5,.bool b6,.slice Z n6 c6,.int .i64 W.v.d] 40))) (ao.soft (Sf.alloc (Sf.refl _ _) (.cells #[.bool b4,.slice X n4 c4,.bool b5,.slice Y n5 c5,.bool b6,.slice Z n6 c6,.int .i64 W.v.d] 40))) he (by omega) ax.out a2.out).mono ?_;rintro e w4 ⟨v4,rfl,ar,af,aN⟩;have S:KeepsBut b w3 w4:=(KeepsBut.alloc (KeepsBut.refl b w3) (.cells #[.bool b4,.slice X n4 c4,.bool b5,.slice Y n5 c5,.bool b6,.slice Z n6 c6,.int .i64 W.v.d] 40)).trans aN;have aO:=aM.but S (by omega);have T:=ad.but S (by omega);have aP:Hid (LoopAt (Fc n) mulOp 2 (20*2 ^ n) s post r (p+(f.length+s'.length)) (opR (47) i acc W) i3):=HN.out i3 ae.out aj;have aQ:Hid ((opR (47) i acc W).e=0→i3=i+1+t.length):=by
      intro ag;refine ae.out ?_;by_cases ah:W.e=0
      ·exact ah
      ·exfalso
       unfold opR at ag;rw[if_neg (by omega),if_pos ah] at ag;exact ah ag
     obtain⟨x,g,z,B,D,q,G,H,I,u,J,K,rfl,g1,g2,g3⟩:=id ar;clear g1 g2 g3 vc vl HN hT ae;generalize opR (47) i acc W=A at *;have vc:=T.cell;have vf:=T.frozen;have vl:=T.lt
     go_wp2_with fail
     go_roundw
     case rel =>
      refine⟨A,i3,x,g,z,B,D,q,G,H,I,u,J,K,ar.soft (stS7 (E:=2) (.bool x) (.slice g z B) (.bool D) (.slice q G H) (.bool I) (.slice u J K) (.int .i64 A.v.d) T (by decide)),(Blk.set (o:=6) (y:=.int .i64 A.v.d) (Blk.set (o:=5) (y:=.slice u J K) (Blk.set (o:=4) (y:=.bool I) (Blk.set (o:=3) (y:=.slice q G H) (Blk.set (o:=2) (y:=.bool D) (Blk.set (o:=1) (y:=.slice g z B) (Blk.set (o:=0) (y:=.bool x) T))))))),(Blk.other (c:=a.heap.size) (o:=6) (y:=.int .i64 A.v.d) (Blk.other (c:=a.heap.size) (o:=5) (y:=.slice u J K) (Blk.other (c:=a.heap.size) (o:=4) (y:=.bool I) (Blk.other (c:=a.heap.size) (o:=3) (y:=.slice q G H) (Blk.other (c:=a.heap.size) (o:=2) (y:=.bool D) (Blk.other (c:=a.heap.size) (o:=1) (y:=.slice g z B) (Blk.other (c:=a.heap.size) (o:=0) (y:=.bool x) af (by omega)) (by omega)) (by omega)) (by omega)) (by omega)) (by omega)) (by omega)),(Blk.other (c:=a.heap.size) (o:=6) (y:=.int .i64 A.v.d) (Blk.other (c:=a.heap.size) (o:=5) (y:=.slice u J K) (Blk.other (c:=a.heap.size) (o:=4) (y:=.bool I) (Blk.other (c:=a.heap.size) (o:=3) (y:=.slice q G H) (Blk.other (c:=a.heap.size) (o:=2) (y:=.bool D) (Blk.other (c:=a.heap.size) (o:=1) (y:=.slice g z B) (Blk.other (c:=a.heap.size) (o:=0) (y:=.bool x) aO (by omega)) (by omega)) (by omega)) (by omega)) (by omega)) (by omega)) (by omega)),(KeepsBut.setNew (d:=a.heap.size) (o:=6) (y:=.int .i64 A.v.d) (KeepsBut.setNew (d:=a.heap.size) (o:=5) (y:=.slice u J K) (KeepsBut.setNew (d:=a.heap.size) (o:=4) (y:=.bool I) (KeepsBut.setNew (d:=a.heap.size) (o:=3) (y:=.slice q G H) (KeepsBut.setNew (d:=a.heap.size) (o:=2) (y:=.bool D) (KeepsBut.setNew (d:=a.heap.size) (o:=1) (y:=.slice g z B) (KeepsBut.setNew (d:=a.heap.size) (o:=0) (y:=.bool x) ((aA.trans L).trans S) (by omega)) (by omega)) (by omega)) (by omega)) (by omega)) (by omega)) (by omega)),aP⟩
     case measure =>
      rw[a5.out];unfold farOf;rw[errOf_blk (Blk.other (c:=a.heap.size) (o:=6) (y:=.int .i64 A.v.d) (Blk.other (c:=a.heap.size) (o:=5) (y:=.slice u J K) (Blk.other (c:=a.heap.size) (o:=4) (y:=.bool I) (Blk.other (c:=a.heap.size) (o:=3) (y:=.slice q G H) (Blk.other (c:=a.heap.size) (o:=2) (y:=.bool D) (Blk.other (c:=a.heap.size) (o:=1) (y:=.slice g z B) (Blk.other (c:=a.heap.size) (o:=0) (y:=.bool x) af (by omega)) (by omega)) (by omega)) (by omega)) (by omega)) (by omega)) (by omega)),atOf_blk (Blk.other (c:=a.heap.size) (o:=6) (y:=.int .i64 A.v.d) (Blk.other (c:=a.heap.size) (o:=5) (y:=.slice u J K) (Blk.other (c:=a.heap.size) (o:=4) (y:=.bool I) (Blk.other (c:=a.heap.size) (o:=3) (y:=.slice q G H) (Blk.other (c:=a.heap.size) (o:=2) (y:=.bool D) (Blk.other (c:=a.heap.size) (o:=1) (y:=.slice g z B) (Blk.other (c:=a.heap.size) (o:=0) (y:=.bool x) af (by omega)) (by omega)) (by omega)) (by omega)) (by omega)) (by omega)) (by omega))]
      split
      ·rename_i aR
       have:=aQ.out aR;omega
      ·omega
  ·have x1:(acc.e == 0)=false:=by simp[he]
   obtain⟨e1,e2⟩:=loop_err ak.out he;have HE:Hid (r=acc∧i≤p+(f.length+s'.length)):=⟨e1,e2⟩;clear av ak e1 e2
   go_wp2_with fail
   refine bodyPost_ret (v:=.agg #[.bool b1,.slice M n1 c1,.bool b2,.slice N n2 c2,.bool b3,.slice O n3 c3,.int .i64 acc.v.d]) (by simp[results,Tryz.results62,go_sem,rc]) rfl ?_;obtain⟨e1,e2⟩:=HE.out;rw[e1];exact⟨_,i,rfl,ac.soft (stS7 (E:=2) (.bool b1) (.slice M n1 c1) (.bool b2) (.slice N n2 c2) (.bool b3) (.slice O n3 c3) (.int .i64 acc.v.d) P (by decide)),(Blk.other (c:=w.heap.size) (o:=6) (y:=.int .i64 acc.v.d) (Blk.other (c:=w.heap.size) (o:=5) (y:=.slice O n3 c3) (Blk.other (c:=w.heap.size) (o:=4) (y:=.bool b3) (Blk.other (c:=w.heap.size) (o:=3) (y:=.slice N n2 c2) (Blk.other (c:=w.heap.size) (o:=2) (y:=.bool b2) (Blk.other (c:=w.heap.size) (o:=1) (y:=.slice M n1 c1) (Blk.other (c:=w.heap.size) (o:=0) (y:=.bool b1) V (by omega)) (by omega)) (by omega)) (by omega)) (by omega)) (by omega)) (by omega)),fun h=>absurd h he,e2,(KeepsBut.setNew (d:=w.heap.size) (o:=6) (y:=.int .i64 acc.v.d) (KeepsBut.setNew (d:=w.heap.size) (o:=5) (y:=.slice O n3 c3) (KeepsBut.setNew (d:=w.heap.size) (o:=4) (y:=.bool b3) (KeepsBut.setNew (d:=w.heap.size) (o:=3) (y:=.slice N n2 c2) (KeepsBut.setNew (d:=w.heap.size) (o:=2) (y:=.bool b2) (KeepsBut.setNew (d:=w.heap.size) (o:=1) (y:=.slice M n1 c1) (KeepsBut.setNew (d:=w.heap.size) (o:=0) (y:=.bool b1) aH (Nat.le_refl _)) (Nat.le_refl _)) (Nat.le_refl _)) (Nat.le_refl _)) (Nat.le_refl _)) (Nat.le_refl _)) (Nat.le_refl _))⟩
theorem product_any (n:Nat) (c:n≤8) (hF:Rds 85 (Fc n) isD):Rds 62 (Pd n) isM:=by
 intro s p t post r b w d a e g h;obtain⟨m,f,i,j,rfl,k,l⟩:=e;rw[List.append_assoc] at a;rw[List.length_append];exact product_at n m c hF s p f i post j r b w d a k l g h
end
section
open Go.RowKit
theorem pd_ok (n:Nat) (t:List Int) (p:Nat) (r:Rs) (h:Pd n t p r):RsOk (2*(20*2 ^ n)*t.length) r:=by
 have a:0<2 ^ n:=Nat.pow_pos (by decide);exact ch_ok (by decide) (by omega) (fc_ok n) mul_cost h
theorem sum_at (n m:Nat) (hn:n≤8) (hF:Rds 62 (Pd n) isM) (s:ByteArray) (p:Nat) (f s' post:List Int) (rf r:Rs) (b:Nat) (w:World) (hs:s.size≤100) (au:At s p (f ++ (s' ++ post))) (hf:Pd n f p rf) (hc:ChT (Pd n) addOp m rf (p+f.length) s' r) (hh:Hd (fun c=>isM c∨addOp c) post) (hB:Blk w b #[.string s,.int .i64 p,.int .i64 0,.int .i64 0] 73) :
  Calls Tryz.prog 32 #[.pointer (some ⟨b,0,none⟩)] w (RetS b s (p+(f.length+s'.length)) r w):=by
 have a6:=au.size;rw[List.length_append,List.length_append] at a6;have aB:∀ t p r,Pd n t p r→RsOk (2*(20*2 ^ n)*t.length) r:=pd_ok n;have a7:2*(20*2 ^ n)≤10240:=by
  have h1:2 ^ n≤2 ^ 8:=Nat.pow_le_pow_right (by decide) hn;omega
 have aS:20≤2*(20*2 ^ n):=by
  have h1:0<2 ^ n:=Nat.pow_pos (by decide);omega
 have aC:∀ c,addOp c→¬ isM c:=by
  intro c h1 h2;unfold addOp at h1;unfold isM isD mulOp at h2;rcases h1 with rfl | rfl <;> revert h2 <;> decide
 have aT:¬ addOp 0:=by unfold addOp;decide
 have a8:Hd isM (s' ++ post):=by
  intro c' l e
  cases s' with
  | nil=>exact fun hc=>hh c' l e (Or.inl hc)
  | cons c'' s'' =>
   rw[List.cons_append] at e
   cases e
   cases m with
   | zero=>cases hc.1
   | succ k =>
    obtain⟨c3,_,_,_,g5,g6,_⟩:=hc
    cases g6
    exact aC c' g5
 have HL:Hid (∀ i,(rf.e=0→i=p+f.length)→i≤p+f.length→LoopAt (Pd n) addOp 1 (2*(20*2 ^ n)) s post r (p+(f.length+s'.length)) rf i):=by
  intro i h1 h2;refine⟨m,p+f.length,s',2*(20*2 ^ n)*f.length,hc,h1,h2,by omega,At.step au,aB f p rf hf,?_⟩;have h3:2*(20*2 ^ n)*f.length≤10240*100:=Nat.mul_le_mul (by omega) (by omega);have h4:1*(2*(20*2 ^ n))*s'.length≤20480*100:=Nat.mul_le_mul (by omega) (by omega);omega
 have av:=Hid.mk (fun(acc:Rs) (i:Nat) h he=>loop_step (F:=Pd n) (ops:=addOp) (Pc:=isM) (j:=1) (C:=2*(20*2 ^ n)) aS (by decide) aB add_cost aC aT (s:=s) (post:=post) (r:=r) (fin:=p+(f.length+s'.length)) (acc:=acc) (i:=i) hh h he);have al:=Hid.mk au;have HF:=Hid.mk hf;clear au hf hc hh aC aT aB a7 aS;have bh:=hB.lt;have aw:Blk (w.alloc (.cells #[.bool false,.slice none 0 0,.bool false,.slice none 0 0,.bool false,.slice none 0 0,.int .i64 0] 40)) b #[.string s,.int .i64 p,.int .i64 0,.int .i64 0] 73:=Blk.alloc hB (.cells #[.bool false,.slice none 0 0,.bool false,.slice none 0 0,.bool false,.slice none 0 0,.int .i64 0] 40);have ai:=Blk.new w #[.bool false,.slice none 0 0,.bool false,.slice none 0 0,.bool false,.slice none 0 0,.int .i64 0] 40
 go_enter Tryz.func32,Tryz.ntmps32
 go_wp2_with fail
 refine(hF s p f (s' ++ post) rf b _ hs al.out HF.out a8 aw).mono ?_;rintro e a ⟨vA,iA,rfl,aD,aE,aa,aj,aF⟩;have aG:=ai.but aF (by omega);have ay:KeepsBut b w a:=(KeepsBut.alloc (KeepsBut.refl b w) (.cells #[.bool false,.slice none 0 0,.bool false,.slice none 0 0,.bool false,.slice none 0 0,.int .i64 0] 40)).trans aF;have be:=aF.size;have aU:Hid (LoopAt (Pd n) addOp 1 (2*(20*2 ^ n)) s post r (p+(f.length+s'.length)) rf iA):=HL.out iA aa aj;obtain⟨b1,M,n1,c1,b2,N,n2,c2,b3,O,n3,c3,rfl,g1,g2,g3⟩:=id aD;clear g1 g2 g3 HL al HF aa aj;have bi:=aG.lt;have bj:=aE.lt
 go_wp2_with fail
 go_loopw [4,5,6] (fun _ _ _ wr=>∃(acc:Rs) (i:Nat) (b1:Bool) (M:Option Addr) (n1 c1:Nat) (b2:Bool) (N:Option Addr) (n2 c2:Nat) (b3:Bool) (O:Option Addr) (n3 c3:Nat),
   XN wr (.agg #[.bool b1,.slice M n1 c1,.bool b2,.slice N n2 c2,.bool b3,.slice O n3 c3,.int .i64 acc.v.d]) acc.v∧Blk wr a.heap.size #[.bool b1,.slice M n1 c1,.bool b2,.slice N n2 c2,.bool b3,.slice O n3 c3,.int .i64 acc.v.d] 40∧Blk wr b #[.string s,.int .i64 i,.int .i64 acc.e,.int .i64 acc.k] 73∧Blk wr w.heap.size #[.bool false,.slice none 0 0,.bool false,.slice none 0 0,.bool false,.slice none 0 0,.int .i64 0] 40∧KeepsBut b w wr∧Hid (LoopAt (Pd n) addOp 1 (2*(20*2 ^ n)) s post r (p+(f.length+s'.length)) acc i))
  (fun _ _ _ wr=>farOf s b wr)
 case atStart=>exact⟨rf,iA,b1,M,n1,c1,b2,N,n2,c2,b3,O,n3,c3,aD.soft (Sf.alloc (Sf.refl _ _) _),Blk.new a _ _,Blk.alloc aE _,Blk.alloc aG _,KeepsBut.alloc ay _,aU⟩
 case round =>
  clear aD aE aG aU ay;obtain⟨acc,i,b1,M,n1,c1,b2,N,n2,c2,b3,O,n3,c3,ac,U,V,P,aH,ak⟩:=hrel;have HM:Hid (farOf s b wr=if acc.e=0 then s.size+1 - i else 0):=by unfold Hid farOf;rw[errOf_blk V,atOf_blk V]
  obtain⟨am,bm,bn⟩:=loop_ok ak.out;have ax:=Hid.mk am;clear am;have bc:=V.cell;have bl:=V.lt;have vc:=U.cell;have vl:=U.lt;have rc:=P.cell;have aI:=P.frozen;have rl:=P.lt;have bg:w.heap.size≠a.heap.size:=by omega
  by_cases he:acc.e=0
  ·rcases av.out acc i ak.out he with ⟨am,aV,aJ⟩|⟨t,W,aK,a9,bo,aW,az,aX,aY,an⟩
   ·
    have x1:(byteAt s i != 43)=true:=by
     have:byteAt s i≠43:=fun h=>aJ (Or.inl h);simp[this]
    have x2:(byteAt s i != 45)=true:=by
     have:byteAt s i≠45:=fun h=>aJ (Or.inr h);simp[this]
    have aZ:Blk wr b #[.string s,.int .i64 i,.int .i64 0,.int .i64 0] 73:=by have h9:=V;rw[he,(ax.out).k he] at h9;exact h9
    have HE:Hid (r=acc∧i=p+(f.length+s'.length)):=⟨am,aV⟩;clear aJ av ak am aV;rw[he] at bc
    go_wp2_with fail
    refine(peek_any s i 0 0 b _ aZ (by omega) (by omega)).mono ?_;rintro e w1 ⟨rfl,Q⟩;have aw:=V.keep Q;have ai:=P.keep Q;have a0:=U.keep Q;replace ac:=ac.keep Q;generalize byteAt s i=cc at *;clear bc bl vc vl rc aI rl V P U aZ;have vc:=a0.cell;have vl:=a0.lt;have rc:=ai.cell;have aI:=ai.frozen;have rl:=ai.lt;have bl:=aw.lt
    go_wp2_with fail
    refine bodyPost_ret (v:=.agg #[.bool b1,.slice M n1 c1,.bool b2,.slice N n2 c2,.bool b3,.slice O n3 c3,.int .i64 acc.v.d]) (by simp[results,Tryz.results32,go_sem,rc]) rfl ?_;obtain⟨e1,e2⟩:=HE.out;rw[e1];exact⟨_,i,rfl,ac.soft (stS7 (E:=2) (.bool b1) (.slice M n1 c1) (.bool b2) (.slice N n2 c2) (.bool b3) (.slice O n3 c3) (.int .i64 acc.v.d) ai (by decide)),(Blk.other (c:=w.heap.size) (o:=6) (y:=.int .i64 acc.v.d) (Blk.other (c:=w.heap.size) (o:=5) (y:=.slice O n3 c3) (Blk.other (c:=w.heap.size) (o:=4) (y:=.bool b3) (Blk.other (c:=w.heap.size) (o:=3) (y:=.slice N n2 c2) (Blk.other (c:=w.heap.size) (o:=2) (y:=.bool b2) (Blk.other (c:=w.heap.size) (o:=1) (y:=.slice M n1 c1) (Blk.other (c:=w.heap.size) (o:=0) (y:=.bool b1) aw (by omega)) (by omega)) (by omega)) (by omega)) (by omega)) (by omega)) (by omega)),fun _=>e2,by omega,(KeepsBut.setNew (d:=w.heap.size) (o:=6) (y:=.int .i64 acc.v.d) (KeepsBut.setNew (d:=w.heap.size) (o:=5) (y:=.slice O n3 c3) (KeepsBut.setNew (d:=w.heap.size) (o:=4) (y:=.bool b3) (KeepsBut.setNew (d:=w.heap.size) (o:=3) (y:=.slice N n2 c2) (KeepsBut.setNew (d:=w.heap.size) (o:=2) (y:=.bool b2) (KeepsBut.setNew (d:=w.heap.size) (o:=1) (y:=.slice M n1 c1) (KeepsBut.setNew (d:=w.heap.size) (o:=0) (y:=.bool b1) (aH.trans (KeepsBut.of_kp Q)) (Nat.le_refl _)) (Nat.le_refl _)) (Nat.le_refl _)) (Nat.le_refl _)) (Nat.le_refl _)) (Nat.le_refl _)) (Nat.le_refl _))⟩
   ·
    have R:Blk wr b #[.string s,.int .i64 i,.int .i64 0,.int .i64 0] 73:=by have h9:=V;rw[he,(ax.out).k he] at h9;exact h9
    have HN:=Hid.mk an;have a1:=Hid.mk aW;have al:=Hid.mk az;have a2:=Hid.mk aY;have a3:=Hid.mk aX;clear an aW az aY aX av ak bc rc aI;have bc:=R.cell;have bf:=R.frozen;have step:∀ cc:Int,byteAt s i=cc→((cc != 43)=false∨((cc != 43)=true∧(cc != 45)=false))→True:=fun _ _ _=>trivial;clear step
    go_wp2_with fail
    refine(peek_any s i 0 0 b _ R (by omega) (by omega)).mono ?_;rintro e w1 ⟨rfl,Q⟩;replace R:=R.keep Q;replace P:=P.keep Q;replace U:=U.keep Q;replace ac:=ac.keep Q;clear bc bf bl vc vl rl V;have bc:=R.cell;have bf:=R.frozen;have bl:=R.lt;have vc:=U.cell;have vl:=U.lt;have rl:=P.lt;have aA:=aH.trans (KeepsBut.of_kp Q);have a4:Blk (w1.setCell ⟨b,1,none⟩ (.int .i64 ((i:Int)+1))) b #[.string s,.int .i64 ((i+1:Nat):Int),.int .i64 0,.int .i64 0] 73:=by
     rw[show ((i+1:Nat):Int)=(i:Int)+1 by omega];exact Blk.set (o:=1) (y:=.int .i64 ((i:Int)+1)) R
    have hT:=Hid.mk (fun w' ba=>hF s (i+1) t aK W b w' hs al.out a1.out a3.out ba);have a5:Hid (farOf s b wr=s.size+1 - i):=by unfold Hid;rw[HM.out,if_pos he]
    clear al a1 a3 HM;have bb:=a9;generalize byteAt s i=cc at *;rcases bb with rfl | rfl
    ·have x1:((43:Int) == 43)=true:=by decide
     go_wp2_with fail
     refine(hT.out _ a4).mono ?_;rintro e w3 ⟨v3,i3,rfl,ao,aL,aa,aj,ap⟩;have L:KeepsBut b w1 w3:=(KeepsBut.setCell (KeepsBut.refl b w1) 1 (.int .i64 ((i:Int)+1))).trans ap;have aM:=P.but L (by omega);have ad:=U.but L (by omega);have aq:=ac.soft (Sf.butB R L);have ae:=Hid.mk aa;clear aa ap bc bf bl vc vl rl;obtain⟨b4,X,n4,c4,b5,Y,n5,c5,b6,Z,n6,c6,rfl,g1,g2,g3⟩:=id ao;clear g1 g2 g3;have vc:=ad.cell;have vl:=ad.lt
     go_wp2_with fail
     refine(operate_any s i3 (43) i acc W 15000000 b _ _ _ (Blk.alloc aL (.cells #[.bool b4,.slice X n4 c4,.bool b5,.slice Y n5 c5,.bool b6,.slice Z n6 c6,.int .i64 W.v.d] 40)) (aq.soft (Sf.alloc (Sf.refl _ _) (.cells #[.bool b4,.slice X n4 c4,.bool b5,.slice Y n5 c5,.bool b6,.slice Z n6 c6,.int .i64 W.v.d] 40))) (ao.soft (Sf.alloc (Sf.refl _ _) (.cells #[.bool b4,.slice X n4 c4,.bool b5,.slice Y n5 c5,.bool b6,.slice Z n6 c6,.int .i64 W.v.d] 40))) he (by omega) ax.out a2.out).mono ?_;rintro e w4 ⟨v4,rfl,ar,af,aN⟩;have S:KeepsBut b w3 w4:=(KeepsBut.alloc (KeepsBut.refl b w3) (.cells #[.bool b4,.slice X n4 c4,.bool b5,.slice Y n5 c5,.bool b6,.slice Z n6 c6,.int .i64 W.v.d] 40)).trans aN;have aO:=aM.but S (by omega);have T:=ad.but S (by omega);have aP:Hid (LoopAt (Pd n) addOp 1 (2*(20*2 ^ n)) s post r (p+(f.length+s'.length)) (opR (43) i acc W) i3):=HN.out i3 ae.out aj;have aQ:Hid ((opR (43) i acc W).e=0→i3=i+1+t.length):=by
      intro ag;refine ae.out ?_;by_cases ah:W.e=0
      ·exact ah
      ·exfalso
       unfold opR at ag;rw[if_neg (by omega),if_pos ah] at ag;exact ah ag
     obtain⟨x,g,z,B,D,q,G,H,I,u,J,K,rfl,g1,g2,g3⟩:=id ar;clear g1 g2 g3 vc vl HN hT ae;generalize opR (43) i acc W=A at *;have vc:=T.cell;have vf:=T.frozen;have vl:=T.lt
     go_wp2_with fail
     go_roundw
     case rel =>
      refine⟨A,i3,x,g,z,B,D,q,G,H,I,u,J,K,ar.soft (stS7 (E:=2) (.bool x) (.slice g z B) (.bool D) (.slice q G H) (.bool I) (.slice u J K) (.int .i64 A.v.d) T (by decide)),(Blk.set (o:=6) (y:=.int .i64 A.v.d) (Blk.set (o:=5) (y:=.slice u J K) (Blk.set (o:=4) (y:=.bool I) (Blk.set (o:=3) (y:=.slice q G H) (Blk.set (o:=2) (y:=.bool D) (Blk.set (o:=1) (y:=.slice g z B) (Blk.set (o:=0) (y:=.bool x) T))))))),(Blk.other (c:=a.heap.size) (o:=6) (y:=.int .i64 A.v.d) (Blk.other (c:=a.heap.size) (o:=5) (y:=.slice u J K) (Blk.other (c:=a.heap.size) (o:=4) (y:=.bool I) (Blk.other (c:=a.heap.size) (o:=3) (y:=.slice q G H) (Blk.other (c:=a.heap.size) (o:=2) (y:=.bool D) (Blk.other (c:=a.heap.size) (o:=1) (y:=.slice g z B) (Blk.other (c:=a.heap.size) (o:=0) (y:=.bool x) af (by omega)) (by omega)) (by omega)) (by omega)) (by omega)) (by omega)) (by omega)),(Blk.other (c:=a.heap.size) (o:=6) (y:=.int .i64 A.v.d) (Blk.other (c:=a.heap.size) (o:=5) (y:=.slice u J K) (Blk.other (c:=a.heap.size) (o:=4) (y:=.bool I) (Blk.other (c:=a.heap.size) (o:=3) (y:=.slice q G H) (Blk.other (c:=a.heap.size) (o:=2) (y:=.bool D) (Blk.other (c:=a.heap.size) (o:=1) (y:=.slice g z B) (Blk.other (c:=a.heap.size) (o:=0) (y:=.bool x) aO (by omega)) (by omega)) (by omega)) (by omega)) (by omega)) (by omega)) (by omega)),(KeepsBut.setNew (d:=a.heap.size) (o:=6) (y:=.int .i64 A.v.d) (KeepsBut.setNew (d:=a.heap.size) (o:=5) (y:=.slice u J K) (KeepsBut.setNew (d:=a.heap.size) (o:=4) (y:=.bool I) (KeepsBut.setNew (d:=a.heap.size) (o:=3) (y:=.slice q G H) (KeepsBut.setNew (d:=a.heap.size) (o:=2) (y:=.bool D) (KeepsBut.setNew (d:=a.heap.size) (o:=1) (y:=.slice g z B) (KeepsBut.setNew (d:=a.heap.size) (o:=0) (y:=.bool x) ((aA.trans L).trans S) (by omega)) (by omega)) (by omega)) (by omega)) (by omega)) (by omega)) (by omega)),aP⟩
     case measure =>
      rw[a5.out];unfold farOf;rw[errOf_blk (Blk.other (c:=a.heap.size) (o:=6) (y:=.int .i64 A.v.d) (Blk.other (c:=a.heap.size) (o:=5) (y:=.slice u J K) (Blk.other (c:=a.heap.size) (o:=4) (y:=.bool I) (Blk.other (c:=a.heap.size) (o:=3) (y:=.slice q G H) (Blk.other (c:=a.heap.size) (o:=2) (y:=.bool D) (Blk.other (c:=a.heap.size) (o:=1) (y:=.slice g z B) (Blk.other (c:=a.heap.size) (o:=0) (y:=.bool x) af (by omega)) (by omega)) (by omega)) (by omega)) (by omega)) (by omega)) (by omega)),atOf_blk (Blk.other (c:=a.heap.size) (o:=6) (y:=.int .i64 A.v.d) (Blk.other (c:=a.heap.size) (o:=5) (y:=.slice u J K) (Blk.other (c:=a.heap.size) (o:=4) (y:=.bool I) (Blk.other (c:=a.heap.size) (o:=3) (y:=.slice q G H) (Blk.other (c:=a.heap.size) (o:=2) (y:=.bool D) (Blk.other (c:=a.heap.size) (o:=1) (y:=.slice g z B) (Blk.other (c:=a.heap.size) (o:=0) (y:=.bool x) af (by omega)) (by omega)) (by omega)) (by omega)) (by omega)) (by omega)) (by omega))]
      split
      ·rename_i aR
       have:=aQ.out aR;omega
      ·omega
    ·have x1:((45:Int) == 43)=false:=by decide
     go_wp2_with fail
     refine(hT.out _ a4).mono ?_;rintro e w3 ⟨v3,i3,rfl,ao,aL,aa,aj,ap⟩;have L:KeepsBut b w1 w3:=(KeepsBut.setCell (KeepsBut.refl b w1) 1 (.int .i64 ((i:Int)+1))).trans ap;have aM:=P.but L (by omega);have ad:=U.but L (by omega);have aq:=ac.soft (Sf.butB R L);have ae:=Hid.mk aa;clear aa ap bc bf bl vc vl rl;obtain⟨b4,X,n4,c4,b5,Y,n5,c5,b6,Z,n6,c6,rfl,g1,g2,g3⟩:=id ao;clear g1 g2 g3;have vc:=ad.cell;have vl:=ad.lt
     go_wp2_with fail
     refine(operate_any s i3 (45) i acc W 15000000 b _ _ _ (Blk.alloc aL (.cells #[.bool b4,.slice X n4 c4,.bool b5,.slice Y n5 c5,.bool b6,.slice Z n6 c6,.int .i64 W.v.d] 40)) (aq.soft (Sf.alloc (Sf.refl _ _) (.cells #[.bool b4,.slice X n4 c4,.bool b5,.slice Y n5 c5,.bool b6,.slice Z n6 c6,.int .i64 W.v.d] 40))) (ao.soft (Sf.alloc (Sf.refl _ _) (.cells #[.bool b4,.slice X n4 c4,.bool b5,.slice Y n5 c5,.bool b6,.slice Z n6 c6,.int .i64 W.v.d] 40))) he (by omega) ax.out a2.out).mono ?_;rintro e w4 ⟨v4,rfl,ar,af,aN⟩;have S:KeepsBut b w3 w4:=(KeepsBut.alloc (KeepsBut.refl b w3) (.cells #[.bool b4,.slice X n4 c4,.bool b5,.slice Y n5 c5,.bool b6,.slice Z n6 c6,.int .i64 W.v.d] 40)).trans aN;have aO:=aM.but S (by omega);have T:=ad.but S (by omega);have aP:Hid (LoopAt (Pd n) addOp 1 (2*(20*2 ^ n)) s post r (p+(f.length+s'.length)) (opR (45) i acc W) i3):=HN.out i3 ae.out aj;have aQ:Hid ((opR (45) i acc W).e=0→i3=i+1+t.length):=by
      intro ag;refine ae.out ?_;by_cases ah:W.e=0
      ·exact ah
      ·exfalso
       unfold opR at ag;rw[if_neg (by omega),if_pos ah] at ag;exact ah ag
     obtain⟨x,g,z,B,D,q,G,H,I,u,J,K,rfl,g1,g2,g3⟩:=id ar;clear g1 g2 g3 vc vl HN hT ae;generalize opR (45) i acc W=A at *;have vc:=T.cell;have vf:=T.frozen;have vl:=T.lt
     go_wp2_with fail
     go_roundw
     case rel =>
      refine⟨A,i3,x,g,z,B,D,q,G,H,I,u,J,K,ar.soft (stS7 (E:=2) (.bool x) (.slice g z B) (.bool D) (.slice q G H) (.bool I) (.slice u J K) (.int .i64 A.v.d) T (by decide)),(Blk.set (o:=6) (y:=.int .i64 A.v.d) (Blk.set (o:=5) (y:=.slice u J K) (Blk.set (o:=4) (y:=.bool I) (Blk.set (o:=3) (y:=.slice q G H) (Blk.set (o:=2) (y:=.bool D) (Blk.set (o:=1) (y:=.slice g z B) (Blk.set (o:=0) (y:=.bool x) T))))))),(Blk.other (c:=a.heap.size) (o:=6) (y:=.int .i64 A.v.d) (Blk.other (c:=a.heap.size) (o:=5) (y:=.slice u J K) (Blk.other (c:=a.heap.size) (o:=4) (y:=.bool I) (Blk.other (c:=a.heap.size) (o:=3) (y:=.slice q G H) (Blk.other (c:=a.heap.size) (o:=2) (y:=.bool D) (Blk.other (c:=a.heap.size) (o:=1) (y:=.slice g z B) (Blk.other (c:=a.heap.size) (o:=0) (y:=.bool x) af (by omega)) (by omega)) (by omega)) (by omega)) (by omega)) (by omega)) (by omega)),(Blk.other (c:=a.heap.size) (o:=6) (y:=.int .i64 A.v.d) (Blk.other (c:=a.heap.size) (o:=5) (y:=.slice u J K) (Blk.other (c:=a.heap.size) (o:=4) (y:=.bool I) (Blk.other (c:=a.heap.size) (o:=3) (y:=.slice q G H) (Blk.other (c:=a.heap.size) (o:=2) (y:=.bool D) (Blk.other (c:=a.heap.size) (o:=1) (y:=.slice g z B) (Blk.other (c:=a.heap.size) (o:=0) (y:=.bool x) aO (by omega)) (by omega)) (by omega)) (by omega)) (by omega)) (by omega)) (by omega)),(KeepsBut.setNew (d:=a.heap.size) (o:=6) (y:=.int .i64 A.v.d) (KeepsBut.setNew (d:=a.heap.size) (o:=5) (y:=.slice u J K) (KeepsBut.setNew (d:=a.heap.size) (o:=4) (y:=.bool I) (KeepsBut.setNew (d:=a.heap.size) (o:=3) (y:=.slice q G H) (KeepsBut.setNew (d:=a.heap.size) (o:=2) (y:=.bool D) (KeepsBut.setNew (d:=a.heap.size) (o:=1) (y:=.slice g z B) (KeepsBut.setNew (d:=a.heap.size) (o:=0) (y:=.bool x) ((aA.trans L).trans S) (by omega)) (by omega)) (by omega)) (by omega)) (by omega)) (by omega)) (by omega)),aP⟩
     case measure =>
      rw[a5.out];unfold farOf;rw[errOf_blk (Blk.other (c:=a.heap.size) (o:=6) (y:=.int .i64 A.v.d) (Blk.other (c:=a.heap.size) (o:=5) (y:=.slice u J K) (Blk.other (c:=a.heap.size) (o:=4) (y:=.bool I) (Blk.other (c:=a.heap.size) (o:=3) (y:=.slice q G H) (Blk.other (c:=a.heap.size) (o:=2) (y:=.bool D) (Blk.other (c:=a.heap.size) (o:=1) (y:=.slice g z B) (Blk.other (c:=a.heap.size) (o:=0) (y:=.bool x) af (by omega)) (by omega)) (by omega)) (by omega)) (by omega)) (by omega)) (by omega)),atOf_blk (Blk.other (c:=a.heap.size) (o:=6) (y:=.int .i64 A.v.d) (Blk.other (c:=a.heap.size) (o:=5) (y:=.slice u J K) (Blk.other (c:=a.heap.size) (o:=4) (y:=.bool I) (Blk.other (c:=a.heap.size) (o:=3) (y:=.slice q G H) (Blk.other (c:=a.heap.size) (o:=2) (y:=.bool D) (Blk.other (c:=a.heap.size) (o:=1) (y:=.slice g z B) (Blk.other (c:=a.heap.size) (o:=0) (y:=.bool x) af (by omega)) (by omega)) (by omega)) (by omega)) (by omega)) (by omega)) (by omega))]
      split
      ·rename_i aR
       have:=aQ.out aR;omega
      ·omega
  ·have x1:(acc.e == 0)=false:=by simp[he]
   obtain⟨e1,e2⟩:=loop_err ak.out he;have HE:Hid (r=acc∧i≤p+(f.length+s'.length)):=⟨e1,e2⟩;clear av ak e1 e2
   go_wp2_with fail
   refine bodyPost_ret (v:=.agg #[.bool b1,.slice M n1 c1,.bool b2,.slice N n2 c2,.bool b3,.slice O n3 c3,.int .i64 acc.v.d]) (by simp[results,Tryz.results32,go_sem,rc]) rfl ?_;obtain⟨e1,e2⟩:=HE.out;rw[e1];exact⟨_,i,rfl,ac.soft (stS7 (E:=2) (.bool b1) (.slice M n1 c1) (.bool b2) (.slice N n2 c2) (.bool b3) (.slice O n3 c3) (.int .i64 acc.v.d) P (by decide)),(Blk.other (c:=w.heap.size) (o:=6) (y:=.int .i64 acc.v.d) (Blk.other (c:=w.heap.size) (o:=5) (y:=.slice O n3 c3) (Blk.other (c:=w.heap.size) (o:=4) (y:=.bool b3) (Blk.other (c:=w.heap.size) (o:=3) (y:=.slice N n2 c2) (Blk.other (c:=w.heap.size) (o:=2) (y:=.bool b2) (Blk.other (c:=w.heap.size) (o:=1) (y:=.slice M n1 c1) (Blk.other (c:=w.heap.size) (o:=0) (y:=.bool b1) V (by omega)) (by omega)) (by omega)) (by omega)) (by omega)) (by omega)) (by omega)),fun h=>absurd h he,e2,(KeepsBut.setNew (d:=w.heap.size) (o:=6) (y:=.int .i64 acc.v.d) (KeepsBut.setNew (d:=w.heap.size) (o:=5) (y:=.slice O n3 c3) (KeepsBut.setNew (d:=w.heap.size) (o:=4) (y:=.bool b3) (KeepsBut.setNew (d:=w.heap.size) (o:=3) (y:=.slice N n2 c2) (KeepsBut.setNew (d:=w.heap.size) (o:=2) (y:=.bool b2) (KeepsBut.setNew (d:=w.heap.size) (o:=1) (y:=.slice M n1 c1) (KeepsBut.setNew (d:=w.heap.size) (o:=0) (y:=.bool b1) aH (Nat.le_refl _)) (Nat.le_refl _)) (Nat.le_refl _)) (Nat.le_refl _)) (Nat.le_refl _)) (Nat.le_refl _)) (Nat.le_refl _))⟩
theorem sum_any (n:Nat) (c:n≤8) (hF:Rds 62 (Pd n) isM):Rds 32 (Sm n) closes:=by
 intro s p t post r b w d a e g h;obtain⟨m,f,i,j,rfl,k,l⟩:=e;rw[List.append_assoc] at a;rw[List.length_append];exact sum_at n m c hF s p f i post j r b w d a k l g h
theorem sums:∀ n,n≤8→Rds 32 (Sm n) closes
 | 0,hn=>sum_any 0 hn (product_any 0 hn (factor_any 0 hn (bare_any 0 (fun a h=>by omega))))
 | n+1,hn=>sum_any (n+1) hn (product_any (n+1) hn (factor_any (n+1) hn (bare_any (n+1) (fun a h=>by
   have e:a=n:=by omega
   rw[e];exact sums n (by omega)))))
end
section
open Go.RowKit
def Rk (s:ByteArray) (r:Rs):Prop :=
 (100<s.size∧r=⟨qzero,1,0⟩)∨(s.size≤100∧0≤plFault s 0 s.size∧r=⟨qzero,2,plFault s 0 s.size⟩) ∨
 (s.size≤100∧plFault s 0 s.size = -1∧∃ a,Sm 8 (bl s) 0 a∧r=if a.e=0 then ⟨a.v,0,0⟩ else ⟨qzero,a.e,a.k⟩)
def Ret3 (w:World) (r:Rs) (e:Ending) (a:World):Prop:=∃ v,e=.returned (.tuple #[v,.int .i64 r.e,.int .i64 r.k])∧XN a v r.v∧Kp w a
theorem ends_of_fault (s:ByteArray):∀(m i:Nat),i+m=s.size→plFault s i m = -1→Ends (plAt s i) ((bl s).drop i)
 | 0,i,hi,h=>by
  unfold plFault at h;rw[List.drop_of_length_le (by rw[bl_len];omega)]
  split at h
  ·omega
  ·rename_i b
   refine⟨plAt s i,rfl,?_,?_⟩ <;> omega
 | m+1,i,hi,h=>by
  unfold plFault at h
  split at h
  ·rename_i b
   have d:=ends_of_fault s m (i+1) (by omega) h;have c:i<(bl s).length:=by rw[bl_len];omega
   rw[List.drop_eq_getElem_cons c,← at0_eq c,← byteAt_bl];obtain⟨z,e,f⟩:=d;refine⟨z,?_,f⟩;unfold pRun;have a:(plStep (plAt s i) (byteAt s i)).2=true:=b;rw[if_pos a];exact e
  ·omega
theorem plFault_ge (s:ByteArray):∀(m i:Nat),-1≤plFault s i m
 | 0,i=>by unfold plFault;split <;> omega
 | m+1,i=>by
  unfold plFault
  split
  ·exact plFault_ge s m (i+1)
  ·omega
theorem rk_all (s:ByteArray):∃ r,Rk s r:=by
 by_cases c:100<s.size
 ·exact⟨_,Or.inl ⟨c,rfl⟩⟩
 ·by_cases d:0≤plFault s 0 s.size
  ·exact⟨_,Or.inr (Or.inl ⟨by omega,d,rfl⟩)⟩
  ·have a:plFault s 0 s.size = -1:=by have:=plFault_ge s s.size 0;omega
   have b:=ends_of_fault s s.size 0 (by omega) a;rw[List.drop_zero] at b;obtain⟨r,e⟩:=text_reads b;exact⟨_,Or.inr (Or.inr ⟨by omega,a,r,e,rfl⟩)⟩
theorem reckon_long (s:ByteArray) (w:World) (h:100<s.size):Calls Tryz.prog 14 #[.string s] w (Ret3 w ⟨qzero,1,0⟩):=by
 have a:(100:Int)<(s.size:Int):=by omega
 go_enter Tryz.func14,Tryz.ntmps14
 go_wp2_with fail
 refine bodyPost_ret (v:=.tuple #[.agg #[.bool false,.slice none 0 0,.bool false,.slice none 0 0,.bool false,.slice none 0 0,.int .i64 0],.int .i64 1,.int .i64 0]) (by simp[results,Tryz.results14,go_sem]) rfl ?_;exact⟨_,rfl,xn_zero _,kp_alloc _ _⟩
theorem reckon_fault (s:ByteArray) (w:World) (h:s.size≤100) (j:0≤plFault s 0 s.size):Calls Tryz.prog 14 #[.string s] w (Ret3 w ⟨qzero,2,plFault s 0 s.size⟩):=by
 have k:¬ (100:Int)<(s.size:Int):=by omega
 have c:=Blk.new w #[.bool false,.slice none 0 0,.bool false,.slice none 0 0,.bool false,.slice none 0 0,.int .i64 0] 40
 go_enter Tryz.func14,Tryz.ntmps14
 go_wp2_with fail
 refine(faultOf_any s _ (by omega)).mono ?_;rintro e f ⟨rfl,b⟩;have a:=c.keep b;have g:=a.cell;have i:=a.frozen;have l:=a.lt;have d:Kp w f:=(kp_alloc w (.cells #[.bool false,.slice none 0 0,.bool false,.slice none 0 0,.bool false,.slice none 0 0,.int .i64 0] 40)).trans' b;generalize plFault s 0 s.size=fl at *
 go_wp2_with fail
 refine bodyPost_ret (v:=.tuple #[.agg #[.bool false,.slice none 0 0,.bool false,.slice none 0 0,.bool false,.slice none 0 0,.int .i64 0],.int .i64 2,.int .i64 fl]) (by simp[results,Tryz.results14,go_sem,g]) rfl ?_;exact⟨_,rfl,xn_zero _,(stK7 (A:=w.heap.size) (.bool false) (.slice none 0 0) (.bool false) (.slice none 0 0) (.bool false) (.slice none 0 0) (.int .i64 0) d (Nat.le_refl _))⟩
theorem reckon_ok (s:ByteArray) (r:Rs) (w:World) (h:s.size≤100) (K:plFault s 0 s.size = -1) (L:Sm 8 (bl s) 0 r):Calls Tryz.prog 14 #[.string s] w (Ret3 w (if r.e=0 then ⟨r.v,0,0⟩ else ⟨qzero,r.e,r.k⟩)):=by
 have h1:¬ (100:Int)<(s.size:Int):=by omega
 have B:At s 0 (bl s ++ []):=⟨[],by simp,rfl⟩;have M:=Hid.mk (fun b S T=>sums 8 (by decide) s 0 (bl s) [] r b S h B L (by intro c l e;cases e) T)
 have C:=Blk.new w #[.bool false,.slice none 0 0,.bool false,.slice none 0 0,.bool false,.slice none 0 0,.int .i64 0] 40;generalize hG:(if r.e=0 then (⟨r.v,0,0⟩:Rs) else ⟨qzero,r.e,r.k⟩)=G;have N:=Hid.mk hG;clear hG L B
 go_enter Tryz.func14,Tryz.ntmps14
 go_wp2_with fail
 refine(faultOf_any s _ (by omega)).mono ?_;rintro e j ⟨rfl,m⟩;have a:=C.keep m;have n:Kp w j:=(kp_alloc w (.cells #[.bool false,.slice none 0 0,.bool false,.slice none 0 0,.bool false,.slice none 0 0,.int .i64 0] 40)).trans' m;rw[K]
 go_wp2_with fail
 refine(M.out j.heap.size _ (Blk.new j _ _)).mono ?_;rintro e U ⟨v2,i2,rfl,D,F,I,J,H⟩;have o:Kp j U:=((KeepsBut.alloc (KeepsBut.refl j.heap.size j) (.cells #[.string s,.int .i64 ((0:Nat):Int),.int .i64 0,.int .i64 0] 73)).trans H).below (Nat.le_refl _);replace a:=a.keep o;have O:=n.size;have P:=(C.keep m).lt;obtain⟨q,f,t,c1,u,g,x,c2,y,i,z,c3,rfl,V,W,X⟩:=id D;clear V W X I J M K;have Q:=a.cell;have Y:=a.frozen;have R:=a.lt;have Z:=F.cell;have aa:=F.lt;have ac:w.heap.size≠j.heap.size:=by omega
 by_cases he:r.e=0
 ·have p:Hid (G=⟨r.v,0,0⟩):=by unfold Hid;rw[← N.out,if_pos he]
  rw[he] at Z
  go_wp2_with fail
  refine bodyPost_ret (v:=.tuple #[.agg #[.bool q,.slice f t c1,.bool u,.slice g x c2,.bool y,.slice i z c3,.int .i64 r.v.d],.int .i64 0,.int .i64 0]) (by simp[results,Tryz.results14,go_sem,Q,R]) rfl ?_;rw[p.out];exact⟨_,rfl,D.soft (Sf.alloc (stS7 (E:=2) (.bool q) (.slice f t c1) (.bool u) (.slice g x c2) (.bool y) (.slice i z c3) (.int .i64 r.v.d) a (by decide)) (.cells #[.bool q,.slice f t c1,.bool u,.slice g x c2,.bool y,.slice i z c3,.int .i64 r.v.d] 40)),(Kp.alloc' (stK7 (A:=w.heap.size) (.bool q) (.slice f t c1) (.bool u) (.slice g x c2) (.bool y) (.slice i z c3) (.int .i64 r.v.d) (n.trans' o) (Nat.le_refl _)) (.cells #[.bool q,.slice f t c1,.bool u,.slice g x c2,.bool y,.slice i z c3,.int .i64 r.v.d] 40))⟩
 ·have p:Hid (G=⟨qzero,r.e,r.k⟩):=by unfold Hid;rw[← N.out,if_neg he]
  have x1:(r.e != 0)=true:=by simp[he]
  go_wp2_with fail
  go_region
  all_goals go_wp2_with fail
  all_goals
   refine bodyPost_ret (v:=.tuple #[.agg #[.bool false,.slice none 0 0,.bool false,.slice none 0 0,.bool false,.slice none 0 0,.int .i64 0],.int .i64 r.e,.int .i64 r.k]) (by simp[results,Tryz.results14,go_sem,Q,R]) rfl ?_;rw[p.out];exact⟨_,rfl,xn_zero _,Kp.drew' (Kp.alloc' (stK7 (A:=w.heap.size) (.bool false) (.slice none 0 0) (.bool false) (.slice none 0 0) (.bool false) (.slice none 0 0) (.int .i64 0) (n.trans' o) (Nat.le_refl _)) (.cells #[.bool q,.slice f t c1,.bool u,.slice g x c2,.bool y,.slice i z c3,.int .i64 r.v.d] 40))⟩
theorem reckon_any (s:ByteArray) (r:Rs) (w:World) (h:Rk s r):Calls Tryz.prog 14 #[.string s] w (Ret3 w r):=by
 rcases h with ⟨a,rfl⟩|⟨a,b,rfl⟩|⟨a,b,c,d,rfl⟩
 ·exact reckon_long s w a
 ·exact reckon_fault s w a b
 ·exact reckon_ok s c w a b d
end
end Go.Proofs.YtjahbjjekednfaaGreatDoor
