import Derived.Test.YtjahbjjekednfaaGreatDoorW1
namespace Go.Proofs.YtjahbjjekednfaaGreatDoor
set_option maxHeartbeats 3000000
set_option maxRecDepth 100000
open Go.RowKit
def RetRp2 (E:TypeId) (B:Int) (w:World) (x y:Int) (e:Ending) (a:World):Prop:=∃ u v,e=.returned (.tuple #[u,v])∧Rp E B a u x∧Rp E B a v y∧Kp w a
theorem row_lit1 (w:World) (E:TypeId) (d:Int):Row (w.alloc (.cells #[.int .i64 d] E)) E (.slice (some ⟨w.heap.size,0,none⟩) 1 1) [d] :=
 Row.of_owns (base:=w.heap.size) (n:=1) (World.ownsRow_lit w #[.int .i64 d] 1 (Nat.le_refl _) (by decide) rfl)
theorem rp_nil (w:World) (E:TypeId):Rp E 1000000000 (w.alloc (.cells #[] E)) (.slice (some ⟨w.heap.size,0,none⟩) 0 0) 0 :=
 ⟨[],Row.of_owns (base:=w.heap.size) (n:=0) (World.ownsRow_made w #[] 0 (Nat.le_refl _) (by decide) rfl),Canon.nil (by decide),rfl⟩
theorem val_one (B d:Int):val B [d]=d:=by simp[val]
theorem scale_bd {b:List Int} (a:Canon 1000000000 b) (c:0<b.length):1≤1000000000 / (at0 b (b.length - 1)+1)∧1000000000 / (at0 b (b.length - 1)+1)<1000000000:=by
 have d:=a.1 (b.length - 1);have e:=a.2 c;constructor
 ·rw[Int.le_ediv_iff_mul_le (by omega)];omega
 ·apply Int.ediv_lt_of_lt_mul (by omega);omega
theorem divideLimbs_zero (x:Int) (u v:Value) (w:World) (k:Rp 2 1000000000 w u x) (l:Rp 2 1000000000 w v 0) (m:Fit x) :
  Calls Tryz.prog 70 #[u,v] w (RetRp2 2 1000000000 w 0 x):=by
 obtain⟨b,g,h,i⟩:=l;have a:=(h.zero_iff (by decide)).2 i;have:b=[]:=List.eq_nil_of_length_eq_zero a;subst this;obtain⟨p,n,rfl,c,o⟩:=g.slice;clear g h i a c
 go_enter Tryz.func70,Tryz.ntmps70
 go_wp2_with (go_at_call 65;refine(copyLimbs_any x _ _ (by exact k) m).mono ?_;rintro e q ⟨r,rfl,d,f,j⟩)
 go_ret2
 exact⟨_,_,rfl,rp_nil _ _,d.keep (kp_alloc _ _),f.alloc' _⟩
theorem divideLimbs_pos (x y:Int) (m:Nat) (u v:Value) (w:World) (hx:Rp 2 1000000000 w u x) (hy:Rp 2 1000000000 w v y) (hm:m≤300000000) (fx:Ft m x) (fy:Ft m y) (aM:y≠0) :
  Calls Tryz.prog 70 #[u,v] w (RetRp2 2 1000000000 w (x / y) (x % y)):=by
 obtain⟨a,hu,ca,a2,la⟩:=hx.len (by decide) (fx.fit (by omega));obtain⟨b,hv,cb,aN,lb⟩:=hy.len (by decide) (fy.fit (by omega));have hl:0<b.length:=by
  rcases Nat.eq_zero_or_pos b.length with h | h
  ·exact absurd (aN ▸ (cb.zero_iff (by decide)).1 h) aM
  ·exact h
 have hs:=scale_bd cb hl;have a3:=cb.1 (b.length - 1);obtain⟨b4,bX,p',bY,rfl,aO,aP,bD,aA,K⟩:=id hv;have bE:=(aA hl).1;subst bE;have hc:=K (b.length - 1) (by omega);clear bD aA K;have an:=Hid.mk a2;have aQ:=Hid.mk aN;have CA:=Hid.mk ca;have CB:=Hid.mk cb;have bF:=Hid.mk aM;clear a2 aN ca cb aM;obtain⟨i0,hi,a4,a5,a6⟩:=info_parts Tryz.infoI64
 go_enter Tryz.func70,Tryz.ntmps70
 go_wp2_with fail
 generalize 1000000000 / (at0 b (b.length - 1)+1)=s at *;have ds:Dig 1000000000 [s]:=Dig.mk ⟨by omega,hs.2⟩ (Dig.nil (by decide));refine(multiplyLimbs_row a [s] _ _ _ (hu.keep (kp_alloc w _)) (row_lit1 w _ s) CA.out.1 ds la (by simp)).mono ?_;rintro e w1 ⟨v1,rfl,Y,aR,bZ⟩;have Z:=(kp_alloc w _).trans' aR
 go_wp2_with fail
 refine(multiplyLimbs_row b [s] _ _ _ (hv.keep Z) ((row_lit1 w _ s).keep aR) CB.out.1 ds lb (by simp)).mono ?_;rintro e G ⟨v2,rfl,aS,aT,b0⟩;rw[val_one] at Y aS;have L:=Z.trans' aT;have Y:=Y.keep aT;have bG:=Hid.mk (rfl:val 1000000000 a*s=val 1000000000 a*s);have fX:Ft (m+9) (val 1000000000 a*s):=by rw[an.out];exact fx.mul (by unfold Ft;omega)
 have fY:Ft (m+9) (val 1000000000 b*s):=by rw[aQ.out];exact fy.mul (by unfold Ft;omega)
 obtain⟨X,hX,cX,aU,lX⟩:=Y.len (by decide) (fX.fit (by omega));obtain⟨D,hD,cD,ao,lD⟩:=aS.len (by decide) (fY.fit (by omega));have T:0<val 1000000000 D:=by
  rw[ao];have h0:=CB.out.pos (by decide) hl;exact Int.mul_pos h0 (by omega)
 have aV:0<D.length:=by
  rcases Nat.eq_zero_or_pos D.length with h | h
  ·have:=(cD.zero_iff (by decide)).1 h;omega
  ·exact h
 rw[← aU] at fX;rw[← ao] at fY;have CX:=Hid.mk cX;have CD:=Hid.mk cD;have bH:=Hid.mk aU;have bI:=Hid.mk ao;have aB:=L;have a7:=hx.keep L;have aC:=hy.keep L;clear aU ao cX cD Y aS aR aT Z L ds hc hv hu bG hx hy aO aP a3;obtain⟨bJ,aD,pX,a8,bK,b5,b6,b7,aa,t⟩:=id hX;obtain⟨b8,b1,bL,b9,cc⟩:=hD.slice;subst bK;subst bL;have a9:val 1000000000 X / val 1000000000 D=x / y:=by rw[bH.out,bI.out,an.out,aQ.out];exact scale_div (by omega)
 have ba:=Hid.mk a9;clear a9;by_cases hst:X.length+1<D.length
 ·have bb:=CX.out.lt_of_len (by decide) CD.out (by omega);have bc:=CX.out.1.val_nonneg (B:=1000000000) (by decide);have be:Hid (x / y=0):=by
   rw[← ba.out];exact Int.ediv_eq_zero_of_lt bc bb
  clear bb bc
  go_wp2_with (at_make;refine wpList_make_row _ rfl _ _ 36 rfl G 2 i0 8 Tryz.underlying36 hi a4 a5 a6 _ _ _ _ 0 rfl rfl (by omega) (by omega) (by omega) (by unfold maxLen;omega) (Below.refl _ _) ?_)
  intro w3 g U
  go_wp2_with fail
  refine(copyLimbs_any (val 1000000000 X) _ _ ⟨X,hX.keep U,CX.out,rfl⟩ (fX.fit (by omega))).mono ?_;rintro e w4 ⟨v4,rfl,ap,V,bf⟩;have c:=owns_keep V g;have o:=U.trans' V;clear g ap hX hD
  go_wp2_with fail
  go_loop [13] (fun i=>i=.int .i64 (-1)) (fun _=>0)
  case atStart=>rfl
  case round =>
   subst hrel
   go_wp2_with (go_at_call 87;refine(significant_any _ _ _ (by exact Row.of_owns c)).mono ?_;rintro e w5 ⟨k,rfl,rfl,A⟩;have aq:=A.1;have cd:k=0:=by simpa using aq)
   have ac:=aB.trans' o;refine(multiplyLimbs_any 0 y _ _ _ ⟨[],(Row.of_owns c:Row _ _ _ []),Canon.nil (by decide),rfl⟩ (aC.keep o) ((Ft.zero m).fit (by omega)) (fy.fit (by omega))).mono ?_;rintro e w6 ⟨v6,rfl,W,f,bg⟩
   go_wp2_with fail
   have ar:0≤x:=by rw[← an.out];exact CA.out.1.val_nonneg (by decide)
   refine(subtractLimbs_any x (0*y) _ _ _ (a7.keep (o.trans' f)) W (fx.fit (by omega)) (by omega)).mono ?_;rintro e w7 ⟨v7,rfl,C,E,M⟩
   go_wp2_with fail
   go_ret2
   have bM:x - 0*y=x % y:=by
    have:=Int.mul_ediv_add_emod x y;rw[be.out] at this;omega
   exact⟨_,_,rfl,by rw[be.out];exact⟨[],(Row.of_owns (owns_keep (f.trans' E) c):Row _ _ _ []),Canon.nil (by decide),rfl⟩,by rw[← bM];exact C,(ac.trans' f).trans' E⟩
 ·obtain⟨n,aq,ce,bh,bi⟩:∃ n:Nat,(n:Int)≤(X.length:Int) - D.length+1∧(X.length:Int) - D.length+1≤n∧n≤X.length∧X.length+1≤n+D.length:=⟨X.length+1 - D.length,by omega,by omega,by omega,by omega⟩
  go_wp2_with (at_make;refine wpList_make_row _ rfl _ _ 36 rfl G 2 i0 8 Tryz.underlying36 hi a4 a5 a6 _ _ _ _ n rfl rfl (by omega) (by omega) (by omega) (by unfold maxLen;omega) (Below.refl _ _) ?_)
  intro w3 g U;rw[show ((X.length:Int) - D.length+1)=(n:Int) from by omega];have p:=(hX.keep U).drop bh;have HT:=Hid.mk (top_small CX.out.1 CD.out aV bi);have HN:=Hid.mk ((CX.out.1.drop n).val_nonneg (B:=1000000000) (by decide));have fT:Fit (val 1000000000 (X.drop n)):=(fY.le (by have:=HT.out;have:=HN.out;omega)).fit (by omega)
  by_cases hcn:n=aD
  all_goals
   first | (subst hcn;rw[if_pos rfl] at p) | (have bj:¬ aD=n:=(fun h=>hcn h.symm);rw[if_neg bj] at p)
   go_wp2_with fail
   refine(copyLimbs_any (val 1000000000 (X.drop n)) _ _ ⟨_,(by first | exact p | (rw[show X.length - n=0 by omega] at p;simpa using p)),CX.out.drop n,rfl⟩ fT).mono ?_
   rintro e w4 ⟨v4,rfl,ap,V,bf⟩;have c:=owns_keep V g;have o:=U.trans' V;clear g p fT
   try generalize Option.map (fun(x:Addr)=>x.add n) bJ=b2
   go_wp2_with fail
   go_loopw [12,13] (fun r i wr=>∃ j:Nat,j≤n∧i=.int .i64 ((n:Int) - 1 - j)∧Rp 2 1000000000 wr r (val 1000000000 (X.drop (n - j)) % val 1000000000 D)∧wr.ownsRow G.heap.size 2 1 (.slice (some ⟨G.heap.size,0,none⟩) n n) n (vals (quoRow (val 1000000000 D) X n j))∧Kp G wr)
    (fun _ i _=>(intOf i+1).toNat)
   case atStart=>exact⟨0,by omega,by go_num,by rw[Nat.sub_zero,Int.emod_eq_of_lt HN.out HT.out];exact ap,c,o⟩
   case round =>
    obtain⟨j,hj,rfl,hr,N,ad⟩:=hrel;clear c o ap U V;have bm:=Int.emod_nonneg (val 1000000000 (X.drop (n - j))) (b:=val 1000000000 D) (by omega);have bn:=Int.emod_lt_of_pos (val 1000000000 (X.drop (n - j))) T;by_cases h1:j<n
    ·have bN:=(aa (by omega)).1;subst bN;have bO:wr.cell? ⟨pX,a8+(n - 1 - j),none⟩=some (.int .i64 (at0 X (n - 1 - j))):=cell_later ad (t _ (by omega));have bP:=CX.out.1 (n - 1 - j);have au:=Hid.mk ((div_step (B:=1000000000) (R:=val 1000000000 (X.drop (n - 1 - j+1))) (d:=at0 X (n - 1 - j)) T).2);have av:=Hid.mk (val_drop_succ 1000000000 X (n - 1 - j));have fR:=fY.le (x:=val 1000000000 (X.drop (n - j)) % val 1000000000 D) (by omega);clear t aa;generalize hR:val 1000000000 (X.drop (n - j)) % val 1000000000 D=R at *;have HR:=Hid.mk hR;clear hR
     go_wp2_with fail
     refine(putBelow_any R (at0 X (n - 1 - j)) _ _ hr (fR.fit (by omega)) bP).mono ?_;rintro e w5 ⟨v5,rfl,aW,ac,ae⟩
     go_wp2_with fail
     have O:=ad.trans' ac;have bQ:G.heap.size<wr.heap.size:=(N.lt _ rfl).2;have bo:Fresh (G.heap.size+1) v5:=ae.mono bQ;have af:=owns_keep ac N;have bp:at0 X (n - 1 - j)+1000000000*R<val 1000000000 D*1000000000:=by omega
     have bq:0≤at0 X (n - 1 - j)+1000000000*R:=by omega
     have ag:Ft (m+9+10) (at0 X (n - 1 - j)+1000000000*R):=(fY.mul (n:=10) (y:=1000000000) (by unfold Ft;decide)).le (by omega)
     generalize hRR:at0 X (n - 1 - j)+1000000000*R=RR at *;have ah:=Hid.mk hRR;clear hRR N ac hr bO;obtain⟨Rl,br,aX,ai,_⟩:=aW.len (by decide) (ag.fit (by omega));have l:=est_ok aX.1 CD.out aV (by rw[ai];exact bp)
     rw[ai] at l;refine(estimate_any Rl D _ _ _ br (hD.keep O) aX.1 CD.out aV).mono ?_;rintro e w6 ⟨rfl,f⟩;generalize estQ Rl D=q at *;clear br aX ai;have aj:=O.trans' f;have H:=owns_keep f af;have W:=aW.keep f;have cf:G.heap.size<w6.heap.size:=by have:=ae;have:=f.size;have:=O.size;have:=(H.lt _ rfl).2;omega
     clear O f af aW
     go_wp2_with fail
     refine(multiplyLimbs_row D [q] _ _ _ (hD.keep (aj.alloc' _)) (row_lit1 w6 _ q) CD.out.1 (Dig.mk ⟨l.1,l.2.1⟩ (Dig.nil (by decide))) lD (by simp)).mono ?_;rintro e w7 ⟨v7,rfl,C,E,M⟩;rw[val_one] at C;have P:=(kp_alloc w6 _).trans' E;have ak:=aj.trans' P;have I:=owns_keep P H;have Q:=W.keep P;have cg:G.heap.size<w7.heap.size:=(I.lt _ rfl).2;clear aj H W E P
     go_wp2_with fail
     go_loopw [14,15] (fun dg pt wq=>∃ q:Int,0≤q∧q<1000000000∧RR / val 1000000000 D≤q∧dg=.int .i64 q∧Rp 2 1000000000 wq pt (val 1000000000 D*q)∧Kp w7 wq∧Fresh (G.heap.size+1) pt) (fun dg _ _=>(intOf dg).toNat)
     case atStart=>exact⟨q,l.1,l.2.1,l.2.2,rfl,C,Below.refl _ _,M.mono (by simp;omega)⟩
     case round =>
      obtain⟨q,bR,ch,bs,rfl,al,J,bt⟩:=hrel;have bu:Fit (val 1000000000 D*q):=(fY.mul (n:=9) (y:=q) (by unfold Ft;omega)).fit (by omega)
      have bS:0≤val 1000000000 D*q:=Int.mul_nonneg (by omega) bR;clear l C;by_cases hgt:RR<val 1000000000 D*q
      ·have bT:RR / val 1000000000 D≤q - 1:=quot_down T (by rw[Int.mul_comm];exact hgt)
       have b3:0≤RR / val 1000000000 D:=Int.ediv_nonneg bq (by omega);have bv:val 1000000000 D*q - val 1000000000 D=val 1000000000 D*(q - 1):=by rw[Int.mul_sub,Int.mul_one]
       have aE:0≤val 1000000000 D*(q - 1):=Int.mul_nonneg (by omega) (by omega);have bw:=Hid.mk bv;have bx:=Hid.mk aE;clear bv aE
       go_wp2_with fail
       refine(compareLimbs_any (val 1000000000 D*q) RR _ _ _ al (Q.keep J)).mono ?_;rintro e w8 ⟨rfl,F⟩;rw[cmp3_gt hgt]
       go_wp2_with fail
       refine(subtractLimbs_any (val 1000000000 D*q) (val 1000000000 D) _ _ _ (al.keep F) ⟨D,hD.keep ((ak.trans' J).trans' F),CD.out,rfl⟩ bu (by have:=bw.out;have:=bx.out;omega)).mono ?_
       rintro e w9 ⟨v9,rfl,am,aw,aF⟩;rw[bw.out] at am
       go_wp2_with fail
       go_roundw
       case rel=>exact⟨q - 1,by omega,by omega,bT,rfl,am,(J.trans' F).trans' aw,aF.mono (by have:=J.size;have:=F.size;omega)⟩
       case measure=>simp[intOf];omega
      ·have aY:q=RR / val 1000000000 D:=quot_of_le T bs (by rw[Int.mul_comm];omega)
       have ax:=Hid.mk aY;have ay:Hid (RR - val 1000000000 D*q=RR % val 1000000000 D):=by
        unfold Hid;rw[aY,Int.mul_comm];exact rest_eq
       have az:Hid (val 1000000000 D*q≤RR):=by unfold Hid;omega
       clear aY bs
       go_wp2_with fail
       refine(compareLimbs_any (val 1000000000 D*q) RR _ _ _ al (Q.keep J)).mono ?_;rintro e w8 ⟨rfl,F⟩;have ci:cmp3 (val 1000000000 D*q) RR≤0:=by unfold cmp3;split <;> (try split) <;> omega
       generalize cmp3 (val 1000000000 D*q) RR=cm at *;have S:=J.trans' F;have z:=owns_keep S I;have cj:w8.frozen? ⟨G.heap.size,n - 1 - j,none⟩=false:=z.frozenAt (n - 1 - j);have ck:=owns_cell z (i:=n - 1 - j) (by omega);have aZ:=Hid.mk (fun y=>owns_store z (ak.trans' S) (n - 1 - j) y);have a0:=Hid.mk (And.intro (al.keep F) (Q.keep S));have bz:=Hid.mk (And.intro bt bo);have bU:=Hid.mk (And.intro au (And.intro av (And.intro ah (And.intro HR (And.intro ax (And.intro ay (And.intro az ag)))))));clear I z al J F Q hgt bS bp bq bm bn bt bo S ak bu fR ag ae M au av ah HR ax ay az
       go_wp2_with fail
       obtain⟨au,av,ah,HR,ax,ay,az,ag⟩:=bU.out;refine(subtractLimbs_any RR (val 1000000000 D*q) _ _ _ (a0.out.2.set bz.out.2) (a0.out.1.set bz.out.1) (ag.fit (by omega)) az.out).mono ?_;rintro e w9 ⟨v9,rfl,am,aw,aF⟩;rw[ay.out] at am;have a1:=owns_keep aw (aZ.out q).1;have bA:=(aZ.out q).2.trans' aw;have HF:Hid (RR % val 1000000000 D=val 1000000000 (List.drop (n - (j+1)) X) % val 1000000000 D):=by
        unfold Hid;rw[show n - (j+1)=n - 1 - j by omega,av.out,← ah.out,← HR.out,show n - j=n - 1 - j+1 by omega];exact au.out.symm
       have HG:Hid ((quoRow (val 1000000000 D) X n j).set (n - 1 - j) q=quoRow (val 1000000000 D) X n (j+1)):=by
        unfold Hid;rw[quoRow_succ,HR.out,ah.out,ax.out]
       clear aZ a0
       go_wp2_with fail
       have aG:Hid (∃ j':Nat,j'≤n∧Value.int .i64 ((n:Int) - 1 - j - 1)=.int .i64 ((n:Int) - 1 - j')∧Rp 2 1000000000 w9 v9 (val 1000000000 (X.drop (n - j')) % val 1000000000 D)∧w9.ownsRow G.heap.size 2 1 (.slice (some ⟨G.heap.size,0,none⟩) n n) n (vals (quoRow (val 1000000000 D) X n j'))∧Kp G w9) :=
        ⟨j+1,by omega,by go_num,by rw[← HF.out];exact am,by rw[← HG.out];exact a1,bA⟩
       go_roundw
       case rel=>first | exact aG.out | ((repeat apply Exists.intro);exact⟨aG.out,rfl⟩)
       case measure=>simp[intOf];omega
    ·have bV:j=n:=by omega
     subst bV;have HV:=Hid.mk (quoRow_done (X:=X) T j (Int.ediv_eq_zero_of_lt HN.out HT.out));have bW:=Hid.mk (quoRow_dig (X:=X) T CX.out.1 j j);have aH:=Row.of_owns N;have ar:0≤x:=by rw[← an.out];exact CA.out.1.val_nonneg (by decide)
     have aI:0≤y:=by rw[← aQ.out];exact CB.out.1.val_nonneg (by decide)
     have cl:0≤x / y:=Int.ediv_nonneg ar aI;have aJ:x / y≤x:=Int.ediv_le_self _ ar;have aK:x / y*y≤x:=Int.ediv_mul_le _ bF.out;have bB:=Hid.mk aJ;have bC:=Hid.mk aK;clear aJ aK bm bn t aa ar aI
     go_wp2_with (go_at_call 87;refine(significant_any _ _ _ (by exact aH)).mono ?_;rintro e w5 ⟨k,rfl,rfl,A⟩;have aq:=A.1;rw[quoRow_length] at aq)
     have aL:=A.canon (B:=1000000000) (by decide) bW.out;have hq:Rp 2 1000000000 w5 (.slice (some ⟨G.heap.size,0,none⟩) k j) (x / y):=⟨_,aH.take A.1,aL.1,by rw[aL.2.1,HV.out,ba.out]⟩;refine(multiplyLimbs_any (x / y) y _ _ _ hq (aC.keep ad) ((fx.le (by have:=bB.out;omega)).fit (by omega)) (fy.fit (by omega))).mono ?_
     rintro e w6 ⟨v6,rfl,W,f,bg⟩
     go_wp2_with fail
     refine(subtractLimbs_any x (x / y*y) _ _ _ (a7.keep (ad.trans' f)) W (fx.fit (by omega)) bC.out).mono ?_;rintro e w7 ⟨v7,rfl,C,E,M⟩;rw[rest_eq] at C
     go_wp2_with fail
     go_ret2
     exact⟨_,_,rfl,hq.keep (f.trans' E),C,((aB.trans' ad).trans' f).trans' E⟩
theorem divideLimbs_any (x y:Int) (m:Nat) (u v:Value) (w:World) (a:Rp 2 1000000000 w u x) (b:Rp 2 1000000000 w v y) (d:m≤300000000) (c:Ft m x) (e:Ft m y) :
  Calls Tryz.prog 70 #[u,v] w (RetRp2 2 1000000000 w (x / y) (x % y)):=by
 by_cases h:y=0
 ·subst h;rw[Int.ediv_zero,Int.emod_zero];exact divideLimbs_zero x u v w a b (c.fit (by omega))
 ·exact divideLimbs_pos x y m u v w a b d c e h
end Go.Proofs.YtjahbjjekednfaaGreatDoor
