import Derived.Lib.ItoaNum
import Derived.Test.YtjahbjjekednfaaGreatDoorR1
import Derived.Test.YtjahbjjekednfaaGreatDoorMath6
import Derived.Laws.IdiomStrings
import Derived.Laws.Concat
import Derived.Lib.Strings
import Derived.Test.YtjahbjjekednfaaGreatDoorShelf
namespace Go.Proofs.YtjahbjjekednfaaGreatDoor
set_option maxHeartbeats 1600000
set_option maxRecDepth 100000
section
open Go.Lib
def pad:Nat→Nat→List UInt8
 | 0,_=>[]
 | k+1,u=>pad k (u / 10) ++ [UInt8.ofNat (48+u % 10)]
def strip0:List UInt8→List UInt8
 | []=>[]
 | c :: l=>if c=48 then strip0 l else c :: l
theorem pad_length:∀ k u,(pad k u).length=k
 | 0,_=>rfl
 | k+1,u=>by simp[pad,pad_length k]
theorem dec_big {u:Nat} (h:¬ u<10):decDigits u=decDigits (u / 10) ++ [UInt8.ofNat (48+u % 10)]:=by rw[decDigits,dif_neg h]
theorem dec_pad:∀(k a b:Nat),0<a→b<10 ^ k→decDigits (a*10 ^ k+b)=decDigits a ++ pad k b
 | 0,a,b,_,hb=>by
  have:b=0:=by simpa using hb
  simp[this,pad]
 | k+1,a,b,ha,hb=>by
  have c:0<10 ^ k:=Nat.pow_pos (by decide);have f:10≤a*10 ^ (k+1):=by
   rw[Nat.pow_succ,← Nat.mul_assoc];have:=Nat.mul_pos ha c;omega
  have d:(a*10 ^ (k+1)+b) / 10=a*10 ^ k+b / 10:=by rw[Nat.pow_succ,← Nat.mul_assoc];omega
  have e:(a*10 ^ (k+1)+b) % 10=b % 10:=by rw[Nat.pow_succ,← Nat.mul_assoc];omega
  rw[dec_big (by omega),d,e,dec_pad k a (b / 10) ha (by rw[Nat.pow_succ] at hb;omega),pad,List.append_assoc]
theorem pad_pad:∀(k j a b:Nat),b<10 ^ k→pad (j+k) (a*10 ^ k+b)=pad j a ++ pad k b
 | 0,j,a,b,hb=>by
  have:b=0:=by simpa using hb
  simp[this,pad]
 | k+1,j,a,b,hb=>by
  have c:(a*10 ^ (k+1)+b) / 10=a*10 ^ k+b / 10:=by rw[Nat.pow_succ,← Nat.mul_assoc];omega
  have d:(a*10 ^ (k+1)+b) % 10=b % 10:=by rw[Nat.pow_succ,← Nat.mul_assoc];omega
  rw[show j+(k+1)=(j+k)+1 by omega,pad,c,d,pad_pad k j a (b / 10) (by rw[Nat.pow_succ] at hb;omega),pad,List.append_assoc]
theorem pad_zero:∀ k,pad k 0=List.replicate k 48
 | 0=>rfl
 | k+1=>by
  rw[pad,Nat.zero_div,pad_zero k,List.replicate_succ']
  rfl
theorem strip_zeros (l:List UInt8):∀ k,strip0 (List.replicate k 48 ++ l)=strip0 l
 | 0=>rfl
 | k+1=>by
  rw[List.replicate_succ,List.cons_append,strip0,if_pos rfl];exact strip_zeros l k
theorem digit_ne {d:Nat} (a:0<d) (b:d<10):UInt8.ofNat (48+d)≠48:=by
 intro h;have:=congrArg UInt8.toNat h;simp at this;omega
theorem dec_head:∀(n u:Nat),u≤n→0<u→∃ c l,decDigits u=c :: l∧c≠48
 | 0,u,h,a=>by omega
 | n+1,u,h,a=>by
  by_cases hu:u<10
  ·exact⟨UInt8.ofNat (48+u),[],by rw[decDigits,dif_pos hu],digit_ne a hu⟩
  ·obtain⟨c,l,b,d⟩:=dec_head n (u / 10) (by omega) (by omega);exact⟨c,l ++ [UInt8.ofNat (48+u % 10)],by rw[dec_big hu,b];rfl,d⟩
theorem strip_dec {u:Nat} (h:0<u):strip0 (decDigits u)=decDigits u:=by
 obtain⟨c,l,a,b⟩:=dec_head u u (Nat.le_refl _) h;rw[a,strip0,if_neg b]
theorem strip_pad:∀(k u:Nat),u<10 ^ k→0<u→strip0 (pad k u)=decDigits u
 | 0,u,h,b=>by simp at h;omega
 | k+1,u,h,b=>by
  by_cases hu:u<10
  ·have e:u / 10=0:=by omega
   have f:u % 10=u:=by omega
   rw[pad,e,f,pad_zero,strip_zeros];have:=strip_dec b
   rwa [decDigits,dif_pos hu] at this ⊢
  ·have d:=strip_pad k (u / 10) (by rw[Nat.pow_succ] at h;omega) (by omega)
   have a:∀(l m:List UInt8),strip0 l≠[]→strip0 (l ++ m)=strip0 l ++ m:=by
    intro l m
    induction l with
    | nil=>intro h;exact absurd rfl h
    | cons c l ih =>
     intro h;rw[List.cons_append,strip0,strip0];by_cases hc:c=48
     ·rw[if_pos hc,if_pos hc];refine ih ?_
      rwa [strip0,if_pos hc] at h
     ·rw[if_neg hc,if_neg hc];rfl
   rw[pad,a _ _ (by
    rw[d];obtain⟨c,l,g,_⟩:=dec_head (u / 10) (u / 10) (Nat.le_refl _) (by omega);rw[g];simp),d,← dec_big hu]
theorem pad_four (n:Nat) (h:n<10000):pad 4 n=[UInt8.ofNat (48+n / 1000),UInt8.ofNat (48+n / 100 % 10),UInt8.ofNat (48+n / 10 % 10),UInt8.ofNat (48+n % 10)]:=by
 simp only[pad,List.nil_append,List.cons_append];have a:n / 10 / 10 / 10 % 10=n / 1000:=by omega
 have b:n / 10 / 10 % 10=n / 100 % 10:=by omega
 rw[a,b]
theorem pad_dec:∀(k u:Nat),u<10 ^ (k+1)→∃ j,j+(decDigits u).length=k+1∧pad (k+1) u=List.replicate j 48 ++ decDigits u
 | 0,u,h=>⟨0,by rw[decDigits,dif_pos (by simpa using h)];rfl,by
   have a:u<10:=by simpa using h
   rw[decDigits,dif_pos a,pad,Nat.mod_eq_of_lt a];rfl⟩
 | k+1,u,h=>by
  by_cases a:u<10
  ·refine⟨k+1,by rw[decDigits,dif_pos a];rfl,?_⟩
   rw[pad,show u / 10=0 by omega,pad_zero,decDigits,dif_pos a,Nat.mod_eq_of_lt a]
  ·obtain⟨j,c,b⟩:=pad_dec k (u / 10) (by rw[Nat.pow_succ] at h;omega)
   refine⟨j,by rw[dec_big a,List.length_append,List.length_singleton];omega,?_⟩
   rw[pad,b,dec_big a,List.append_assoc]
end
section
open Go.RowKit
def strOf (l:List UInt8):ByteArray:=⟨l.toArray⟩
theorem strOf_size (l:List UInt8):(strOf l).size=l.length:=by simp[strOf,ByteArray.size]
theorem preV_lt {l:List Int} (h:Dig 10000 l):∀ j,preV l j<((10 ^ 4) ^ j:Nat)
 | 0=>by simp[preV]
 | j+1=>by
  have a:=preV_lt h j;obtain⟨b,c⟩:=h j;show preV l j*10000+at0 l j<_;rw[Nat.pow_succ];generalize (10 ^ 4) ^ j=M at *;omega
theorem conv4 (w:World) (n:Nat) (h:n<10000):(convert 89 9 (.slice (some ⟨w.heap.size,0,none⟩) 4 4)).run Tryz.prog (w.alloc (.cells #[.int .u8 (48+(n:Int) / 1000),.int .u8 (48+(n:Int) / 100 % 10),.int .u8 (48+(n:Int) / 10 % 10),.int .u8 (48+(n:Int) % 10)] 5))=.ok (.string (strOf (pad 4 n))) (w.alloc (.cells #[.int .u8 (48+(n:Int) / 1000),.int .u8 (48+(n:Int) / 100 % 10),.int .u8 (48+(n:Int) / 10 % 10),.int .u8 (48+(n:Int) % 10)] 5)):=by
 generalize hW:w.alloc (.cells #[.int .u8 (48+(n:Int) / 1000),.int .u8 (48+(n:Int) / 100 % 10),.int .u8 (48+(n:Int) / 10 % 10),.int .u8 (48+(n:Int) % 10)] 5)=W;have a:=run_convert_bytes_back (P:=Tryz.prog) W 89 9 5 ⟨w.heap.size,0,none⟩ 4 (pad 4 n) Tryz.underlying89 Tryz.underlying5 Tryz.underlying9 (fun j b=>by
  have c:j<4:=by rw[pad_length] at b;exact b
  subst hW;simp only[pad_four n h];have:j=0∨j=1∨j=2∨j=3:=by omega
  rcases this with rfl | rfl | rfl | rfl
  ·refine(World.cell?_alloc_mark w _ _ (0,0) 0).trans ?_;simp;omega
  ·refine(World.cell?_alloc_mark w _ _ (0,0) 1).trans ?_;simp;omega
  ·refine(World.cell?_alloc_mark w _ _ (0,0) 2).trans ?_;simp;omega
  ·refine(World.cell?_alloc_mark w _ _ (0,0) 3).trans ?_;simp;omega)
 rw[pad_length] at a;exact a
theorem text_ref (z:Int) (v:Value) (w:World) (hz:IN w v z) (fz:Fit z):Calls Tryz.prog 21 #[v] w (RetV w (.string (strOf (Go.Lib.itoa z)))):=by
 obtain⟨F,n,c,rfl,hr⟩:=hz;obtain⟨m,G,H,g⟩:=hr;have f:m.length≤400000000:=H.len_fit (by decide) (by rw[g];exact fit_abs fz)
 have p:preV m.reverse m.reverse.length=(z.natAbs:Int):=by rw[List.length_reverse,preV_all,g]
 have q:=dig_rev H.1;have ae:m.reverse.length≤400000000:=by rw[List.length_reverse];exact f
 unfold RowR at G;generalize m.reverse=l at *;obtain⟨af,Z,d,r,k⟩:=G.slice;simp only[Value.slice.injEq] at d;obtain⟨rfl,rfl,rfl⟩:=d;have I:=Hid.mk q;have HP:=Hid.mk p;clear H g f q p;generalize hbn:decide (z<0)=C;have HB:=Hid.mk hbn;clear hbn;have u:=kp_alloc w (.cells #[.bool C,.slice F l.length c] 52);have x:=Blk.new w #[.bool C,.slice F l.length c] 52
 go_enter Tryz.func21,Tryz.ntmps21
 go_wp2_with fail
 go_loopw [3,4,5,6] (fun s i _ _ wr=>∃(j:Nat) (b:ByteArray),j≤l.length∧i=.int .i64 j∧s=.string b∧Blk wr w.heap.size #[.bool C,.slice F l.length c] 52∧Kp w wr∧Hid (b.data.toList=pad (4*j) (preV l j).toNat)∧b.size=4*j)
  (fun _ i _ _ _=>l.length - (intOf i).toNat)
 case atStart=>exact⟨0,ByteArray.empty,by omega,rfl,rfl,x,u,rfl,rfl⟩
 case round =>
  clear x u;obtain⟨j,b,hj,rfl,rfl,J,e,K,L⟩:=hrel;have ag:=J.cell;have ah:=J.lt;by_cases h1:j<l.length
  ·obtain⟨M,ai⟩:=I.out j;obtain⟨aj,aa,bb,N,d,_,_,_,o,y⟩:=id G;simp only[Value.slice.injEq] at d;obtain⟨rfl,_,rfl⟩:=d;have ha:=(o (by omega)).1;have O:=(o (by omega)).2;subst ha;have Q:wr.cell? ⟨bb,N+j,none⟩=some (.int .i64 (at0 l j)):=by
    rw[World.cell?_of_block (w:=w) (e.block bb (elemOf_lt O))];exact y j h1
   clear o y;generalize hdg:at0 l j=D at *;have ak:(j:Int)<(l.length:Int):=by omega
   obtain⟨n,rfl⟩:=Int.eq_ofNat_of_zero_le M;have hn:n<10000:=by omega
   have kc:=conv4 wr n hn;have R:(strOf (pad 4 n)).size=4:=by rw[strOf_size,pad_length]
   have ac:=fun(W:World)=>run_string_add_sum (P:=Tryz.prog) (w:=W) b (strOf (pad 4 n)) (by omega)
   go_wp2_with fail
   go_roundw
   case rel=>
    refine⟨j+1,b ++ strOf (pad 4 n),by omega,by go_num,rfl,J.alloc _,e.alloc' _,?_,?_⟩
    ·show (b ++ strOf (pad 4 n)).data.toList=_
     have a:=preV_nn I.out j;have e1:(preV l (j+1)).toNat=(preV l j).toNat * 10 ^ 4+n:=by
      show (preV l j*10000+at0 l j).toNat=_
      rw[hdg];omega
     rw[show 4*(j+1)=4*j+4 by omega,e1,pad_pad 4 (4*j) _ n (by omega),← K.out];simp[strOf]
    ·rw[ByteArray.size_append,R];omega
   case measure=>simp[intOf];omega
  ·have ej:j=l.length:=by omega
   have eb:b=strOf (pad (4*l.length) z.natAbs):=by
    apply ByteArray.ext
    apply Array.toList_inj.1
    rw[K.out,ej,HP.out]
    rfl
   subst ej;have ad:4*l.length≤1600000000:=by omega
   clear K L r k;have HE:=Hid.mk eb;clear eb;have HG:Hid (z.natAbs<10 ^ (4*l.length)):=Hid.mk (by
    have a:=preV_lt I.out l.length;rw[HP.out] at a;rw[Nat.pow_mul];omega)
   go_wp2_with fail
   go_loopw [3] (fun s wq=>∃ A:List UInt8,s=.string (strOf A)∧wq=wr∧A.length≤4*l.length∧Hid (strip0 A=strip0 (pad (4*l.length) z.natAbs)))
    (fun s _=>match s with | .string b=>b.size | _=>0)
   case atStart=>exact⟨_,by rw[HE.out],rfl,by rw[pad_length];omega,rfl⟩
   case round =>
    obtain⟨A,rfl,rfl,S,T⟩:=hrel
    cases A with
    | nil =>
     have U:Hid (z=0):=Hid.mk (by
      by_cases B:0<z.natAbs
      ·exfalso
       have a:=T.out;rw[strip_pad _ _ HG.out B] at a;obtain⟨c1,l1,E,_⟩:=dec_head _ _ (Nat.le_refl _) B;rw[E] at a;exact absurd a (by simp[strip0])
      ·omega)
     have V:(strOf []).size=0:=rfl;have X:strOf []=({ data:=#[] }:ByteArray):=rfl
     go_wp2_with fail
     go_ret
     rw[show strOf (Go.Lib.itoa z)=⟨#[48]⟩ by rw[U.out,Go.Lib.itoa,if_neg (by decide),Go.Lib.decDigits,dif_pos (by decide)];rfl]
     exact⟨rfl,e⟩
    | cons c t =>
     have V:(strOf (c :: t)).size=t.length+1:=by rw[strOf_size];rfl
     have al:∀ h,(strOf (c :: t))[0]'h=c:=fun _=>rfl;rw[List.length_cons] at S;by_cases hc:c=48
     ·subst hc;have am:(strOf (48 :: t)).extract 1 (t.length+1)=strOf t:=by
       apply ByteArray.ext
       apply Array.toList_inj.1
       rw[Go.Lib.extract_data];simp[strOf]
      go_wp2_with fail
      go_roundw
      case rel=>exact⟨t,rfl,trivial,by omega,by rw[← T.out];simp[Hid,strip0]⟩
      case measure=>simp[strOf_size]
     ·have an:((c.toNat:Int) == 48)=false:=by
       have:c.toNat≠48:=fun h=>hc (UInt8.toNat_inj.1 h);rw[beq_eq_false_iff_ne];omega
      have X:(strOf (c :: t)).toList.isEmpty=false:=by rw[ByteArray.toList_eq];rfl
      have ap:(ByteArray.size ⟨#[45]⟩)=1:=rfl;have HW:Hid (0<z.natAbs∧c :: t=Go.Lib.decDigits z.natAbs):=Hid.mk (by
       have a:=T.out;rw[strip0,if_neg hc] at a;by_cases B:0<z.natAbs
       ·rw[strip_pad _ _ HG.out B] at a;exact⟨B,a⟩
       ·have e0:z.natAbs=0:=by omega
        rw[e0,pad_zero] at a;have E:=strip_zeros [] (4*l.length);rw[List.append_nil] at E;rw[E] at a;exact absurd a (by simp[strip0]))
      cases C
      ·go_wp2_with fail
       go_ret
       have Y:=of_decide_eq_false HB.out;rw[show Go.Lib.itoa z=c :: t by rw[Go.Lib.itoa,if_neg Y,HW.out.2];congr 1;omega]
       exact⟨rfl,e⟩
      ·go_wp2_with fail
       go_ret
       have Y:=of_decide_eq_true HB.out;rw[show strOf (Go.Lib.itoa z)=⟨#[45]⟩ ++ strOf (c :: t) by rw[Go.Lib.itoa,if_pos Y,HW.out.2];apply ByteArray.ext;simp[strOf]]
       exact⟨rfl,e⟩
end
section
open Go.RowKit
theorem tab_keep {P:Program} {w W:World} {a:String} {k:IntKind} {zs:List Int} (h:Lib.TabIs P w a k zs) (b:Kp w W):Lib.TabIs P W a k zs:=by
 unfold Lib.TabIs World.var? at *
 cases hg:P.globalNamed a with
 | none=>rw[hg] at h;exact h
 | some g =>
  rw[hg] at h;simp only[Option.bind_some] at h ⊢;have c:g<w.heap.size:=by
   refine Nat.lt_of_not_le fun d=>?_;rw[Array.getElem?_eq_none d] at h;exact absurd h (by simp)
  rw[b.block g c];exact h
def Tens (w:World):Prop:=Lib.TabIs Tryz.prog w "internal/strconv.uint64pow10" .u64 Lib.pow10Tab
theorem Tens.keep {w W:World} (h:Tens w) (a:Kp w W):Tens W:=tab_keep h a
theorem format_ten (n:Int) (a:-9223372036854775808≤n) (b:n≤9223372036854775807) (w:World) (c:Tens w):Calls Tryz.prog 42 #[.int .i64 n,.int .i64 10] w (RetV w (.string (strOf (Go.Lib.itoa n)))):=by
 refine(Tryz.strconv_FormatInt_10 n a b w c).mono ?_;rintro e f ⟨rfl,k,os,rfl⟩;refine⟨rfl,rfl,rfl,rfl,?_,fun i d=>?_⟩
 ·show w.heap.size≤(w.heap ++ os).size
  simp
 ·show (w.heap ++ os)[i]?=w.heap[i]?
  rw[Array.getElem?_append_left d]
theorem full_limb (d:Int) (q:0≤d) (r:d<1000000000) (w:World) (j:Tens w):Calls Tryz.prog 43 #[.int .i64 d] w (RetV w (.string (strOf (pad 9 d.toNat)))):=by
 have hF:=format_ten d (by omega) (by omega) w j;rw[Go.Lib.itoa,if_neg (by omega)] at hF;obtain⟨c,l,h⟩:=pad_dec 8 d.toNat (by omega);rw[h];clear h;generalize Go.Lib.decDigits d.toNat=u at *
 go_enter Tryz.func43,Tryz.ntmps43
 go_wp2_with (go_at_call 42;refine hF.mono ?_;rintro e t ⟨rfl,f⟩)
 go_loopw [3] (fun s m=>∃ k:Nat,k≤c∧s=.string (strOf (List.replicate k 48 ++ u))∧Kp w m)
  (fun s _=>match s with | .string b=>9 - b.size | _=>0)
 case atStart=>exact⟨0,by omega,rfl,f⟩
 case round =>
  obtain⟨k,v,rfl,a⟩:=hrel;have n:(strOf (List.replicate k 48 ++ u)).size=k+u.length:=by rw[strOf_size];simp
  have o:(ByteArray.size ⟨#[48]⟩)=1:=rfl;have i:Hid ((⟨#[48]⟩:ByteArray) ++ strOf (List.replicate k 48 ++ u)=strOf (List.replicate (k+1) 48 ++ u)):=Hid.mk (by
   apply ByteArray.ext
   simp[strOf,List.replicate_succ])
  by_cases x:k<c
  ·have p:k+u.length<9:=by omega
   have g:(k:Int)+(u.length:Int)<9:=by omega
   go_wp2_with fail
   go_roundw
   case rel=>exact⟨k+1,by omega,by rw[← i.out],a⟩
   case measure =>
    rw[i.out];show 9 - (strOf _).size<9 - (strOf _).size;rw[strOf_size,strOf_size];simp;omega
  ·obtain rfl:k=c:=by omega
   have p:¬ k+u.length<9:=by omega
   have g:¬ (k:Int)+(u.length:Int)<9:=by omega
   go_wp2_with fail
   go_ret
   exact⟨rfl,a⟩
end
section
open Go.RowKit
theorem strOf_app (a b:List UInt8):strOf a ++ strOf b=strOf (a ++ b):=by
 apply ByteArray.ext
 simp[strOf]
theorem dec_drop_pos {l:List Int} (h:Canon 1000000000 l) {t:Nat} (a:t<l.length):0<val 1000000000 (l.drop t):=by
 refine Canon.pos (by decide) ⟨fun i=>?_,fun b=>?_⟩ (by rw[List.length_drop];omega)
 ·have:=h.1 (t+i)
  simpa[at0] using this
 ·have:=h.2 (by omega);rw[List.length_drop] at *;have e:t+(l.length - t - 1)=l.length - 1:=by omega
  simpa[at0,e] using this
theorem text_any (z:Int) (v:Value) (w:World) (hz:WN w v z) (fz:Fit z) (Z:Tens w):Calls Tryz.prog 18 #[v] w (RetV w (.string (strOf (Go.Lib.itoa z)))):=by
 obtain⟨ao,n,c,rfl,l,hm,q,h⟩:=hz;have ae:l.length≤400000000:=q.len_fit (by decide) (by rw[h];exact fit_abs fz)
 obtain⟨af,aa,b,ac,G⟩:=hm.slice;simp only[Value.slice.injEq] at b;obtain⟨rfl,rfl,rfl⟩:=b;generalize hbn:decide (z<0)=F;have H:=Hid.mk hbn;clear hbn;have k:=kp_alloc w (.cells #[.bool F,.slice ao l.length c] 38);have m:=Blk.new w #[.bool F,.slice ao l.length c] 38;by_cases hl:l.length=0
 ·have r:z=0:=by
   have:=(q.zero_iff (by decide)).1 hl;omega
  rw[show strOf (Go.Lib.itoa z)=⟨#[48]⟩ by rw[r,Go.Lib.itoa,if_neg (by decide),Go.Lib.decDigits,dif_pos (by decide)];rfl]
  rw[hl];clear r h m H
  go_enter Tryz.func18,Tryz.ntmps18
  go_wp2_with fail
  go_ret
  exact⟨rfl,kp_alloc _ _⟩
 ·obtain⟨ag,ad,I,u,b,_,_,_,o,x⟩:=id hm;simp only[Value.slice.injEq] at b;obtain⟨rfl,_,rfl⟩:=b;have ha:=(o (by omega)).1;have J:=(o (by omega)).2;subst ha;have y:=elemOf_lt J;have a:∀ W,Kp w W→∀ j,j<l.length→W.cell? ⟨I,u+j,none⟩=some (.int .i64 (at0 l j)):=fun W hk j hj=>by
   rw[World.cell?_of_block (w:=w) (hk.block I y)];exact x j hj
  clear o x;have A:=a _ k (l.length - 1) (by omega);obtain⟨K,L⟩:=q.1 (l.length - 1);have M:at0 l (l.length - 1)≠0:=q.2 (by omega);have HT:Hid (val 1000000000 (l.drop (l.length - 1))=at0 l (l.length - 1)):=Hid.mk (by
   rw[val_drop_succ,show l.length - 1+1=l.length by omega,List.drop_length];simp[val])
  generalize hdt:at0 l (l.length - 1)=D at *;have hF:=format_ten D (by omega) (by omega) _ (Z.keep k);rw[Go.Lib.itoa,if_neg (by omega)] at hF;have N:(0:Int)≤(l.length:Int) - 1:=by omega
  have O:(l.length:Int) - 1<(l.length:Int):=by omega
  have Q:((l.length:Int) - 1).toNat=l.length - 1:=by omega
  go_enter Tryz.func18,Tryz.ntmps18
  go_wp2_with (go_at_call 42;refine hF.mono ?_;rintro e w1 ⟨rfl,p⟩)
  have B:=m.keep p;have d:Kp w w1:=k.trans' p;obtain⟨j9,R,_⟩:=pad_dec 8 D.toNat (by omega)
  go_loopw [4,5] (fun s i wq=>∃ t:Nat,t<l.length∧i=.int .i64 ((t:Int) - 1)∧(∃ f:List UInt8,s=.string (strOf f)∧f.length+9*t≤9*l.length∧Hid (f=Go.Lib.decDigits (val 1000000000 (l.drop t)).toNat))∧Blk wq w.heap.size #[.bool F,.slice (some ⟨I,u,none⟩) l.length c] 38∧Kp w wq)
   (fun _ i _=>(intOf i+1).toNat)
  case atStart=>exact⟨l.length - 1,by omega,by go_num,⟨_,rfl,by omega,by rw[HT.out];rfl⟩,B,d⟩
  case round =>
   clear hF A HT N O Q K L M R m B k p d hdt;obtain⟨t,S,rfl,⟨f,rfl,ah,T⟩,U,g⟩:=hrel;have ai:=U.cell;have aj:=U.lt;have ak:=strOf_size f;by_cases h0:0<t
   ·have A:=a _ g (t - 1) (by omega);obtain⟨V,X⟩:=q.1 (t - 1);have hF:=full_limb (at0 l (t - 1)) V X _ (Z.keep g);have HV:=Hid.mk (val_drop_succ 1000000000 l (t - 1));have HP:=Hid.mk (dec_drop_pos q S);generalize at0 l (t - 1)=E at *;have i0:(0:Int)≤(t:Int) - 1:=by omega
    have i1:(t:Int) - 1<(l.length:Int):=by omega
    have i2:((t:Int) - 1).toNat=t - 1:=by omega
    have al:(strOf (pad 9 E.toNat)).size=9:=by rw[strOf_size,pad_length]
    have C:=fun(W:World)=>run_string_add_sum (P:=Tryz.prog) (w:=W) (strOf f) (strOf (pad 9 E.toNat)) (by omega)
    go_wp2_with (go_at_call 43;refine hF.mono ?_;rintro e w2 ⟨rfl,d⟩)
    go_roundw
    case rel =>
     refine⟨t - 1,by omega,by go_num,⟨f ++ pad 9 E.toNat,by rw[strOf_app],?_,?_⟩,U.keep d,g.trans' d⟩
     ·rw[List.length_append,pad_length];omega
     ·have h3:=HV.out;have h4:=HP.out;rw[show t - 1+1=t by omega] at h3;show _=_;rw[h3,T.out,← dec_pad 9 _ _ (by omega) (by omega)]
      congr 1
      omega
    case measure=>simp[intOf];omega
   ·obtain rfl:t=0:=by omega
    have HW:Hid (f=Go.Lib.decDigits z.natAbs):=Hid.mk (by
     have h2:=T.out;rw[List.drop_zero,h] at h2;rw[h2]
     congr 1)
    clear T h;have am:(ByteArray.size ⟨#[45]⟩)=1:=rfl
    cases F
    ·go_wp2_with fail
     go_ret
     have Y:=of_decide_eq_false H.out;rw[show Go.Lib.itoa z=f by rw[Go.Lib.itoa,if_neg Y,HW.out];congr 1;omega]
     exact⟨rfl,g⟩
    ·have C:=fun(W:World)=>run_string_add_sum (P:=Tryz.prog) (w:=W) ⟨#[45]⟩ (strOf f) (by omega)
     go_wp2_with fail
     go_ret
     have Y:=of_decide_eq_true H.out;rw[show strOf (Go.Lib.itoa z)=⟨#[45]⟩ ++ strOf f by rw[Go.Lib.itoa,if_pos Y,HW.out];apply ByteArray.ext;simp[strOf]]
     exact⟨rfl,g⟩
end
end Go.Proofs.YtjahbjjekednfaaGreatDoor
