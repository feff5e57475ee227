import Derived.Test.YtchkhibgbnhjpabGreatDoorV01
import Derived.Shelf.LaysM
import Derived.Shelf.Strconv.Itoa3
import Derived.Shelf.Strconv.Itoa4
import Derived.Laws.OwnMore
import Derived.Deep.Cut
open Array renaming getElem?_eq_some_iff→Xd,getElem?_modify→Xe
open List renaming length_cons→Xa,length_append→Xb,length_drop→Xc,append_assoc→Xg,length_nil→Xh,length_take→Xj,append_nil→Xk,map_append→Xl,map_cons→Xm,map_nil→Xn
open Nat renaming le_refl→Xf,zero_le→Xi
namespace Go.Proofs.YtchkhibgbnhjpabGreatDoor
open Go.RowKit
open Go.RowKit Go.Shelf
set_option maxHeartbeats 2000000
set_option maxRecDepth 100000
def ZaN(n:Int):ByteArray:=
 if n=1 then⟨#[32,34,60,62,96]⟩else if n=2 then⟨#[32,34,35,60,62]⟩else if n=3 then⟨#[32,34,35,60,62,39]⟩
 else if n=4 then⟨#[32,34,35,60,62,63,94,123,125,96]⟩else if n=5 then⟨#[32,34,35,60,62,63,94,123,125,96,47,58,59,61,64,91,92,93,124]⟩
 else if n=6 then⟨#[32,34,35,60,62,63,94,123,125,96,47,58,59,61,64,91,92,93,124,36,37,38,43,44]⟩
 else if n=7 then⟨#[32,34,35,60,62,63,94,123,125,96,47,58,59,61,64,91,92,93,124,36,37,38,43,44,33,39,40,41,126]⟩else⟨#[]⟩
theorem Zni(n:Int):(ZaN n).size≤40:=by unfold ZaN;repeat (first|decide|split)
theorem ZjG(n:Int)(w:World):Calls Tryz.prog 193 #[.int .i64 n] w fun e w'=>e=.returned (.string (ZaN n))∧w=w':=by
 by_cases h1:n=1
 ·subst h1
  go_enter Tryz.func193,Tryz.ntmps193
  go_wp2;go_ret;exact⟨rfl,rfl⟩
 by_cases h2:n=2
 ·subst h2
  go_enter Tryz.func193,Tryz.ntmps193
  go_wp2;go_ret;exact⟨rfl,rfl⟩
 by_cases h3:n=3
 ·subst h3
  go_enter Tryz.func193,Tryz.ntmps193
  go_wp2;go_ret;exact⟨rfl,rfl⟩
 by_cases h4:n=4
 ·subst h4
  go_enter Tryz.func193,Tryz.ntmps193
  go_wp2;go_ret;exact⟨rfl,rfl⟩
 by_cases h5:n=5
 ·subst h5
  go_enter Tryz.func193,Tryz.ntmps193
  go_wp2;go_ret;exact⟨rfl,rfl⟩
 by_cases h6:n=6
 ·subst h6
  go_enter Tryz.func193,Tryz.ntmps193
  go_wp2;go_ret;exact⟨rfl,rfl⟩
 by_cases h7:n=7
 ·subst h7
  go_enter Tryz.func193,Tryz.ntmps193
  go_wp2;go_ret;exact⟨rfl,rfl⟩
 ·have HE:=Za (show ZaN n=⟨#[]⟩by simp[ZaN,h1,h2,h3,h4,h5,h6,h7])
  have b1:(n==1)=false:=by simp[h1]
  have b2:(n==2)=false:=by simp[h2]
  have b3:(n==3)=false:=by simp[h3]
  have b4:(n==4)=false:=by simp[h4]
  have b5:(n==5)=false:=by simp[h5]
  have b6:(n==6)=false:=by simp[h6]
  have b7:(n==7)=false:=by simp[h7]
  clear h1 h2 h3 h4 h5 h6 h7
  go_enter Tryz.func193,Tryz.ntmps193
  go_wp2;go_ret;exact⟨ZrN HE.out.symm,rfl⟩
theorem Za9(l:LB):(clean l).length≤3*l.length:=by
 generalize hn:l.length=n
 induction n using Nat.strongRecOn generalizing l with
 | ind n ih=>
  cases l with
  | nil=>rw[clean_nil];simp
  | cons c r=>
   obtain⟨h1,h2⟩:=Zeu (l:=c::r) (by simp)
   rw[ZdB (c::r) (by simp)]
   have h3:=ih ((c::r).drop (measure (c::r)).1).length (by rw[Xc];omega) _ rfl
   rw[Xc]at h3;rw[Xb]
   split
   ·rw[Xj];omega
   ·simp only[Xa,Xh];omega
def ZN(set:List UInt8)(b:UInt8):List UInt8:=
 if(b.toNat:Int)<32∨126<(b.toNat:Int)∨Zx (b.toNat:Int) set=true then [37,toB (capital ((b.toNat:Int)/16)),toB (capital ((b.toNat:Int)%16))]else [b]
def encB(set l:List UInt8):List UInt8:=l.flatMap (ZN set)
theorem Zil(set l:LB)(b:UInt8):encB set (l++[b])=encB set l++ZN set b:=by simp[encB]
theorem Zhs(set l:LB):(encB set l).length≤3*l.length:=by
 induction l with
 | nil=>simp[encB]
 | cons c r ih=>
  have h:(ZN set c).length≤3:=by unfold ZN;split<;>simp
  simp only[encB,List.flatMap_cons,Xb,Xa]at *
  omega
theorem Znj{n:Int}(h0:0≤n)(h1:n<16):0≤capital n∧capital n≤255:=by unfold capital;split<;>omega
theorem Zfz{ops:Array Oper}{rest:List Oper}{o:Oper}{a:Act}{Q:Exit→Act→World→Prop}(w:World)(y1 y2:Int)(h10:0≤y1)(h11:y1≤255)(h20:0≤y2)(h21:y2≤255)
  (hgd:o.guard=none) (s x:Operand) (ho:o.op=.call { callee:=.builtin .append,args:=#[s,x],argTypes:=#[160,160] })
  (base:Nat) (v:Value) (l:LB) (hs:a.eval s=v) (hown:Zhq w base v l) (hx:a.eval x=.slice (some ⟨w.heap.size,0,none⟩) 3 3)
  (hn:l.length<1000000000000) (hbase:base≤w.heap.size)
  (h:∀v' w',Zhq w' base v' (l++[37,toB y1,toB y2])→Below base w w'→Kp 5 w w'→wpList Tryz.prog ops Q rest (a.put o.dst v') w'):
  wpList Tryz.prog ops Q (o::rest) a (w.alloc (.cells #[.int .u8 37,.int .u8 y1,.int .u8 y2] 5)):=by
 refine ZjB _ _ _ (.int .u8 0) 1 Tryz.underlying160 Zne rfl hgd s x ho base v l.length _ hs (World.ownsRow.alloc hown _) ⟨w.heap.size,0,none⟩ 3 3 [.int .u8 37,.int .u8 y1,.int .u8 y2] hx rfl (ZjC (by simp) (by simp) (by simp)) (by simp[Value.oneCell']) (by omega) (by decide) (by simp;omega) ?_
 intro v' w' q1 q2 q3
 refine h v' w' ?_ (((Below.refl base w).alloc hbase _).trans q2) ((Kp.rfl.alloc _).then q3)
 have e2:Lib.byteCells [37,toB y1,toB y2]=[.int .u8 37,.int .u8 y1,.int .u8 y2]:=by simp only[Lib.byteCells,Xm,Xn,Zfu h10 h11,Zfu h20 h21];rfl
 unfold Zhq;rw[Xb,Lib.byteCells_append,e2];exact q1
theorem Zaw(s:BA)(n:Int)(w:World)(hs:s.size≤1000000):Calls Tryz.prog 143 #[.string s,.int .i64 n] w fun e w'=>∃r:BA,e=.returned (.string r)∧tl r=encB (tl (ZaN n)) (clean (tl s))∧Nx w w':=by
 have hset:=Zni n;generalize hS:ZaN n=set at *;have HS:=Za hS;clear hS
 go_enter Tryz.func143,Tryz.ntmps143
 go_wp2_with fail
 refine(Zbo _ _ hs).mono ?_
 rintro e w1 ⟨c,rfl,hc,hn1⟩
 have hcs:c.size≤3000000:=by have h:=Za9 (tl s);rw[←hc,tl_length,tl_length]at h;omega
 have HCL:=Za hc;clear hc
 go_wp2_with (go_at_call 193;refine(ZjG _ _).mono ?_;rintro e w' ⟨rfl,rfl⟩;rw[HS.out])
 go_loopw [7,8] (fun o i wr=>∃k:Nat,k≤c.size∧i=.int .i64 k∧Zhq wr w1.heap.size o (encB (tl set) ((tl c).take k))∧Nx w1 wr) (fun _ i _=>c.size-(intOf i).toNat)
 case atStart=>exact⟨0,Xi _,rfl,ZcB w1,Nx.rfl.alloc _⟩
 case round=>
  obtain⟨k,hk,rfl,hown,hnx⟩:=hrel
  by_cases hlt:k<c.size
  ·have hb:=bb c[k]
   have HTK:=Za ((congrArg (encB (tl set)) (ZG c k hlt)).trans (Zil _ _ _));have hz:=hnx.size
   have hsz:(encB (tl set) ((tl c).take k)).length<1000000000000:=by have h:=Zhs (tl set) ((tl c).take k);have:=List.length_take_le k (tl c);omega
   have HO:=Za hown;have HN:=Za hnx;clear hown hnx
   by_cases hit:(c[k].toNat:Int)<32∨126<(c[k].toNat:Int)∨Zx (c[k].toNat:Int) (tl set)=true
   ·have HB:=Za (show ZN (tl set) c[k]=[37,toB (capital ((c[k].toNat:Int)/16)),toB (capital ((c[k].toNat:Int)%16))]by unfold ZN;rw[if_pos hit])
    obtain⟨hc1,hc2⟩:=Znj (n:=(c[k].toNat:Int)/16) (by omega) (by omega)
    obtain⟨hc3,hc4⟩:=Znj (n:=(c[k].toNat:Int)%16) (by omega) (by omega)
    by_cases h32:(c[k].toNat:Int)<32
    ·clear hit
     go_wp2_with (first|(go_at_call 194;refine(Zam _ _ _ (Zg (by omega))).mono ?_;rintro e w' ⟨rfl,rfl⟩)|(go_at_call 195;refine(ZdW _ _ (by omega) (by omega)).mono ?_;rintro e w' ⟨rfl,rfl⟩)|(at_builtin;go_must (refine Zfz wr (capital ((c[k].toNat:Int)/16)) (capital ((c[k].toNat:Int)%16)) hc1 hc2 hc3 hc4 rfl _ _ rfl w1.heap.size _ _ rfl HO.out rfl hsz hz ?_;intro v' w2 ho1 hb1 hk1;have HO1:=Za ho1;clear ho1)))
     go_roundw
     case rel=>exact⟨k+1,by omega,by go_num,by rw[HTK.out,HB.out];exact HO1.out,HN.out.trans hb1⟩
     case measure=>simp[intOf];omega
    by_cases h126:126<(c[k].toNat:Int)
    ·clear hit
     go_wp2_with (first|(go_at_call 194;refine(Zam _ _ _ (Zg (by omega))).mono ?_;rintro e w' ⟨rfl,rfl⟩)|(go_at_call 195;refine(ZdW _ _ (by omega) (by omega)).mono ?_;rintro e w' ⟨rfl,rfl⟩)|(at_builtin;go_must (refine Zfz wr (capital ((c[k].toNat:Int)/16)) (capital ((c[k].toNat:Int)%16)) hc1 hc2 hc3 hc4 rfl _ _ rfl w1.heap.size _ _ rfl HO.out rfl hsz hz ?_;intro v' w2 ho1 hb1 hk1;have HO1:=Za ho1;clear ho1)))
     go_roundw
     case rel=>exact⟨k+1,by omega,by go_num,by rw[HTK.out,HB.out];exact HO1.out,HN.out.trans hb1⟩
     case measure=>simp[intOf];omega
    ·have hin:Zx (c[k].toNat:Int) (tl set)=true:=by
      rcases hit with h|h|h
      ·exact absurd h h32
      ·exact absurd h h126
      ·exact h
     clear hit
     go_wp2_with (first|(go_at_call 194;refine(Zam _ _ _ (Zg (by omega))).mono ?_;rintro e w' ⟨rfl,rfl⟩)|(go_at_call 195;refine(ZdW _ _ (by omega) (by omega)).mono ?_;rintro e w' ⟨rfl,rfl⟩)|(at_builtin;go_must (refine Zfz wr (capital ((c[k].toNat:Int)/16)) (capital ((c[k].toNat:Int)%16)) hc1 hc2 hc3 hc4 rfl _ _ rfl w1.heap.size _ _ rfl HO.out rfl hsz hz ?_;intro v' w2 ho1 hb1 hk1;have HO1:=Za ho1;clear ho1)))
     go_roundw
     case rel=>exact⟨k+1,by omega,by go_num,by rw[HTK.out,HB.out];exact HO1.out,HN.out.trans hb1⟩
     case measure=>simp[intOf];omega
   ·have HB:=Za (show ZN (tl set) c[k]=[c[k]]by unfold ZN;rw[if_neg hit])
    have h32:¬(c[k].toNat:Int)<32:=fun h=>hit (Or.inl h)
    have h126:¬126<(c[k].toNat:Int):=fun h=>hit (Or.inr (Or.inl h))
    have hin:Zx (c[k].toNat:Int) (tl set)=false:=by cases h:Zx (c[k].toNat:Int) (tl set);rfl;exact absurd (Or.inr (Or.inr h)) hit
    have HT2:=Za (ZdA c[k]);clear hit
    go_wp2_with (first|(go_at_call 194;refine(Zam _ _ _ (Zg (by omega))).mono ?_;rintro e w' ⟨rfl,rfl⟩)|(at_builtin;go_must (refine Zbn wr (c[k].toNat:Int) rfl _ _ rfl w1.heap.size _ _ rfl HO.out rfl (by omega) (by omega) (Nat.lt_of_lt_of_le hsz (by decide)) hz ?_;intro v' w2 ho1 hb1 hk1;have HO1:=Za ho1;clear ho1)))
    go_roundw
    case rel=>exact⟨k+1,by omega,by go_num,by rw[HTK.out,HB.out];have h:=HO1.out;rw[HT2.out]at h;exact h,HN.out.trans hb1⟩
    case measure=>simp[intOf];omega
  ·rw[Zah c k (by omega)]at hown
   have hcv:=Zdy hown;clear hown;go_wp2;go_ret
   exact⟨_,rfl,by rw[tl_mk,HCL.out],hn1.then hnx⟩
def Zbw(l:List UInt8):Int×Bool:=
 match l with
 | c::x::y::_=>if c=37∧(ZL x.toNat 16).2=true∧(ZL y.toNat 16).2=true then((ZL x.toNat 16).1*(16:Int)+(ZL y.toNat 16).1,true)else(0,false)
 | _=>(0,false)
theorem Znk(l:LB):0≤(Zbw l).1∧(Zbw l).1≤255:=by
 unfold Zbw
 split
 ·split
  ·rename_i x y r h
   have h1:=Za0 (x.toNat:Int) 16;have h2:=Za0 (y.toNat:Int) 16;have h3:=h1.2 h.2.1;have h4:=h2.2 h.2.2;simp only
   omega
  ·exact⟨by decide,by decide⟩
 ·exact⟨by decide,by decide⟩
theorem ZfA(l:LB)(h:l.length<3):Zbw l=(0,false):=by
 match l,h with
 | [],_=>rfl
 | [_],_=>rfl
 | [_,_],_=>rfl
theorem ZjH(s:BA)(h:2<s.size):Zbw (tl s)=if s[0]=37∧(ZL (s[1].toNat:Int) 16).2=true∧(ZL (s[2].toNat:Int) 16).2=true then((ZL (s[1].toNat:Int) 16).1*(16:Int)+(ZL (s[2].toNat:Int) 16).1,true)else(0,false):=by
 have e0:=ZU s 0 (by omega)
 rw[List.drop_zero,ZU s 1 (by omega),ZU s 2 (by omega)]at e0
 rw[e0]
 rfl
theorem Zut{b:UInt8}(h:¬b=37):((b.toNat:Int) != 37)=true:=by
 simp only[bne_iff_ne,ne_eq];intro h2
 exact h (UInt8.toNat_inj.1 (by show b.toNat=37;omega))
theorem Zht(s:BA)(w:World)(hs:s.size≤1000000):Calls Tryz.prog 272 #[.string s] w fun e w'=>e=.returned (.tuple #[.int .u8 (Zbw (tl s)).1,.bool (Zbw (tl s)).2])∧w=w':=by
 by_cases h3:s.size<3
 ·have HE:=Za (ZfA (tl s) (by rw[tl_length];exact h3))
  go_enter Tryz.func272,Tryz.ntmps272
  go_wp2;go_ret2
  exact⟨by rw[HE.out];rfl,rfl⟩
 have h3':2<s.size:=by omega
 have HC:=Za (ZjH s h3');have hb1:=bb s[1];have hb2:=bb s[2]
 by_cases hp:s[0]=37
 ·have hp':((s[0].toNat:Int) != 37)=false:=by rw[hp];rfl
  obtain⟨q1,hq1⟩:∃q,ZL (s[1].toNat:Int) 16=q:=⟨_,rfl⟩;obtain⟨q2,hq2⟩:∃q,ZL (s[2].toNat:Int) 16=q:=⟨_,rfl⟩;have r1:=Za0 (s[1].toNat:Int) 16;have r2:=Za0 (s[2].toNat:Int) 16;rw[hq1]at r1 HC;rw[hq2]at r2 HC;have HQ1:=Za hq1;have HQ2:=Za hq2;clear hq1 hq2;obtain⟨d1,k1⟩:=q1;obtain⟨d2,k2⟩:=q2;simp only at r1 r2 HC
  cases k1
  ·have HE:=Za (show Zbw (tl s)=(0,false)by rw[HC.out,if_neg (by simp)])
   clear hp
   go_enter Tryz.func272,Tryz.ntmps272
   go_wp2_with fail
   refine(Z5 _ _ _ (by omega) (by omega)).mono ?_
   rintro e w' ⟨rfl,rfl⟩;rw[HQ1.out];go_wp2_with fail
   refine(Z5 _ _ _ (by omega) (by omega)).mono ?_
   rintro e w' ⟨rfl,rfl⟩;rw[HQ2.out];go_wp2;go_ret2
   exact⟨by rw[HE.out];rfl,rfl⟩
  cases k2
  ·have HE:=Za (show Zbw (tl s)=(0,false)by rw[HC.out,if_neg (by simp)])
   clear hp
   go_enter Tryz.func272,Tryz.ntmps272
   go_wp2_with fail
   refine(Z5 _ _ _ (by omega) (by omega)).mono ?_
   rintro e w' ⟨rfl,rfl⟩;rw[HQ1.out];go_wp2_with fail
   refine(Z5 _ _ _ (by omega) (by omega)).mono ?_
   rintro e w' ⟨rfl,rfl⟩;rw[HQ2.out];go_wp2;go_ret2
   exact⟨by rw[HE.out];rfl,rfl⟩
  ·have HE:=Za (show Zbw (tl s)=(d1*16+d2,true)by rw[HC.out,if_pos ⟨hp,rfl,rfl⟩])
   obtain⟨r10,r11⟩:=r1;obtain⟨r20,r21⟩:=r2;have r12:=r11 rfl;have r22:=r21 rfl;clear hp r11 r21
   go_enter Tryz.func272,Tryz.ntmps272
   go_wp2_with fail
   refine(Z5 _ _ _ (by omega) (by omega)).mono ?_
   rintro e w' ⟨rfl,rfl⟩;rw[HQ1.out];go_wp2_with fail
   refine(Z5 _ _ _ (by omega) (by omega)).mono ?_
   rintro e w' ⟨rfl,rfl⟩;rw[HQ2.out];go_wp2;go_ret2
   exact⟨by rw[HE.out];rfl,rfl⟩
 ·have HE:=Za (show Zbw (tl s)=(0,false)by rw[HC.out,if_neg (fun h=>hp h.1)])
  have hp':=Zut hp;clear hp
  go_enter Tryz.func272,Tryz.ntmps272
  go_wp2;go_ret2
  exact⟨by rw[HE.out];rfl,rfl⟩
def Zr(l:List UInt8):List UInt8:=
 match l with
 | []=>[]
 | c::r=>if(Zbw (c::r)).2 then toB (Zbw (c::r)).1::Zr (r.drop 2)else c::Zr r
 termination_by l.length
 decreasing_by all_goals simp_wf<;>omega
theorem Zbh(c:UInt8)(r:LB):Zr (c::r)=if(Zbw (c::r)).2 then toB (Zbw (c::r)).1::Zr (r.drop 2)else c::Zr r:=by conv=>lhs;unfold Zr
theorem Zb6:Zr []=[]:=by unfold Zr;rfl
theorem Znl{l:LB}(h:(Zbw l).2=true):3≤l.length:=by
 by_cases hl:l.length<3
 ·rw[ZfA l hl]at h;cases h
 ·omega
theorem ZgH(s:BA)(w:World)(hs:s.size≤1000000):Calls Tryz.prog 236 #[.string s] w fun e w'=>∃r:BA,e=.returned (.string r)∧tl r=Zr (tl s)∧Nx w w':=by
 go_enter Tryz.func236,Tryz.ntmps236
 go_wp2
 go_loopw [3,4] (fun o i wr=>∃(k:Nat) (P:LB),k≤s.size∧i=.int .i64 k∧Zr (tl s)=P++Zr ((tl s).drop k)∧Zhq wr w.heap.size o P∧P.length≤k∧Nx w wr) (fun _ i _=>s.size-(intOf i).toNat)
 case atStart=>exact⟨0,[],Xi _,rfl,by simp,ZcB w,by simp,Nx.rfl.alloc _⟩
 case round=>
  obtain⟨k,P,hk,rfl,hE,hown,hP,hnx⟩:=hrel
  by_cases hlt:k<s.size
  ·have HO:=Za hown
   have HN:=Za hnx;have hz:=hnx.size
   have hPl:P.length<1099511627776:=by omega
   have hb:=bb s[k];have HST:=Za (Zbh s[k] ((tl s).drop (k+1)));rw[←ZU s k hlt]at HST;have HX:=Za (ZaE s k);have HE:=Za hE;have HCL:=Za (Znl (l:=(tl s).drop k));obtain⟨hr0,hr1⟩:=Znk ((tl s).drop k);clear hE hown hnx;go_wp2_with fail
   refine(Zht _ _ (by simp;omega)).mono ?_
   rintro e w' ⟨rfl,rfl⟩;rw[HX.out];generalize hq:Zbw ((tl s).drop k)=q at *;clear hq;obtain⟨y,ok⟩:=q;simp only at hr0 hr1 HST HCL
   cases ok
   ·have HT2:=Za (ZdA s[k])
    go_wp2_with (at_builtin;go_must (refine Zbn wr (s[k].toNat:Int) rfl _ _ rfl w.heap.size u3 P rfl HO.out rfl (by omega) (by omega) hPl hz ?_;intro v' w2 ho2 hb2 _;have HO2:=Za ho2;clear ho2))
    go_roundw
    case rel=>exact⟨k+1,P++[s[k]],by omega,by go_num,by rw[HE.out,HST.out,if_neg (by simp),Xg];rfl,by have h:=HO2.out;rw[HT2.out]at h;exact h,by simp;omega,HN.out.trans hb2⟩
    case measure=>simp[intOf];omega
   ·have h3:=HCL.out rfl
    rw[Xc,tl_length]at h3
    go_wp2_with (at_builtin;go_must (refine Zbn wr y rfl _ _ rfl w.heap.size u3 P rfl HO.out rfl (by omega) (by omega) hPl hz ?_;intro v' w2 ho2 hb2 _;have HO2:=Za ho2;clear ho2))
    go_roundw
    case rel=>exact⟨k+3,P++[toB y],by omega,by go_num,by rw[HE.out,HST.out,if_pos trivial,Xg,List.drop_drop];rfl,HO2.out,by simp;omega,HN.out.trans hb2⟩
    case measure=>simp[intOf];omega
  ·rw[Zy s k (by omega)]at hE
   have hcv:=Zdy hown;clear hown;go_wp2;go_ret
   exact⟨_,rfl,by rw[hE,tl_mk,Zb6,Xk],hnx⟩
def bsplit(n:Int)(l:List UInt8):List (List UInt8):=
 match l with
 | []=>[[]]
 | c::r=>if isB n c then []::bsplit n r else
  match bsplit n r with
  | []=>[[c]]
  | p::q=>(c::p)::q
theorem Zb7(n:Int)(l:LB):∃p q,bsplit n l=p::q:=by
 cases l with
 | nil=>exact⟨[],[],rfl⟩
 | cons c r=>
  rw[bsplit]
  split
  ·exact⟨_,_,rfl⟩
  ·split<;>exact⟨_,_,rfl⟩
theorem ZgI(n:Int)(l:LB):bsplit n l=if(bcut (isB n) l).2.2 then(bcut (isB n) l).1::bsplit n (bcut (isB n) l).2.1 else [(bcut (isB n) l).1]:=by
 induction l with
 | nil=>simp[bsplit,bcut]
 | cons c r ih=>
  cases h:isB n c
  ·have hc:bcut (isB n) (c::r)=(c::(bcut (isB n) r).1,(bcut (isB n) r).2):=by simp[bcut,h]
   rw[bsplit,if_neg (by simp[h]),hc,ih]
   cases h2:(bcut (isB n) r).2.2<;>simp
  ·have hc:bcut (isB n) (c::r)=([],r,true):=by simp[bcut,h]
   rw[bsplit,if_pos h,hc]
   simp
theorem Z8(p:UInt8→Bool)(l:LB):(bcut p l).1.length+(bcut p l).2.1.length≤l.length∧((bcut p l).2.2=true→(bcut p l).2.1.length<l.length):=by
 induction l with
 | nil=>simp[bcut]
 | cons c r ih=>
  cases h:p c
  ·have hc:bcut p (c::r)=(c::(bcut p r).1,(bcut p r).2):=by simp[bcut,h]
   rw[hc];simp only[Xa]
   exact⟨by omega,fun hh=>by have:=ih.2 hh;omega⟩
  ·have hc:bcut p (c::r)=([],r,true):=by simp[bcut,h]
   rw[hc]
   simp
abbrev ZcM(w:World)(base:Nat)(v:Value)(l:List ByteArray):Prop:=w.ownsRow base 9 1 v l.length (l.map Value.string)
theorem ZeS{ops:Array Oper}{rest:List Oper}{o:Oper}{a:Act}{Q:Exit→Act→World→Prop}(w:World)(y:BA)
  (hgd:o.guard=none) (s x:Operand) (ho:o.op=.call { callee:=.builtin .append,args:=#[s,x],argTypes:=#[78,78] })
  (base:Nat) (v:Value) (l:LA) (hs:a.eval s=v) (hown:ZcM w base v l) (hx:a.eval x=.slice (some ⟨w.heap.size,0,none⟩) 1 1)
  (hn:l.length<1099511627776) (hbase:base≤w.heap.size)
  (h:∀v' w',ZcM w' base v' (l++[y])→Below base w w'→Kp 9 w w'→wpList Tryz.prog ops Q rest (a.put o.dst v') w'):
  wpList Tryz.prog ops Q (o::rest) a (w.alloc (.cells #[.string y] 9)):=by
 refine ZjB _ _ _ (.string ByteArray.empty) 16 Tryz.underlying78 Znf rfl hgd s x ho base v l.length _ hs (World.ownsRow.alloc hown _) ⟨w.heap.size,0,none⟩ 1 1 [.string y] hx rfl (ZkM (by simp)) (by simp[Value.oneCell']) (by omega) (by decide) (by simp;omega) ?_
 intro v' w' h1 h2 h3
 refine h v' w' ?_ (((Below.refl base w).alloc hbase _).trans h2) ((Kp.rfl.alloc _).then h3)
 unfold ZcM;rw[Xb,Xl];exact h1
theorem ZgJ(w:World):ZcM (w.alloc (.cells #[] 9)) w.heap.size (.slice (some ⟨w.heap.size,0,none⟩) 0 0) []:=
 World.ownsRow_made w #[] 0 (Xf _) (Xi _) rfl
def ZkO:Value→Nat | .string s=>s.size|_=>0
def ZkP:Value→Bool | .bool b=>b|_=>false
theorem Zda(s:BA)(n:Int)(w:World)(hs:s.size≤1000000):Calls Tryz.prog 202 #[.string s,.int .u8 n] w fun e w'=>∃v bs,e=.returned v∧ZbU w' v bs∧bs.map tl=bsplit n (tl s)∧Nx w w':=by
 go_enter Tryz.func202,Tryz.ntmps202
 go_wp2
 go_loopw [5,6,7] (fun o x m wr=>∃(bs:LA) (q:BA) (more:Bool),x=.string q∧m=.bool more∧ZcM wr w.heap.size o bs∧bs.length+q.size≤s.size+1∧bsplit n (tl s)=bs.map tl++(if more then bsplit n (tl q)else [])∧(more=true→bs.length+q.size≤s.size)∧Nx w wr)
  (fun _ x m _=>if ZkP m then ZkO x+1 else 0)
 case atStart=>exact⟨[],s,true,rfl,rfl,ZgJ w,by simp,by simp,fun _=>by simp,Nx.rfl.alloc _⟩
 case round=>
  obtain⟨bs,q,more,rfl,rfl,hown,hl,hE,hm,hnx⟩:=hrel
  cases more
  ·simp only[Bool.false_eq_true,if_false,Xk]at hE
   go_wp2;go_ret;exact⟨_,_,rfl,Za5 hown,hE.symm,hnx⟩
  ·have hl2:=hm rfl
   simp only[if_true]at hE;have HE:=Za hE;have HO:=Za hown;have HN:=Za hnx;clear hE hown hnx hm;have HC:=Za (ZgI n (tl q));have HL:=Za (Z8 (isB n) (tl q));go_wp2_with fail
   refine(ZcN _ _ _ (Zg (by omega))).mono ?_
   rintro e w1 ⟨⟨a,b,rfl,ha,hb⟩,hn1⟩;have HA:=Za ha;have HB:=Za hb
   have hla:a.size=(bcut (isB n) (tl q)).1.length:=by rw[←ha,tl_length]
   have hlb:b.size=(bcut (isB n) (tl q)).2.1.length:=by rw[←hb,tl_length]
   have HLA:=Za hla;have HLB:=Za hlb;clear ha hb hla hlb;generalize bcut (isB n) (tl q)=c at *;obtain⟨c1,c2,found⟩:=c;simp only at *;have HO1:=Za (Zng HO.out hn1);have HN1:=Za (HN.out.then hn1);have hz:=HN1.out.size;clear hn1
   have hbl:bs.length<1099511627776:=by omega
   go_wp2_with (at_builtin;go_must (refine ZeS w1 a rfl _ _ rfl w.heap.size u5 bs rfl HO1.out rfl hbl hz ?_;intro v' w2 ho2 hb2 _;have HO2:=Za ho2;clear ho2))
   go_roundw
   case rel=>
    refine⟨bs++[a],b,found,rfl,rfl,HO2.out,?_,?_,?_,HN1.out.trans hb2⟩
    ·have h:=HL.out.1;have h1:=HLA.out;have h2:=HLB.out;rw[tl_length]at h;simp only[Xb,Xa,Xh];omega
    ·rw[HE.out,HC.out,Xl,Xg,Xm,Xn,HA.out,HB.out]
     cases found<;>rfl
    ·intro hf
     have h:=HL.out.2 hf;have h2:=HLB.out;rw[tl_length]at h;simp only[Xb,Xa,Xh]
     omega
   case measure=>
    have h:=HL.out;have h2:=HLB.out;rw[tl_length]at h;simp only[ZkP,ZkO]
    cases found
    ·simp
    ·have:=h.2 rfl
     simp;omega
theorem any_snoc{α:Type}(p:α→Bool)(l:List α)(b:α):(l++[b]).any p=(l.any p||p b):=by simp
theorem Zhu(p:UInt8→Bool)(s:BA)(k:Nat)(h:k<s.size)(he:p s[k]=true):(tl s).any p=true:=
 List.any_eq_true.2 ⟨s[k],by rw[←Zft s k h];exact List.getElem_mem _,he⟩
theorem Zac(s:BA)(k:Nat):(s.extract k s.size).size=s.size-k:=by rw[ByteArray.size_extract];omega
theorem ZrP(s:BA)(k:Nat):(s.extract 0 k).size≤s.size:=by rw[ByteArray.size_extract];omega
theorem ZdC(s:BA)(a b:Nat):(s.extract a b).size≤s.size:=by rw[ByteArray.size_extract];omega
theorem Zcp(s:BA)(k:Nat)(h:k<s.size):(tl s).getD k 0=s[k]:=by rw[List.getD_eq_getElem?_getD,List.getElem?_eq_getElem (by rw[tl_length];exact h),Zft s k h];rfl
theorem ZfB{a b:Int×Bool}(h:a=b):Ending.returned (.tuple #[.int .i64 a.1,.bool a.2])=.returned (.tuple #[.int .i64 b.1,.bool b.2]):=by rw[h]
theorem ZcC{s:BA}(h:¬s.size=0):¬tl s=[]:=by intro e;have:=tl_length s;rw[e]at this;simp at this;omega
theorem Zpz{x y:Int}(h:(x==y)=true):(x != y)=false:=by simp only[bne,h];rfl
theorem Zd9{x y:Int}(h:(x==y)=false):(x != y)=true:=by simp only[bne,h];rfl
def Zim:Go.Shelf.Ren:=⟨fun|171=>147|243=>197|246=>230|283=>265|284=>266|285=>267|286=>268|129=>293|317=>292|318=>294|319=>295|320=>296|337=>304|338=>305|n=>n,fun|3=>3|9=>9|2=>2|4=>4|171=>228|0=>0|53=>229|37=>160|5=>5|173=>232|212=>247|51=>248|20=>20|213=>249|46=>189|232=>262|233=>263|n=>n,fun|17=>0|18=>1|19=>2|n=>n⟩
theorem ZpD:Go.Proofs.LaysM.n171 Tryz.prog Zim:={
 mixed:=by kernel_rfl
 f129:=Tryz.func293.trans (congrArg some (by kernel_rfl))
 f171:=Tryz.func147.trans (congrArg some (by kernel_rfl))
 f243:=Tryz.func197.trans (congrArg some (by kernel_rfl))
 f246:=Tryz.func230.trans (congrArg some (by kernel_rfl))
 f283:=Tryz.func265.trans (congrArg some (by kernel_rfl))
 f284:=Tryz.func266.trans (congrArg some (by kernel_rfl))
 f285:=Tryz.func267.trans (congrArg some (by kernel_rfl))
 f286:=Tryz.func268.trans (congrArg some (by kernel_rfl))
 f317:=Tryz.func292.trans (congrArg some (by kernel_rfl))
 f318:=Tryz.func294.trans (congrArg some (by kernel_rfl))
 f319:=Tryz.func295.trans (congrArg some (by kernel_rfl))
 f320:=Tryz.func296.trans (congrArg some (by kernel_rfl))
 f337:=Tryz.func304.trans (congrArg some (by kernel_rfl))
 f338:=Tryz.func305.trans (congrArg some (by kernel_rfl))
 t0:=Tryz.underlying0
 a0:=Tryz.isAgg0
 z0:=Tryz.sizeOf0
 v0:=Tryz.zeroValue0
 t2:=Tryz.underlying2
 a2:=Tryz.isAgg2
 z2:=Tryz.sizeOf2
 v2:=Tryz.zeroValue2
 t3:=Tryz.underlying3
 a3:=Tryz.isAgg3
 z3:=Tryz.sizeOf3
 v3:=Tryz.zeroValue3
 t4:=Tryz.underlying4
 a4:=Tryz.isAgg4
 z4:=Tryz.sizeOf4
 v4:=Tryz.zeroValue4
 t5:=Tryz.underlying5
 a5:=Tryz.isAgg5
 z5:=Tryz.sizeOf5
 v5:=Tryz.zeroValue5
 t9:=Tryz.underlying9
 a9:=Tryz.isAgg9
 z9:=Tryz.sizeOf9
 v9:=Tryz.zeroValue9
 t20:=Tryz.underlying20
 a20:=Tryz.isAgg20
 z20:=Tryz.sizeOf20
 v20:=Tryz.zeroValue20
 t37:=Tryz.underlying160
 a37:=Tryz.isAgg160
 z37:=Tryz.sizeOf160
 v37:=Tryz.zeroValue160
 t46:=Tryz.underlying189
 a46:=Tryz.isAgg189
 z46:=Tryz.sizeOf189
 v46:=Tryz.zeroValue189
 t51:=Tryz.underlying248
 a51:=Tryz.isAgg248
 z51:=Tryz.sizeOf248
 v51:=Tryz.zeroValue248
 t53:=Tryz.underlying229
 a53:=Tryz.isAgg229
 z53:=Tryz.sizeOf229
 v53:=Tryz.zeroValue229
 t171:=Tryz.underlying228
 a171:=Tryz.isAgg228
 z171:=Tryz.sizeOf228
 v171:=Tryz.zeroValue228
 t173:=Tryz.underlying232
 a173:=Tryz.isAgg232
 z173:=Tryz.sizeOf232
 v173:=Tryz.zeroValue232
 t212:=Tryz.underlying247
 a212:=Tryz.isAgg247
 z212:=Tryz.sizeOf247
 v212:=Tryz.zeroValue247
 t213:=Tryz.underlying249
 a213:=Tryz.isAgg249
 z213:=Tryz.sizeOf249
 t232:=Tryz.underlying262
 a232:=Tryz.isAgg262
 z232:=Tryz.sizeOf262
 v232:=Tryz.zeroValue262
 t233:=Tryz.underlying263
 a233:=Tryz.isAgg263
 z233:=Tryz.sizeOf263
 v233:=Tryz.zeroValue263
 g17:=by kernel_rfl
 g18:=by kernel_rfl
 g19:=by kernel_rfl
 i0:=by kernel_rfl
 i2:=by kernel_rfl
 i3:=by kernel_rfl
 i4:=by kernel_rfl
 i5:=by kernel_rfl
 i9:=by kernel_rfl
 i20:=by kernel_rfl
 i37:=by kernel_rfl
 i46:=by kernel_rfl
 i51:=by kernel_rfl
 i53:=by kernel_rfl
 i171:=by kernel_rfl
 i173:=by kernel_rfl
 i212:=by kernel_rfl
 i232:=by kernel_rfl
 i233:=by kernel_rfl
 m17:=by kernel_rfl
 m18:=by kernel_rfl
 m19:=by kernel_rfl }
def Zin:Go.Shelf.Ren:=⟨fun|173=>320|246=>230|283=>265|284=>266|285=>267|286=>268|129=>293|317=>292|318=>294|319=>295|320=>296|337=>304|338=>305|n=>n,fun|2=>2|3=>3|9=>9|4=>4|171=>228|0=>0|53=>229|37=>160|5=>5|173=>232|212=>247|51=>248|20=>20|213=>249|46=>189|232=>262|233=>263|n=>n,fun|17=>0|18=>1|19=>2|n=>n⟩
theorem ZpE:Go.Proofs.LaysM.n173 Tryz.prog Zin:={
 mixed:=by kernel_rfl
 f129:=Tryz.func293.trans (congrArg some (by kernel_rfl))
 f173:=Tryz.func320.trans (congrArg some (by kernel_rfl))
 f246:=Tryz.func230.trans (congrArg some (by kernel_rfl))
 f283:=Tryz.func265.trans (congrArg some (by kernel_rfl))
 f284:=Tryz.func266.trans (congrArg some (by kernel_rfl))
 f285:=Tryz.func267.trans (congrArg some (by kernel_rfl))
 f286:=Tryz.func268.trans (congrArg some (by kernel_rfl))
 f317:=Tryz.func292.trans (congrArg some (by kernel_rfl))
 f318:=Tryz.func294.trans (congrArg some (by kernel_rfl))
 f319:=Tryz.func295.trans (congrArg some (by kernel_rfl))
 f320:=Tryz.func296.trans (congrArg some (by kernel_rfl))
 f337:=Tryz.func304.trans (congrArg some (by kernel_rfl))
 f338:=Tryz.func305.trans (congrArg some (by kernel_rfl))
 t0:=Tryz.underlying0
 a0:=Tryz.isAgg0
 z0:=Tryz.sizeOf0
 v0:=Tryz.zeroValue0
 t2:=Tryz.underlying2
 a2:=Tryz.isAgg2
 z2:=Tryz.sizeOf2
 v2:=Tryz.zeroValue2
 t3:=Tryz.underlying3
 a3:=Tryz.isAgg3
 z3:=Tryz.sizeOf3
 v3:=Tryz.zeroValue3
 t4:=Tryz.underlying4
 a4:=Tryz.isAgg4
 z4:=Tryz.sizeOf4
 v4:=Tryz.zeroValue4
 t5:=Tryz.underlying5
 a5:=Tryz.isAgg5
 z5:=Tryz.sizeOf5
 v5:=Tryz.zeroValue5
 t9:=Tryz.underlying9
 a9:=Tryz.isAgg9
 z9:=Tryz.sizeOf9
 v9:=Tryz.zeroValue9
 t20:=Tryz.underlying20
 a20:=Tryz.isAgg20
 z20:=Tryz.sizeOf20
 v20:=Tryz.zeroValue20
 t37:=Tryz.underlying160
 a37:=Tryz.isAgg160
 z37:=Tryz.sizeOf160
 v37:=Tryz.zeroValue160
 t46:=Tryz.underlying189
 a46:=Tryz.isAgg189
 z46:=Tryz.sizeOf189
 v46:=Tryz.zeroValue189
 t51:=Tryz.underlying248
 a51:=Tryz.isAgg248
 z51:=Tryz.sizeOf248
 v51:=Tryz.zeroValue248
 t53:=Tryz.underlying229
 a53:=Tryz.isAgg229
 z53:=Tryz.sizeOf229
 v53:=Tryz.zeroValue229
 t171:=Tryz.underlying228
 a171:=Tryz.isAgg228
 z171:=Tryz.sizeOf228
 v171:=Tryz.zeroValue228
 t173:=Tryz.underlying232
 a173:=Tryz.isAgg232
 z173:=Tryz.sizeOf232
 v173:=Tryz.zeroValue232
 t212:=Tryz.underlying247
 a212:=Tryz.isAgg247
 z212:=Tryz.sizeOf247
 v212:=Tryz.zeroValue247
 t213:=Tryz.underlying249
 a213:=Tryz.isAgg249
 z213:=Tryz.sizeOf249
 t232:=Tryz.underlying262
 a232:=Tryz.isAgg262
 z232:=Tryz.sizeOf262
 v232:=Tryz.zeroValue262
 t233:=Tryz.underlying263
 a233:=Tryz.isAgg263
 z233:=Tryz.sizeOf263
 v233:=Tryz.zeroValue263
 g17:=by kernel_rfl
 g18:=by kernel_rfl
 g19:=by kernel_rfl
 i0:=by kernel_rfl
 i2:=by kernel_rfl
 i3:=by kernel_rfl
 i4:=by kernel_rfl
 i5:=by kernel_rfl
 i9:=by kernel_rfl
 i20:=by kernel_rfl
 i37:=by kernel_rfl
 i46:=by kernel_rfl
 i51:=by kernel_rfl
 i53:=by kernel_rfl
 i171:=by kernel_rfl
 i173:=by kernel_rfl
 i212:=by kernel_rfl
 i232:=by kernel_rfl
 i233:=by kernel_rfl
 m17:=by kernel_rfl
 m18:=by kernel_rfl
 m19:=by kernel_rfl }
def Tb(w:World):Prop:=Lib.TabIs Tryz.prog w "internal/strconv.uint64pow10" .u64 Lib.pow10Tab∧w.cell? ⟨2,15,none⟩=some (.int .u8 4)
theorem Zuu:Tryz.prog.globalNamed "internal/strconv.uint64pow10"=some 0:=by kernel_rfl
theorem Zs0{w w':World}{name:String}{k:IntKind}{zs:LI}(h:Lib.TabIs Tryz.prog w name k zs)(hb:Nx w w'):Lib.TabIs Tryz.prog w' name k zs:=by
 unfold Lib.TabIs World.var? at *
 cases hg:Tryz.prog.globalNamed name with
 | none=>rw[hg]at h;cases h
 | some g=>
  rw[hg]at h;simp only[Option.bind_some]at h ⊢
  cases hw:w.heap[g]? with
  | none=>rw[hw]at h;cases h
  | some o=>rw[hb.block g (Xd.1 hw).1];exact h
theorem Tb.on{w w':World}(h:Tb w)(hb:Nx w w'):Tb w':=
 ⟨Zs0 h.1 hb,(hb.cell (World.block_lt_of_cell? w _ h.2)).trans h.2⟩
theorem ZkQ(n:Nat):Lib.itoa (n:Int)=Lib.decDigits n:=by
 unfold Lib.itoa
 simp
theorem grow_nx{w:World}{k:Nat}{os:Array Obj}:Nx w (Sort.grow (w.drewN k) os):=by
 refine⟨rfl,rfl,rfl,?_,fun i hi=>?_⟩
 ·show w.heap.size≤(w.heap++os).size
  simp
 ·show(w.heap++os)[i]?=w.heap[i]?
  rw[Array.getElem?_append_left hi]
theorem Znm(n:Nat)(hn:n≤4294967295)(w:World)(h:Tb w):Calls Tryz.prog 320 #[.int .i64 n,.int .i64 10] w fun e w'=>∃r:BA,e=.returned (.string r)∧tl r=Lib.decDigits n∧Nx w w':=by
 refine(Any.strconv_FormatInt_10 ZpE (n:Int) (by omega) (by omega) w h.1).mono ?_
 rintro e w' ⟨rfl,k,os,rfl⟩
 exact⟨_,rfl,by rw[tl_mk,ZkQ],grow_nx⟩
theorem ZpF(n:Nat)(hn:n≤4294967295)(w:World)(h:Tb w):Calls Tryz.prog 147 #[.int .i64 n] w fun e w'=>∃r:BA,e=.returned (.string r)∧tl r=Lib.decDigits n∧Nx w w':=by
 refine(Any.strconv_Itoa ZpD (n:Int) (by omega) (by omega) w h.1).mono ?_
 rintro e w' ⟨rfl,k,os,rfl⟩
 exact⟨_,rfl,by rw[tl_mk,ZkQ],grow_nx⟩
def plusB(c:UInt8):UInt8:=if c.toNat=43 then 32 else c
def Zec(l:List UInt8):List UInt8:=l.map plusB
theorem ZlG(l:LB)(c:UInt8):Zec (l++[c])=Zec l++[plusB c]:=by simp[Zec]
theorem ZfD(l:LB):(Zec l).length=l.length:=by simp[Zec]
theorem Zno(s:BA)(w:World)(hs:s.size≤1000000):Calls Tryz.prog 235 #[.string s] w fun e w'=>∃r:BA,e=.returned (.string r)∧tl r=Zec (tl s)∧Nx w w':=by
 go_enter Tryz.func235,Tryz.ntmps235
 go_wp2
 go_loopw [3,4] (fun o i wr=>∃k:Nat,k≤s.size∧i=.int .i64 k∧Zhq wr w.heap.size o (Zec ((tl s).take k))∧Nx w wr) (fun _ i _=>s.size-(intOf i).toNat)
 case atStart=>exact⟨0,Xi _,rfl,ZcB w,Nx.rfl.alloc _⟩
 case round=>
  obtain⟨k,hk,rfl,hown,hnx⟩:=hrel
  by_cases hlt:k<s.size
  ·have hb:=bb s[k]
   have HTK:=Za ((congrArg Zec (ZG s k hlt)).trans (ZlG _ _));have hz:=hnx.size
   have hsz:(Zec ((tl s).take k)).length<1099511627776:=by simp only[ZfD,Xj];omega
   have HO:=Za hown;have HN:=Za hnx;clear hown hnx
   cases hit:((s[k].toNat:Int)==43)
   ·have HT:=Za (show plusB s[k]=s[k]by unfold plusB;rw[if_neg (fun h=>by rw[h]at hit;cases hit)])
    have HT2:=Za (ZdA s[k])
    go_wp2_with (at_builtin;go_must (refine Zbn wr (s[k].toNat:Int) rfl _ _ rfl w.heap.size _ _ rfl HO.out rfl (by omega) (by omega) hsz hz ?_;intro v' w1 ho1 hb1 hk1;have HO1:=Za ho1;clear ho1))
    go_roundw
    case rel=>exact⟨k+1,by omega,by go_num,by rw[HTK.out,HT.out];have h:=HO1.out;rw[HT2.out]at h;exact h,HN.out.trans hb1⟩
    case measure=>simp[intOf];omega
   ·have HT:=Za (show plusB s[k]=toB 32 by unfold plusB;rw[if_pos (by simp only[beq_iff_eq]at hit;omega)];rfl)
    go_wp2_with (at_builtin;go_must (refine Zbn wr (32:Int) rfl _ _ rfl w.heap.size _ _ rfl HO.out rfl (by omega) (by omega) hsz hz ?_;intro v' w1 ho1 hb1 hk1;have HO1:=Za ho1;clear ho1))
    go_roundw
    case rel=>exact⟨k+1,by omega,by go_num,by rw[HTK.out,HT.out];exact HO1.out,HN.out.trans hb1⟩
    case measure=>simp[intOf];omega
  ·rw[Zah s k (by omega)]at hown
   have hcv:=Zdy hown;clear hown;go_wp2;go_ret;exact⟨_,rfl,tl_mk _,hnx⟩
def Zb8(l:List UInt8):List UInt8:=clean (Zr (Zec l))
theorem ZgK(n:Nat):∀l:LB,l.length≤n→(Zr l).length≤l.length:=by
 induction n with
 | zero=>intro l hl;have:l=[]:=List.eq_nil_of_length_eq_zero (by omega);subst this;rw[Zb6];simp
 | succ n ih=>
  intro l hl
  cases l with
  | nil=>rw[Zb6];simp
  | cons c r=>
   rw[Zbh];simp only[Xa]at hl
   split
   ·have h:=ih (r.drop 2) (by rw[Xc];omega)
    rw[Xc]at h;simp only[Xa]
    omega
   ·have h:=ih r (by omega)
    simp only[Xa]
    omega
theorem ZdD(l:LB):(Zb8 l).length≤3*l.length:=by
 have h1:=Za9 (Zr (Zec l));have h2:=ZgK _ (Zec l) (Xf _);rw[ZfD]at h2;unfold Zb8
 omega
theorem ZgL(s:BA)(w:World)(hs:s.size≤300000):Calls Tryz.prog 203 #[.string s] w fun e w'=>∃r:BA,e=.returned (.string r)∧tl r=Zb8 (tl s)∧Nx w w':=by
 go_enter Tryz.func203,Tryz.ntmps203
 go_wp2_with fail
 refine(Zno s _ (by omega)).mono ?_
 rintro e w1 ⟨a,rfl,ha,hn1⟩
 have hal:a.size≤300000:=by rw[←tl_length,ha,ZfD,tl_length];exact hs
 go_wp2_with fail
 refine(ZgH a _ (by omega)).mono ?_
 rintro e w2 ⟨b,rfl,hb,hn2⟩
 have hbl:b.size≤300000:=by rw[←tl_length,hb];exact Nat.le_trans (ZgK _ _ (Xf _)) (by rw[tl_length];exact hal)
 go_wp2_with fail
 refine(Zbo b _ (by omega)).mono ?_
 rintro e w3 ⟨c,rfl,hc,hn3⟩
 have HC:=Za (show tl c=Zb8 (tl s)by rw[hc,hb,ha];rfl)
 have HN:=Za ((hn1.then hn2).then hn3);clear ha hb hc hn1 hn2 hn3;go_wp2;go_ret;exact⟨c,rfl,HC.out,HN.out⟩
def PB(w:World)(b:Nat)(x y:Value):Prop:=w.heap[b]?=some (Obj.cells #[x,y] 113 (0,0))
theorem PB.on{w w':World}{b:Nat}{x y:Value}(h:PB w b x y)(hb:Nx w w'):PB w' b x y:=(hb.block b (Xd.1 h).1).trans h
theorem PB.facts{w:World}{b:Nat}{x y:Value}(h:PB w b x y):w.cell? ⟨b,0,none⟩=some x∧w.cell? ⟨b,1,none⟩=some y∧w.frozen? ⟨b,0,none⟩=false∧w.frozen? ⟨b,1,none⟩=false∧b<w.heap.size:=by
 have hl:=(Xd.1 h).1;unfold PB at h
 refine⟨?_,?_,?_,?_,hl⟩<;>simp[World.cell?,World.frozen?,h]
theorem PB.s0{w:World}{b:Nat}{x y:Value}(h:PB w b x y)(u:Value):PB (w.setCell ⟨b,0,none⟩ u) b u y:=by
 unfold PB at *;simp only[World.setCell,Xe,if_pos,h]
 rfl
theorem PB.s1{w:World}{b:Nat}{x y:Value}(h:PB w b x y)(u:Value):PB (w.setCell ⟨b,1,none⟩ u) b x u:=by
 unfold PB at *;simp only[World.setCell,Xe,if_pos,h]
 rfl
theorem PB.far{w:World}{b q:Nat}{x y:Value}(h:PB w b x y)(hq:q≠b)(i:Nat)(u:Value):PB (w.setCell ⟨q,i,none⟩ u) b x y:=by unfold PB at *;simp only[World.setCell,Xe,if_neg hq,h]
theorem Zux{fn:Func}{R:Ending→World→Prop}{a:Act}{W:World}{c:Tmp}{rb:Nat}{x y:Value}(hres:fn.results=#[.cell c 113])(hc:a.tmps[c]?.getD undef=.pointer (some ⟨rb,0,none⟩))
  (hC:PB W rb x y) (hd:a.defers=[]) (hR:R (.returned (.agg #[x,y])) W):bodyPost Tryz.prog fn R .ret a W:=by
 obtain⟨y0,y1,-,-,-⟩:=hC.facts
 exact bodyPost_ret (v:=.agg #[x,y]) (by simp[results,hres,hc,go_sem,y0,y1]) hd hR
def ZbV(l:List UInt8):List UInt8×List UInt8:=(Zb8 (bcut (isB 61) l).1,Zb8 (bcut (isB 61) l).2.1)
theorem ZlH(l:LB):(ZbV l).1.length≤3*l.length∧(ZbV l).2.length≤3*l.length:=by
 have h:=(Z8 (isB 61) l).1;have h1:=ZdD (bcut (isB 61) l).1;have h2:=ZdD (bcut (isB 61) l).2.1;unfold ZbV;simp only
 omega
theorem ZlI(s:BA)(w:World)(hs:s.size≤300000):Calls Tryz.prog 154 #[.string s] w fun e w'=>∃n v:BA,e=.returned (.agg #[.string n,.string v])∧(tl n,tl v)=ZbV (tl s)∧Nx w w':=by
 go_enter Tryz.func154,Tryz.ntmps154
 go_wp2_with fail
 refine(ZcN s 61 _ (Zg (by omega))).mono ?_
 rintro e w1 ⟨⟨a,b,rfl,ha,hb⟩,hn1⟩;have hlen:=(Z8 (isB 61) (tl s)).1;rw[←ha,←hb,tl_length,tl_length,tl_length]at hlen;have HR1:=Za (PB.on (show PB (w.alloc (.cells #[.string ⟨#[]⟩,.string ⟨#[]⟩] 113)) w.heap.size _ _ from heap_alloc_new w _) hn1);have HN1:=Za (show Nx w w1 from(Nx.rfl.alloc _).then hn1);have hw1:=HN1.out.size;have hrb:=HR1.out.facts.2.2.2.2;have HA:=Za ha;have HB:=Za hb;clear ha hb hn1;go_upto_region 3 with fail;have HP2:=Za (show PB (w1.alloc (Obj.cells #[Value.string ⟨#[]⟩,Value.string ⟨#[]⟩] 113)) w1.heap.size _ _ from heap_alloc_new w1 _);have HR2:=Za (HR1.out.on (Nx.rfl.alloc (Obj.cells #[Value.string ⟨#[]⟩,Value.string ⟨#[]⟩] 113)));have HN2:=Za (show Nx w (w1.alloc (Obj.cells #[Value.string ⟨#[]⟩,Value.string ⟨#[]⟩] 113))from HN1.out.alloc _);obtain⟨pb,hpb⟩:∃pb,pb=w1.heap.size:=⟨_,rfl⟩
 have hrp:w.heap.size<pb:=by rw[hpb];exact hrb
 rw[←hpb]at HP2 ⊢;clear hw1 hrb;generalize (w1.alloc (Obj.cells #[Value.string ⟨#[]⟩,Value.string ⟨#[]⟩] 113))=w2 at *;clear hpb HR1 HN1;go_wp2_with fail
 refine(ZgL a _ (by omega)).mono ?_
 rintro e w3 ⟨n,rfl,hn,hn3⟩;have HP3:=Za (HP2.out.on hn3);have HR3:=Za (HR2.out.on hn3);have HN3:=Za (HN2.out.then hn3);have HNM:=Za (hn.trans (congrArg Zb8 HA.out));clear hn hn3 HP2 HR2 HN2 HA;obtain⟨c0,c1,f0,f1,hl⟩:=HP3.out.facts;go_upto_region 4 with fail;have HP4:=Za (HP3.out.s0 (.string n))
 have HR4:=Za (HR3.out.far (show pb≠w.heap.size by omega) 0 (.string n))
 have HN4:=Za (show Nx w (w3.setCell ⟨pb,0,none⟩ (.string n))from Below.setCell HN3.out (by show w.heap.size≤pb;omega) _)
 clear c0 c1 f0 f1 hl;generalize w3.setCell ⟨pb,0,none⟩ (.string n)=w4 at *;clear HP3 HR3 HN3;go_wp2_with fail
 refine(ZgL b _ (by omega)).mono ?_
 rintro e w5 ⟨v,rfl,hv,hn5⟩;have HP5:=Za (HP4.out.on hn5);have HR5:=Za (HR4.out.on hn5);have HN5:=Za (HN4.out.then hn5);have HVM:=Za (hv.trans (congrArg Zb8 HB.out));clear hv hn5 HP4 HR4 HN4 HB;obtain⟨c0,c1,f0,f1,hl⟩:=HP5.out.facts;go_upto_region 5 with fail;have HP6:=Za (HP5.out.s1 (.string v))
 have HR6:=Za (HR5.out.far (show pb≠w.heap.size by omega) 1 (.string v))
 have HN6:=Za (show Nx w (w5.setCell ⟨pb,1,none⟩ (.string v))from Below.setCell HN5.out (by show w.heap.size≤pb;omega) _)
 clear c0 c1 f0 f1 hl;generalize w5.setCell ⟨pb,1,none⟩ (.string v)=w6 at *;clear HP5 HR5 HN5;obtain⟨c0,c1,f0,f1,hl⟩:=HP6.out.facts;obtain⟨d0,d1,g0,g1,hl2⟩:=HR6.out.facts;go_wp2
 exact Zux (rb:=w.heap.size) Tryz.results154 rfl ((HR6.out.s0 _).s1 _) rfl ⟨n,v,rfl,by unfold ZbV;rw[HNM.out,HVM.out],Below.setCell (Below.setCell HN6.out (Xf _) _) (Xf _) _⟩
end Go.Proofs.YtchkhibgbnhjpabGreatDoor
