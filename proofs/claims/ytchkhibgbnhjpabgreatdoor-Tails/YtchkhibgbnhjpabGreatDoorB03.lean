import Derived.Test.YtchkhibgbnhjpabGreatDoorB02
import Derived.Shelf.LaysM
import Derived.Shelf.Strconv.Itoa3
import Derived.Shelf.Strconv.Itoa4
open List renaming length_append→Xa,length_cons→Xb,append_assoc→Xd,length_drop→Xe,getElem_mem→Xf,length_nil→Xg,map_append→Xh,map_cons→Xi,map_nil→Xj,any_eq_true→Xk,append_nil→Xl
open Nat renaming zero_le→Xc
namespace Go.Proofs.YtchkhibgbnhjpabGreatDoor
open Go.RowKit
open Go.RowKit Go.Shelf
set_option maxHeartbeats 2000000
set_option maxRecDepth 100000
def ZaJ(n:Int):ByteArray:=
 if n=1 then⟨#[32,34,60,62,96]⟩else if n=2 then⟨#[32,34,35,60,62]⟩else if n=3 then⟨#[32,34,35,60,62,39]⟩
 else if n=4 then⟨#[32,34,35,60,62,63,94,123,125,96]⟩else if n=5 then⟨#[32,34,35,60,62,63,94,123,125,96,47,58,59,61,64,91,92,93,124]⟩
 else if n=6 then⟨#[32,34,35,60,62,63,94,123,125,96,47,58,59,61,64,91,92,93,124,36,37,38,43,44]⟩
 else if n=7 then⟨#[32,34,35,60,62,63,94,123,125,96,47,58,59,61,64,91,92,93,124,36,37,38,43,44,33,39,40,41,126]⟩else⟨#[]⟩
theorem Zq2(n:Int):(ZaJ n).size≤40:=by unfold ZaJ;repeat (first|decide|split)
theorem ZmD(n:Int)(w:World):Calls Tryz.prog 193 #[.int .i64 n] w fun e w'=>e=.returned (.string (ZaJ n))∧w=w':=by
 by_cases h1:n=1
 ·subst h1
  go_enter Tryz.func193,Tryz.ntmps193
  go_wp2;go_ret;exact⟨rfl,rfl⟩
 by_cases h2:n=2
 ·subst h2
  go_enter Tryz.func193,Tryz.ntmps193
  go_wp2;go_ret;exact⟨rfl,rfl⟩
 by_cases h3:n=3
 ·subst h3
  go_enter Tryz.func193,Tryz.ntmps193
  go_wp2;go_ret;exact⟨rfl,rfl⟩
 by_cases h4:n=4
 ·subst h4
  go_enter Tryz.func193,Tryz.ntmps193
  go_wp2;go_ret;exact⟨rfl,rfl⟩
 by_cases h5:n=5
 ·subst h5
  go_enter Tryz.func193,Tryz.ntmps193
  go_wp2;go_ret;exact⟨rfl,rfl⟩
 by_cases h6:n=6
 ·subst h6
  go_enter Tryz.func193,Tryz.ntmps193
  go_wp2;go_ret;exact⟨rfl,rfl⟩
 by_cases h7:n=7
 ·subst h7
  go_enter Tryz.func193,Tryz.ntmps193
  go_wp2;go_ret;exact⟨rfl,rfl⟩
 ·have HE:=Za (show ZaJ n=⟨#[]⟩by simp[ZaJ,h1,h2,h3,h4,h5,h6,h7])
  have b1:(n==1)=false:=by simp[h1]
  have b2:(n==2)=false:=by simp[h2]
  have b3:(n==3)=false:=by simp[h3]
  have b4:(n==4)=false:=by simp[h4]
  have b5:(n==5)=false:=by simp[h5]
  have b6:(n==6)=false:=by simp[h6]
  have b7:(n==7)=false:=by simp[h7]
  clear h1 h2 h3 h4 h5 h6 h7
  go_enter Tryz.func193,Tryz.ntmps193
  go_wp2;go_ret;exact⟨Zmz HE.out.symm,rfl⟩
theorem Zb4(l:LB):(clean l).length≤3*l.length:=by
 generalize hn:l.length=n
 induction n using Nat.strongRecOn generalizing l with
 | ind n ih=>
  cases l with
  | nil=>rw[clean_nil];simp
  | cons c r=>
   obtain⟨h1,h2⟩:=Zgu (l:=c::r) (by simp)
   rw[ZdT (c::r) (by simp)]
   have h3:=ih ((c::r).drop (measure (c::r)).1).length (by rw[Xe];omega) _ rfl
   rw[Xe]at h3;rw[Xa]
   split
   ·rw[List.length_take];omega
   ·simp only[Xb,Xg];omega
def Zab(set:List UInt8)(b:UInt8):List UInt8:=
 if(b.toNat:Int)<32∨126<(b.toNat:Int)∨among (b.toNat:Int) set=true then [37,toB (capital ((b.toNat:Int)/16)),toB (capital ((b.toNat:Int)%16))]else [b]
def encB(set l:List UInt8):List UInt8:=l.flatMap (Zab set)
theorem Zk0(set l:LB)(b:UInt8):encB set (l++[b])=encB set l++Zab set b:=by simp[encB]
theorem Zj6(set l:LB):(encB set l).length≤3*l.length:=by
 induction l with
 | nil=>simp[encB]
 | cons c r ih=>
  have h:(Zab set c).length≤3:=by unfold Zab;split<;>simp
  simp only[encB,List.flatMap_cons,Xa,Xb]at *
  omega
theorem Zq3{n:Int}(h0:0≤n)(h1:n<16):0≤capital n∧capital n≤255:=by unfold capital;split<;>omega
theorem ZhT{ops:Array Oper}{rest:List Oper}{o:Oper}{a:Act}{Q:Exit→Act→World→Prop}(w:World)(y1 y2:Int)(h10:0≤y1)(h11:y1≤255)(h20:0≤y2)(h21:y2≤255)
  (hgd:o.guard=none) (s x:Operand) (ho:o.op=.call { callee:=.builtin .append,args:=#[s,x],argTypes:=#[160,160] })
  (base:Nat) (v:Value) (l:LB) (hs:a.eval s=v) (hown:ZfF w base v l) (hx:a.eval x=.slice (some ⟨w.heap.size,0,none⟩) 3 3)
  (hn:l.length<1000000000000) (hbase:base≤w.heap.size)
  (h:∀v' w',ZfF w' base v' (l++[37,toB y1,toB y2])→Below base w w'→Kp 5 w w'→wpList Tryz.prog ops Q rest (a.put o.dst v') w'):
  wpList Tryz.prog ops Q (o::rest) a (w.alloc (.cells #[.int .u8 37,.int .u8 y1,.int .u8 y2] 5)):=by
 refine Zc9 _ _ _ (.int .u8 0) 1 Tryz.underlying160 Zn3 rfl hgd s x ho base v l.length _ hs (World.ownsRow.alloc hown _) ⟨w.heap.size,0,none⟩ 3 3 [.int .u8 37,.int .u8 y1,.int .u8 y2] hx rfl (ZhN (by simp) (by simp) (by simp)) (by simp[Value.oneCell']) (by omega) (by decide) (by simp;omega) ?_
 intro v' w' q1 q2 q3
 refine h v' w' ?_ (((Below.refl base w).alloc hbase _).trans q2) ((Kp.rfl.alloc _).then q3)
 have e2:Lib.byteCells [37,toB y1,toB y2]=[.int .u8 37,.int .u8 y1,.int .u8 y2]:=by simp only[Lib.byteCells,Xi,Xj,Zf3 h10 h11,Zf3 h20 h21];rfl
 unfold ZfF;rw[Xa,Lib.byteCells_append,e2];exact q1
theorem ZaM(s:BA)(n:Int)(w:World)(hs:s.size≤1000000):Calls Tryz.prog 143 #[.string s,.int .i64 n] w fun e w'=>∃r:BA,e=.returned (.string r)∧tl r=encB (tl (ZaJ n)) (clean (tl s))∧Nx w w':=by
 have hset:=Zq2 n;generalize hS:ZaJ n=set at *;have HS:=Za hS;clear hS
 go_enter Tryz.func143,Tryz.ntmps143
 go_wp2_with fail
 refine(ZeJ _ _ hs).mono ?_
 rintro e w1 ⟨c,rfl,hc,hn1⟩
 have hcs:c.size≤3000000:=by have h:=Zb4 (tl s);rw[←hc,tl_length,tl_length]at h;omega
 have HCL:=Za hc;clear hc
 go_wp2_with (go_at_call 193;refine(ZmD _ _).mono ?_;rintro e w' ⟨rfl,rfl⟩;rw[HS.out])
 go_loopw [7,8] (fun o i wr=>∃k:Nat,k≤c.size∧i=.int .i64 k∧ZfF wr w1.heap.size o (encB (tl set) ((tl c).take k))∧Nx w1 wr) (fun _ i _=>c.size-(intOf i).toNat)
 case atStart=>exact⟨0,Xc _,rfl,ZeI w1,Nx.rfl.alloc _⟩
 case round=>
  obtain⟨k,hk,rfl,hown,hnx⟩:=hrel
  by_cases hlt:k<c.size
  ·have hb:=bb c[k]
   have HTK:=Za ((congrArg (encB (tl set)) (Zz c k hlt)).trans (Zk0 _ _ _));have hz:=hnx.size
   have hsz:(encB (tl set) ((tl c).take k)).length<1000000000000:=by have h:=Zj6 (tl set) ((tl c).take k);have:=List.length_take_le k (tl c);omega
   have HO:=Za hown;have HN:=Za hnx;clear hown hnx
   by_cases hit:(c[k].toNat:Int)<32∨126<(c[k].toNat:Int)∨among (c[k].toNat:Int) (tl set)=true
   ·have HB:=Za (show Zab (tl set) c[k]=[37,toB (capital ((c[k].toNat:Int)/16)),toB (capital ((c[k].toNat:Int)%16))]by unfold Zab;rw[if_pos hit])
    obtain⟨hc1,hc2⟩:=Zq3 (n:=(c[k].toNat:Int)/16) (by omega) (by omega)
    obtain⟨hc3,hc4⟩:=Zq3 (n:=(c[k].toNat:Int)%16) (by omega) (by omega)
    by_cases h32:(c[k].toNat:Int)<32
    ·clear hit
     go_wp2_with (first|(go_at_call 194;refine(ZaB _ _ _ (Zf (by omega))).mono ?_;rintro e w' ⟨rfl,rfl⟩)|(go_at_call 195;refine(ZfI _ _ (by omega) (by omega)).mono ?_;rintro e w' ⟨rfl,rfl⟩)|(at_builtin;go_must (refine ZhT wr (capital ((c[k].toNat:Int)/16)) (capital ((c[k].toNat:Int)%16)) hc1 hc2 hc3 hc4 rfl _ _ rfl w1.heap.size _ _ rfl HO.out rfl hsz hz ?_;intro v' w2 ho1 hb1 hk1;have HO1:=Za ho1;clear ho1)))
     go_roundw
     case rel=>exact⟨k+1,by omega,by go_num,by rw[HTK.out,HB.out];exact HO1.out,HN.out.trans hb1⟩
     case measure=>simp[intOf];omega
    by_cases h126:126<(c[k].toNat:Int)
    ·clear hit
     go_wp2_with (first|(go_at_call 194;refine(ZaB _ _ _ (Zf (by omega))).mono ?_;rintro e w' ⟨rfl,rfl⟩)|(go_at_call 195;refine(ZfI _ _ (by omega) (by omega)).mono ?_;rintro e w' ⟨rfl,rfl⟩)|(at_builtin;go_must (refine ZhT wr (capital ((c[k].toNat:Int)/16)) (capital ((c[k].toNat:Int)%16)) hc1 hc2 hc3 hc4 rfl _ _ rfl w1.heap.size _ _ rfl HO.out rfl hsz hz ?_;intro v' w2 ho1 hb1 hk1;have HO1:=Za ho1;clear ho1)))
     go_roundw
     case rel=>exact⟨k+1,by omega,by go_num,by rw[HTK.out,HB.out];exact HO1.out,HN.out.trans hb1⟩
     case measure=>simp[intOf];omega
    ·have hin:among (c[k].toNat:Int) (tl set)=true:=by
      rcases hit with h|h|h
      ·exact absurd h h32
      ·exact absurd h h126
      ·exact h
     clear hit
     go_wp2_with (first|(go_at_call 194;refine(ZaB _ _ _ (Zf (by omega))).mono ?_;rintro e w' ⟨rfl,rfl⟩)|(go_at_call 195;refine(ZfI _ _ (by omega) (by omega)).mono ?_;rintro e w' ⟨rfl,rfl⟩)|(at_builtin;go_must (refine ZhT wr (capital ((c[k].toNat:Int)/16)) (capital ((c[k].toNat:Int)%16)) hc1 hc2 hc3 hc4 rfl _ _ rfl w1.heap.size _ _ rfl HO.out rfl hsz hz ?_;intro v' w2 ho1 hb1 hk1;have HO1:=Za ho1;clear ho1)))
     go_roundw
     case rel=>exact⟨k+1,by omega,by go_num,by rw[HTK.out,HB.out];exact HO1.out,HN.out.trans hb1⟩
     case measure=>simp[intOf];omega
   ·have HB:=Za (show Zab (tl set) c[k]=[c[k]]by unfold Zab;rw[if_neg hit])
    have h32:¬(c[k].toNat:Int)<32:=fun h=>hit (Or.inl h)
    have h126:¬126<(c[k].toNat:Int):=fun h=>hit (Or.inr (Or.inl h))
    have hin:among (c[k].toNat:Int) (tl set)=false:=by cases h:among (c[k].toNat:Int) (tl set);rfl;exact absurd (Or.inr (Or.inr h)) hit
    have HT2:=Za (Zf5 c[k]);clear hit
    go_wp2_with (first|(go_at_call 194;refine(ZaB _ _ _ (Zf (by omega))).mono ?_;rintro e w' ⟨rfl,rfl⟩)|(at_builtin;go_must (refine Zb0 wr (c[k].toNat:Int) rfl _ _ rfl w1.heap.size _ _ rfl HO.out rfl (by omega) (by omega) (Nat.lt_of_lt_of_le hsz (by decide)) hz ?_;intro v' w2 ho1 hb1 hk1;have HO1:=Za ho1;clear ho1)))
    go_roundw
    case rel=>exact⟨k+1,by omega,by go_num,by rw[HTK.out,HB.out];have h:=HO1.out;rw[HT2.out]at h;exact h,HN.out.trans hb1⟩
    case measure=>simp[intOf];omega
  ·rw[Z3 c k (by omega)]at hown
   have hcv:=Zea hown;clear hown;go_wp2;go_ret
   exact⟨_,rfl,by rw[tl_mk,HCL.out],hn1.then hnx⟩
def Zdc(l:List UInt8):Int×Bool:=
 match l with
 | c::x::y::_=>if c=37∧(ZP x.toNat 16).2=true∧(ZP y.toNat 16).2=true then((ZP x.toNat 16).1*(16:Int)+(ZP y.toNat 16).1,true)else(0,false)
 | _=>(0,false)
theorem Zq4(l:LB):0≤(Zdc l).1∧(Zdc l).1≤255:=by
 unfold Zdc
 split
 ·split
  ·rename_i x y r h
   have h1:=Zbu (x.toNat:Int) 16;have h2:=Zbu (y.toNat:Int) 16;have h3:=h1.2 h.2.1;have h4:=h2.2 h.2.2;simp only
   omega
  ·exact⟨by decide,by decide⟩
 ·exact⟨by decide,by decide⟩
theorem Zec(l:LB)(h:l.length<3):Zdc l=(0,false):=by
 match l,h with
 | [],_=>rfl
 | [_],_=>rfl
 | [_,_],_=>rfl
theorem ZmE(s:BA)(h:2<s.size):Zdc (tl s)=if s[0]=37∧(ZP (s[1].toNat:Int) 16).2=true∧(ZP (s[2].toNat:Int) 16).2=true then((ZP (s[1].toNat:Int) 16).1*(16:Int)+(ZP (s[2].toNat:Int) 16).1,true)else(0,false):=by
 have e0:=ZI s 0 (by omega)
 rw[List.drop_zero,ZI s 1 (by omega),ZI s 2 (by omega)]at e0
 rw[e0]
 rfl
theorem Zx5{b:UInt8}(h:¬b=37):((b.toNat:Int) != 37)=true:=by
 simp only[bne_iff_ne,ne_eq];intro h2
 exact h (UInt8.toNat_inj.1 (by show b.toNat=37;omega))
theorem Zj7(s:BA)(w:World)(hs:s.size≤1000000):Calls Tryz.prog 272 #[.string s] w fun e w'=>e=.returned (.tuple #[.int .u8 (Zdc (tl s)).1,.bool (Zdc (tl s)).2])∧w=w':=by
 by_cases h3:s.size<3
 ·have HE:=Za (Zec (tl s) (by rw[tl_length];exact h3))
  go_enter Tryz.func272,Tryz.ntmps272
  go_wp2;go_ret2
  exact⟨by rw[HE.out];rfl,rfl⟩
 have h3':2<s.size:=by omega
 have HC:=Za (ZmE s h3');have hb1:=bb s[1];have hb2:=bb s[2]
 by_cases hp:s[0]=37
 ·have hp':((s[0].toNat:Int) != 37)=false:=by rw[hp];rfl
  obtain⟨q1,hq1⟩:∃q,ZP (s[1].toNat:Int) 16=q:=⟨_,rfl⟩;obtain⟨q2,hq2⟩:∃q,ZP (s[2].toNat:Int) 16=q:=⟨_,rfl⟩;have r1:=Zbu (s[1].toNat:Int) 16;have r2:=Zbu (s[2].toNat:Int) 16;rw[hq1]at r1 HC;rw[hq2]at r2 HC;have HQ1:=Za hq1;have HQ2:=Za hq2;clear hq1 hq2;obtain⟨d1,k1⟩:=q1;obtain⟨d2,k2⟩:=q2;simp only at r1 r2 HC
  cases k1
  ·have HE:=Za (show Zdc (tl s)=(0,false)by rw[HC.out,if_neg (by simp)])
   clear hp
   go_enter Tryz.func272,Tryz.ntmps272
   go_wp2_with fail
   refine(Zag _ _ _ (by omega) (by omega)).mono ?_
   rintro e w' ⟨rfl,rfl⟩;rw[HQ1.out];go_wp2_with fail
   refine(Zag _ _ _ (by omega) (by omega)).mono ?_
   rintro e w' ⟨rfl,rfl⟩;rw[HQ2.out];go_wp2;go_ret2
   exact⟨by rw[HE.out];rfl,rfl⟩
  cases k2
  ·have HE:=Za (show Zdc (tl s)=(0,false)by rw[HC.out,if_neg (by simp)])
   clear hp
   go_enter Tryz.func272,Tryz.ntmps272
   go_wp2_with fail
   refine(Zag _ _ _ (by omega) (by omega)).mono ?_
   rintro e w' ⟨rfl,rfl⟩;rw[HQ1.out];go_wp2_with fail
   refine(Zag _ _ _ (by omega) (by omega)).mono ?_
   rintro e w' ⟨rfl,rfl⟩;rw[HQ2.out];go_wp2;go_ret2
   exact⟨by rw[HE.out];rfl,rfl⟩
  ·have HE:=Za (show Zdc (tl s)=(d1*16+d2,true)by rw[HC.out,if_pos ⟨hp,rfl,rfl⟩])
   obtain⟨r10,r11⟩:=r1;obtain⟨r20,r21⟩:=r2;have r12:=r11 rfl;have r22:=r21 rfl;clear hp r11 r21
   go_enter Tryz.func272,Tryz.ntmps272
   go_wp2_with fail
   refine(Zag _ _ _ (by omega) (by omega)).mono ?_
   rintro e w' ⟨rfl,rfl⟩;rw[HQ1.out];go_wp2_with fail
   refine(Zag _ _ _ (by omega) (by omega)).mono ?_
   rintro e w' ⟨rfl,rfl⟩;rw[HQ2.out];go_wp2;go_ret2
   exact⟨by rw[HE.out];rfl,rfl⟩
 ·have HE:=Za (show Zdc (tl s)=(0,false)by rw[HC.out,if_neg (fun h=>hp h.1)])
  have hp':=Zx5 hp;clear hp
  go_enter Tryz.func272,Tryz.ntmps272
  go_wp2;go_ret2
  exact⟨by rw[HE.out];rfl,rfl⟩
def ZA(l:List UInt8):List UInt8:=
 match l with
 | []=>[]
 | c::r=>if(Zdc (c::r)).2 then toB (Zdc (c::r)).1::ZA (r.drop 2)else c::ZA r
 termination_by l.length
 decreasing_by all_goals simp_wf<;>omega
theorem ZeK(c:UInt8)(r:LB):ZA (c::r)=if(Zdc (c::r)).2 then toB (Zdc (c::r)).1::ZA (r.drop 2)else c::ZA r:=by conv=>lhs;unfold ZA
theorem Zed:ZA []=[]:=by unfold ZA;rfl
theorem Zq5{l:LB}(h:(Zdc l).2=true):3≤l.length:=by
 by_cases hl:l.length<3
 ·rw[Zec l hl]at h;cases h
 ·omega
theorem Zpu(s:BA)(w:World)(hs:s.size≤1000000):Calls Tryz.prog 236 #[.string s] w fun e w'=>∃r:BA,e=.returned (.string r)∧tl r=ZA (tl s)∧Nx w w':=by
 go_enter Tryz.func236,Tryz.ntmps236
 go_wp2
 go_loopw [3,4] (fun o i wr=>∃(k:Nat) (P:LB),k≤s.size∧i=.int .i64 k∧ZA (tl s)=P++ZA ((tl s).drop k)∧ZfF wr w.heap.size o P∧P.length≤k∧Nx w wr) (fun _ i _=>s.size-(intOf i).toNat)
 case atStart=>exact⟨0,[],Xc _,rfl,by simp,ZeI w,by simp,Nx.rfl.alloc _⟩
 case round=>
  obtain⟨k,P,hk,rfl,hE,hown,hP,hnx⟩:=hrel
  by_cases hlt:k<s.size
  ·have HO:=Za hown
   have HN:=Za hnx;have hz:=hnx.size
   have hPl:P.length<1099511627776:=by omega
   have hb:=bb s[k];have HST:=Za (ZeK s[k] ((tl s).drop (k+1)));rw[←ZI s k hlt]at HST;have HX:=Za (tl_from s k);have HE:=Za hE;have HCL:=Za (Zq5 (l:=(tl s).drop k));obtain⟨hr0,hr1⟩:=Zq4 ((tl s).drop k);clear hE hown hnx;go_wp2_with fail
   refine(Zj7 _ _ (by simp;omega)).mono ?_
   rintro e w' ⟨rfl,rfl⟩;rw[HX.out];generalize hq:Zdc ((tl s).drop k)=q at *;clear hq;obtain⟨y,ok⟩:=q;simp only at hr0 hr1 HST HCL
   cases ok
   ·have HT2:=Za (Zf5 s[k])
    go_wp2_with (at_builtin;go_must (refine Zb0 wr (s[k].toNat:Int) rfl _ _ rfl w.heap.size u3 P rfl HO.out rfl (by omega) (by omega) hPl hz ?_;intro v' w2 ho2 hb2 _;have HO2:=Za ho2;clear ho2))
    go_roundw
    case rel=>exact⟨k+1,P++[s[k]],by omega,by go_num,by rw[HE.out,HST.out,if_neg (by simp),Xd];rfl,by have h:=HO2.out;rw[HT2.out]at h;exact h,by simp;omega,HN.out.trans hb2⟩
    case measure=>simp[intOf];omega
   ·have h3:=HCL.out rfl
    rw[Xe,tl_length]at h3
    go_wp2_with (at_builtin;go_must (refine Zb0 wr y rfl _ _ rfl w.heap.size u3 P rfl HO.out rfl (by omega) (by omega) hPl hz ?_;intro v' w2 ho2 hb2 _;have HO2:=Za ho2;clear ho2))
    go_roundw
    case rel=>exact⟨k+3,P++[toB y],by omega,by go_num,by rw[HE.out,HST.out,if_pos trivial,Xd,List.drop_drop];rfl,HO2.out,by simp;omega,HN.out.trans hb2⟩
    case measure=>simp[intOf];omega
  ·rw[ZC s k (by omega)]at hE
   have hcv:=Zea hown;clear hown;go_wp2;go_ret
   exact⟨_,rfl,by rw[hE,tl_mk,Zed,Xl],hnx⟩
def bsplit(n:Int)(l:List UInt8):List (List UInt8):=
 match l with
 | []=>[[]]
 | c::r=>if isB n c then []::bsplit n r else
  match bsplit n r with
  | []=>[[c]]
  | p::q=>(c::p)::q
theorem Zf6(n:Int)(l:LB):∃p q,bsplit n l=p::q:=by
 cases l with
 | nil=>exact⟨[],[],rfl⟩
 | cons c r=>
  rw[bsplit]
  split
  ·exact⟨_,_,rfl⟩
  ·split<;>exact⟨_,_,rfl⟩
theorem Zje(n:Int)(l:LB):bsplit n l=if(bcut (isB n) l).2.2 then(bcut (isB n) l).1::bsplit n (bcut (isB n) l).2.1 else [(bcut (isB n) l).1]:=by
 induction l with
 | nil=>simp[bsplit,bcut]
 | cons c r ih=>
  cases h:isB n c
  ·have hc:bcut (isB n) (c::r)=(c::(bcut (isB n) r).1,(bcut (isB n) r).2):=by simp[bcut,h]
   rw[bsplit,if_neg (by simp[h]),hc,ih]
   cases h2:(bcut (isB n) r).2.2<;>simp
  ·have hc:bcut (isB n) (c::r)=([],r,true):=by simp[bcut,h]
   rw[bsplit,if_pos h,hc]
   simp
theorem Zaz(p:UInt8→Bool)(l:LB):(bcut p l).1.length+(bcut p l).2.1.length≤l.length∧((bcut p l).2.2=true→(bcut p l).2.1.length<l.length):=by
 induction l with
 | nil=>simp[bcut]
 | cons c r ih=>
  cases h:p c
  ·have hc:bcut p (c::r)=(c::(bcut p r).1,(bcut p r).2):=by simp[bcut,h]
   rw[hc];simp only[Xb]
   exact⟨by omega,fun hh=>by have:=ih.2 hh;omega⟩
  ·have hc:bcut p (c::r)=([],r,true):=by simp[bcut,h]
   rw[hc]
   simp
abbrev Zds(w:World)(base:Nat)(v:Value)(l:List ByteArray):Prop:=w.ownsRow base 9 1 v l.length (l.map Value.string)
theorem Zcx{ops:Array Oper}{rest:List Oper}{o:Oper}{a:Act}{Q:Exit→Act→World→Prop}(w:World)(y:BA)
  (hgd:o.guard=none) (s x:Operand) (ho:o.op=.call { callee:=.builtin .append,args:=#[s,x],argTypes:=#[78,78] })
  (base:Nat) (v:Value) (l:LA) (hs:a.eval s=v) (hown:Zds w base v l) (hx:a.eval x=.slice (some ⟨w.heap.size,0,none⟩) 1 1)
  (hn:l.length<1099511627776) (hbase:base≤w.heap.size)
  (h:∀v' w',Zds w' base v' (l++[y])→Below base w w'→Kp 9 w w'→wpList Tryz.prog ops Q rest (a.put o.dst v') w'):
  wpList Tryz.prog ops Q (o::rest) a (w.alloc (.cells #[.string y] 9)):=by
 refine Zc9 _ _ _ (.string ByteArray.empty) 16 Tryz.underlying78 ZfE rfl hgd s x ho base v l.length _ hs (World.ownsRow.alloc hown _) ⟨w.heap.size,0,none⟩ 1 1 [.string y] hx rfl (Zf1 (by simp)) (by simp[Value.oneCell']) (by omega) (by decide) (by simp;omega) ?_
 intro v' w' h1 h2 h3
 refine h v' w' ?_ (((Below.refl base w).alloc hbase _).trans h2) ((Kp.rfl.alloc _).then h3)
 unfold Zds;rw[Xa,Xh];exact h1
theorem Zpv(w:World):Zds (w.alloc (.cells #[] 9)) w.heap.size (.slice (some ⟨w.heap.size,0,none⟩) 0 0) []:=
 World.ownsRow_made w #[] 0 (Nat.le_refl _) (Xc _) rfl
def Zn5:Value→Nat | .string s=>s.size|_=>0
def Zn6:Value→Bool | .bool b=>b|_=>false
theorem ZhU(s:BA)(n:Int)(w:World)(hs:s.size≤1000000):Calls Tryz.prog 202 #[.string s,.int .u8 n] w fun e w'=>∃v bs,e=.returned v∧Zcv w' v bs∧bs.map tl=bsplit n (tl s)∧Nx w w':=by
 go_enter Tryz.func202,Tryz.ntmps202
 go_wp2
 go_loopw [5,6,7] (fun o x m wr=>∃(bs:LA) (q:BA) (more:Bool),x=.string q∧m=.bool more∧Zds wr w.heap.size o bs∧bs.length+q.size≤s.size+1∧bsplit n (tl s)=bs.map tl++(if more then bsplit n (tl q)else [])∧(more=true→bs.length+q.size≤s.size)∧Nx w wr)
  (fun _ x m _=>if Zn6 m then Zn5 x+1 else 0)
 case atStart=>exact⟨[],s,true,rfl,rfl,Zpv w,by simp,by simp,fun _=>by simp,Nx.rfl.alloc _⟩
 case round=>
  obtain⟨bs,q,more,rfl,rfl,hown,hl,hE,hm,hnx⟩:=hrel
  cases more
  ·simp only[Bool.false_eq_true,if_false,Xl]at hE
   go_wp2;go_ret;exact⟨_,_,rfl,Zp hown,hE.symm,hnx⟩
  ·have hl2:=hm rfl
   simp only[if_true]at hE;have HE:=Za hE;have HO:=Za hown;have HN:=Za hnx;clear hE hown hnx hm;have HC:=Za (Zje n (tl q));have HL:=Za (Zaz (isB n) (tl q));go_wp2_with fail
   refine(Zfb _ _ _ (Zf (by omega))).mono ?_
   rintro e w1 ⟨⟨a,b,rfl,ha,hb⟩,hn1⟩;have HA:=Za ha;have HB:=Za hb
   have hla:a.size=(bcut (isB n) (tl q)).1.length:=by rw[←ha,tl_length]
   have hlb:b.size=(bcut (isB n) (tl q)).2.1.length:=by rw[←hb,tl_length]
   have HLA:=Za hla;have HLB:=Za hlb;clear ha hb hla hlb;generalize bcut (isB n) (tl q)=c at *;obtain⟨c1,c2,found⟩:=c;simp only at *;have HO1:=Za (ZbG HO.out hn1);have HN1:=Za (HN.out.then hn1);have hz:=HN1.out.size;clear hn1
   have hbl:bs.length<1099511627776:=by omega
   go_wp2_with (at_builtin;go_must (refine Zcx w1 a rfl _ _ rfl w.heap.size u5 bs rfl HO1.out rfl hbl hz ?_;intro v' w2 ho2 hb2 _;have HO2:=Za ho2;clear ho2))
   go_roundw
   case rel=>
    refine⟨bs++[a],b,found,rfl,rfl,HO2.out,?_,?_,?_,HN1.out.trans hb2⟩
    ·have h:=HL.out.1;have h1:=HLA.out;have h2:=HLB.out;rw[tl_length]at h;simp only[Xa,Xb,Xg];omega
    ·rw[HE.out,HC.out,Xh,Xd,Xi,Xj,HA.out,HB.out]
     cases found<;>rfl
    ·intro hf
     have h:=HL.out.2 hf;have h2:=HLB.out;rw[tl_length]at h;simp only[Xa,Xb,Xg]
     omega
   case measure=>
    have h:=HL.out;have h2:=HLB.out;rw[tl_length]at h;simp only[Zn6,Zn5]
    cases found
    ·simp
    ·have:=h.2 rfl
     simp;omega
theorem any_snoc{α:Type}(p:α→Bool)(l:List α)(b:α):(l++[b]).any p=(l.any p||p b):=by simp
theorem Zj8(p:UInt8→Bool)(s:BA)(k:Nat)(h:k<s.size)(he:p s[k]=true):(tl s).any p=true:=
 Xk.2 ⟨s[k],by rw[←Zew s k h];exact Xf _,he⟩
theorem ZQ(s:BA)(k:Nat):(s.extract k s.size).size=s.size-k:=by rw[ByteArray.size_extract];omega
theorem ZvV(s:BA)(k:Nat):(s.extract 0 k).size≤s.size:=by rw[ByteArray.size_extract];omega
theorem Zee(s:BA)(a b:Nat):(s.extract a b).size≤s.size:=by rw[ByteArray.size_extract];omega
theorem ZdI(s:BA)(k:Nat)(h:k<s.size):(tl s).getD k 0=s[k]:=by rw[List.getD_eq_getElem?_getD,List.getElem?_eq_getElem (by rw[tl_length];exact h),Zew s k h];rfl
theorem ZhV{a b:Int×Bool}(h:a=b):Ending.returned (.tuple #[.int .i64 a.1,.bool a.2])=.returned (.tuple #[.int .i64 b.1,.bool b.2]):=by rw[h]
theorem ZcO{s:BA}(h:¬s.size=0):¬tl s=[]:=by intro e;have:=tl_length s;rw[e]at this;simp at this;omega
theorem ZtA{x y:Int}(h:(x==y)=true):(x != y)=false:=by simp only[bne,h];rfl
theorem ZhB{x y:Int}(h:(x==y)=false):(x != y)=true:=by simp only[bne,h];rfl
def Zk1:Go.Shelf.Ren:=⟨fun|171=>147|243=>197|246=>230|283=>265|284=>266|285=>267|286=>268|129=>293|317=>292|318=>294|319=>295|320=>296|337=>304|338=>305|n=>n,fun|3=>3|9=>9|2=>2|4=>4|171=>228|0=>0|53=>229|37=>160|5=>5|173=>232|212=>247|51=>248|20=>20|213=>249|46=>189|232=>262|233=>263|n=>n,fun|17=>0|18=>1|19=>2|n=>n⟩
theorem ZtL:Go.Proofs.LaysM.n171 Tryz.prog Zk1:={
 mixed:=by kernel_rfl
 f129:=Tryz.func293.trans (congrArg some (by kernel_rfl))
 f171:=Tryz.func147.trans (congrArg some (by kernel_rfl))
 f243:=Tryz.func197.trans (congrArg some (by kernel_rfl))
 f246:=Tryz.func230.trans (congrArg some (by kernel_rfl))
 f283:=Tryz.func265.trans (congrArg some (by kernel_rfl))
 f284:=Tryz.func266.trans (congrArg some (by kernel_rfl))
 f285:=Tryz.func267.trans (congrArg some (by kernel_rfl))
 f286:=Tryz.func268.trans (congrArg some (by kernel_rfl))
 f317:=Tryz.func292.trans (congrArg some (by kernel_rfl))
 f318:=Tryz.func294.trans (congrArg some (by kernel_rfl))
 f319:=Tryz.func295.trans (congrArg some (by kernel_rfl))
 f320:=Tryz.func296.trans (congrArg some (by kernel_rfl))
 f337:=Tryz.func304.trans (congrArg some (by kernel_rfl))
 f338:=Tryz.func305.trans (congrArg some (by kernel_rfl))
 t0:=Tryz.underlying0
 a0:=Tryz.isAgg0
 z0:=Tryz.sizeOf0
 v0:=Tryz.zeroValue0
 t2:=Tryz.underlying2
 a2:=Tryz.isAgg2
 z2:=Tryz.sizeOf2
 v2:=Tryz.zeroValue2
 t3:=Tryz.underlying3
 a3:=Tryz.isAgg3
 z3:=Tryz.sizeOf3
 v3:=Tryz.zeroValue3
 t4:=Tryz.underlying4
 a4:=Tryz.isAgg4
 z4:=Tryz.sizeOf4
 v4:=Tryz.zeroValue4
 t5:=Tryz.underlying5
 a5:=Tryz.isAgg5
 z5:=Tryz.sizeOf5
 v5:=Tryz.zeroValue5
 t9:=Tryz.underlying9
 a9:=Tryz.isAgg9
 z9:=Tryz.sizeOf9
 v9:=Tryz.zeroValue9
 t20:=Tryz.underlying20
 a20:=Tryz.isAgg20
 z20:=Tryz.sizeOf20
 v20:=Tryz.zeroValue20
 t37:=Tryz.underlying160
 a37:=Tryz.isAgg160
 z37:=Tryz.sizeOf160
 v37:=Tryz.zeroValue160
 t46:=Tryz.underlying189
 a46:=Tryz.isAgg189
 z46:=Tryz.sizeOf189
 v46:=Tryz.zeroValue189
 t51:=Tryz.underlying248
 a51:=Tryz.isAgg248
 z51:=Tryz.sizeOf248
 v51:=Tryz.zeroValue248
 t53:=Tryz.underlying229
 a53:=Tryz.isAgg229
 z53:=Tryz.sizeOf229
 v53:=Tryz.zeroValue229
 t171:=Tryz.underlying228
 a171:=Tryz.isAgg228
 z171:=Tryz.sizeOf228
 v171:=Tryz.zeroValue228
 t173:=Tryz.underlying232
 a173:=Tryz.isAgg232
 z173:=Tryz.sizeOf232
 v173:=Tryz.zeroValue232
 t212:=Tryz.underlying247
 a212:=Tryz.isAgg247
 z212:=Tryz.sizeOf247
 v212:=Tryz.zeroValue247
 t213:=Tryz.underlying249
 a213:=Tryz.isAgg249
 z213:=Tryz.sizeOf249
 t232:=Tryz.underlying262
 a232:=Tryz.isAgg262
 z232:=Tryz.sizeOf262
 v232:=Tryz.zeroValue262
 t233:=Tryz.underlying263
 a233:=Tryz.isAgg263
 z233:=Tryz.sizeOf263
 v233:=Tryz.zeroValue263
 g17:=by kernel_rfl
 g18:=by kernel_rfl
 g19:=by kernel_rfl
 i0:=by kernel_rfl
 i2:=by kernel_rfl
 i3:=by kernel_rfl
 i4:=by kernel_rfl
 i5:=by kernel_rfl
 i9:=by kernel_rfl
 i20:=by kernel_rfl
 i37:=by kernel_rfl
 i46:=by kernel_rfl
 i51:=by kernel_rfl
 i53:=by kernel_rfl
 i171:=by kernel_rfl
 i173:=by kernel_rfl
 i212:=by kernel_rfl
 i232:=by kernel_rfl
 i233:=by kernel_rfl
 m17:=by kernel_rfl
 m18:=by kernel_rfl
 m19:=by kernel_rfl }
def Zk2:Go.Shelf.Ren:=⟨fun|173=>320|246=>230|283=>265|284=>266|285=>267|286=>268|129=>293|317=>292|318=>294|319=>295|320=>296|337=>304|338=>305|n=>n,fun|2=>2|3=>3|9=>9|4=>4|171=>228|0=>0|53=>229|37=>160|5=>5|173=>232|212=>247|51=>248|20=>20|213=>249|46=>189|232=>262|233=>263|n=>n,fun|17=>0|18=>1|19=>2|n=>n⟩
theorem ZtM:Go.Proofs.LaysM.n173 Tryz.prog Zk2:={
 mixed:=by kernel_rfl
 f129:=Tryz.func293.trans (congrArg some (by kernel_rfl))
 f173:=Tryz.func320.trans (congrArg some (by kernel_rfl))
 f246:=Tryz.func230.trans (congrArg some (by kernel_rfl))
 f283:=Tryz.func265.trans (congrArg some (by kernel_rfl))
 f284:=Tryz.func266.trans (congrArg some (by kernel_rfl))
 f285:=Tryz.func267.trans (congrArg some (by kernel_rfl))
 f286:=Tryz.func268.trans (congrArg some (by kernel_rfl))
 f317:=Tryz.func292.trans (congrArg some (by kernel_rfl))
 f318:=Tryz.func294.trans (congrArg some (by kernel_rfl))
 f319:=Tryz.func295.trans (congrArg some (by kernel_rfl))
 f320:=Tryz.func296.trans (congrArg some (by kernel_rfl))
 f337:=Tryz.func304.trans (congrArg some (by kernel_rfl))
 f338:=Tryz.func305.trans (congrArg some (by kernel_rfl))
 t0:=Tryz.underlying0
 a0:=Tryz.isAgg0
 z0:=Tryz.sizeOf0
 v0:=Tryz.zeroValue0
 t2:=Tryz.underlying2
 a2:=Tryz.isAgg2
 z2:=Tryz.sizeOf2
 v2:=Tryz.zeroValue2
 t3:=Tryz.underlying3
 a3:=Tryz.isAgg3
 z3:=Tryz.sizeOf3
 v3:=Tryz.zeroValue3
 t4:=Tryz.underlying4
 a4:=Tryz.isAgg4
 z4:=Tryz.sizeOf4
 v4:=Tryz.zeroValue4
 t5:=Tryz.underlying5
 a5:=Tryz.isAgg5
 z5:=Tryz.sizeOf5
 v5:=Tryz.zeroValue5
 t9:=Tryz.underlying9
 a9:=Tryz.isAgg9
 z9:=Tryz.sizeOf9
 v9:=Tryz.zeroValue9
 t20:=Tryz.underlying20
 a20:=Tryz.isAgg20
 z20:=Tryz.sizeOf20
 v20:=Tryz.zeroValue20
 t37:=Tryz.underlying160
 a37:=Tryz.isAgg160
 z37:=Tryz.sizeOf160
 v37:=Tryz.zeroValue160
 t46:=Tryz.underlying189
 a46:=Tryz.isAgg189
 z46:=Tryz.sizeOf189
 v46:=Tryz.zeroValue189
 t51:=Tryz.underlying248
 a51:=Tryz.isAgg248
 z51:=Tryz.sizeOf248
 v51:=Tryz.zeroValue248
 t53:=Tryz.underlying229
 a53:=Tryz.isAgg229
 z53:=Tryz.sizeOf229
 v53:=Tryz.zeroValue229
 t171:=Tryz.underlying228
 a171:=Tryz.isAgg228
 z171:=Tryz.sizeOf228
 v171:=Tryz.zeroValue228
 t173:=Tryz.underlying232
 a173:=Tryz.isAgg232
 z173:=Tryz.sizeOf232
 v173:=Tryz.zeroValue232
 t212:=Tryz.underlying247
 a212:=Tryz.isAgg247
 z212:=Tryz.sizeOf247
 v212:=Tryz.zeroValue247
 t213:=Tryz.underlying249
 a213:=Tryz.isAgg249
 z213:=Tryz.sizeOf249
 t232:=Tryz.underlying262
 a232:=Tryz.isAgg262
 z232:=Tryz.sizeOf262
 v232:=Tryz.zeroValue262
 t233:=Tryz.underlying263
 a233:=Tryz.isAgg263
 z233:=Tryz.sizeOf263
 v233:=Tryz.zeroValue263
 g17:=by kernel_rfl
 g18:=by kernel_rfl
 g19:=by kernel_rfl
 i0:=by kernel_rfl
 i2:=by kernel_rfl
 i3:=by kernel_rfl
 i4:=by kernel_rfl
 i5:=by kernel_rfl
 i9:=by kernel_rfl
 i20:=by kernel_rfl
 i37:=by kernel_rfl
 i46:=by kernel_rfl
 i51:=by kernel_rfl
 i53:=by kernel_rfl
 i171:=by kernel_rfl
 i173:=by kernel_rfl
 i212:=by kernel_rfl
 i232:=by kernel_rfl
 i233:=by kernel_rfl
 m17:=by kernel_rfl
 m18:=by kernel_rfl
 m19:=by kernel_rfl }
def Tb(w:World):Prop:=Lib.TabIs Tryz.prog w "internal/strconv.uint64pow10" .u64 Lib.pow10Tab∧w.cell? ⟨2,15,none⟩=some (.int .u8 4)
theorem Zx6:Tryz.prog.globalNamed "internal/strconv.uint64pow10"=some 0:=by kernel_rfl
theorem Zw0{w w':World}{name:String}{k:IntKind}{zs:LI}(h:Lib.TabIs Tryz.prog w name k zs)(hb:Nx w w'):Lib.TabIs Tryz.prog w' name k zs:=by
 unfold Lib.TabIs World.var? at *
 cases hg:Tryz.prog.globalNamed name with
 | none=>rw[hg]at h;cases h
 | some g=>
  rw[hg]at h;simp only[Option.bind_some]at h ⊢
  cases hw:w.heap[g]? with
  | none=>rw[hw]at h;cases h
  | some o=>rw[hb.block g (Array.getElem?_eq_some_iff.1 hw).1];exact h
theorem Tb.on{w w':World}(h:Tb w)(hb:Nx w w'):Tb w':=
 ⟨Zw0 h.1 hb,(hb.cell (World.block_lt_of_cell? w _ h.2)).trans h.2⟩
theorem Zn7(n:Nat):Lib.itoa (n:Int)=Lib.decDigits n:=by
 unfold Lib.itoa
 simp
theorem grow_nx{w:World}{k:Nat}{os:Array Obj}:Nx w (Sort.grow (w.drewN k) os):=by
 refine⟨rfl,rfl,rfl,?_,fun i hi=>?_⟩
 ·show w.heap.size≤(w.heap++os).size
  simp
 ·show(w.heap++os)[i]?=w.heap[i]?
  rw[Array.getElem?_append_left hi]
theorem Zq6(n:Nat)(hn:n≤4294967295)(w:World)(h:Tb w):Calls Tryz.prog 320 #[.int .i64 n,.int .i64 10] w fun e w'=>∃r:BA,e=.returned (.string r)∧tl r=Lib.decDigits n∧Nx w w':=by
 refine(Any.strconv_FormatInt_10 ZtM (n:Int) (by omega) (by omega) w h.1).mono ?_
 rintro e w' ⟨rfl,k,os,rfl⟩
 exact⟨_,rfl,by rw[tl_mk,Zn7],grow_nx⟩
theorem ZtN(n:Nat)(hn:n≤4294967295)(w:World)(h:Tb w):Calls Tryz.prog 147 #[.int .i64 n] w fun e w'=>∃r:BA,e=.returned (.string r)∧tl r=Lib.decDigits n∧Nx w w':=by
 refine(Any.strconv_Itoa ZtL (n:Int) (by omega) (by omega) w h.1).mono ?_
 rintro e w' ⟨rfl,k,os,rfl⟩
 exact⟨_,rfl,by rw[tl_mk,Zn7],grow_nx⟩
def beyondB(l:List UInt8):Bool:=l.any fun b=>decide (127<(b.toNat:Int))
theorem Zfg(s:BA)(w:World)(hs:s.size≤maxLen):Calls Tryz.prog 308 #[.string s] w fun e w'=>e=.returned (.bool (beyondB (tl s)))∧w=w':=by
 unfold maxLen at hs
 go_enter Tryz.func308,Tryz.ntmps308
 go_wp2
 go_loop [3] (fun i=>∃k:Nat,k≤s.size∧i=.int .i64 k∧beyondB ((tl s).take k)=false) (fun i=>s.size-(intOf i).toNat)
 case atStart=>exact⟨0,Xc _,rfl,rfl⟩
 case round=>
  obtain⟨k,hk,rfl,ha⟩:=hrel;have HA:=Za ha;clear ha
  by_cases hlt:k<s.size
  ·have hb:=bb s[k]
   by_cases hc:127<(s[k].toNat:Int)
   ·go_wp2
    go_ret
    exact⟨Zo (Zj8 (fun b=>decide (127<(b.toNat:Int))) s k hlt (decide_eq_true hc)).symm,rfl⟩
   ·go_wp2
    go_round
    case rel=>exact⟨k+1,by omega,by go_num,by rw[Zz s k hlt];unfold beyondB;rw[any_snoc];rw[show((tl s).take k).any (fun b=>decide (127<(b.toNat:Int)))=false from HA.out,Bool.false_or];exact decide_eq_false hc⟩
    case measure=>simp[intOf];omega
  ·go_wp2
   go_ret
   exact⟨Zo (by rw[←HA.out,Z3 _ _ (by omega)]),rfl⟩
def ZcP(l:List UInt8):Bool:=decide (4≤l.length)&&(l.take 4 == [120,110,45,45])
def ZtU(ps:List (List UInt8)):Bool:=ps.any ZcP
theorem ZhE(v:Value)(bs:LA)(w:World)(hv:Zcv w v bs)(hl:∀b∈bs,b.size≤1000000):Calls Tryz.prog 309 #[v] w fun e w'=>e=.returned (.bool (ZtU (bs.map tl)))∧w=w':=by
 obtain⟨ao,cap,rfl,hlc,hcap,hnone,hsome⟩:=hv;have HL:=Za hl;clear hl;unfold maxLen at hcap
 go_enter Tryz.func309,Tryz.ntmps309
 go_wp2
 go_loop [3] (fun i=>∃k:Nat,k≤bs.length∧i=.int .i64 k∧((bs.take k).map tl).any ZcP=false) (fun i=>bs.length-(intOf i).toNat)
 case atStart=>exact⟨0,Xc _,rfl,rfl⟩
 case round=>
  obtain⟨k,hk,rfl,ha⟩:=hrel;have HA:=Za ha;clear ha
  by_cases hlt:k<bs.length
  ·obtain⟨a,ha⟩:=ZR hlt hnone
   subst ha;obtain⟨b,off,rfl,hr⟩:=hsome a rfl;have hck:=hr.cell hlt;clear hnone hsome hr;have hz:=HL.out bs[k] (Xf hlt)
   have HS:=Za (show((bs.take (k+1)).map tl).any ZcP=ZcP (tl bs[k])by
    rw[List.take_succ_eq_append_getElem hlt,Xh,Xi,Xj,any_snoc,HA.out,Bool.false_or])
   have HX:=Za (show ZcP (tl bs[k])=true→ZtU (bs.map tl)=true from fun h=>Xk.2 ⟨tl bs[k],List.mem_map.2 ⟨_,Xf hlt,rfl⟩,h⟩)
   generalize bs[k]=p at *
   by_cases h4:4≤p.size
   ·by_cases hx:tl (p.extract 0 4)=[120,110,45,45]
    ·have HH:=Za (HX.out (by unfold ZcP;rw[tl_length,←tl_to p 4,hx];simp[h4]))
     have hx':=eqB hx;clear hx;go_wp2;go_ret;exact⟨Zo HH.out.symm,rfl⟩
    ·have HN:=Za (show ZcP (tl p)=false by
      unfold ZcP;rw[←tl_to p 4]
      simp[hx])
     have hx':=neB hx;clear hx;go_wp2
     go_round
     case rel=>exact⟨k+1,by omega,by go_num,by rw[HS.out];exact HN.out⟩
     case measure=>simp[intOf];omega
   ·have HN:=Za (show ZcP (tl p)=false by
      unfold ZcP;rw[tl_length]
      simp[h4])
    go_wp2
    go_round
    case rel=>exact⟨k+1,by omega,by go_num,by rw[HS.out];exact HN.out⟩
    case measure=>simp[intOf];omega
  ·go_wp2
   go_ret
   exact⟨Zo (by rw[←HA.out,List.take_of_length_le (by omega)];rfl),rfl⟩
def Zej:List UInt8:=[0,9,10,13,32,35,47,58,60,62,63,64,91,92,93,94,124]
def ZiQ(b:UInt8):Bool:=decide ((b.toNat:Int)<32)||(b.toNat:Int)==37||(b.toNat:Int)==127||among b.toNat Zej
def plainDom(l:List UInt8):Bool:=!(l.any ZiQ) && !l.isEmpty
theorem Zg7(s:BA)(w:World)(hs:s.size≤maxLen):Calls Tryz.prog 310 #[.string s] w fun e w'=>e=.returned (.bool (plainDom (tl s)))∧w=w':=by
 unfold maxLen at hs
 go_enter Tryz.func310,Tryz.ntmps310
 go_wp2
 go_loop [3] (fun i=>∃k:Nat,k≤s.size∧i=.int .i64 k∧((tl s).take k).any ZiQ=false) (fun i=>s.size-(intOf i).toNat)
 case atStart=>exact⟨0,Xc _,rfl,rfl⟩
 case round=>
  obtain⟨k,hk,rfl,ha⟩:=hrel;have HA:=Za ha;clear ha
  by_cases hlt:k<s.size
  ·have hb:=bb s[k]
   have HY:=Za (show ZiQ s[k]=true→plainDom (tl s)=false from fun h=>by unfold plainDom;rw[Zj8 ZiQ s k hlt h];rfl)
   have HN:=Za (show ZiQ s[k]=false→((tl s).take (k+1)).any ZiQ=false from fun h=>by rw[Zz s k hlt,any_snoc,HA.out,h];rfl)
   have HD:=Za (show ZiQ s[k]=(decide ((s[k].toNat:Int)<32)||(s[k].toNat:Int)==37||(s[k].toNat:Int)==127||among s[k].toNat Zej)from rfl)
   by_cases h32:(s[k].toNat:Int)<32
   ·have HH:=Za (HY.out (by rw[HD.out];simp[h32]))
    go_wp2;go_ret;exact⟨Zo HH.out.symm,rfl⟩
   cases h37:((s[k].toNat:Int)==37)
   ·cases h127:((s[k].toNat:Int)==127)
    ·cases hA:among (s[k].toNat:Int) Zej
     ·have HH:=Za (HN.out (by rw[HD.out,h37,h127,hA];simp[h32]))
      have HA2:=Za hA;clear hA
      go_wp2_with (go_at_call 194;refine(ZaB _ _ _ (Zf (by decide))).mono ?_;rintro e w' ⟨rfl,rfl⟩;rw[show among (s[k].toNat:Int) (tl ⟨#[0,9,10,13,32,35,47,58,60,62,63,64,91,92,93,94,124]⟩)=false from HA2.out])
      go_round
      case rel=>exact⟨k+1,by omega,by go_num,HH.out⟩
      case measure=>simp[intOf];omega
     ·have HH:=Za (HY.out (by rw[HD.out,hA];simp))
      have HA2:=Za hA;clear hA
      go_wp2_with (go_at_call 194;refine(ZaB _ _ _ (Zf (by decide))).mono ?_;rintro e w' ⟨rfl,rfl⟩;rw[show among (s[k].toNat:Int) (tl ⟨#[0,9,10,13,32,35,47,58,60,62,63,64,91,92,93,94,124]⟩)=true from HA2.out])
      go_ret;exact⟨Zo HH.out.symm,rfl⟩
    ·have HH:=Za (HY.out (by rw[HD.out,h127];simp))
     go_wp2;go_ret;exact⟨Zo HH.out.symm,rfl⟩
   ·have HH:=Za (HY.out (by rw[HD.out,h37];simp))
    go_wp2;go_ret;exact⟨Zo HH.out.symm,rfl⟩
  ·have HF:=Za (show plainDom (tl s)=!(tl s).isEmpty by
    have h:=HA.out
    rw[Z3 _ _ (by omega)]at h
    unfold plainDom
    rw[h];rfl)
   by_cases h0:s.size=0
   ·have h0':=Zl h0
    have HT:=Za (Zw h0);clear h0;go_wp2;go_ret
    exact⟨Zo (by rw[HF.out,HT.out];rfl),rfl⟩
   ·have h0':=Zh h0
    have HT:=Za (show(tl s).isEmpty=false by rw[←h0',ByteArray.toList_eq];rfl)
    clear h0;go_wp2;go_ret
    exact⟨Zo (by rw[HF.out,HT.out];rfl),rfl⟩
end Go.Proofs.YtchkhibgbnhjpabGreatDoor
