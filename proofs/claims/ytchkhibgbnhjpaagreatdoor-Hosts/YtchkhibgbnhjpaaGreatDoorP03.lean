import Derived.Test.YtchkhibgbnhjpaaGreatDoorP02
import Derived.Shelf.LaysM
import Derived.Shelf.Strconv.Itoa3
import Derived.Shelf.Strconv.Itoa4
open List renaming length_append→Xa,length_cons→Xb,append_assoc→Xd,length_drop→Xe,getElem_mem→Xf,length_nil→Xg,map_append→Xh,map_cons→Xi,map_nil→Xj,any_eq_true→Xk,append_nil→Xl
open Nat renaming zero_le→Xc
namespace Go.Proofs.YtchkhibgbnhjpaaGreatDoor
open Go.RowKit
open Go.RowKit Go.Shelf
set_option maxHeartbeats 2000000
set_option maxRecDepth 100000
def ZaO(n:Int):ByteArray:=
 if n=1 then⟨#[32,34,60,62,96]⟩else if n=2 then⟨#[32,34,35,60,62]⟩else if n=3 then⟨#[32,34,35,60,62,39]⟩
 else if n=4 then⟨#[32,34,35,60,62,63,94,123,125,96]⟩else if n=5 then⟨#[32,34,35,60,62,63,94,123,125,96,47,58,59,61,64,91,92,93,124]⟩
 else if n=6 then⟨#[32,34,35,60,62,63,94,123,125,96,47,58,59,61,64,91,92,93,124,36,37,38,43,44]⟩
 else if n=7 then⟨#[32,34,35,60,62,63,94,123,125,96,47,58,59,61,64,91,92,93,124,36,37,38,43,44,33,39,40,41,126]⟩else⟨#[]⟩
theorem Zra(n:Int):(ZaO n).size≤40:=by unfold ZaO;repeat (first|decide|split)
theorem ZmP(n:Int)(w:World):Calls Tryz.prog 116 #[.int .i64 n] w fun e w'=>e=.returned (.string (ZaO n))∧w=w':=by
 by_cases h1:n=1
 ·subst h1
  go_enter Tryz.func116,Tryz.ntmps116
  go_wp2;go_ret;exact⟨rfl,rfl⟩
 by_cases h2:n=2
 ·subst h2
  go_enter Tryz.func116,Tryz.ntmps116
  go_wp2;go_ret;exact⟨rfl,rfl⟩
 by_cases h3:n=3
 ·subst h3
  go_enter Tryz.func116,Tryz.ntmps116
  go_wp2;go_ret;exact⟨rfl,rfl⟩
 by_cases h4:n=4
 ·subst h4
  go_enter Tryz.func116,Tryz.ntmps116
  go_wp2;go_ret;exact⟨rfl,rfl⟩
 by_cases h5:n=5
 ·subst h5
  go_enter Tryz.func116,Tryz.ntmps116
  go_wp2;go_ret;exact⟨rfl,rfl⟩
 by_cases h6:n=6
 ·subst h6
  go_enter Tryz.func116,Tryz.ntmps116
  go_wp2;go_ret;exact⟨rfl,rfl⟩
 by_cases h7:n=7
 ·subst h7
  go_enter Tryz.func116,Tryz.ntmps116
  go_wp2;go_ret;exact⟨rfl,rfl⟩
 ·have HE:=Za (show ZaO n=⟨#[]⟩by simp[ZaO,h1,h2,h3,h4,h5,h6,h7])
  have b1:(n==1)=false:=by simp[h1]
  have b2:(n==2)=false:=by simp[h2]
  have b3:(n==3)=false:=by simp[h3]
  have b4:(n==4)=false:=by simp[h4]
  have b5:(n==5)=false:=by simp[h5]
  have b6:(n==6)=false:=by simp[h6]
  have b7:(n==7)=false:=by simp[h7]
  clear h1 h2 h3 h4 h5 h6 h7
  go_enter Tryz.func116,Tryz.ntmps116
  go_wp2;go_ret;exact⟨ZmL HE.out.symm,rfl⟩
theorem Zca(l:LB):(clean l).length≤3*l.length:=by
 generalize hn:l.length=n
 induction n using Nat.strongRecOn generalizing l with
 | ind n ih=>
  cases l with
  | nil=>rw[clean_nil];simp
  | cons c r=>
   obtain⟨h1,h2⟩:=ZgR (l:=c::r) (by simp)
   rw[Zd0 (c::r) (by simp)]
   have h3:=ih ((c::r).drop (measure (c::r)).1).length (by rw[Xe];omega) _ rfl
   rw[Xe]at h3;rw[Xa]
   split
   ·rw[List.length_take];omega
   ·simp only[Xb,Xg];omega
def Zaj(set:List UInt8)(b:UInt8):List UInt8:=
 if(b.toNat:Int)<32∨126<(b.toNat:Int)∨among (b.toNat:Int) set=true then [37,toB (capital ((b.toNat:Int)/16)),toB (capital ((b.toNat:Int)%16))]else [b]
def encB(set l:List UInt8):List UInt8:=l.flatMap (Zaj set)
theorem Zlj(set l:LB)(b:UInt8):encB set (l++[b])=encB set l++Zaj set b:=by simp[encB]
theorem Zko(set l:LB):(encB set l).length≤3*l.length:=by
 induction l with
 | nil=>simp[encB]
 | cons c r ih=>
  have h:(Zaj set c).length≤3:=by unfold Zaj;split<;>simp
  simp only[encB,List.flatMap_cons,Xa,Xb]at *
  omega
theorem Zrb{n:Int}(h0:0≤n)(h1:n<16):0≤capital n∧capital n≤255:=by unfold capital;split<;>omega
theorem Zif{ops:Array Oper}{rest:List Oper}{o:Oper}{a:Act}{Q:Exit→Act→World→Prop}(w:World)(y1 y2:Int)(h10:0≤y1)(h11:y1≤255)(h20:0≤y2)(h21:y2≤255)
  (hgd:o.guard=none) (s x:Operand) (ho:o.op=.call { callee:=.builtin .append,args:=#[s,x],argTypes:=#[109,109] })
  (base:Nat) (v:Value) (l:LB) (hs:a.eval s=v) (hown:ZfL w base v l) (hx:a.eval x=.slice (some ⟨w.heap.size,0,none⟩) 3 3)
  (hn:l.length<1000000000000) (hbase:base≤w.heap.size)
  (h:∀v' w',ZfL w' base v' (l++[37,toB y1,toB y2])→Below base w w'→Kp 5 w w'→wpList Tryz.prog ops Q rest (a.put o.dst v') w'):
  wpList Tryz.prog ops Q (o::rest) a (w.alloc (.cells #[.int .u8 37,.int .u8 y1,.int .u8 y2] 5)):=by
 refine Zdi _ _ _ (.int .u8 0) 1 Tryz.underlying109 Zoa rfl hgd s x ho base v l.length _ hs (World.ownsRow.alloc hown _) ⟨w.heap.size,0,none⟩ 3 3 [.int .u8 37,.int .u8 y1,.int .u8 y2] hx rfl (Zh8 (by simp) (by simp) (by simp)) (by simp[Value.oneCell']) (by omega) (by decide) (by simp;omega) ?_
 intro v' w' q1 q2 q3
 refine h v' w' ?_ (((Below.refl base w).alloc hbase _).trans q2) ((Kp.rfl.alloc _).then q3)
 have e2:Lib.byteCells [37,toB y1,toB y2]=[.int .u8 37,.int .u8 y1,.int .u8 y2]:=by simp only[Lib.byteCells,Xi,Xj,Zgd h10 h11,Zgd h20 h21];rfl
 unfold ZfL;rw[Xa,Lib.byteCells_append,e2];exact q1
theorem Zbk(s:BA)(n:Int)(w:World)(hs:s.size≤1000000):Calls Tryz.prog 87 #[.string s,.int .i64 n] w fun e w'=>∃r:BA,e=.returned (.string r)∧tl r=encB (tl (ZaO n)) (clean (tl s))∧Nx w w':=by
 have hset:=Zra n;generalize hS:ZaO n=set at *;have HS:=Za hS;clear hS
 go_enter Tryz.func87,Tryz.ntmps87
 go_wp2_with fail
 refine(Zd1 _ _ hs).mono ?_
 rintro e w1 ⟨c,rfl,hc,hn1⟩
 have hcs:c.size≤3000000:=by have h:=Zca (tl s);rw[←hc,tl_length,tl_length]at h;omega
 have HCL:=Za hc;clear hc
 go_wp2_with (go_at_call 116;refine(ZmP _ _).mono ?_;rintro e w' ⟨rfl,rfl⟩;rw[HS.out])
 go_loopw [7,8] (fun o i wr=>∃k:Nat,k≤c.size∧i=.int .i64 k∧ZfL wr w1.heap.size o (encB (tl set) ((tl c).take k))∧Nx w1 wr) (fun _ i _=>c.size-(intOf i).toNat)
 case atStart=>exact⟨0,Xc _,rfl,ZeP w1,Nx.rfl.alloc _⟩
 case round=>
  obtain⟨k,hk,rfl,hown,hnx⟩:=hrel
  by_cases hlt:k<c.size
  ·have hb:=bb c[k]
   have HTK:=Za ((congrArg (encB (tl set)) (ZJ c k hlt)).trans (Zlj _ _ _));have hz:=hnx.size
   have hsz:(encB (tl set) ((tl c).take k)).length<1000000000000:=by have h:=Zko (tl set) ((tl c).take k);have:=List.length_take_le k (tl c);omega
   have HO:=Za hown;have HN:=Za hnx;clear hown hnx
   by_cases hit:(c[k].toNat:Int)<32∨126<(c[k].toNat:Int)∨among (c[k].toNat:Int) (tl set)=true
   ·have HB:=Za (show Zaj (tl set) c[k]=[37,toB (capital ((c[k].toNat:Int)/16)),toB (capital ((c[k].toNat:Int)%16))]by unfold Zaj;rw[if_pos hit])
    obtain⟨hc1,hc2⟩:=Zrb (n:=(c[k].toNat:Int)/16) (by omega) (by omega)
    obtain⟨hc3,hc4⟩:=Zrb (n:=(c[k].toNat:Int)%16) (by omega) (by omega)
    by_cases h32:(c[k].toNat:Int)<32
    ·clear hit
     go_wp2_with (first|(go_at_call 117;refine(ZaI _ _ _ (Ze (by omega))).mono ?_;rintro e w' ⟨rfl,rfl⟩)|(go_at_call 118;refine(ZfO _ _ (by omega) (by omega)).mono ?_;rintro e w' ⟨rfl,rfl⟩)|(at_builtin;go_must (refine Zif wr (capital ((c[k].toNat:Int)/16)) (capital ((c[k].toNat:Int)%16)) hc1 hc2 hc3 hc4 rfl _ _ rfl w1.heap.size _ _ rfl HO.out rfl hsz hz ?_;intro v' w2 ho1 hb1 hk1;have HO1:=Za ho1;clear ho1)))
     go_roundw
     case rel=>exact⟨k+1,by omega,by go_num,by rw[HTK.out,HB.out];exact HO1.out,HN.out.trans hb1⟩
     case measure=>simp[intOf];omega
    by_cases h126:126<(c[k].toNat:Int)
    ·clear hit
     go_wp2_with (first|(go_at_call 117;refine(ZaI _ _ _ (Ze (by omega))).mono ?_;rintro e w' ⟨rfl,rfl⟩)|(go_at_call 118;refine(ZfO _ _ (by omega) (by omega)).mono ?_;rintro e w' ⟨rfl,rfl⟩)|(at_builtin;go_must (refine Zif wr (capital ((c[k].toNat:Int)/16)) (capital ((c[k].toNat:Int)%16)) hc1 hc2 hc3 hc4 rfl _ _ rfl w1.heap.size _ _ rfl HO.out rfl hsz hz ?_;intro v' w2 ho1 hb1 hk1;have HO1:=Za ho1;clear ho1)))
     go_roundw
     case rel=>exact⟨k+1,by omega,by go_num,by rw[HTK.out,HB.out];exact HO1.out,HN.out.trans hb1⟩
     case measure=>simp[intOf];omega
    ·have hin:among (c[k].toNat:Int) (tl set)=true:=by
      rcases hit with h|h|h
      ·exact absurd h h32
      ·exact absurd h h126
      ·exact h
     clear hit
     go_wp2_with (first|(go_at_call 117;refine(ZaI _ _ _ (Ze (by omega))).mono ?_;rintro e w' ⟨rfl,rfl⟩)|(go_at_call 118;refine(ZfO _ _ (by omega) (by omega)).mono ?_;rintro e w' ⟨rfl,rfl⟩)|(at_builtin;go_must (refine Zif wr (capital ((c[k].toNat:Int)/16)) (capital ((c[k].toNat:Int)%16)) hc1 hc2 hc3 hc4 rfl _ _ rfl w1.heap.size _ _ rfl HO.out rfl hsz hz ?_;intro v' w2 ho1 hb1 hk1;have HO1:=Za ho1;clear ho1)))
     go_roundw
     case rel=>exact⟨k+1,by omega,by go_num,by rw[HTK.out,HB.out];exact HO1.out,HN.out.trans hb1⟩
     case measure=>simp[intOf];omega
   ·have HB:=Za (show Zaj (tl set) c[k]=[c[k]]by unfold Zaj;rw[if_neg hit])
    have h32:¬(c[k].toNat:Int)<32:=fun h=>hit (Or.inl h)
    have h126:¬126<(c[k].toNat:Int):=fun h=>hit (Or.inr (Or.inl h))
    have hin:among (c[k].toNat:Int) (tl set)=false:=by cases h:among (c[k].toNat:Int) (tl set);rfl;exact absurd (Or.inr (Or.inr h)) hit
    have HT2:=Za (Zgf c[k]);clear hit
    go_wp2_with (first|(go_at_call 117;refine(ZaI _ _ _ (Ze (by omega))).mono ?_;rintro e w' ⟨rfl,rfl⟩)|(at_builtin;go_must (refine Zb6 wr (c[k].toNat:Int) rfl _ _ rfl w1.heap.size _ _ rfl HO.out rfl (by omega) (by omega) (Nat.lt_of_lt_of_le hsz (by decide)) hz ?_;intro v' w2 ho1 hb1 hk1;have HO1:=Za ho1;clear ho1)))
    go_roundw
    case rel=>exact⟨k+1,by omega,by go_num,by rw[HTK.out,HB.out];have h:=HO1.out;rw[HT2.out]at h;exact h,HN.out.trans hb1⟩
    case measure=>simp[intOf];omega
  ·rw[ZaB c k (by omega)]at hown
   have hcv:=Zem hown;clear hown;go_wp2;go_ret
   exact⟨_,rfl,by rw[tl_mk,HCL.out],hn1.then hnx⟩
def Zdl(l:List UInt8):Int×Bool:=
 match l with
 | c::x::y::_=>if c=37∧(ZS x.toNat 16).2=true∧(ZS y.toNat 16).2=true then((ZS x.toNat 16).1*(16:Int)+(ZS y.toNat 16).1,true)else(0,false)
 | _=>(0,false)
theorem Zrc(l:LB):0≤(Zdl l).1∧(Zdl l).1≤255:=by
 unfold Zdl
 split
 ·split
  ·rename_i x y r h
   have h1:=ZbA (x.toNat:Int) 16;have h2:=ZbA (y.toNat:Int) 16;have h3:=h1.2 h.2.1;have h4:=h2.2 h.2.2;simp only
   omega
  ·exact⟨by decide,by decide⟩
 ·exact⟨by decide,by decide⟩
theorem Zep(l:LB)(h:l.length<3):Zdl l=(0,false):=by
 match l,h with
 | [],_=>rfl
 | [_],_=>rfl
 | [_,_],_=>rfl
theorem ZmQ(s:BA)(h:2<s.size):Zdl (tl s)=if s[0]=37∧(ZS (s[1].toNat:Int) 16).2=true∧(ZS (s[2].toNat:Int) 16).2=true then((ZS (s[1].toNat:Int) 16).1*(16:Int)+(ZS (s[2].toNat:Int) 16).1,true)else(0,false):=by
 have e0:=ZM s 0 (by omega)
 rw[List.drop_zero,ZM s 1 (by omega),ZM s 2 (by omega)]at e0
 rw[e0]
 rfl
theorem Zyt{b:UInt8}(h:¬b=37):((b.toNat:Int) != 37)=true:=by
 simp only[bne_iff_ne,ne_eq];intro h2
 exact h (UInt8.toNat_inj.1 (by show b.toNat=37;omega))
theorem Zkp(s:BA)(w:World)(hs:s.size≤1000000):Calls Tryz.prog 229 #[.string s] w fun e w'=>e=.returned (.tuple #[.int .u8 (Zdl (tl s)).1,.bool (Zdl (tl s)).2])∧w=w':=by
 by_cases h3:s.size<3
 ·have HE:=Za (Zep (tl s) (by rw[tl_length];exact h3))
  go_enter Tryz.func229,Tryz.ntmps229
  go_wp2;go_ret2
  exact⟨by rw[HE.out];rfl,rfl⟩
 have h3':2<s.size:=by omega
 have HC:=Za (ZmQ s h3');have hb1:=bb s[1];have hb2:=bb s[2]
 by_cases hp:s[0]=37
 ·have hp':((s[0].toNat:Int) != 37)=false:=by rw[hp];rfl
  obtain⟨q1,hq1⟩:∃q,ZS (s[1].toNat:Int) 16=q:=⟨_,rfl⟩;obtain⟨q2,hq2⟩:∃q,ZS (s[2].toNat:Int) 16=q:=⟨_,rfl⟩;have r1:=ZbA (s[1].toNat:Int) 16;have r2:=ZbA (s[2].toNat:Int) 16;rw[hq1]at r1 HC;rw[hq2]at r2 HC;have HQ1:=Za hq1;have HQ2:=Za hq2;clear hq1 hq2;obtain⟨d1,k1⟩:=q1;obtain⟨d2,k2⟩:=q2;simp only at r1 r2 HC
  cases k1
  ·have HE:=Za (show Zdl (tl s)=(0,false)by rw[HC.out,if_neg (by simp)])
   clear hp
   go_enter Tryz.func229,Tryz.ntmps229
   go_wp2_with fail
   refine(Zao _ _ _ (by omega) (by omega)).mono ?_
   rintro e w' ⟨rfl,rfl⟩;rw[HQ1.out];go_wp2_with fail
   refine(Zao _ _ _ (by omega) (by omega)).mono ?_
   rintro e w' ⟨rfl,rfl⟩;rw[HQ2.out];go_wp2;go_ret2
   exact⟨by rw[HE.out];rfl,rfl⟩
  cases k2
  ·have HE:=Za (show Zdl (tl s)=(0,false)by rw[HC.out,if_neg (by simp)])
   clear hp
   go_enter Tryz.func229,Tryz.ntmps229
   go_wp2_with fail
   refine(Zao _ _ _ (by omega) (by omega)).mono ?_
   rintro e w' ⟨rfl,rfl⟩;rw[HQ1.out];go_wp2_with fail
   refine(Zao _ _ _ (by omega) (by omega)).mono ?_
   rintro e w' ⟨rfl,rfl⟩;rw[HQ2.out];go_wp2;go_ret2
   exact⟨by rw[HE.out];rfl,rfl⟩
  ·have HE:=Za (show Zdl (tl s)=(d1*16+d2,true)by rw[HC.out,if_pos ⟨hp,rfl,rfl⟩])
   obtain⟨r10,r11⟩:=r1;obtain⟨r20,r21⟩:=r2;have r12:=r11 rfl;have r22:=r21 rfl;clear hp r11 r21
   go_enter Tryz.func229,Tryz.ntmps229
   go_wp2_with fail
   refine(Zao _ _ _ (by omega) (by omega)).mono ?_
   rintro e w' ⟨rfl,rfl⟩;rw[HQ1.out];go_wp2_with fail
   refine(Zao _ _ _ (by omega) (by omega)).mono ?_
   rintro e w' ⟨rfl,rfl⟩;rw[HQ2.out];go_wp2;go_ret2
   exact⟨by rw[HE.out];rfl,rfl⟩
 ·have HE:=Za (show Zdl (tl s)=(0,false)by rw[HC.out,if_neg (fun h=>hp h.1)])
  have hp':=Zyt hp;clear hp
  go_enter Tryz.func229,Tryz.ntmps229
  go_wp2;go_ret2
  exact⟨by rw[HE.out];rfl,rfl⟩
def ZF(l:List UInt8):List UInt8:=
 match l with
 | []=>[]
 | c::r=>if(Zdl (c::r)).2 then toB (Zdl (c::r)).1::ZF (r.drop 2)else c::ZF r
 termination_by l.length
 decreasing_by all_goals simp_wf<;>omega
theorem ZeQ(c:UInt8)(r:LB):ZF (c::r)=if(Zdl (c::r)).2 then toB (Zdl (c::r)).1::ZF (r.drop 2)else c::ZF r:=by conv=>lhs;unfold ZF
theorem Zeq:ZF []=[]:=by unfold ZF;rfl
theorem Zrd{l:LB}(h:(Zdl l).2=true):3≤l.length:=by
 by_cases hl:l.length<3
 ·rw[Zep l hl]at h;cases h
 ·omega
theorem ZpD(s:BA)(w:World)(hs:s.size≤1000000):Calls Tryz.prog 202 #[.string s] w fun e w'=>∃r:BA,e=.returned (.string r)∧tl r=ZF (tl s)∧Nx w w':=by
 go_enter Tryz.func202,Tryz.ntmps202
 go_wp2
 go_loopw [3,4] (fun o i wr=>∃(k:Nat) (P:LB),k≤s.size∧i=.int .i64 k∧ZF (tl s)=P++ZF ((tl s).drop k)∧ZfL wr w.heap.size o P∧P.length≤k∧Nx w wr) (fun _ i _=>s.size-(intOf i).toNat)
 case atStart=>exact⟨0,[],Xc _,rfl,by simp,ZeP w,by simp,Nx.rfl.alloc _⟩
 case round=>
  obtain⟨k,P,hk,rfl,hE,hown,hP,hnx⟩:=hrel
  by_cases hlt:k<s.size
  ·have HO:=Za hown
   have HN:=Za hnx;have hz:=hnx.size
   have hPl:P.length<1099511627776:=by omega
   have hb:=bb s[k];have HST:=Za (ZeQ s[k] ((tl s).drop (k+1)));rw[←ZM s k hlt]at HST;have HX:=Za (tl_from s k);have HE:=Za hE;have HCL:=Za (Zrd (l:=(tl s).drop k));obtain⟨hr0,hr1⟩:=Zrc ((tl s).drop k);clear hE hown hnx;go_wp2_with fail
   refine(Zkp _ _ (by simp;omega)).mono ?_
   rintro e w' ⟨rfl,rfl⟩;rw[HX.out];generalize hq:Zdl ((tl s).drop k)=q at *;clear hq;obtain⟨y,ok⟩:=q;simp only at hr0 hr1 HST HCL
   cases ok
   ·have HT2:=Za (Zgf s[k])
    go_wp2_with (at_builtin;go_must (refine Zb6 wr (s[k].toNat:Int) rfl _ _ rfl w.heap.size u3 P rfl HO.out rfl (by omega) (by omega) hPl hz ?_;intro v' w2 ho2 hb2 _;have HO2:=Za ho2;clear ho2))
    go_roundw
    case rel=>exact⟨k+1,P++[s[k]],by omega,by go_num,by rw[HE.out,HST.out,if_neg (by simp),Xd];rfl,by have h:=HO2.out;rw[HT2.out]at h;exact h,by simp;omega,HN.out.trans hb2⟩
    case measure=>simp[intOf];omega
   ·have h3:=HCL.out rfl
    rw[Xe,tl_length]at h3
    go_wp2_with (at_builtin;go_must (refine Zb6 wr y rfl _ _ rfl w.heap.size u3 P rfl HO.out rfl (by omega) (by omega) hPl hz ?_;intro v' w2 ho2 hb2 _;have HO2:=Za ho2;clear ho2))
    go_roundw
    case rel=>exact⟨k+3,P++[toB y],by omega,by go_num,by rw[HE.out,HST.out,if_pos trivial,Xd,List.drop_drop];rfl,HO2.out,by simp;omega,HN.out.trans hb2⟩
    case measure=>simp[intOf];omega
  ·rw[ZD s k (by omega)]at hE
   have hcv:=Zem hown;clear hown;go_wp2;go_ret
   exact⟨_,rfl,by rw[hE,tl_mk,Zeq,Xl],hnx⟩
def bsplit(n:Int)(l:List UInt8):List (List UInt8):=
 match l with
 | []=>[[]]
 | c::r=>if isB n c then []::bsplit n r else
  match bsplit n r with
  | []=>[[c]]
  | p::q=>(c::p)::q
theorem Zgg(n:Int)(l:LB):∃p q,bsplit n l=p::q:=by
 cases l with
 | nil=>exact⟨[],[],rfl⟩
 | cons c r=>
  rw[bsplit]
  split
  ·exact⟨_,_,rfl⟩
  ·split<;>exact⟨_,_,rfl⟩
theorem ZjB(n:Int)(l:LB):bsplit n l=if(bcut (isB n) l).2.2 then(bcut (isB n) l).1::bsplit n (bcut (isB n) l).2.1 else [(bcut (isB n) l).1]:=by
 induction l with
 | nil=>simp[bsplit,bcut]
 | cons c r ih=>
  cases h:isB n c
  ·have hc:bcut (isB n) (c::r)=(c::(bcut (isB n) r).1,(bcut (isB n) r).2):=by simp[bcut,h]
   rw[bsplit,if_neg (by simp[h]),hc,ih]
   cases h2:(bcut (isB n) r).2.2<;>simp
  ·have hc:bcut (isB n) (c::r)=([],r,true):=by simp[bcut,h]
   rw[bsplit,if_pos h,hc]
   simp
theorem Z7(p:UInt8→Bool)(l:LB):(bcut p l).1.length+(bcut p l).2.1.length≤l.length∧((bcut p l).2.2=true→(bcut p l).2.1.length<l.length):=by
 induction l with
 | nil=>simp[bcut]
 | cons c r ih=>
  cases h:p c
  ·have hc:bcut p (c::r)=(c::(bcut p r).1,(bcut p r).2):=by simp[bcut,h]
   rw[hc];simp only[Xb]
   exact⟨by omega,fun hh=>by have:=ih.2 hh;omega⟩
  ·have hc:bcut p (c::r)=([],r,true):=by simp[bcut,h]
   rw[hc]
   simp
abbrev ZdA(w:World)(base:Nat)(v:Value)(l:List ByteArray):Prop:=w.ownsRow base 9 1 v l.length (l.map Value.string)
theorem ZcG{ops:Array Oper}{rest:List Oper}{o:Oper}{a:Act}{Q:Exit→Act→World→Prop}(w:World)(y:BA)
  (hgd:o.guard=none) (s x:Operand) (ho:o.op=.call { callee:=.builtin .append,args:=#[s,x],argTypes:=#[52,52] })
  (base:Nat) (v:Value) (l:LA) (hs:a.eval s=v) (hown:ZdA w base v l) (hx:a.eval x=.slice (some ⟨w.heap.size,0,none⟩) 1 1)
  (hn:l.length<1099511627776) (hbase:base≤w.heap.size)
  (h:∀v' w',ZdA w' base v' (l++[y])→Below base w w'→Kp 9 w w'→wpList Tryz.prog ops Q rest (a.put o.dst v') w'):
  wpList Tryz.prog ops Q (o::rest) a (w.alloc (.cells #[.string y] 9)):=by
 refine Zdi _ _ _ (.string ByteArray.empty) 16 Tryz.underlying52 ZfK rfl hgd s x ho base v l.length _ hs (World.ownsRow.alloc hown _) ⟨w.heap.size,0,none⟩ 1 1 [.string y] hx rfl (Zgb (by simp)) (by simp[Value.oneCell']) (by omega) (by decide) (by simp;omega) ?_
 intro v' w' h1 h2 h3
 refine h v' w' ?_ (((Below.refl base w).alloc hbase _).trans h2) ((Kp.rfl.alloc _).then h3)
 unfold ZdA;rw[Xa,Xh];exact h1
theorem ZpE(w:World):ZdA (w.alloc (.cells #[] 9)) w.heap.size (.slice (some ⟨w.heap.size,0,none⟩) 0 0) []:=
 World.ownsRow_made w #[] 0 (Nat.le_refl _) (Xc _) rfl
def Zoc:Value→Nat | .string s=>s.size|_=>0
def Zod:Value→Bool | .bool b=>b|_=>false
theorem Zig(s:BA)(n:Int)(w:World)(hs:s.size≤1000000):Calls Tryz.prog 162 #[.string s,.int .u8 n] w fun e w'=>∃v bs,e=.returned v∧ZcD w' v bs∧bs.map tl=bsplit n (tl s)∧Nx w w':=by
 go_enter Tryz.func162,Tryz.ntmps162
 go_wp2
 go_loopw [5,6,7] (fun o x m wr=>∃(bs:LA) (q:BA) (more:Bool),x=.string q∧m=.bool more∧ZdA wr w.heap.size o bs∧bs.length+q.size≤s.size+1∧bsplit n (tl s)=bs.map tl++(if more then bsplit n (tl q)else [])∧(more=true→bs.length+q.size≤s.size)∧Nx w wr)
  (fun _ x m _=>if Zod m then Zoc x+1 else 0)
 case atStart=>exact⟨[],s,true,rfl,rfl,ZpE w,by simp,by simp,fun _=>by simp,Nx.rfl.alloc _⟩
 case round=>
  obtain⟨bs,q,more,rfl,rfl,hown,hl,hE,hm,hnx⟩:=hrel
  cases more
  ·simp only[Bool.false_eq_true,if_false,Xl]at hE
   go_wp2;go_ret;exact⟨_,_,rfl,Zy hown,hE.symm,hnx⟩
  ·have hl2:=hm rfl
   simp only[if_true]at hE;have HE:=Za hE;have HO:=Za hown;have HN:=Za hnx;clear hE hown hnx hm;have HC:=Za (ZjB n (tl q));have HL:=Za (Z7 (isB n) (tl q));go_wp2_with fail
   refine(ZdE _ _ _ (Ze (by omega))).mono ?_
   rintro e w1 ⟨⟨a,b,rfl,ha,hb⟩,hn1⟩;have HA:=Za ha;have HB:=Za hb
   have hla:a.size=(bcut (isB n) (tl q)).1.length:=by rw[←ha,tl_length]
   have hlb:b.size=(bcut (isB n) (tl q)).2.1.length:=by rw[←hb,tl_length]
   have HLA:=Za hla;have HLB:=Za hlb;clear ha hb hla hlb;generalize bcut (isB n) (tl q)=c at *;obtain⟨c1,c2,found⟩:=c;simp only at *;have HO1:=Za (ZbK HO.out hn1);have HN1:=Za (HN.out.then hn1);have hz:=HN1.out.size;clear hn1
   have hbl:bs.length<1099511627776:=by omega
   go_wp2_with (at_builtin;go_must (refine ZcG w1 a rfl _ _ rfl w.heap.size u5 bs rfl HO1.out rfl hbl hz ?_;intro v' w2 ho2 hb2 _;have HO2:=Za ho2;clear ho2))
   go_roundw
   case rel=>
    refine⟨bs++[a],b,found,rfl,rfl,HO2.out,?_,?_,?_,HN1.out.trans hb2⟩
    ·have h:=HL.out.1;have h1:=HLA.out;have h2:=HLB.out;rw[tl_length]at h;simp only[Xa,Xb,Xg];omega
    ·rw[HE.out,HC.out,Xh,Xd,Xi,Xj,HA.out,HB.out]
     cases found<;>rfl
    ·intro hf
     have h:=HL.out.2 hf;have h2:=HLB.out;rw[tl_length]at h;simp only[Xa,Xb,Xg]
     omega
   case measure=>
    have h:=HL.out;have h2:=HLB.out;rw[tl_length]at h;simp only[Zod,Zoc]
    cases found
    ·simp
    ·have:=h.2 rfl
     simp;omega
theorem any_snoc{α:Type}(p:α→Bool)(l:List α)(b:α):(l++[b]).any p=(l.any p||p b):=by simp
theorem Zkq(p:UInt8→Bool)(s:BA)(k:Nat)(h:k<s.size)(he:p s[k]=true):(tl s).any p=true:=
 Xk.2 ⟨s[k],by rw[←ZeF s k h];exact Xf _,he⟩
theorem Zau(s:BA)(k:Nat):(s.extract k s.size).size=s.size-k:=by rw[ByteArray.size_extract];omega
theorem Zv9(s:BA)(k:Nat):(s.extract 0 k).size≤s.size:=by rw[ByteArray.size_extract];omega
theorem Zgh(s:BA)(a b:Nat):(s.extract a b).size≤s.size:=by rw[ByteArray.size_extract];omega
theorem Zer(s:BA)(k:Nat)(h:k<s.size):(tl s).getD k 0=s[k]:=by rw[List.getD_eq_getElem?_getD,List.getElem?_eq_getElem (by rw[tl_length];exact h),ZeF s k h];rfl
theorem Zih{a b:Int×Bool}(h:a=b):Ending.returned (.tuple #[.int .i64 a.1,.bool a.2])=.returned (.tuple #[.int .i64 b.1,.bool b.2]):=by rw[h]
theorem ZcX{s:BA}(h:¬s.size=0):¬tl s=[]:=by intro e;have:=tl_length s;rw[e]at this;simp at this;omega
theorem ZtN{x y:Int}(h:(x==y)=true):(x != y)=false:=by simp only[bne,h];rfl
theorem ZgP{x y:Int}(h:(x==y)=false):(x != y)=true:=by simp only[bne,h];rfl
def Zlk:Go.Shelf.Ren:=⟨fun|171=>59|243=>89|246=>119|283=>158|284=>159|285=>160|286=>161|129=>197|317=>196|318=>198|319=>199|320=>200|337=>227|338=>228|n=>n,fun|3=>3|9=>9|2=>2|4=>4|171=>147|0=>0|53=>148|37=>109|5=>5|173=>151|212=>174|51=>175|20=>20|213=>176|46=>118|232=>198|233=>199|n=>n,fun|17=>0|18=>1|19=>2|n=>n⟩
theorem ZtW:Go.Proofs.LaysM.n171 Tryz.prog Zlk:={
 mixed:=by kernel_rfl
 f129:=Tryz.func197.trans (congrArg some (by kernel_rfl))
 f171:=Tryz.func59.trans (congrArg some (by kernel_rfl))
 f243:=Tryz.func89.trans (congrArg some (by kernel_rfl))
 f246:=Tryz.func119.trans (congrArg some (by kernel_rfl))
 f283:=Tryz.func158.trans (congrArg some (by kernel_rfl))
 f284:=Tryz.func159.trans (congrArg some (by kernel_rfl))
 f285:=Tryz.func160.trans (congrArg some (by kernel_rfl))
 f286:=Tryz.func161.trans (congrArg some (by kernel_rfl))
 f317:=Tryz.func196.trans (congrArg some (by kernel_rfl))
 f318:=Tryz.func198.trans (congrArg some (by kernel_rfl))
 f319:=Tryz.func199.trans (congrArg some (by kernel_rfl))
 f320:=Tryz.func200.trans (congrArg some (by kernel_rfl))
 f337:=Tryz.func227.trans (congrArg some (by kernel_rfl))
 f338:=Tryz.func228.trans (congrArg some (by kernel_rfl))
 t0:=Tryz.underlying0
 a0:=Tryz.isAgg0
 z0:=Tryz.sizeOf0
 v0:=Tryz.zeroValue0
 t2:=Tryz.underlying2
 a2:=Tryz.isAgg2
 z2:=Tryz.sizeOf2
 v2:=Tryz.zeroValue2
 t3:=Tryz.underlying3
 a3:=Tryz.isAgg3
 z3:=Tryz.sizeOf3
 v3:=Tryz.zeroValue3
 t4:=Tryz.underlying4
 a4:=Tryz.isAgg4
 z4:=Tryz.sizeOf4
 v4:=Tryz.zeroValue4
 t5:=Tryz.underlying5
 a5:=Tryz.isAgg5
 z5:=Tryz.sizeOf5
 v5:=Tryz.zeroValue5
 t9:=Tryz.underlying9
 a9:=Tryz.isAgg9
 z9:=Tryz.sizeOf9
 v9:=Tryz.zeroValue9
 t20:=Tryz.underlying20
 a20:=Tryz.isAgg20
 z20:=Tryz.sizeOf20
 v20:=Tryz.zeroValue20
 t37:=Tryz.underlying109
 a37:=Tryz.isAgg109
 z37:=Tryz.sizeOf109
 v37:=Tryz.zeroValue109
 t46:=Tryz.underlying118
 a46:=Tryz.isAgg118
 z46:=Tryz.sizeOf118
 v46:=Tryz.zeroValue118
 t51:=Tryz.underlying175
 a51:=Tryz.isAgg175
 z51:=Tryz.sizeOf175
 v51:=Tryz.zeroValue175
 t53:=Tryz.underlying148
 a53:=Tryz.isAgg148
 z53:=Tryz.sizeOf148
 v53:=Tryz.zeroValue148
 t171:=Tryz.underlying147
 a171:=Tryz.isAgg147
 z171:=Tryz.sizeOf147
 v171:=Tryz.zeroValue147
 t173:=Tryz.underlying151
 a173:=Tryz.isAgg151
 z173:=Tryz.sizeOf151
 v173:=Tryz.zeroValue151
 t212:=Tryz.underlying174
 a212:=Tryz.isAgg174
 z212:=Tryz.sizeOf174
 v212:=Tryz.zeroValue174
 t213:=Tryz.underlying176
 a213:=Tryz.isAgg176
 z213:=Tryz.sizeOf176
 t232:=Tryz.underlying198
 a232:=Tryz.isAgg198
 z232:=Tryz.sizeOf198
 v232:=Tryz.zeroValue198
 t233:=Tryz.underlying199
 a233:=Tryz.isAgg199
 z233:=Tryz.sizeOf199
 v233:=Tryz.zeroValue199
 g17:=by kernel_rfl
 g18:=by kernel_rfl
 g19:=by kernel_rfl
 i0:=by kernel_rfl
 i2:=by kernel_rfl
 i3:=by kernel_rfl
 i4:=by kernel_rfl
 i5:=by kernel_rfl
 i9:=by kernel_rfl
 i20:=by kernel_rfl
 i37:=by kernel_rfl
 i46:=by kernel_rfl
 i51:=by kernel_rfl
 i53:=by kernel_rfl
 i171:=by kernel_rfl
 i173:=by kernel_rfl
 i212:=by kernel_rfl
 i232:=by kernel_rfl
 i233:=by kernel_rfl
 m17:=by kernel_rfl
 m18:=by kernel_rfl
 m19:=by kernel_rfl }
def Zll:Go.Shelf.Ren:=⟨fun|173=>254|246=>119|283=>158|284=>159|285=>160|286=>161|129=>197|317=>196|318=>198|319=>199|320=>200|337=>227|338=>228|n=>n,fun|2=>2|3=>3|9=>9|4=>4|171=>147|0=>0|53=>148|37=>109|5=>5|173=>151|212=>174|51=>175|20=>20|213=>176|46=>118|232=>198|233=>199|n=>n,fun|17=>0|18=>1|19=>2|n=>n⟩
theorem ZtX:Go.Proofs.LaysM.n173 Tryz.prog Zll:={
 mixed:=by kernel_rfl
 f129:=Tryz.func197.trans (congrArg some (by kernel_rfl))
 f173:=Tryz.func254.trans (congrArg some (by kernel_rfl))
 f246:=Tryz.func119.trans (congrArg some (by kernel_rfl))
 f283:=Tryz.func158.trans (congrArg some (by kernel_rfl))
 f284:=Tryz.func159.trans (congrArg some (by kernel_rfl))
 f285:=Tryz.func160.trans (congrArg some (by kernel_rfl))
 f286:=Tryz.func161.trans (congrArg some (by kernel_rfl))
 f317:=Tryz.func196.trans (congrArg some (by kernel_rfl))
 f318:=Tryz.func198.trans (congrArg some (by kernel_rfl))
 f319:=Tryz.func199.trans (congrArg some (by kernel_rfl))
 f320:=Tryz.func200.trans (congrArg some (by kernel_rfl))
 f337:=Tryz.func227.trans (congrArg some (by kernel_rfl))
 f338:=Tryz.func228.trans (congrArg some (by kernel_rfl))
 t0:=Tryz.underlying0
 a0:=Tryz.isAgg0
 z0:=Tryz.sizeOf0
 v0:=Tryz.zeroValue0
 t2:=Tryz.underlying2
 a2:=Tryz.isAgg2
 z2:=Tryz.sizeOf2
 v2:=Tryz.zeroValue2
 t3:=Tryz.underlying3
 a3:=Tryz.isAgg3
 z3:=Tryz.sizeOf3
 v3:=Tryz.zeroValue3
 t4:=Tryz.underlying4
 a4:=Tryz.isAgg4
 z4:=Tryz.sizeOf4
 v4:=Tryz.zeroValue4
 t5:=Tryz.underlying5
 a5:=Tryz.isAgg5
 z5:=Tryz.sizeOf5
 v5:=Tryz.zeroValue5
 t9:=Tryz.underlying9
 a9:=Tryz.isAgg9
 z9:=Tryz.sizeOf9
 v9:=Tryz.zeroValue9
 t20:=Tryz.underlying20
 a20:=Tryz.isAgg20
 z20:=Tryz.sizeOf20
 v20:=Tryz.zeroValue20
 t37:=Tryz.underlying109
 a37:=Tryz.isAgg109
 z37:=Tryz.sizeOf109
 v37:=Tryz.zeroValue109
 t46:=Tryz.underlying118
 a46:=Tryz.isAgg118
 z46:=Tryz.sizeOf118
 v46:=Tryz.zeroValue118
 t51:=Tryz.underlying175
 a51:=Tryz.isAgg175
 z51:=Tryz.sizeOf175
 v51:=Tryz.zeroValue175
 t53:=Tryz.underlying148
 a53:=Tryz.isAgg148
 z53:=Tryz.sizeOf148
 v53:=Tryz.zeroValue148
 t171:=Tryz.underlying147
 a171:=Tryz.isAgg147
 z171:=Tryz.sizeOf147
 v171:=Tryz.zeroValue147
 t173:=Tryz.underlying151
 a173:=Tryz.isAgg151
 z173:=Tryz.sizeOf151
 v173:=Tryz.zeroValue151
 t212:=Tryz.underlying174
 a212:=Tryz.isAgg174
 z212:=Tryz.sizeOf174
 v212:=Tryz.zeroValue174
 t213:=Tryz.underlying176
 a213:=Tryz.isAgg176
 z213:=Tryz.sizeOf176
 t232:=Tryz.underlying198
 a232:=Tryz.isAgg198
 z232:=Tryz.sizeOf198
 v232:=Tryz.zeroValue198
 t233:=Tryz.underlying199
 a233:=Tryz.isAgg199
 z233:=Tryz.sizeOf199
 v233:=Tryz.zeroValue199
 g17:=by kernel_rfl
 g18:=by kernel_rfl
 g19:=by kernel_rfl
 i0:=by kernel_rfl
 i2:=by kernel_rfl
 i3:=by kernel_rfl
 i4:=by kernel_rfl
 i5:=by kernel_rfl
 i9:=by kernel_rfl
 i20:=by kernel_rfl
 i37:=by kernel_rfl
 i46:=by kernel_rfl
 i51:=by kernel_rfl
 i53:=by kernel_rfl
 i171:=by kernel_rfl
 i173:=by kernel_rfl
 i212:=by kernel_rfl
 i232:=by kernel_rfl
 i233:=by kernel_rfl
 m17:=by kernel_rfl
 m18:=by kernel_rfl
 m19:=by kernel_rfl }
def Tb(w:World):Prop:=Lib.TabIs Tryz.prog w "internal/strconv.uint64pow10" .u64 Lib.pow10Tab∧w.cell? ⟨2,15,none⟩=some (.int .u8 4)
theorem Zyu:Tryz.prog.globalNamed "internal/strconv.uint64pow10"=some 0:=by kernel_rfl
theorem Zxh{w w':World}{name:String}{k:IntKind}{zs:LI}(h:Lib.TabIs Tryz.prog w name k zs)(hb:Nx w w'):Lib.TabIs Tryz.prog w' name k zs:=by
 unfold Lib.TabIs World.var? at *
 cases hg:Tryz.prog.globalNamed name with
 | none=>rw[hg]at h;cases h
 | some g=>
  rw[hg]at h;simp only[Option.bind_some]at h ⊢
  cases hw:w.heap[g]? with
  | none=>rw[hw]at h;cases h
  | some o=>rw[hb.block g (Array.getElem?_eq_some_iff.1 hw).1];exact h
theorem Tb.on{w w':World}(h:Tb w)(hb:Nx w w'):Tb w':=
 ⟨Zxh h.1 hb,(hb.cell (World.block_lt_of_cell? w _ h.2)).trans h.2⟩
theorem Zoe(n:Nat):Lib.itoa (n:Int)=Lib.decDigits n:=by
 unfold Lib.itoa
 simp
theorem grow_nx{w:World}{k:Nat}{os:Array Obj}:Nx w (Sort.grow (w.drewN k) os):=by
 refine⟨rfl,rfl,rfl,?_,fun i hi=>?_⟩
 ·show w.heap.size≤(w.heap++os).size
  simp
 ·show(w.heap++os)[i]?=w.heap[i]?
  rw[Array.getElem?_append_left hi]
theorem Zre(n:Nat)(hn:n≤4294967295)(w:World)(h:Tb w):Calls Tryz.prog 254 #[.int .i64 n,.int .i64 10] w fun e w'=>∃r:BA,e=.returned (.string r)∧tl r=Lib.decDigits n∧Nx w w':=by
 refine(Any.strconv_FormatInt_10 ZtX (n:Int) (by omega) (by omega) w h.1).mono ?_
 rintro e w' ⟨rfl,k,os,rfl⟩
 exact⟨_,rfl,by rw[tl_mk,Zoe],grow_nx⟩
theorem ZtY(n:Nat)(hn:n≤4294967295)(w:World)(h:Tb w):Calls Tryz.prog 59 #[.int .i64 n] w fun e w'=>∃r:BA,e=.returned (.string r)∧tl r=Lib.decDigits n∧Nx w w':=by
 refine(Any.strconv_Itoa ZtW (n:Int) (by omega) (by omega) w h.1).mono ?_
 rintro e w' ⟨rfl,k,os,rfl⟩
 exact⟨_,rfl,by rw[tl_mk,Zoe],grow_nx⟩
def beyondB(l:List UInt8):Bool:=l.any fun b=>decide (127<(b.toNat:Int))
theorem Zfk(s:BA)(w:World)(hs:s.size≤maxLen):Calls Tryz.prog 242 #[.string s] w fun e w'=>e=.returned (.bool (beyondB (tl s)))∧w=w':=by
 unfold maxLen at hs
 go_enter Tryz.func242,Tryz.ntmps242
 go_wp2
 go_loop [3] (fun i=>∃k:Nat,k≤s.size∧i=.int .i64 k∧beyondB ((tl s).take k)=false) (fun i=>s.size-(intOf i).toNat)
 case atStart=>exact⟨0,Xc _,rfl,rfl⟩
 case round=>
  obtain⟨k,hk,rfl,ha⟩:=hrel;have HA:=Za ha;clear ha
  by_cases hlt:k<s.size
  ·have hb:=bb s[k]
   by_cases hc:127<(s[k].toNat:Int)
   ·go_wp2
    go_ret
    exact⟨Zj (Zkq (fun b=>decide (127<(b.toNat:Int))) s k hlt (decide_eq_true hc)).symm,rfl⟩
   ·go_wp2
    go_round
    case rel=>exact⟨k+1,by omega,by go_num,by rw[ZJ s k hlt];unfold beyondB;rw[any_snoc];rw[show((tl s).take k).any (fun b=>decide (127<(b.toNat:Int)))=false from HA.out,Bool.false_or];exact decide_eq_false hc⟩
    case measure=>simp[intOf];omega
  ·go_wp2
   go_ret
   exact⟨Zj (by rw[←HA.out,ZaB _ _ (by omega)]),rfl⟩
def ZcY(l:List UInt8):Bool:=decide (4≤l.length)&&(l.take 4 == [120,110,45,45])
def Zt5(ps:List (List UInt8)):Bool:=ps.any ZcY
theorem ZhY(v:Value)(bs:LA)(w:World)(hv:ZcD w v bs)(hl:∀b∈bs,b.size≤1000000):Calls Tryz.prog 243 #[v] w fun e w'=>e=.returned (.bool (Zt5 (bs.map tl)))∧w=w':=by
 obtain⟨ao,cap,rfl,hlc,hcap,hnone,hsome⟩:=hv;have HL:=Za hl;clear hl;unfold maxLen at hcap
 go_enter Tryz.func243,Tryz.ntmps243
 go_wp2
 go_loop [3] (fun i=>∃k:Nat,k≤bs.length∧i=.int .i64 k∧((bs.take k).map tl).any ZcY=false) (fun i=>bs.length-(intOf i).toNat)
 case atStart=>exact⟨0,Xc _,rfl,rfl⟩
 case round=>
  obtain⟨k,hk,rfl,ha⟩:=hrel;have HA:=Za ha;clear ha
  by_cases hlt:k<bs.length
  ·obtain⟨a,ha⟩:=ZT hlt hnone
   subst ha;obtain⟨b,off,rfl,hr⟩:=hsome a rfl;have hck:=hr.cell hlt;clear hnone hsome hr;have hz:=HL.out bs[k] (Xf hlt)
   have HS:=Za (show((bs.take (k+1)).map tl).any ZcY=ZcY (tl bs[k])by
    rw[List.take_succ_eq_append_getElem hlt,Xh,Xi,Xj,any_snoc,HA.out,Bool.false_or])
   have HX:=Za (show ZcY (tl bs[k])=true→Zt5 (bs.map tl)=true from fun h=>Xk.2 ⟨tl bs[k],List.mem_map.2 ⟨_,Xf hlt,rfl⟩,h⟩)
   generalize bs[k]=p at *
   by_cases h4:4≤p.size
   ·by_cases hx:tl (p.extract 0 4)=[120,110,45,45]
    ·have HH:=Za (HX.out (by unfold ZcY;rw[tl_length,←tl_to p 4,hx];simp[h4]))
     have hx':=eqB hx;clear hx;go_wp2;go_ret;exact⟨Zj HH.out.symm,rfl⟩
    ·have HN:=Za (show ZcY (tl p)=false by
      unfold ZcY;rw[←tl_to p 4]
      simp[hx])
     have hx':=neB hx;clear hx;go_wp2
     go_round
     case rel=>exact⟨k+1,by omega,by go_num,by rw[HS.out];exact HN.out⟩
     case measure=>simp[intOf];omega
   ·have HN:=Za (show ZcY (tl p)=false by
      unfold ZcY;rw[tl_length]
      simp[h4])
    go_wp2
    go_round
    case rel=>exact⟨k+1,by omega,by go_num,by rw[HS.out];exact HN.out⟩
    case measure=>simp[intOf];omega
  ·go_wp2
   go_ret
   exact⟨Zj (by rw[←HA.out,List.take_of_length_le (by omega)];rfl),rfl⟩
def Zeu:List UInt8:=[0,9,10,13,32,35,47,58,60,62,63,64,91,92,93,94,124]
def Zjc(b:UInt8):Bool:=decide ((b.toNat:Int)<32)||(b.toNat:Int)==37||(b.toNat:Int)==127||among b.toNat Zeu
def plainDom(l:List UInt8):Bool:=!(l.any Zjc) && !l.isEmpty
theorem Zhq(s:BA)(w:World)(hs:s.size≤maxLen):Calls Tryz.prog 244 #[.string s] w fun e w'=>e=.returned (.bool (plainDom (tl s)))∧w=w':=by
 unfold maxLen at hs
 go_enter Tryz.func244,Tryz.ntmps244
 go_wp2
 go_loop [3] (fun i=>∃k:Nat,k≤s.size∧i=.int .i64 k∧((tl s).take k).any Zjc=false) (fun i=>s.size-(intOf i).toNat)
 case atStart=>exact⟨0,Xc _,rfl,rfl⟩
 case round=>
  obtain⟨k,hk,rfl,ha⟩:=hrel;have HA:=Za ha;clear ha
  by_cases hlt:k<s.size
  ·have hb:=bb s[k]
   have HY:=Za (show Zjc s[k]=true→plainDom (tl s)=false from fun h=>by unfold plainDom;rw[Zkq Zjc s k hlt h];rfl)
   have HN:=Za (show Zjc s[k]=false→((tl s).take (k+1)).any Zjc=false from fun h=>by rw[ZJ s k hlt,any_snoc,HA.out,h];rfl)
   have HD:=Za (show Zjc s[k]=(decide ((s[k].toNat:Int)<32)||(s[k].toNat:Int)==37||(s[k].toNat:Int)==127||among s[k].toNat Zeu)from rfl)
   by_cases h32:(s[k].toNat:Int)<32
   ·have HH:=Za (HY.out (by rw[HD.out];simp[h32]))
    go_wp2;go_ret;exact⟨Zj HH.out.symm,rfl⟩
   cases h37:((s[k].toNat:Int)==37)
   ·cases h127:((s[k].toNat:Int)==127)
    ·cases hA:among (s[k].toNat:Int) Zeu
     ·have HH:=Za (HN.out (by rw[HD.out,h37,h127,hA];simp[h32]))
      have HA2:=Za hA;clear hA
      go_wp2_with (go_at_call 117;refine(ZaI _ _ _ (Ze (by decide))).mono ?_;rintro e w' ⟨rfl,rfl⟩;rw[show among (s[k].toNat:Int) (tl ⟨#[0,9,10,13,32,35,47,58,60,62,63,64,91,92,93,94,124]⟩)=false from HA2.out])
      go_round
      case rel=>exact⟨k+1,by omega,by go_num,HH.out⟩
      case measure=>simp[intOf];omega
     ·have HH:=Za (HY.out (by rw[HD.out,hA];simp))
      have HA2:=Za hA;clear hA
      go_wp2_with (go_at_call 117;refine(ZaI _ _ _ (Ze (by decide))).mono ?_;rintro e w' ⟨rfl,rfl⟩;rw[show among (s[k].toNat:Int) (tl ⟨#[0,9,10,13,32,35,47,58,60,62,63,64,91,92,93,94,124]⟩)=true from HA2.out])
      go_ret;exact⟨Zj HH.out.symm,rfl⟩
    ·have HH:=Za (HY.out (by rw[HD.out,h127];simp))
     go_wp2;go_ret;exact⟨Zj HH.out.symm,rfl⟩
   ·have HH:=Za (HY.out (by rw[HD.out,h37];simp))
    go_wp2;go_ret;exact⟨Zj HH.out.symm,rfl⟩
  ·have HF:=Za (show plainDom (tl s)=!(tl s).isEmpty by
    have h:=HA.out
    rw[ZaB _ _ (by omega)]at h
    unfold plainDom
    rw[h];rfl)
   by_cases h0:s.size=0
   ·have h0':=Zl h0
    have HT:=Za (ZA h0);clear h0;go_wp2;go_ret
    exact⟨Zj (by rw[HF.out,HT.out];rfl),rfl⟩
   ·have h0':=Zh h0
    have HT:=Za (show(tl s).isEmpty=false by rw[←h0',ByteArray.toList_eq];rfl)
    clear h0;go_wp2;go_ret
    exact⟨Zj (by rw[HF.out,HT.out];rfl),rfl⟩
end Go.Proofs.YtchkhibgbnhjpaaGreatDoor
