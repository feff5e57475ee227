import Derived.Test.YtchkhibgbnhjpabGreatDoorR05
open Bool renaming and_eq_false_iff→Xb,or_false→Xg,and_eq_true→Xo,and_true→Xr,or_true→Xt
open Int renaming mul_comm→Xl,mul_le_mul_of_nonneg_right→Xp,mul_assoc→Xs,pow_nonneg→Xv,le_trans→Xw,pow_succ→Xx
open List renaming length_drop→Xa,append_assoc→Xc,drop_zero→Xd,take_succ_eq_append_getElem→Xe,drop_drop→Xf,take_of_length_le→Xh,drop_succ_cons→Xi,length_take_le→Xj,getElem_drop→Xk,all_append→Xq
open Nat renaming zero_add→Xn,add_comm→Xu,le_refl→Xy
namespace Go.Proofs.YtchkhibgbnhjpabGreatDoor
open Go.RowKit
set_option maxHeartbeats 2000000
set_option maxRecDepth 100000
def room(size k:Int):Int×Int:=
 if size=2 then(128,2047)else if size=3∧k=0 then(2048,55295)else if size=3 then(57344,65535)else(65536,1114111)
theorem ZcK(size k:Int)(w:World):Calls Tryz.prog 209 #[.int .i64 size,.int .i64 k] w fun e w'=>e=.returned (.tuple #[.int .i64 (room size k).1,.int .i64 (room size k).2])∧w=w':=by
 by_cases h2:size=2
 ·subst h2
  go_enter Tryz.func209,Tryz.ntmps209
  go_wp2;go_ret2;exact⟨rfl,rfl⟩
 by_cases h3:size=3
 ·subst h3
  by_cases hk:k=0
  ·subst hk
   go_enter Tryz.func209,Tryz.ntmps209
   go_wp2;go_ret2;exact⟨rfl,rfl⟩
  ·have hk':(k==0)=false:=by simp[hk]
   have HE:=Za (show room 3 k=(57344,65535)by simp[room,hk])
   go_enter Tryz.func209,Tryz.ntmps209
   go_wp2;go_ret2
   exact⟨by rw[HE.out];rfl,rfl⟩
 ·have h2':(size==2)=false:=by simp[h2]
  have h3':(size==3)=false:=by simp[h3]
  have HE:=Za (show room size k=(65536,1114111)by simp[room,h2,h3])
  clear h2 h3
  go_enter Tryz.func209,Tryz.ntmps209
  go_wp2;go_ret2
  exact⟨by rw[HE.out];rfl,rfl⟩
def ZbD(c:Int):Int×Int:=
 if 192≤c∧c<224 then(2,c-192)else if 224≤c∧c<240 then(3,c-224)else if 240≤c∧c<248 then(4,c-240)else(0,0)
def Zah(v:Int)(l:List UInt8):Int:=l.foldl (fun v b=>64*v+(b.toNat:Int)-128) v
def Zcs(b:UInt8):Bool:=decide (128≤(b.toNat:Int))&&decide ((b.toNat:Int)≤191)
def wtest(size lo hi k:Int):Bool:=decide (lo≤(room size k).2)&&decide ((room size k).1≤hi)
def wok(size lo hi:Int):Bool:=decide (1<size)&&(wtest size lo hi 0||wtest size lo hi 1)
def whole(t:List UInt8):Int×Bool×Bool:=
 match t with
 | []=>(0,false,false)
 | b::r=>
  if r=[]∧(b.toNat:Int)<128 then((b.toNat:Int),true,false)
  else if(ZbD b.toNat).1<(r.length:Int)+1 then(0,false,false)
  else if r.all Zcs=false then(0,false,false)
  else
   let v:=Zah (ZbD b.toNat).2 r
   let j:=((ZbD b.toNat).1-((r.length:Int)+1)).toNat
   let ok:=wok (ZbD b.toNat).1 (v*64^j) (v*64^j+64^j-1)
   (v,ok&&((r.length:Int)+1==(ZbD b.toNat).1),ok&&decide ((r.length:Int)+1<(ZbD b.toNat).1))
theorem Zig(c:Int):0≤(ZbD c).1∧(ZbD c).1≤4∧0≤(ZbD c).2∧(ZbD c).2≤31:=by unfold ZbD;split;simp;omega;split;simp;omega;split<;>simp<;>omega
theorem Zgz(v:Int)(l:LB)(b:UInt8):Zah v (l++[b])=64*Zah v l+(b.toNat:Int)-128:=by simp[Zah]
theorem Zsn(v:Int)(h0:0≤v)(l:LB)(hc:l.all Zcs=true):0≤Zah v l∧Zah v l≤(v+1)*64^l.length-1:=by
 induction l generalizing v with
 | nil=>simp[Zah];omega
 | cons b l ih=>
  simp only[List.all_cons,Xo]at hc;have hb:=hc.1;simp only[Zcs,Xo,decide_eq_true_eq]at hb
  have h:=ih (64*v+(b.toNat:Int)-128) (by omega) hc.2
  have e:Zah v (b::l)=Zah (64*v+(b.toNat:Int)-128) l:=rfl;rw[e]
  refine⟨h.1,Xw h.2 ?_⟩
  have hm:(64*v+(b.toNat:Int)-128+1)*64^l.length≤(64*(v+1))*64^l.length:=Xp (by omega) (Xv (by omega))
  have e2:(v+1)*64^(b::l).length=(64*(v+1))*64^l.length:=by rw[List.length_cons,Xx];rw[Xl (64^l.length) 64,←Xs,Xl (v+1) 64]
  omega
theorem ZfJ(v:Int)(h0:0≤v)(h1:v≤31)(l:LB)(hl:l.length≤3)(hc:l.all Zcs=true):0≤Zah v l∧Zah v l≤8388607:=by
 have h:=Zsn v h0 l hc
 refine⟨h.1,Xw h.2 ?_⟩
 have hm:(v+1)*64^l.length≤32*64^l.length:=Xp (by omega) (Xv (by omega))
 have hp:(64:Int)^l.length≤262144:=by
  match l.length,hl with
  | 0,_=>decide
  | 1,_=>decide
  | 2,_=>decide
  | 3,_=>decide
 omega
theorem Znn{b:UInt8}(h:(b.toNat:Int)<128):Zcs b=false:=by unfold Zcs;simp only[Xb,decide_eq_false_iff_not];omega
theorem Zno{b:UInt8}(h:191<(b.toNat:Int)):Zcs b=false:=by unfold Zcs;simp only[Xb,decide_eq_false_iff_not];omega
theorem ZgA{R:LB}{j:Nat}{b:UInt8}(hs:R.take (j+1)=R.take j++[b])(hb:Zcs b=false):R.all Zcs=false:=by rw[←List.take_append_drop (j+1) R,hs,Xq,Xq];simp[hb]
theorem Zso{R:LB}{j:Nat}{b:UInt8}(hs:R.take (j+1)=R.take j++[b])(h:(R.take j).all Zcs=true)(h1:¬(b.toNat:Int)<128)(h2:¬191<(b.toNat:Int)):(R.take (j+1)).all Zcs=true:=by
 rw[hs,Xq,h]
 have:Zcs b=true:=by unfold Zcs;simp only[Xo,decide_eq_true_eq];omega
 simp[this]
theorem ZxU(V:Int)(h0:0≤V)(h1:V≤8388607)(j:Nat)(hj:j≤3):0≤V*64^j∧V*64^j≤2199022993408∧0≤V*64^j+64^j-1∧V*64^j+64^j-1≤2199023255551:=by
 match j,hj with
 | 0,_=>simp;omega
 | 1,_=>simp;omega
 | 2,_=>simp;omega
 | 3,_=>simp;omega
theorem ZcT(V:Int)(j:Nat):V*64^(j+1)=64*(V*64^j)∧V*64^(j+1)+64^(j+1)-1=64*(V*64^j+64^j-1)+63:=by
 have e:(64:Int)^(j+1)=64*64^j:=by rw[Xx,Xl]
 have e2:V*64^(j+1)=64*(V*64^j):=by rw[e,←Xs,Xl V 64,Xs]
 exact⟨e2,by rw[e2,e];omega⟩
def Zne(sz lo hi:Int)(j:Nat):Bool:=(decide (0<j)&&wtest sz lo hi 0)||(decide (1<j)&&wtest sz lo hi 1)
theorem Zih(sz lo hi:Int)(j:Nat)(hj:j<2):Zne sz lo hi (j+1)=(Zne sz lo hi j||wtest sz lo hi j):=by
 match j,hj with
 | 0,_=>simp[Zne]
 | 1,_=>simp[Zne]
theorem Zsp(t:BA)(w:World)(ht:0<t.size)(hs:t.size≤1000000)(h1:¬(t.size=1∧(t[0].toNat:Int)<128))(hA1:192≤(t[0].toNat:Int))(hA2:(t[0].toNat:Int)<224):Calls Tryz.prog 171 #[.string t] w fun e w'=>e=.returned (.tuple #[.int .i64 (whole (tl t)).1,.bool (whole (tl t)).2.1,.bool (whole (tl t)).2.2])∧w=w':=by
 have hb0:=bb t[0];have hl0:=ZD t 0 ht;simp only[Xd,Xn]at hl0
 have hrl:((tl t).drop 1).length=t.size-1:=by rw[Xa,tl_length]
 have hz:¬((tl t).drop 1=[]∧(t[0].toNat:Int)<128):=by
  rintro⟨h,h2⟩
  exact h1 ⟨by rw[h]at hrl;simp at hrl;omega,h2⟩
 have hws:ZbD (t[0].toNat:Int)=((2:Int),(t[0].toNat:Int)-192):=by unfold ZbD;rw[if_pos ⟨hA1,hA2⟩]
 have hwr:=Zig (t[0].toNat:Int);rw[hws]at hwr;simp only at hwr
 by_cases hn:(2:Int)<(t.size:Int)
 ·have HE:=Za (show whole (tl t)=(0,false,false)by rw[hl0,whole,if_neg hz,hws,hrl,if_pos (by simp only;omega)])
  clear hl0 hrl hz h1 hws
  go_enter Tryz.func171,Tryz.ntmps171
  go_wp2
  go_ret3
  exact⟨by rw[HE.out];rfl,rfl⟩
 have HE1:=Za (show whole (tl t)=(if((tl t).drop 1).all Zcs=false then(0,false,false)else(Zah ((t[0].toNat:Int)-192) ((tl t).drop 1),wok 2 (Zah ((t[0].toNat:Int)-192) ((tl t).drop 1)*64^(2-t.size)) (Zah ((t[0].toNat:Int)-192) ((tl t).drop 1)*64^(2-t.size)+64^(2-t.size)-1)&&((t.size:Int)==2),wok 2 (Zah ((t[0].toNat:Int)-192) ((tl t).drop 1)*64^(2-t.size)) (Zah ((t[0].toNat:Int)-192) ((tl t).drop 1)*64^(2-t.size)+64^(2-t.size)-1)&&decide ((t.size:Int)<2)))by
  rw[hl0,whole,if_neg hz,hws,hrl,if_neg (by simp only;omega)]
  have e1:((t.size-1:Nat):Int)+1=(t.size:Int):=by omega
  have e2:((2:Int)-(t.size:Int)).toNat=2-t.size:=by omega
  simp only[e1,e2,Xi,Xd])
 clear hl0 hz h1 hws;generalize hR:(tl t).drop 1=R at *
 have HG:=Za (show ∀j,(h:j+1<t.size)→R.take (j+1)=R.take j++[t[j+1]]from fun j h=>by
  rw[←hR,Xe (by rw[Xa,tl_length];omega),Xk]
  simp only[Xu 1 j,Zep t (j+1) h])
 clear hR
 go_enter Tryz.func171,Tryz.ntmps171
 go_wp2
 all_goals
  go_loop [8,9] (fun v i=>∃j:Nat,j+1≤t.size∧i=.int .i64 ((j+1:Nat):Int)∧v=.int .i64 (Zah ((t[0].toNat:Int)-192) (R.take j))∧(R.take j).all Zcs=true) (fun _ i=>t.size-(intOf i).toNat)
  case atStart=>exact⟨0,by omega,rfl,rfl,rfl⟩
  case round=>
   obtain⟨j,hj,rfl,rfl,hc⟩:=hrel
   have hvr:=ZfJ ((t[0].toNat:Int)-192) (by omega) (by omega) (R.take j) (by have:=Xj j R;omega) hc
   have HC:=Za hc;clear hc
   by_cases hlt:j+1<t.size
   ·have hbj:=bb t[j+1]
    have HS:=Za (HG.out j hlt)
    by_cases hc1:(t[j+1].toNat:Int)<128
    ·have HB:=Za (show R.all Zcs=false from ZgA HS.out (Znn hc1))
     go_wp2
     all_goals go_ret3
     all_goals exact⟨by rw[HE1.out,if_pos HB.out];rfl,rfl⟩
    by_cases hc2:191<(t[j+1].toNat:Int)
    ·have HB:=Za (show R.all Zcs=false from ZgA HS.out (Zno hc2))
     go_wp2
     all_goals go_ret3
     all_goals exact⟨by rw[HE1.out,if_pos HB.out];rfl,rfl⟩
    have HK:=Za (show(R.take (j+1)).all Zcs=true from Zso HS.out HC.out hc1 hc2)
    have HW:=Za (show Zah ((t[0].toNat:Int)-192) (R.take (j+1))=(64:Int)*Zah ((t[0].toNat:Int)-192) (R.take j)+(t[j+1].toNat:Int)-128 by rw[HS.out,Zgz])
    generalize hV:Zah ((t[0].toNat:Int)-192) (R.take j)=V at *;clear hV;go_wp2
    all_goals
     go_round
     case rel=>exact⟨j+1,by omega,by go_num,by rw[HW.out],HK.out⟩
     case measure=>simp[intOf];omega
   ·have hjR:R.take j=R:=Xh (by omega)
    rw[hjR]at HC hvr;rw[hjR];generalize hV:Zah ((t[0].toNat:Int)-192) R=V at *;clear hV HG hjR;have HE2:=HE1.out
    rw[if_neg (by simp[HC.out])]at HE2
    have HE:=Za HE2;clear HE1 HE2 HC;obtain⟨hv0,hv1⟩:=hvr;go_wp2
    go_loop [10,11,12] (fun lo hi i=>∃(m:Nat) (L H:Int),t.size+m≤2∧i=.int .i64 ((t.size+m:Nat):Int)∧lo=.int .i64 L∧hi=.int .i64 H∧Hid (L=V*64^m)∧Hid (H=V*64^m+64^m-1)) (fun _ _ i=>2-(intOf i).toNat)
    case atStart=>exact⟨0,V,V,by omega,by first|rfl|go_num,rfl,rfl,by show V=V*64^0;simp,by show V=V*64^0+64^0-1;simp⟩
    case round=>
     obtain⟨m,L,H,hm,rfl,rfl,rfl,HL,HH⟩:=hrel
     have hpw:=ZxU V hv0 hv1 m (by omega)
     rw[←HH.out,←HL.out]at hpw;obtain⟨hp1,hp2,hp3,hp4⟩:=hpw
     by_cases hlt2:t.size+m<2
     ·have HL2:=Za ((congrArg (64 * ·) HL.out).trans (ZcT V m).1.symm)
      have HH2:=Za ((congrArg (64 * · + 63) HH.out).trans (ZcT V m).2.symm);go_wp2
      all_goals
       go_round
       case rel=>exact⟨m+1,64*L,64*H+63,by omega,by go_num,rfl,rfl,HL2.out,HH2.out⟩
       case measure=>simp[intOf];omega
     ·have hmm:m=2-t.size:=by omega
      rw[←hmm,←HH.out,←HL.out]at HE;clear hmm HL HH;go_wp2
      go_loop [13,14] (fun ok k=>∃j:Nat,j≤2∧k=.int .i64 (j:Int)∧ok=.bool (Zne 2 L H j)) (fun _ k=>2-(intOf k).toNat)
      case atStart=>exact⟨0,by omega,rfl,rfl⟩
      case round=>
       obtain⟨j2,hj2,rfl,rfl⟩:=hrel
       by_cases hlt3:j2<2
       ·have HS:=Za (Zih 2 L H j2 hlt3)
        by_cases ht1:L≤(room 2 j2).2
        ·by_cases ht2:(room 2 j2).1≤H
         ·have HTT:=Za (show wtest 2 L H j2=true by simp[wtest,ht1,ht2])
          go_wp2_with (go_at_call 209;refine(ZcK _ _ _).mono ?_;rintro e w' ⟨rfl,rfl⟩)
          go_round
          case rel=>exact⟨j2+1,by omega,by go_num,by rw[HS.out,HTT.out,Xt]⟩
          case measure=>simp[intOf];omega
         ·have HTT:=Za (show wtest 2 L H j2=false by simp[wtest,ht2])
          go_wp2_with (go_at_call 209;refine(ZcK _ _ _).mono ?_;rintro e w' ⟨rfl,rfl⟩)
          go_round
          case rel=>exact⟨j2+1,by omega,by go_num,by rw[HS.out,HTT.out,Xg]⟩
          case measure=>simp[intOf];omega
        ·have HTT:=Za (show wtest 2 L H j2=false by simp[wtest,ht1])
         go_wp2_with (go_at_call 209;refine(ZcK _ _ _).mono ?_;rintro e w' ⟨rfl,rfl⟩)
         go_round
         case rel=>exact⟨j2+1,by omega,by go_num,by rw[HS.out,HTT.out,Xg]⟩
         case measure=>simp[intOf];omega
       ·have hj2e:j2=2:=by omega
        subst hj2e
        have hok:Zne 2 L H 2=wok 2 L H:=by simp[Zne,wok]
        rw[←hok]at HE;clear hok;generalize hbk:Zne 2 L H 2=bk at *;clear hbk
        by_cases hsz:t.size=2
        ·have HF:=Za (show whole (tl t)=(V,bk,false)by rw[HE.out];simp[hsz])
         have hsz':((t.size:Int)==2)=true:=by simp[hsz]
         have hsz3:2≤t.size:=by omega
         have hsz4:decide ((t.size:Int)<2)=false:=by simp only[decide_eq_false_iff_not];omega
         clear HE hsz
         cases bk
         ·go_wp2
          all_goals go_ret3
          all_goals first|(exfalso;omega)|exact⟨by rw[HF.out];rfl,rfl⟩
         ·go_wp2
          all_goals go_ret3
          all_goals first|(exfalso;omega)|exact⟨by rw[HF.out];rfl,rfl⟩
        ·have HF:=Za (show whole (tl t)=(V,false,bk)by rw[HE.out];simp only[Prod.mk.injEq,Xb,beq_eq_false_iff_ne,ne_eq,true_and];exact⟨Or.inr (by omega),by rw[decide_eq_true (by omega),Xr]⟩)
         have hsz':((t.size:Int)==2)=false:=by simp only[beq_eq_false_iff_ne,ne_eq];omega
         have hsz2:t.size<2:=by omega
         have hsz4:decide ((t.size:Int)<2)=true:=by simp only[decide_eq_true_eq];omega
         clear HE hsz
         cases bk
         ·go_wp2
          all_goals go_ret3
          all_goals first|(exfalso;omega)|exact⟨by rw[HF.out];rfl,rfl⟩
         ·go_wp2
          all_goals go_ret3
          all_goals first|(exfalso;omega)|exact⟨by rw[HF.out];rfl,rfl⟩
theorem Znp(t:BA)(w:World)(ht:0<t.size)(hs:t.size≤1000000)(h1:¬(t.size=1∧(t[0].toNat:Int)<128))(hA1:224≤(t[0].toNat:Int))(hA2:(t[0].toNat:Int)<240):Calls Tryz.prog 171 #[.string t] w fun e w'=>e=.returned (.tuple #[.int .i64 (whole (tl t)).1,.bool (whole (tl t)).2.1,.bool (whole (tl t)).2.2])∧w=w':=by
 have hb0:=bb t[0];have hl0:=ZD t 0 ht;simp only[Xd,Xn]at hl0
 have hrl:((tl t).drop 1).length=t.size-1:=by rw[Xa,tl_length]
 have hz:¬((tl t).drop 1=[]∧(t[0].toNat:Int)<128):=by
  rintro⟨h,h2⟩
  exact h1 ⟨by rw[h]at hrl;simp at hrl;omega,h2⟩
 have hws:ZbD (t[0].toNat:Int)=((3:Int),(t[0].toNat:Int)-224):=by unfold ZbD;rw[if_neg (by omega),if_pos ⟨hA1,hA2⟩]
 have hwr:=Zig (t[0].toNat:Int);rw[hws]at hwr;simp only at hwr
 by_cases hn:(3:Int)<(t.size:Int)
 ·have HE:=Za (show whole (tl t)=(0,false,false)by rw[hl0,whole,if_neg hz,hws,hrl,if_pos (by simp only;omega)])
  clear hl0 hrl hz h1 hws
  go_enter Tryz.func171,Tryz.ntmps171
  go_wp2
  go_ret3
  exact⟨by rw[HE.out];rfl,rfl⟩
 have HE1:=Za (show whole (tl t)=(if((tl t).drop 1).all Zcs=false then(0,false,false)else(Zah ((t[0].toNat:Int)-224) ((tl t).drop 1),wok 3 (Zah ((t[0].toNat:Int)-224) ((tl t).drop 1)*64^(3-t.size)) (Zah ((t[0].toNat:Int)-224) ((tl t).drop 1)*64^(3-t.size)+64^(3-t.size)-1)&&((t.size:Int)==3),wok 3 (Zah ((t[0].toNat:Int)-224) ((tl t).drop 1)*64^(3-t.size)) (Zah ((t[0].toNat:Int)-224) ((tl t).drop 1)*64^(3-t.size)+64^(3-t.size)-1)&&decide ((t.size:Int)<3)))by
  rw[hl0,whole,if_neg hz,hws,hrl,if_neg (by simp only;omega)]
  have e1:((t.size-1:Nat):Int)+1=(t.size:Int):=by omega
  have e2:((3:Int)-(t.size:Int)).toNat=3-t.size:=by omega
  simp only[e1,e2,Xi,Xd])
 clear hl0 hz h1 hws;generalize hR:(tl t).drop 1=R at *
 have HG:=Za (show ∀j,(h:j+1<t.size)→R.take (j+1)=R.take j++[t[j+1]]from fun j h=>by
  rw[←hR,Xe (by rw[Xa,tl_length];omega),Xk]
  simp only[Xu 1 j,Zep t (j+1) h])
 clear hR
 go_enter Tryz.func171,Tryz.ntmps171
 go_wp2
 all_goals
  go_loop [8,9] (fun v i=>∃j:Nat,j+1≤t.size∧i=.int .i64 ((j+1:Nat):Int)∧v=.int .i64 (Zah ((t[0].toNat:Int)-224) (R.take j))∧(R.take j).all Zcs=true) (fun _ i=>t.size-(intOf i).toNat)
  case atStart=>exact⟨0,by omega,rfl,rfl,rfl⟩
  case round=>
   obtain⟨j,hj,rfl,rfl,hc⟩:=hrel
   have hvr:=ZfJ ((t[0].toNat:Int)-224) (by omega) (by omega) (R.take j) (by have:=Xj j R;omega) hc
   have HC:=Za hc;clear hc
   by_cases hlt:j+1<t.size
   ·have hbj:=bb t[j+1]
    have HS:=Za (HG.out j hlt)
    by_cases hc1:(t[j+1].toNat:Int)<128
    ·have HB:=Za (show R.all Zcs=false from ZgA HS.out (Znn hc1))
     go_wp2
     all_goals go_ret3
     all_goals exact⟨by rw[HE1.out,if_pos HB.out];rfl,rfl⟩
    by_cases hc2:191<(t[j+1].toNat:Int)
    ·have HB:=Za (show R.all Zcs=false from ZgA HS.out (Zno hc2))
     go_wp2
     all_goals go_ret3
     all_goals exact⟨by rw[HE1.out,if_pos HB.out];rfl,rfl⟩
    have HK:=Za (show(R.take (j+1)).all Zcs=true from Zso HS.out HC.out hc1 hc2)
    have HW:=Za (show Zah ((t[0].toNat:Int)-224) (R.take (j+1))=(64:Int)*Zah ((t[0].toNat:Int)-224) (R.take j)+(t[j+1].toNat:Int)-128 by rw[HS.out,Zgz])
    generalize hV:Zah ((t[0].toNat:Int)-224) (R.take j)=V at *;clear hV;go_wp2
    all_goals
     go_round
     case rel=>exact⟨j+1,by omega,by go_num,by rw[HW.out],HK.out⟩
     case measure=>simp[intOf];omega
   ·have hjR:R.take j=R:=Xh (by omega)
    rw[hjR]at HC hvr;rw[hjR];generalize hV:Zah ((t[0].toNat:Int)-224) R=V at *;clear hV HG hjR;have HE2:=HE1.out
    rw[if_neg (by simp[HC.out])]at HE2
    have HE:=Za HE2;clear HE1 HE2 HC;obtain⟨hv0,hv1⟩:=hvr;go_wp2
    go_loop [10,11,12] (fun lo hi i=>∃(m:Nat) (L H:Int),t.size+m≤3∧i=.int .i64 ((t.size+m:Nat):Int)∧lo=.int .i64 L∧hi=.int .i64 H∧Hid (L=V*64^m)∧Hid (H=V*64^m+64^m-1)) (fun _ _ i=>3-(intOf i).toNat)
    case atStart=>exact⟨0,V,V,by omega,by first|rfl|go_num,rfl,rfl,by show V=V*64^0;simp,by show V=V*64^0+64^0-1;simp⟩
    case round=>
     obtain⟨m,L,H,hm,rfl,rfl,rfl,HL,HH⟩:=hrel
     have hpw:=ZxU V hv0 hv1 m (by omega)
     rw[←HH.out,←HL.out]at hpw;obtain⟨hp1,hp2,hp3,hp4⟩:=hpw
     by_cases hlt2:t.size+m<3
     ·have HL2:=Za ((congrArg (64 * ·) HL.out).trans (ZcT V m).1.symm)
      have HH2:=Za ((congrArg (64 * · + 63) HH.out).trans (ZcT V m).2.symm);go_wp2
      all_goals
       go_round
       case rel=>exact⟨m+1,64*L,64*H+63,by omega,by go_num,rfl,rfl,HL2.out,HH2.out⟩
       case measure=>simp[intOf];omega
     ·have hmm:m=3-t.size:=by omega
      rw[←hmm,←HH.out,←HL.out]at HE;clear hmm HL HH;go_wp2
      go_loop [13,14] (fun ok k=>∃j:Nat,j≤2∧k=.int .i64 (j:Int)∧ok=.bool (Zne 3 L H j)) (fun _ k=>2-(intOf k).toNat)
      case atStart=>exact⟨0,by omega,rfl,rfl⟩
      case round=>
       obtain⟨j2,hj2,rfl,rfl⟩:=hrel
       by_cases hlt3:j2<2
       ·have HS:=Za (Zih 3 L H j2 hlt3)
        by_cases ht1:L≤(room 3 j2).2
        ·by_cases ht2:(room 3 j2).1≤H
         ·have HTT:=Za (show wtest 3 L H j2=true by simp[wtest,ht1,ht2])
          go_wp2_with (go_at_call 209;refine(ZcK _ _ _).mono ?_;rintro e w' ⟨rfl,rfl⟩)
          go_round
          case rel=>exact⟨j2+1,by omega,by go_num,by rw[HS.out,HTT.out,Xt]⟩
          case measure=>simp[intOf];omega
         ·have HTT:=Za (show wtest 3 L H j2=false by simp[wtest,ht2])
          go_wp2_with (go_at_call 209;refine(ZcK _ _ _).mono ?_;rintro e w' ⟨rfl,rfl⟩)
          go_round
          case rel=>exact⟨j2+1,by omega,by go_num,by rw[HS.out,HTT.out,Xg]⟩
          case measure=>simp[intOf];omega
        ·have HTT:=Za (show wtest 3 L H j2=false by simp[wtest,ht1])
         go_wp2_with (go_at_call 209;refine(ZcK _ _ _).mono ?_;rintro e w' ⟨rfl,rfl⟩)
         go_round
         case rel=>exact⟨j2+1,by omega,by go_num,by rw[HS.out,HTT.out,Xg]⟩
         case measure=>simp[intOf];omega
       ·have hj2e:j2=2:=by omega
        subst hj2e
        have hok:Zne 3 L H 2=wok 3 L H:=by simp[Zne,wok]
        rw[←hok]at HE;clear hok;generalize hbk:Zne 3 L H 2=bk at *;clear hbk
        by_cases hsz:t.size=3
        ·have HF:=Za (show whole (tl t)=(V,bk,false)by rw[HE.out];simp[hsz])
         have hsz':((t.size:Int)==3)=true:=by simp[hsz]
         have hsz3:3≤t.size:=by omega
         have hsz4:decide ((t.size:Int)<3)=false:=by simp only[decide_eq_false_iff_not];omega
         clear HE hsz
         cases bk
         ·go_wp2
          all_goals go_ret3
          all_goals first|(exfalso;omega)|exact⟨by rw[HF.out];rfl,rfl⟩
         ·go_wp2
          all_goals go_ret3
          all_goals first|(exfalso;omega)|exact⟨by rw[HF.out];rfl,rfl⟩
        ·have HF:=Za (show whole (tl t)=(V,false,bk)by rw[HE.out];simp only[Prod.mk.injEq,Xb,beq_eq_false_iff_ne,ne_eq,true_and];exact⟨Or.inr (by omega),by rw[decide_eq_true (by omega),Xr]⟩)
         have hsz':((t.size:Int)==3)=false:=by simp only[beq_eq_false_iff_ne,ne_eq];omega
         have hsz2:t.size<3:=by omega
         have hsz4:decide ((t.size:Int)<3)=true:=by simp only[decide_eq_true_eq];omega
         clear HE hsz
         cases bk
         ·go_wp2
          all_goals go_ret3
          all_goals first|(exfalso;omega)|exact⟨by rw[HF.out];rfl,rfl⟩
         ·go_wp2
          all_goals go_ret3
          all_goals first|(exfalso;omega)|exact⟨by rw[HF.out];rfl,rfl⟩
theorem Zqx(t:BA)(w:World)(ht:0<t.size)(hs:t.size≤1000000)(h1:¬(t.size=1∧(t[0].toNat:Int)<128))(hA1:240≤(t[0].toNat:Int))(hA2:(t[0].toNat:Int)<248):Calls Tryz.prog 171 #[.string t] w fun e w'=>e=.returned (.tuple #[.int .i64 (whole (tl t)).1,.bool (whole (tl t)).2.1,.bool (whole (tl t)).2.2])∧w=w':=by
 have hb0:=bb t[0];have hl0:=ZD t 0 ht;simp only[Xd,Xn]at hl0
 have hrl:((tl t).drop 1).length=t.size-1:=by rw[Xa,tl_length]
 have hz:¬((tl t).drop 1=[]∧(t[0].toNat:Int)<128):=by
  rintro⟨h,h2⟩
  exact h1 ⟨by rw[h]at hrl;simp at hrl;omega,h2⟩
 have hws:ZbD (t[0].toNat:Int)=((4:Int),(t[0].toNat:Int)-240):=by unfold ZbD;rw[if_neg (by omega),if_neg (by omega),if_pos ⟨hA1,hA2⟩]
 have hwr:=Zig (t[0].toNat:Int);rw[hws]at hwr;simp only at hwr
 by_cases hn:(4:Int)<(t.size:Int)
 ·have HE:=Za (show whole (tl t)=(0,false,false)by rw[hl0,whole,if_neg hz,hws,hrl,if_pos (by simp only;omega)])
  clear hl0 hrl hz h1 hws
  go_enter Tryz.func171,Tryz.ntmps171
  go_wp2
  go_ret3
  exact⟨by rw[HE.out];rfl,rfl⟩
 have HE1:=Za (show whole (tl t)=(if((tl t).drop 1).all Zcs=false then(0,false,false)else(Zah ((t[0].toNat:Int)-240) ((tl t).drop 1),wok 4 (Zah ((t[0].toNat:Int)-240) ((tl t).drop 1)*64^(4-t.size)) (Zah ((t[0].toNat:Int)-240) ((tl t).drop 1)*64^(4-t.size)+64^(4-t.size)-1)&&((t.size:Int)==4),wok 4 (Zah ((t[0].toNat:Int)-240) ((tl t).drop 1)*64^(4-t.size)) (Zah ((t[0].toNat:Int)-240) ((tl t).drop 1)*64^(4-t.size)+64^(4-t.size)-1)&&decide ((t.size:Int)<4)))by
  rw[hl0,whole,if_neg hz,hws,hrl,if_neg (by simp only;omega)]
  have e1:((t.size-1:Nat):Int)+1=(t.size:Int):=by omega
  have e2:((4:Int)-(t.size:Int)).toNat=4-t.size:=by omega
  simp only[e1,e2,Xi,Xd])
 clear hl0 hz h1 hws;generalize hR:(tl t).drop 1=R at *
 have HG:=Za (show ∀j,(h:j+1<t.size)→R.take (j+1)=R.take j++[t[j+1]]from fun j h=>by
  rw[←hR,Xe (by rw[Xa,tl_length];omega),Xk]
  simp only[Xu 1 j,Zep t (j+1) h])
 clear hR
 go_enter Tryz.func171,Tryz.ntmps171
 go_wp2
 all_goals
  go_loop [8,9] (fun v i=>∃j:Nat,j+1≤t.size∧i=.int .i64 ((j+1:Nat):Int)∧v=.int .i64 (Zah ((t[0].toNat:Int)-240) (R.take j))∧(R.take j).all Zcs=true) (fun _ i=>t.size-(intOf i).toNat)
  case atStart=>exact⟨0,by omega,rfl,rfl,rfl⟩
  case round=>
   obtain⟨j,hj,rfl,rfl,hc⟩:=hrel
   have hvr:=ZfJ ((t[0].toNat:Int)-240) (by omega) (by omega) (R.take j) (by have:=Xj j R;omega) hc
   have HC:=Za hc;clear hc
   by_cases hlt:j+1<t.size
   ·have hbj:=bb t[j+1]
    have HS:=Za (HG.out j hlt)
    by_cases hc1:(t[j+1].toNat:Int)<128
    ·have HB:=Za (show R.all Zcs=false from ZgA HS.out (Znn hc1))
     go_wp2
     all_goals go_ret3
     all_goals exact⟨by rw[HE1.out,if_pos HB.out];rfl,rfl⟩
    by_cases hc2:191<(t[j+1].toNat:Int)
    ·have HB:=Za (show R.all Zcs=false from ZgA HS.out (Zno hc2))
     go_wp2
     all_goals go_ret3
     all_goals exact⟨by rw[HE1.out,if_pos HB.out];rfl,rfl⟩
    have HK:=Za (show(R.take (j+1)).all Zcs=true from Zso HS.out HC.out hc1 hc2)
    have HW:=Za (show Zah ((t[0].toNat:Int)-240) (R.take (j+1))=(64:Int)*Zah ((t[0].toNat:Int)-240) (R.take j)+(t[j+1].toNat:Int)-128 by rw[HS.out,Zgz])
    generalize hV:Zah ((t[0].toNat:Int)-240) (R.take j)=V at *;clear hV;go_wp2
    all_goals
     go_round
     case rel=>exact⟨j+1,by omega,by go_num,by rw[HW.out],HK.out⟩
     case measure=>simp[intOf];omega
   ·have hjR:R.take j=R:=Xh (by omega)
    rw[hjR]at HC hvr;rw[hjR];generalize hV:Zah ((t[0].toNat:Int)-240) R=V at *;clear hV HG hjR;have HE2:=HE1.out
    rw[if_neg (by simp[HC.out])]at HE2
    have HE:=Za HE2;clear HE1 HE2 HC;obtain⟨hv0,hv1⟩:=hvr;go_wp2
    go_loop [10,11,12] (fun lo hi i=>∃(m:Nat) (L H:Int),t.size+m≤4∧i=.int .i64 ((t.size+m:Nat):Int)∧lo=.int .i64 L∧hi=.int .i64 H∧Hid (L=V*64^m)∧Hid (H=V*64^m+64^m-1)) (fun _ _ i=>4-(intOf i).toNat)
    case atStart=>exact⟨0,V,V,by omega,by first|rfl|go_num,rfl,rfl,by show V=V*64^0;simp,by show V=V*64^0+64^0-1;simp⟩
    case round=>
     obtain⟨m,L,H,hm,rfl,rfl,rfl,HL,HH⟩:=hrel
     have hpw:=ZxU V hv0 hv1 m (by omega)
     rw[←HH.out,←HL.out]at hpw;obtain⟨hp1,hp2,hp3,hp4⟩:=hpw
     by_cases hlt2:t.size+m<4
     ·have HL2:=Za ((congrArg (64 * ·) HL.out).trans (ZcT V m).1.symm)
      have HH2:=Za ((congrArg (64 * · + 63) HH.out).trans (ZcT V m).2.symm);go_wp2
      all_goals
       go_round
       case rel=>exact⟨m+1,64*L,64*H+63,by omega,by go_num,rfl,rfl,HL2.out,HH2.out⟩
       case measure=>simp[intOf];omega
     ·have hmm:m=4-t.size:=by omega
      rw[←hmm,←HH.out,←HL.out]at HE;clear hmm HL HH;go_wp2
      go_loop [13,14] (fun ok k=>∃j:Nat,j≤2∧k=.int .i64 (j:Int)∧ok=.bool (Zne 4 L H j)) (fun _ k=>2-(intOf k).toNat)
      case atStart=>exact⟨0,by omega,rfl,rfl⟩
      case round=>
       obtain⟨j2,hj2,rfl,rfl⟩:=hrel
       by_cases hlt3:j2<2
       ·have HS:=Za (Zih 4 L H j2 hlt3)
        by_cases ht1:L≤(room 4 j2).2
        ·by_cases ht2:(room 4 j2).1≤H
         ·have HTT:=Za (show wtest 4 L H j2=true by simp[wtest,ht1,ht2])
          go_wp2_with (go_at_call 209;refine(ZcK _ _ _).mono ?_;rintro e w' ⟨rfl,rfl⟩)
          go_round
          case rel=>exact⟨j2+1,by omega,by go_num,by rw[HS.out,HTT.out,Xt]⟩
          case measure=>simp[intOf];omega
         ·have HTT:=Za (show wtest 4 L H j2=false by simp[wtest,ht2])
          go_wp2_with (go_at_call 209;refine(ZcK _ _ _).mono ?_;rintro e w' ⟨rfl,rfl⟩)
          go_round
          case rel=>exact⟨j2+1,by omega,by go_num,by rw[HS.out,HTT.out,Xg]⟩
          case measure=>simp[intOf];omega
        ·have HTT:=Za (show wtest 4 L H j2=false by simp[wtest,ht1])
         go_wp2_with (go_at_call 209;refine(ZcK _ _ _).mono ?_;rintro e w' ⟨rfl,rfl⟩)
         go_round
         case rel=>exact⟨j2+1,by omega,by go_num,by rw[HS.out,HTT.out,Xg]⟩
         case measure=>simp[intOf];omega
       ·have hj2e:j2=2:=by omega
        subst hj2e
        have hok:Zne 4 L H 2=wok 4 L H:=by simp[Zne,wok]
        rw[←hok]at HE;clear hok;generalize hbk:Zne 4 L H 2=bk at *;clear hbk
        by_cases hsz:t.size=4
        ·have HF:=Za (show whole (tl t)=(V,bk,false)by rw[HE.out];simp[hsz])
         have hsz':((t.size:Int)==4)=true:=by simp[hsz]
         have hsz3:4≤t.size:=by omega
         have hsz4:decide ((t.size:Int)<4)=false:=by simp only[decide_eq_false_iff_not];omega
         clear HE hsz
         cases bk
         ·go_wp2
          all_goals go_ret3
          all_goals first|(exfalso;omega)|exact⟨by rw[HF.out];rfl,rfl⟩
         ·go_wp2
          all_goals go_ret3
          all_goals first|(exfalso;omega)|exact⟨by rw[HF.out];rfl,rfl⟩
        ·have HF:=Za (show whole (tl t)=(V,false,bk)by rw[HE.out];simp only[Prod.mk.injEq,Xb,beq_eq_false_iff_ne,ne_eq,true_and];exact⟨Or.inr (by omega),by rw[decide_eq_true (by omega),Xr]⟩)
         have hsz':((t.size:Int)==4)=false:=by simp only[beq_eq_false_iff_ne,ne_eq];omega
         have hsz2:t.size<4:=by omega
         have hsz4:decide ((t.size:Int)<4)=true:=by simp only[decide_eq_true_eq];omega
         clear HE hsz
         cases bk
         ·go_wp2
          all_goals go_ret3
          all_goals first|(exfalso;omega)|exact⟨by rw[HF.out];rfl,rfl⟩
         ·go_wp2
          all_goals go_ret3
          all_goals first|(exfalso;omega)|exact⟨by rw[HF.out];rfl,rfl⟩
theorem Zii(t:BA)(w:World)(ht:0<t.size)(hs:t.size≤1000000):Calls Tryz.prog 171 #[.string t] w fun e w'=>e=.returned (.tuple #[.int .i64 (whole (tl t)).1,.bool (whole (tl t)).2.1,.bool (whole (tl t)).2.2])∧w=w':=by
 have hb0:=bb t[0];have hl0:=ZD t 0 ht;simp only[Xd,Xn]at hl0
 by_cases h1:t.size=1∧(t[0].toNat:Int)<128
 ·obtain⟨h1,h2⟩:=h1
  have h1':((t.size:Int)==1)=true:=by simp[h1]
  have HE:=Za (show whole (tl t)=((t[0].toNat:Int),true,false)by
   rw[hl0,Zu t 1 (by omega),whole,if_pos ⟨rfl,h2⟩])
  clear hl0 h1
  go_enter Tryz.func171,Tryz.ntmps171
  go_wp2
  go_ret3
  exact⟨by rw[HE.out];rfl,rfl⟩
 have hrl:((tl t).drop 1).length=t.size-1:=by rw[Xa,tl_length]
 have hz:¬((tl t).drop 1=[]∧(t[0].toNat:Int)<128):=by
  rintro⟨h,h2⟩
  exact h1 ⟨by rw[h]at hrl;simp at hrl;omega,h2⟩
 by_cases hA:192≤(t[0].toNat:Int)∧(t[0].toNat:Int)<224
 ·exact Zsp t w ht hs h1 hA.1 hA.2
 by_cases hB:224≤(t[0].toNat:Int)∧(t[0].toNat:Int)<240
 ·exact Znp t w ht hs h1 hB.1 hB.2
 by_cases hC:240≤(t[0].toNat:Int)∧(t[0].toNat:Int)<248
 ·exact Zqx t w ht hs h1 hC.1 hC.2
 have hws:ZbD (t[0].toNat:Int)=(0,0):=by unfold ZbD;rw[if_neg (by omega),if_neg (by omega),if_neg (by omega)]
 have HE:=Za (show whole (tl t)=(0,false,false)by rw[hl0,whole,if_neg hz,hws,hrl,if_pos (by simp only;omega)])
 clear hl0 hrl hz hws
 by_cases a1:(t[0].toNat:Int)<192
 ·by_cases a0:(t.size:Int)=1
  ·have a0':((t.size:Int)==1)=true:=by simp[a0]
   have a2:¬(t[0].toNat:Int)<128:=fun h=>h1 ⟨by omega,h⟩
   clear h1 hA hB hC a0
   go_enter Tryz.func171,Tryz.ntmps171
   go_wp2
   go_ret3
   exact⟨by rw[HE.out];rfl,rfl⟩
  ·have a0':((t.size:Int)==1)=false:=by simp[a0]
   clear h1 hA hB hC a0
   go_enter Tryz.func171,Tryz.ntmps171
   go_wp2
   go_ret3
   exact⟨by rw[HE.out];rfl,rfl⟩
 ·have a3:248≤(t[0].toNat:Int):=by omega
  clear h1 hA hB hC a1
  by_cases a0:(t.size:Int)=1
  ·have a0':((t.size:Int)==1)=true:=by simp[a0]
   clear a0
   go_enter Tryz.func171,Tryz.ntmps171
   go_wp2
   go_ret3
   exact⟨by rw[HE.out];rfl,rfl⟩
  ·have a0':((t.size:Int)==1)=false:=by simp[a0]
   clear a0
   go_enter Tryz.func171,Tryz.ntmps171
   go_wp2
   go_ret3
   exact⟨by rw[HE.out];rfl,rfl⟩
def grow(l:List UInt8)(n:Nat)(x:Int×Bool×Bool):Nat×Int×Bool:=
 if x.2.2=true∧n<l.length then
  if(whole (l.take (n+1))).2.1=false∧(whole (l.take (n+1))).2.2=false then(n,x.1,x.2.1)else grow l (n+1) (whole (l.take (n+1)))
 else(n,x.1,x.2.1)
 termination_by l.length-n
 decreasing_by omega
theorem Zo6(l:LB)(n:Nat)(x:Int×Bool×Bool)(h:n≤l.length):n≤(grow l n x).1∧(grow l n x).1≤l.length:=by
 induction n,x using grow.induct (l:=l)with
 | case1 n x h1 h2=>rw[grow,if_pos h1,if_pos h2];exact⟨Xy _,h⟩
 | case2 n x h1 h2 ih=>rw[grow,if_pos h1,if_neg h2];have:=ih (by omega);omega
 | case3 n x h1=>rw[grow,if_neg h1];exact⟨Xy _,h⟩
def Zk(l:List UInt8):List Int:=
 match l with
 | []=>[]
 | c::r=>(if(grow (c::r) 1 (whole [c])).2.2 then(grow (c::r) 1 (whole [c])).2.1 else 65533)::Zk (r.drop ((grow (c::r) 1 (whole [c])).1-1))
 termination_by l.length
 decreasing_by simp;omega
theorem Zd8(l:LB)(m:Nat)(x1:Int)(x2:Bool)(hl:l≠[])(h:grow l 1 (whole (l.take 1))=(m,x1,x2)):Zk l=(if x2 then x1 else 65533)::Zk (l.drop m):=by
 match l,hl with
 | c::r,_=>
  have hr:=Zo6 (c::r) 1 (whole [c]) (by simp)
  have h':grow (c::r) 1 (whole [c])=(m,x1,x2):=h;rw[h']at hr;rw[Zk,h']
  obtain⟨k,rfl⟩:∃k,m=k+1:=⟨m - 1,by simp only at hr;omega⟩
  rfl
theorem ZaN{l:LB}{m:Nat}{x:Int×Bool×Bool}(h:¬(x.2.2=true∧m<l.length)):grow l m x=(m,x.1,x.2.1):=by rw[grow,if_neg h]
theorem Zcd{l:LB}{m:Nat}{x:Int×Bool×Bool}(h:x.2.2=true)(h1:m<l.length)(h2:(whole (l.take (m+1))).2.1=false)(h3:(whole (l.take (m+1))).2.2=false):grow l m x=(m,x.1,x.2.1):=by rw[grow,if_pos ⟨h,h1⟩,if_pos ⟨h2,h3⟩]
theorem ZfK{l:LB}{m:Nat}{x:Int×Bool×Bool}(h:x.2.2=true)(h1:m<l.length)(h2:¬((whole (l.take (m+1))).2.1=false∧(whole (l.take (m+1))).2.2=false)):grow l m x=grow l (m+1) (whole (l.take (m+1))):=by rw[grow,if_pos ⟨h,h1⟩,if_neg h2]
theorem Za5(s:BA)(w:World)(hs:s.size≤1000000):Calls Tryz.prog 128 #[.string s] w fun e w'=>∃v,e=.returned v∧IntsAt w' v (Zk (tl s))∧Nx w w':=by
 go_enter Tryz.func128,Tryz.ntmps128
 go_wp2
 go_loopw [3,4] (fun o i wr=>∃(k:Nat) (P:LI),k≤s.size∧i=.int .i64 k∧Zk (tl s)=P++Zk ((tl s).drop k)∧OwnI wr w.heap.size o P∧P.length≤k∧Nx w wr) (fun _ i _=>s.size-(intOf i).toNat)
 case atStart=>exact⟨0,[],Nat.zero_le _,rfl,by simp,World.ownsRow_nil _ _ _ _,by simp,Nx.rfl⟩
 case round=>
  obtain⟨k,P,hk,rfl,hE,hown,hP,hnx⟩:=hrel
  by_cases hlt:k<s.size
  ·have HE:=Za hE
   have HO:=Za hown;have HN:=Za hnx;have hz:=hnx.size
   have hPl:P.length<1099511627776:=by omega
   clear hE hown hnx;obtain⟨L,hL⟩:∃L,(tl s).drop k=L:=⟨_,rfl⟩
   have hLl:L.length=s.size-k:=by rw[←hL,Xa,tl_length]
   have HLNE:=Za (show L≠[]by intro h;rw[h]at hLl;simp at hLl;omega)
   have HX:=Za (show ∀n,tl (s.extract k (k+n))=L.take n from fun n=>by rw[tl_extract,List.drop_take,hL];congr 1;omega)
   have HLK:=Za hL.symm;rw[hL]at HE;clear hL;go_wp2_with fail
   refine(Zii _ _ (by simp;omega) (by simp;omega)).mono ?_
   rintro e w' ⟨rfl,rfl⟩;rw[HX.out 1];obtain⟨x,hx⟩:∃x,whole (L.take 1)=x:=⟨_,rfl⟩;have HG0:=Za (rfl:grow L 1 (whole (L.take 1))=grow L 1 (whole (L.take 1)));rw[hx]
   have HG1:=Za (show grow L 1 (whole (L.take 1))=grow L 1 x by rw[hx])
   clear hx HG0;go_wp2_with fail
   go_loopw [5,6,7,8] (fun n v is more wq=>∃(m:Nat) (x1:Int) (x2 x3:Bool),wq=wr∧1≤m∧k+m≤s.size∧n=.int .i64 m∧v=.int .i64 x1∧is=.bool x2∧more=.bool x3∧grow L 1 (whole (L.take 1))=grow L m (x1,x2,x3)) (fun n _ _ _ _=>s.size-(intOf n).toNat)
   case atStart=>exact⟨1,x.1,x.2.1,x.2.2,rfl,by omega,by omega,rfl,rfl,rfl,rfl,HG1.out⟩
   case round=>
    clear HG1;obtain⟨m,x1,x2,x3,hwq,hm1,hm2,rfl,rfl,rfl,rfl,hgr⟩:=hrel;subst hwq;have HGR:=Za hgr;clear hgr
    cases x3
    ·have HG:=Za (HGR.out.trans (ZaN (by simp)))
     clear HGR;have HPT:=Za (Zd8 L m x1 x2 HLNE.out HG.out)
     cases x2
     ·go_wp2_with (at_builtin;go_must (refine ZbW wr 65533 rfl _ _ rfl w.heap.size u3 P rfl HO.out rfl hPl hz ?_;intro v' w2 ho2 hb2 _;have HO2:=Za ho2;clear ho2))
      go_roundw
      case rel=>exact⟨k+m,P++[65533],by omega,by go_num,by rw[HE.out,HPT.out,Xc,HLK.out,Xf];rfl,HO2.out,by simp;omega,HN.out.trans hb2⟩
      case measure=>simp[intOf];omega
     ·go_wp2_with (at_builtin;go_must (refine ZbW wr x1 rfl _ _ rfl w.heap.size u3 P rfl HO.out rfl hPl hz ?_;intro v' w2 ho2 hb2 _;have HO2:=Za ho2;clear ho2))
      go_roundw
      case rel=>exact⟨k+m,P++[x1],by omega,by go_num,by rw[HE.out,HPT.out,Xc,HLK.out,Xf];rfl,HO2.out,by simp;omega,HN.out.trans hb2⟩
      case measure=>simp[intOf];omega
    by_cases hml:k+m<s.size
    ·obtain⟨y,hy⟩:∃y,whole (L.take (m+1))=y:=⟨_,rfl⟩
     have HXm:=Za (HX.out (m+1));obtain⟨y1,y2,y3⟩:=y;have HY:=Za hy;clear hy
     by_cases hbr:y2=false∧y3=false
     ·obtain⟨rfl,rfl⟩:=hbr
      have HG:=Za (HGR.out.trans (Zcd rfl (by omega) (by rw[HY.out]) (by rw[HY.out])))
      go_wp2_with fail
      refine(Zii _ _ (by simp;omega) (by simp;omega)).mono ?_
      rintro e w' ⟨rfl,rfl⟩
      rw[show k+m+1=k+(m+1)by omega,HXm.out,HY.out]
      clear HGR HY HXm;have HPT:=Za (Zd8 L m x1 x2 HLNE.out HG.out)
      cases x2
      ·go_wp2_with (at_builtin;go_must (refine ZbW wr 65533 rfl _ _ rfl w.heap.size u3 P rfl HO.out rfl hPl hz ?_;intro v' w2 ho2 hb2 _;have HO2:=Za ho2;clear ho2))
       go_roundw
       case rel=>exact⟨k+m,P++[65533],by omega,by go_num,by rw[HE.out,HPT.out,Xc,HLK.out,Xf];rfl,HO2.out,by simp;omega,HN.out.trans hb2⟩
       case measure=>simp[intOf];omega
      ·go_wp2_with (at_builtin;go_must (refine ZbW wr x1 rfl _ _ rfl w.heap.size u3 P rfl HO.out rfl hPl hz ?_;intro v' w2 ho2 hb2 _;have HO2:=Za ho2;clear ho2))
       go_roundw
       case rel=>exact⟨k+m,P++[x1],by omega,by go_num,by rw[HE.out,HPT.out,Xc,HLK.out,Xf];rfl,HO2.out,by simp;omega,HN.out.trans hb2⟩
       case measure=>simp[intOf];omega
     ·have HG:=Za (HGR.out.trans ((ZfK rfl (by omega) (by rw[HY.out];exact hbr)).trans (by rw[HY.out])))
      have hbr':(!y2 && !y3)=false:=by cases y2<;>cases y3<;>simp_all
      go_wp2_with fail
      refine(Zii _ _ (by simp;omega) (by simp;omega)).mono ?_
      rintro e w' ⟨rfl,rfl⟩
      rw[show k+m+1=k+(m+1)by omega,HXm.out,HY.out]
      cases y2<;>cases y3
      ·simp at hbr
      all_goals
       go_wp2
       go_roundw
       case rel=>exact⟨m+1,y1,_,_,by trivial,by omega,by omega,by go_num,rfl,rfl,rfl,HG.out⟩
       case measure=>simp[intOf];omega
    ·have HG:=Za (HGR.out.trans (ZaN (by simp;omega)))
     clear HGR;have HPT:=Za (Zd8 L m x1 x2 HLNE.out HG.out)
     cases x2
     ·go_wp2_with (at_builtin;go_must (refine ZbW wr 65533 rfl _ _ rfl w.heap.size u3 P rfl HO.out rfl hPl hz ?_;intro v' w2 ho2 hb2 _;have HO2:=Za ho2;clear ho2))
      go_roundw
      case rel=>exact⟨k+m,P++[65533],by omega,by go_num,by rw[HE.out,HPT.out,Xc,HLK.out,Xf];rfl,HO2.out,by simp;omega,HN.out.trans hb2⟩
      case measure=>simp[intOf];omega
     ·go_wp2_with (at_builtin;go_must (refine ZbW wr x1 rfl _ _ rfl w.heap.size u3 P rfl HO.out rfl hPl hz ?_;intro v' w2 ho2 hb2 _;have HO2:=Za ho2;clear ho2))
      go_roundw
      case rel=>exact⟨k+m,P++[x1],by omega,by go_num,by rw[HE.out,HPT.out,Xc,HLK.out,Xf];rfl,HO2.out,by simp;omega,HN.out.trans hb2⟩
      case measure=>simp[intOf];omega
  ·rw[Zu s k (by omega)]at hE
   go_wp2;go_ret
   exact⟨_,rfl,by rw[hE];simpa [Zk]using OwnI.ints hown,hnx⟩
end Go.Proofs.YtchkhibgbnhjpabGreatDoor
