import Derived.Test.YtchkhibgbnhjpabGreatDoorW04
open Bool renaming and_eq_true→Xg,and_eq_false_iff→Xh,or_false→Xv,and_true→XC,or_true→XI
open Int renaming mul_comm→XD,mul_le_mul_of_nonneg_right→XE,mul_assoc→XH,toNat_natCast→XP,pow_nonneg→XR,le_trans→XT,pow_succ→XU
open List renaming length_drop→Xa,take_of_length_le→Xb,length_append→Xc,length_cons→Xd,length_take_le→Xf,take_succ_eq_append_getElem→Xi,append_assoc→Xj,getElem?_eq_getElem→Xk,drop_zero→Xn,getElem_mem→Xo,length_take→Xp,drop_eq_getElem_cons→Xq,all_append→Xr,length_nil→Xs,getElem_drop→Xt,drop_of_length_le→Xu,getD_eq_getElem?_getD→Xw,flatMap_cons→Xx,mem_cons_of_mem→Xy,mem_of_mem_take→Xz,mem_of_mem_drop→XA,drop_succ_cons→XB,all_cons→XF,getElem_append_left→XG,getElem_cons_zero→XJ,getElem_cons_succ→XK,mem_cons_self→XN,all_eq_false→XO,drop_drop→XQ,mem_cons→XS
open Nat renaming zero_le→Xe,zero_add→Xl,add_comm→XL,le_refl→XV
open Go.Value renaming string→J,bool→C,int→I
open Go.IntKind renaming i64→X
open Go.Ending renaming returned→Y
namespace Go.Proofs.YtchkhibgbnhjpabGreatDoor
open Tryz
open Go.RowKit
set_option maxHeartbeats 2000000
set_option maxRecDepth 100000
variable [Fl]
set_option linter.all false
def room(size k:Int):Int×Int:=
 if size=2 then(128,2047)else if size=3/\k=0 then(2048,55295)else if size=3 then(57344,65535)else(65536,1114111)
theorem ZcP(size k:Int)(w:World):Calls prog 209 #[I X size,I X k] w fun e w'=>e=Y (.tuple #[I X (room size k).1,I X (room size k).2])/\w=w':=by
 by_cases h2:size=2
 .subst h2
  go_enter func209,ntmps209
  go_wp2;go_ret2;exact⟨rfl,rfl⟩
 by_cases h3:size=3
 .subst h3
  by_cases hk:k=0
  .subst hk
   go_enter func209,ntmps209
   go_wp2;go_ret2;exact⟨rfl,rfl⟩
  .have hk':(k==0)=false:=by simp[hk]
   have HE:=A (show room 3 k=(57344,65535)by simp[room,hk])
   go_enter func209,ntmps209
   go_wp2;go_ret2
   exact⟨by rw[HE.o];rfl,rfl⟩
 .have h2':(size==2)=false:=by simp[h2]
  have h3':(size==3)=false:=by simp[h3]
  have HE:=A (show room size k=(65536,1114111)by simp[room,h2,h3])
  clear h2 h3
  go_enter func209,ntmps209
  go_wp2;go_ret2
  exact⟨by rw[HE.o];rfl,rfl⟩
def ZbH(c:Int):Int×Int:=
 if 192<=c/\c<224 then(2,c-192)else if 224<=c/\c<240 then(3,c-224)else if 240<=c/\c<248 then(4,c-240)else(0,0)
def Z4(v:Int)(l:List UInt8):Int:=l.foldl (fun v b=>64*v+(b.toNat:Int)-128) v
def Zcx(b:UInt8):Bool:=decide (128<=(b.toNat:Int))&&decide ((b.toNat:Int)<=191)
def wtest(size lo hi k:Int):Bool:=decide (lo<=(room size k).2)&&decide ((room size k).1<=hi)
def wok(size lo hi:Int):Bool:=decide (1<size)&&(wtest size lo hi 0||wtest size lo hi 1)
def whole(t:List UInt8):Int×Bool×Bool:=
 match t with
 | []=>(0,false,false)
 | b::r=>
  if r=[]/\(b.toNat:Int)<128 then((b.toNat:Int),true,false)
  else if(ZbH b.toNat).1<(r.length:Int)+1 then(0,false,false)
  else if r.all Zcx=false then(0,false,false)
  else
   let v:=Z4 (ZbH b.toNat).2 r
   let j:=((ZbH b.toNat).1-((r.length:Int)+1)).toNat
   let ok:=wok (ZbH b.toNat).1 (v*64^j) (v*64^j+64^j-1)
   (v,ok&&((r.length:Int)+1==(ZbH b.toNat).1),ok&&decide ((r.length:Int)+1<(ZbH b.toNat).1))
theorem Zik(c:Int):0<=(ZbH c).1/\(ZbH c).1<=4/\0<=(ZbH c).2/\(ZbH c).2<=31:=by unfold ZbH;split;simp;omega;split;simp;omega;split<;>simp<;>omega
theorem ZgN(v:Int)(l:LB)(b:UInt8):Z4 v (l++[b])=64*Z4 v l+(b.toNat:Int)-128:=by simp[Z4]
theorem ZsR(v:Int)(h0:0<=v)(l:LB)(hc:l.all Zcx=true):0<=Z4 v l/\Z4 v l<=(v+1)*64^l.length-1:=by
 induction l generalizing v with
 | nil=>simp[Z4];omega
 | cons b l ih=>
  simp only[XF,Xg]at hc;have hb:=hc.1;simp only[Zcx,Xg,decide_eq_true_eq]at hb
  have h:=ih (64*v+(b.toNat:Int)-128) (by omega) hc.2
  have e:Z4 v (b::l)=Z4 (64*v+(b.toNat:Int)-128) l:=rfl;rw[e]
  refine⟨h.1,XT h.2 ?_⟩
  have hm:(64*v+(b.toNat:Int)-128+1)*64^l.length<=(64*(v+1))*64^l.length:=XE (by omega) (XR (by omega))
  have e2:(v+1)*64^(b::l).length=(64*(v+1))*64^l.length:=by rw[Xd,XU];rw[XD (64^l.length) 64,<-XH,XD (v+1) 64]
  omega
theorem ZfN(v:Int)(h0:0<=v)(h1:v<=31)(l:LB)(hl:l.length<=3)(hc:l.all Zcx=true):0<=Z4 v l/\Z4 v l<=8388607:=by
 have h:=ZsR v h0 l hc
 refine⟨h.1,XT h.2 ?_⟩
 have hm:(v+1)*64^l.length<=32*64^l.length:=XE (by omega) (XR (by omega))
 have hp:(64:Int)^l.length<=262144:=by
  match l.length,hl with
  | 0,_=>decide
  | 1,_=>decide
  | 2,_=>decide
  | 3,_=>decide
 omega
theorem Znv{b:UInt8}(h:(b.toNat:Int)<128):Zcx b=false:=by unfold Zcx;simp only[Xh,decide_eq_false_iff_not];omega
theorem Znw{b:UInt8}(h:191<(b.toNat:Int)):Zcx b=false:=by unfold Zcx;simp only[Xh,decide_eq_false_iff_not];omega
theorem ZgO{R:LB}{j:Nat}{b:UInt8}(hs:R.take (j+1)=R.take j++[b])(hb:Zcx b=false):R.all Zcx=false:=by rw[<-List.take_append_drop (j+1) R,hs,Xr,Xr];simp[hb]
theorem ZsS{R:LB}{j:Nat}{b:UInt8}(hs:R.take (j+1)=R.take j++[b])(h:(R.take j).all Zcx=true)(h1:¬(b.toNat:Int)<128)(h2:¬191<(b.toNat:Int)):(R.take (j+1)).all Zcx=true:=by
 rw[hs,Xr,h]
 have:Zcx b=true:=by unfold Zcx;simp only[Xg,decide_eq_true_eq];omega
 simp[this]
theorem Zxy(V:Int)(h0:0<=V)(h1:V<=8388607)(j:Nat)(hj:j<=3):0<=V*64^j/\V*64^j<=2199022993408/\0<=V*64^j+64^j-1/\V*64^j+64^j-1<=2199023255551:=by
 match j,hj with
 | 0,_=>simp;omega
 | 1,_=>simp;omega
 | 2,_=>simp;omega
 | 3,_=>simp;omega
theorem ZcX(V:Int)(j:Nat):V*64^(j+1)=64*(V*64^j)/\V*64^(j+1)+64^(j+1)-1=64*(V*64^j+64^j-1)+63:=by
 have e:(64:Int)^(j+1)=64*64^j:=by rw[XU,XD]
 have e2:V*64^(j+1)=64*(V*64^j):=by rw[e,<-XH,XD V 64,XH]
 exact⟨e2,by rw[e2,e];omega⟩
def Zm2(sz lo hi:Int)(j:Nat):Bool:=(decide (0<j)&&wtest sz lo hi 0)||(decide (1<j)&&wtest sz lo hi 1)
theorem Zil(sz lo hi:Int)(j:Nat)(hj:j<2):Zm2 sz lo hi (j+1)=(Zm2 sz lo hi j||wtest sz lo hi j):=by
 match j,hj with
 | 0,_=>simp[Zm2]
 | 1,_=>simp[Zm2]
theorem ZsT(t:BA)(w:World)(ht:0<t.size)(hs:t.size<=1000000)(h1:¬(t.size=1/\(t[0].toNat:Int)<128))(hA1:192<=(t[0].toNat:Int))(hA2:(t[0].toNat:Int)<224):Calls prog 171 #[J t] w fun e w'=>e=Y (.tuple #[I X (whole (tl t)).1,C (whole (tl t)).2.1,C (whole (tl t)).2.2])/\w=w':=by
 have hb0:=bb t[0];have hl0:=ZB t 0 ht;simp only[Xn,Xl]at hl0
 have hrl:((tl t).drop 1).length=t.size-1:=by rw[Xa,Za]
 have hz:¬((tl t).drop 1=[]/\(t[0].toNat:Int)<128):=by
  rintro⟨h,h2⟩
  exact h1 ⟨by rw[h]at hrl;simp at hrl;omega,h2⟩
 have hws:ZbH (t[0].toNat:Int)=((2:Int),(t[0].toNat:Int)-192):=by unfold ZbH;rw[ifP ⟨hA1,hA2⟩]
 have hwr:=Zik (t[0].toNat:Int);rw[hws]at hwr;simp only at hwr
 by_cases hn:(2:Int)<(t.size:Int)
 .have HE:=A (show whole (tl t)=(0,false,false)by rw[hl0,whole,ifN hz,hws,hrl,ifP (by simp only;omega)])
  clear hl0 hrl hz h1 hws
  go_enter func171,ntmps171
  go_wp2
  go_ret3
  exact⟨by rw[HE.o];rfl,rfl⟩
 have HE1:=A (show whole (tl t)=(if((tl t).drop 1).all Zcx=false then(0,false,false)else(Z4 ((t[0].toNat:Int)-192) ((tl t).drop 1),wok 2 (Z4 ((t[0].toNat:Int)-192) ((tl t).drop 1)*64^(2-t.size)) (Z4 ((t[0].toNat:Int)-192) ((tl t).drop 1)*64^(2-t.size)+64^(2-t.size)-1)&&((t.size:Int)==2),wok 2 (Z4 ((t[0].toNat:Int)-192) ((tl t).drop 1)*64^(2-t.size)) (Z4 ((t[0].toNat:Int)-192) ((tl t).drop 1)*64^(2-t.size)+64^(2-t.size)-1)&&decide ((t.size:Int)<2)))by
  rw[hl0,whole,ifN hz,hws,hrl,ifN (by simp only;omega)]
  have e1:((t.size-1:Nat):Int)+1=(t.size:Int):=by omega
  have e2:((2:Int)-(t.size:Int)).toNat=2-t.size:=by omega
  simp only[e1,e2,XB,Xn])
 clear hl0 hz h1 hws;generalize hR:(tl t).drop 1=R at *
 have HG:=A (show ∀j,(h:j+1<t.size)->R.take (j+1)=R.take j++[t[j+1]]from fun j h=>by
  rw[<-hR,Xi (by rw[Xa,Za];omega),Xt]
  simp only[XL 1 j,Zeu t (j+1) h])
 clear hR
 go_enter func171,ntmps171
 go_wp2
 all_goals
  go_loop [8,9] (fun v i=>∃j:Nat,j+1<=t.size/\i=I X ((j+1:Nat):Int)/\v=I X (Z4 ((t[0].toNat:Int)-192) (R.take j))/\(R.take j).all Zcx=true) (fun _ i=>t.size-(intOf i).toNat)
  case atStart=>exact⟨0,by omega,rfl,rfl,rfl⟩
  case round=>
   obtain⟨j,hj,rfl,rfl,hc⟩:=hrel
   have hvr:=ZfN ((t[0].toNat:Int)-192) (by omega) (by omega) (R.take j) (by have:=Xf j R;omega) hc
   have HC:=A hc;clear hc
   by_cases hlt:j+1<t.size
   .have hbj:=bb t[j+1]
    have HS:=A (HG.o j hlt)
    by_cases hc1:(t[j+1].toNat:Int)<128
    .have HB:=A (show R.all Zcx=false from ZgO HS.o (Znv hc1))
     go_wp2
     all_goals go_ret3
     all_goals exact⟨by rw[HE1.o,ifP HB.o];rfl,rfl⟩
    by_cases hc2:191<(t[j+1].toNat:Int)
    .have HB:=A (show R.all Zcx=false from ZgO HS.o (Znw hc2))
     go_wp2
     all_goals go_ret3
     all_goals exact⟨by rw[HE1.o,ifP HB.o];rfl,rfl⟩
    have HK:=A (show(R.take (j+1)).all Zcx=true from ZsS HS.o HC.o hc1 hc2)
    have HW:=A (show Z4 ((t[0].toNat:Int)-192) (R.take (j+1))=(64:Int)*Z4 ((t[0].toNat:Int)-192) (R.take j)+(t[j+1].toNat:Int)-128 by rw[HS.o,ZgN])
    generalize hV:Z4 ((t[0].toNat:Int)-192) (R.take j)=V at *;clear hV;go_wp2
    all_goals
     go_round
     exact⟨j+1,by omega,by go_num,by rw[HW.o],HK.o⟩
     simp[intOf];omega
   .have hjR:R.take j=R:=Xb (by omega)
    rw[hjR]at HC hvr;rw[hjR];generalize hV:Z4 ((t[0].toNat:Int)-192) R=V at *;clear hV HG hjR;have HE2:=HE1.o
    rw[ifN (by simp[HC.o])]at HE2
    have HE:=A HE2;clear HE1 HE2 HC;obtain⟨hv0,hv1⟩:=hvr;go_wp2
    go_loop [10,11,12] (fun lo hi i=>∃(m:Nat) (L H:Int),t.size+m<=2/\i=I X ((t.size+m:Nat):Int)/\lo=I X L/\hi=I X H/\Hid (L=V*64^m)/\Hid (H=V*64^m+64^m-1)) (fun _ _ i=>2-(intOf i).toNat)
    case atStart=>exact⟨0,V,V,by omega,by first|rfl|go_num,rfl,rfl,by show V=V*64^0;simp,by show V=V*64^0+64^0-1;simp⟩
    case round=>
     obtain⟨m,L,H,hm,rfl,rfl,rfl,HL,HH⟩:=hrel
     have hpw:=Zxy V hv0 hv1 m (by omega)
     rw[<-HH.o,<-HL.o]at hpw;obtain⟨hp1,hp2,hp3,hp4⟩:=hpw
     by_cases hlt2:t.size+m<2
     .have HL2:=A ((congrArg (64 * ·) HL.o).trans (ZcX V m).1.symm)
      have HH2:=A ((congrArg (64 * · + 63) HH.o).trans (ZcX V m).2.symm);go_wp2
      all_goals
       go_round
       exact⟨m+1,64*L,64*H+63,by omega,by go_num,rfl,rfl,HL2.o,HH2.o⟩
       simp[intOf];omega
     .have hmm:m=2-t.size:=by omega
      rw[<-hmm,<-HH.o,<-HL.o]at HE;clear hmm HL HH;go_wp2
      go_loop [13,14] (fun ok k=>∃j:Nat,j<=2/\k=I X (j:Int)/\ok=C (Zm2 2 L H j)) (fun _ k=>2-(intOf k).toNat)
      case atStart=>exact⟨0,by omega,rfl,rfl⟩
      case round=>
       obtain⟨j2,hj2,rfl,rfl⟩:=hrel
       by_cases hlt3:j2<2
       .have HS:=A (Zil 2 L H j2 hlt3)
        by_cases ht1:L<=(room 2 j2).2
        .by_cases ht2:(room 2 j2).1<=H
         .have HTT:=A (show wtest 2 L H j2=true by simp[wtest,ht1,ht2])
          go_wp2_with (go_at_call 209;refine(ZcP _ _ _).mono ?_;rintro e w' ⟨rfl,rfl⟩)
          go_round
          exact⟨j2+1,by omega,by go_num,by rw[HS.o,HTT.o,XI]⟩
          simp[intOf];omega
         .have HTT:=A (show wtest 2 L H j2=false by simp[wtest,ht2])
          go_wp2_with (go_at_call 209;refine(ZcP _ _ _).mono ?_;rintro e w' ⟨rfl,rfl⟩)
          go_round
          exact⟨j2+1,by omega,by go_num,by rw[HS.o,HTT.o,Xv]⟩
          simp[intOf];omega
        .have HTT:=A (show wtest 2 L H j2=false by simp[wtest,ht1])
         go_wp2_with (go_at_call 209;refine(ZcP _ _ _).mono ?_;rintro e w' ⟨rfl,rfl⟩)
         go_round
         exact⟨j2+1,by omega,by go_num,by rw[HS.o,HTT.o,Xv]⟩
         simp[intOf];omega
       .have hj2e:j2=2:=by omega
        subst hj2e
        have hok:Zm2 2 L H 2=wok 2 L H:=by simp[Zm2,wok]
        rw[<-hok]at HE;clear hok;generalize hbk:Zm2 2 L H 2=bk at *;clear hbk
        by_cases hsz:t.size=2
        .have HF:=A (show whole (tl t)=(V,bk,false)by rw[HE.o];simp[hsz])
         have hsz':((t.size:Int)==2)=true:=by simp[hsz]
         have hsz3:2<=t.size:=by omega
         have hsz4:decide ((t.size:Int)<2)=false:=by simp only[decide_eq_false_iff_not];omega
         clear HE hsz
         cases bk
         .go_wp2
          all_goals go_ret3
          all_goals first|(exfalso;omega)|exact⟨by rw[HF.o];rfl,rfl⟩
         .go_wp2
          all_goals go_ret3
          all_goals first|(exfalso;omega)|exact⟨by rw[HF.o];rfl,rfl⟩
        .have HF:=A (show whole (tl t)=(V,false,bk)by rw[HE.o];simp only[Prod.mk.injEq,Xh,beq_eq_false_iff_ne,ne_eq,true_and];exact⟨Or.inr (by omega),by rw[decide_eq_true (by omega),XC]⟩)
         have hsz':((t.size:Int)==2)=false:=by simp only[beq_eq_false_iff_ne,ne_eq];omega
         have hsz2:t.size<2:=by omega
         have hsz4:decide ((t.size:Int)<2)=true:=by simp only[decide_eq_true_eq];omega
         clear HE hsz
         cases bk
         .go_wp2
          all_goals go_ret3
          all_goals first|(exfalso;omega)|exact⟨by rw[HF.o];rfl,rfl⟩
         .go_wp2
          all_goals go_ret3
          all_goals first|(exfalso;omega)|exact⟨by rw[HF.o];rfl,rfl⟩
theorem Znx(t:BA)(w:World)(ht:0<t.size)(hs:t.size<=1000000)(h1:¬(t.size=1/\(t[0].toNat:Int)<128))(hA1:224<=(t[0].toNat:Int))(hA2:(t[0].toNat:Int)<240):Calls prog 171 #[J t] w fun e w'=>e=Y (.tuple #[I X (whole (tl t)).1,C (whole (tl t)).2.1,C (whole (tl t)).2.2])/\w=w':=by
 have hb0:=bb t[0];have hl0:=ZB t 0 ht;simp only[Xn,Xl]at hl0
 have hrl:((tl t).drop 1).length=t.size-1:=by rw[Xa,Za]
 have hz:¬((tl t).drop 1=[]/\(t[0].toNat:Int)<128):=by
  rintro⟨h,h2⟩
  exact h1 ⟨by rw[h]at hrl;simp at hrl;omega,h2⟩
 have hws:ZbH (t[0].toNat:Int)=((3:Int),(t[0].toNat:Int)-224):=by unfold ZbH;rw[ifN (by omega),ifP ⟨hA1,hA2⟩]
 have hwr:=Zik (t[0].toNat:Int);rw[hws]at hwr;simp only at hwr
 by_cases hn:(3:Int)<(t.size:Int)
 .have HE:=A (show whole (tl t)=(0,false,false)by rw[hl0,whole,ifN hz,hws,hrl,ifP (by simp only;omega)])
  clear hl0 hrl hz h1 hws
  go_enter func171,ntmps171
  go_wp2
  go_ret3
  exact⟨by rw[HE.o];rfl,rfl⟩
 have HE1:=A (show whole (tl t)=(if((tl t).drop 1).all Zcx=false then(0,false,false)else(Z4 ((t[0].toNat:Int)-224) ((tl t).drop 1),wok 3 (Z4 ((t[0].toNat:Int)-224) ((tl t).drop 1)*64^(3-t.size)) (Z4 ((t[0].toNat:Int)-224) ((tl t).drop 1)*64^(3-t.size)+64^(3-t.size)-1)&&((t.size:Int)==3),wok 3 (Z4 ((t[0].toNat:Int)-224) ((tl t).drop 1)*64^(3-t.size)) (Z4 ((t[0].toNat:Int)-224) ((tl t).drop 1)*64^(3-t.size)+64^(3-t.size)-1)&&decide ((t.size:Int)<3)))by
  rw[hl0,whole,ifN hz,hws,hrl,ifN (by simp only;omega)]
  have e1:((t.size-1:Nat):Int)+1=(t.size:Int):=by omega
  have e2:((3:Int)-(t.size:Int)).toNat=3-t.size:=by omega
  simp only[e1,e2,XB,Xn])
 clear hl0 hz h1 hws;generalize hR:(tl t).drop 1=R at *
 have HG:=A (show ∀j,(h:j+1<t.size)->R.take (j+1)=R.take j++[t[j+1]]from fun j h=>by
  rw[<-hR,Xi (by rw[Xa,Za];omega),Xt]
  simp only[XL 1 j,Zeu t (j+1) h])
 clear hR
 go_enter func171,ntmps171
 go_wp2
 all_goals
  go_loop [8,9] (fun v i=>∃j:Nat,j+1<=t.size/\i=I X ((j+1:Nat):Int)/\v=I X (Z4 ((t[0].toNat:Int)-224) (R.take j))/\(R.take j).all Zcx=true) (fun _ i=>t.size-(intOf i).toNat)
  case atStart=>exact⟨0,by omega,rfl,rfl,rfl⟩
  case round=>
   obtain⟨j,hj,rfl,rfl,hc⟩:=hrel
   have hvr:=ZfN ((t[0].toNat:Int)-224) (by omega) (by omega) (R.take j) (by have:=Xf j R;omega) hc
   have HC:=A hc;clear hc
   by_cases hlt:j+1<t.size
   .have hbj:=bb t[j+1]
    have HS:=A (HG.o j hlt)
    by_cases hc1:(t[j+1].toNat:Int)<128
    .have HB:=A (show R.all Zcx=false from ZgO HS.o (Znv hc1))
     go_wp2
     all_goals go_ret3
     all_goals exact⟨by rw[HE1.o,ifP HB.o];rfl,rfl⟩
    by_cases hc2:191<(t[j+1].toNat:Int)
    .have HB:=A (show R.all Zcx=false from ZgO HS.o (Znw hc2))
     go_wp2
     all_goals go_ret3
     all_goals exact⟨by rw[HE1.o,ifP HB.o];rfl,rfl⟩
    have HK:=A (show(R.take (j+1)).all Zcx=true from ZsS HS.o HC.o hc1 hc2)
    have HW:=A (show Z4 ((t[0].toNat:Int)-224) (R.take (j+1))=(64:Int)*Z4 ((t[0].toNat:Int)-224) (R.take j)+(t[j+1].toNat:Int)-128 by rw[HS.o,ZgN])
    generalize hV:Z4 ((t[0].toNat:Int)-224) (R.take j)=V at *;clear hV;go_wp2
    all_goals
     go_round
     exact⟨j+1,by omega,by go_num,by rw[HW.o],HK.o⟩
     simp[intOf];omega
   .have hjR:R.take j=R:=Xb (by omega)
    rw[hjR]at HC hvr;rw[hjR];generalize hV:Z4 ((t[0].toNat:Int)-224) R=V at *;clear hV HG hjR;have HE2:=HE1.o
    rw[ifN (by simp[HC.o])]at HE2
    have HE:=A HE2;clear HE1 HE2 HC;obtain⟨hv0,hv1⟩:=hvr;go_wp2
    go_loop [10,11,12] (fun lo hi i=>∃(m:Nat) (L H:Int),t.size+m<=3/\i=I X ((t.size+m:Nat):Int)/\lo=I X L/\hi=I X H/\Hid (L=V*64^m)/\Hid (H=V*64^m+64^m-1)) (fun _ _ i=>3-(intOf i).toNat)
    case atStart=>exact⟨0,V,V,by omega,by first|rfl|go_num,rfl,rfl,by show V=V*64^0;simp,by show V=V*64^0+64^0-1;simp⟩
    case round=>
     obtain⟨m,L,H,hm,rfl,rfl,rfl,HL,HH⟩:=hrel
     have hpw:=Zxy V hv0 hv1 m (by omega)
     rw[<-HH.o,<-HL.o]at hpw;obtain⟨hp1,hp2,hp3,hp4⟩:=hpw
     by_cases hlt2:t.size+m<3
     .have HL2:=A ((congrArg (64 * ·) HL.o).trans (ZcX V m).1.symm)
      have HH2:=A ((congrArg (64 * · + 63) HH.o).trans (ZcX V m).2.symm);go_wp2
      all_goals
       go_round
       exact⟨m+1,64*L,64*H+63,by omega,by go_num,rfl,rfl,HL2.o,HH2.o⟩
       simp[intOf];omega
     .have hmm:m=3-t.size:=by omega
      rw[<-hmm,<-HH.o,<-HL.o]at HE;clear hmm HL HH;go_wp2
      go_loop [13,14] (fun ok k=>∃j:Nat,j<=2/\k=I X (j:Int)/\ok=C (Zm2 3 L H j)) (fun _ k=>2-(intOf k).toNat)
      case atStart=>exact⟨0,by omega,rfl,rfl⟩
      case round=>
       obtain⟨j2,hj2,rfl,rfl⟩:=hrel
       by_cases hlt3:j2<2
       .have HS:=A (Zil 3 L H j2 hlt3)
        by_cases ht1:L<=(room 3 j2).2
        .by_cases ht2:(room 3 j2).1<=H
         .have HTT:=A (show wtest 3 L H j2=true by simp[wtest,ht1,ht2])
          go_wp2_with (go_at_call 209;refine(ZcP _ _ _).mono ?_;rintro e w' ⟨rfl,rfl⟩)
          go_round
          exact⟨j2+1,by omega,by go_num,by rw[HS.o,HTT.o,XI]⟩
          simp[intOf];omega
         .have HTT:=A (show wtest 3 L H j2=false by simp[wtest,ht2])
          go_wp2_with (go_at_call 209;refine(ZcP _ _ _).mono ?_;rintro e w' ⟨rfl,rfl⟩)
          go_round
          exact⟨j2+1,by omega,by go_num,by rw[HS.o,HTT.o,Xv]⟩
          simp[intOf];omega
        .have HTT:=A (show wtest 3 L H j2=false by simp[wtest,ht1])
         go_wp2_with (go_at_call 209;refine(ZcP _ _ _).mono ?_;rintro e w' ⟨rfl,rfl⟩)
         go_round
         exact⟨j2+1,by omega,by go_num,by rw[HS.o,HTT.o,Xv]⟩
         simp[intOf];omega
       .have hj2e:j2=2:=by omega
        subst hj2e
        have hok:Zm2 3 L H 2=wok 3 L H:=by simp[Zm2,wok]
        rw[<-hok]at HE;clear hok;generalize hbk:Zm2 3 L H 2=bk at *;clear hbk
        by_cases hsz:t.size=3
        .have HF:=A (show whole (tl t)=(V,bk,false)by rw[HE.o];simp[hsz])
         have hsz':((t.size:Int)==3)=true:=by simp[hsz]
         have hsz3:3<=t.size:=by omega
         have hsz4:decide ((t.size:Int)<3)=false:=by simp only[decide_eq_false_iff_not];omega
         clear HE hsz
         cases bk
         .go_wp2
          all_goals go_ret3
          all_goals first|(exfalso;omega)|exact⟨by rw[HF.o];rfl,rfl⟩
         .go_wp2
          all_goals go_ret3
          all_goals first|(exfalso;omega)|exact⟨by rw[HF.o];rfl,rfl⟩
        .have HF:=A (show whole (tl t)=(V,false,bk)by rw[HE.o];simp only[Prod.mk.injEq,Xh,beq_eq_false_iff_ne,ne_eq,true_and];exact⟨Or.inr (by omega),by rw[decide_eq_true (by omega),XC]⟩)
         have hsz':((t.size:Int)==3)=false:=by simp only[beq_eq_false_iff_ne,ne_eq];omega
         have hsz2:t.size<3:=by omega
         have hsz4:decide ((t.size:Int)<3)=true:=by simp only[decide_eq_true_eq];omega
         clear HE hsz
         cases bk
         .go_wp2
          all_goals go_ret3
          all_goals first|(exfalso;omega)|exact⟨by rw[HF.o];rfl,rfl⟩
         .go_wp2
          all_goals go_ret3
          all_goals first|(exfalso;omega)|exact⟨by rw[HF.o];rfl,rfl⟩
theorem ZqG(t:BA)(w:World)(ht:0<t.size)(hs:t.size<=1000000)(h1:¬(t.size=1/\(t[0].toNat:Int)<128))(hA1:240<=(t[0].toNat:Int))(hA2:(t[0].toNat:Int)<248):Calls prog 171 #[J t] w fun e w'=>e=Y (.tuple #[I X (whole (tl t)).1,C (whole (tl t)).2.1,C (whole (tl t)).2.2])/\w=w':=by
 have hb0:=bb t[0];have hl0:=ZB t 0 ht;simp only[Xn,Xl]at hl0
 have hrl:((tl t).drop 1).length=t.size-1:=by rw[Xa,Za]
 have hz:¬((tl t).drop 1=[]/\(t[0].toNat:Int)<128):=by
  rintro⟨h,h2⟩
  exact h1 ⟨by rw[h]at hrl;simp at hrl;omega,h2⟩
 have hws:ZbH (t[0].toNat:Int)=((4:Int),(t[0].toNat:Int)-240):=by unfold ZbH;rw[ifN (by omega),ifN (by omega),ifP ⟨hA1,hA2⟩]
 have hwr:=Zik (t[0].toNat:Int);rw[hws]at hwr;simp only at hwr
 by_cases hn:(4:Int)<(t.size:Int)
 .have HE:=A (show whole (tl t)=(0,false,false)by rw[hl0,whole,ifN hz,hws,hrl,ifP (by simp only;omega)])
  clear hl0 hrl hz h1 hws
  go_enter func171,ntmps171
  go_wp2
  go_ret3
  exact⟨by rw[HE.o];rfl,rfl⟩
 have HE1:=A (show whole (tl t)=(if((tl t).drop 1).all Zcx=false then(0,false,false)else(Z4 ((t[0].toNat:Int)-240) ((tl t).drop 1),wok 4 (Z4 ((t[0].toNat:Int)-240) ((tl t).drop 1)*64^(4-t.size)) (Z4 ((t[0].toNat:Int)-240) ((tl t).drop 1)*64^(4-t.size)+64^(4-t.size)-1)&&((t.size:Int)==4),wok 4 (Z4 ((t[0].toNat:Int)-240) ((tl t).drop 1)*64^(4-t.size)) (Z4 ((t[0].toNat:Int)-240) ((tl t).drop 1)*64^(4-t.size)+64^(4-t.size)-1)&&decide ((t.size:Int)<4)))by
  rw[hl0,whole,ifN hz,hws,hrl,ifN (by simp only;omega)]
  have e1:((t.size-1:Nat):Int)+1=(t.size:Int):=by omega
  have e2:((4:Int)-(t.size:Int)).toNat=4-t.size:=by omega
  simp only[e1,e2,XB,Xn])
 clear hl0 hz h1 hws;generalize hR:(tl t).drop 1=R at *
 have HG:=A (show ∀j,(h:j+1<t.size)->R.take (j+1)=R.take j++[t[j+1]]from fun j h=>by
  rw[<-hR,Xi (by rw[Xa,Za];omega),Xt]
  simp only[XL 1 j,Zeu t (j+1) h])
 clear hR
 go_enter func171,ntmps171
 go_wp2
 all_goals
  go_loop [8,9] (fun v i=>∃j:Nat,j+1<=t.size/\i=I X ((j+1:Nat):Int)/\v=I X (Z4 ((t[0].toNat:Int)-240) (R.take j))/\(R.take j).all Zcx=true) (fun _ i=>t.size-(intOf i).toNat)
  case atStart=>exact⟨0,by omega,rfl,rfl,rfl⟩
  case round=>
   obtain⟨j,hj,rfl,rfl,hc⟩:=hrel
   have hvr:=ZfN ((t[0].toNat:Int)-240) (by omega) (by omega) (R.take j) (by have:=Xf j R;omega) hc
   have HC:=A hc;clear hc
   by_cases hlt:j+1<t.size
   .have hbj:=bb t[j+1]
    have HS:=A (HG.o j hlt)
    by_cases hc1:(t[j+1].toNat:Int)<128
    .have HB:=A (show R.all Zcx=false from ZgO HS.o (Znv hc1))
     go_wp2
     all_goals go_ret3
     all_goals exact⟨by rw[HE1.o,ifP HB.o];rfl,rfl⟩
    by_cases hc2:191<(t[j+1].toNat:Int)
    .have HB:=A (show R.all Zcx=false from ZgO HS.o (Znw hc2))
     go_wp2
     all_goals go_ret3
     all_goals exact⟨by rw[HE1.o,ifP HB.o];rfl,rfl⟩
    have HK:=A (show(R.take (j+1)).all Zcx=true from ZsS HS.o HC.o hc1 hc2)
    have HW:=A (show Z4 ((t[0].toNat:Int)-240) (R.take (j+1))=(64:Int)*Z4 ((t[0].toNat:Int)-240) (R.take j)+(t[j+1].toNat:Int)-128 by rw[HS.o,ZgN])
    generalize hV:Z4 ((t[0].toNat:Int)-240) (R.take j)=V at *;clear hV;go_wp2
    all_goals
     go_round
     exact⟨j+1,by omega,by go_num,by rw[HW.o],HK.o⟩
     simp[intOf];omega
   .have hjR:R.take j=R:=Xb (by omega)
    rw[hjR]at HC hvr;rw[hjR];generalize hV:Z4 ((t[0].toNat:Int)-240) R=V at *;clear hV HG hjR;have HE2:=HE1.o
    rw[ifN (by simp[HC.o])]at HE2
    have HE:=A HE2;clear HE1 HE2 HC;obtain⟨hv0,hv1⟩:=hvr;go_wp2
    go_loop [10,11,12] (fun lo hi i=>∃(m:Nat) (L H:Int),t.size+m<=4/\i=I X ((t.size+m:Nat):Int)/\lo=I X L/\hi=I X H/\Hid (L=V*64^m)/\Hid (H=V*64^m+64^m-1)) (fun _ _ i=>4-(intOf i).toNat)
    case atStart=>exact⟨0,V,V,by omega,by first|rfl|go_num,rfl,rfl,by show V=V*64^0;simp,by show V=V*64^0+64^0-1;simp⟩
    case round=>
     obtain⟨m,L,H,hm,rfl,rfl,rfl,HL,HH⟩:=hrel
     have hpw:=Zxy V hv0 hv1 m (by omega)
     rw[<-HH.o,<-HL.o]at hpw;obtain⟨hp1,hp2,hp3,hp4⟩:=hpw
     by_cases hlt2:t.size+m<4
     .have HL2:=A ((congrArg (64 * ·) HL.o).trans (ZcX V m).1.symm)
      have HH2:=A ((congrArg (64 * · + 63) HH.o).trans (ZcX V m).2.symm);go_wp2
      all_goals
       go_round
       exact⟨m+1,64*L,64*H+63,by omega,by go_num,rfl,rfl,HL2.o,HH2.o⟩
       simp[intOf];omega
     .have hmm:m=4-t.size:=by omega
      rw[<-hmm,<-HH.o,<-HL.o]at HE;clear hmm HL HH;go_wp2
      go_loop [13,14] (fun ok k=>∃j:Nat,j<=2/\k=I X (j:Int)/\ok=C (Zm2 4 L H j)) (fun _ k=>2-(intOf k).toNat)
      case atStart=>exact⟨0,by omega,rfl,rfl⟩
      case round=>
       obtain⟨j2,hj2,rfl,rfl⟩:=hrel
       by_cases hlt3:j2<2
       .have HS:=A (Zil 4 L H j2 hlt3)
        by_cases ht1:L<=(room 4 j2).2
        .by_cases ht2:(room 4 j2).1<=H
         .have HTT:=A (show wtest 4 L H j2=true by simp[wtest,ht1,ht2])
          go_wp2_with (go_at_call 209;refine(ZcP _ _ _).mono ?_;rintro e w' ⟨rfl,rfl⟩)
          go_round
          exact⟨j2+1,by omega,by go_num,by rw[HS.o,HTT.o,XI]⟩
          simp[intOf];omega
         .have HTT:=A (show wtest 4 L H j2=false by simp[wtest,ht2])
          go_wp2_with (go_at_call 209;refine(ZcP _ _ _).mono ?_;rintro e w' ⟨rfl,rfl⟩)
          go_round
          exact⟨j2+1,by omega,by go_num,by rw[HS.o,HTT.o,Xv]⟩
          simp[intOf];omega
        .have HTT:=A (show wtest 4 L H j2=false by simp[wtest,ht1])
         go_wp2_with (go_at_call 209;refine(ZcP _ _ _).mono ?_;rintro e w' ⟨rfl,rfl⟩)
         go_round
         exact⟨j2+1,by omega,by go_num,by rw[HS.o,HTT.o,Xv]⟩
         simp[intOf];omega
       .have hj2e:j2=2:=by omega
        subst hj2e
        have hok:Zm2 4 L H 2=wok 4 L H:=by simp[Zm2,wok]
        rw[<-hok]at HE;clear hok;generalize hbk:Zm2 4 L H 2=bk at *;clear hbk
        by_cases hsz:t.size=4
        .have HF:=A (show whole (tl t)=(V,bk,false)by rw[HE.o];simp[hsz])
         have hsz':((t.size:Int)==4)=true:=by simp[hsz]
         have hsz3:4<=t.size:=by omega
         have hsz4:decide ((t.size:Int)<4)=false:=by simp only[decide_eq_false_iff_not];omega
         clear HE hsz
         cases bk
         .go_wp2
          all_goals go_ret3
          all_goals first|(exfalso;omega)|exact⟨by rw[HF.o];rfl,rfl⟩
         .go_wp2
          all_goals go_ret3
          all_goals first|(exfalso;omega)|exact⟨by rw[HF.o];rfl,rfl⟩
        .have HF:=A (show whole (tl t)=(V,false,bk)by rw[HE.o];simp only[Prod.mk.injEq,Xh,beq_eq_false_iff_ne,ne_eq,true_and];exact⟨Or.inr (by omega),by rw[decide_eq_true (by omega),XC]⟩)
         have hsz':((t.size:Int)==4)=false:=by simp only[beq_eq_false_iff_ne,ne_eq];omega
         have hsz2:t.size<4:=by omega
         have hsz4:decide ((t.size:Int)<4)=true:=by simp only[decide_eq_true_eq];omega
         clear HE hsz
         cases bk
         .go_wp2
          all_goals go_ret3
          all_goals first|(exfalso;omega)|exact⟨by rw[HF.o];rfl,rfl⟩
         .go_wp2
          all_goals go_ret3
          all_goals first|(exfalso;omega)|exact⟨by rw[HF.o];rfl,rfl⟩
theorem Zim(t:BA)(w:World)(ht:0<t.size)(hs:t.size<=1000000):Calls prog 171 #[J t] w fun e w'=>e=Y (.tuple #[I X (whole (tl t)).1,C (whole (tl t)).2.1,C (whole (tl t)).2.2])/\w=w':=by
 have hb0:=bb t[0];have hl0:=ZB t 0 ht;simp only[Xn,Xl]at hl0
 by_cases h1:t.size=1/\(t[0].toNat:Int)<128
 focus
  obtain⟨h1,h2⟩:=h1
  have h1':((t.size:Int)==1)=true:=by simp[h1]
  have HE:=A (show whole (tl t)=((t[0].toNat:Int),true,false)by
   rw[hl0,Zu t 1 (by omega),whole,ifP ⟨rfl,h2⟩])
  clear hl0 h1
 rotate_left
 focus
  have hrl:((tl t).drop 1).length=t.size-1:=by rw[Xa,Za]
  have hz:¬((tl t).drop 1=[]/\(t[0].toNat:Int)<128):=by
   rintro⟨h,h2⟩
   exact h1 ⟨by rw[h]at hrl;simp at hrl;omega,h2⟩
  by_cases hA:192<=(t[0].toNat:Int)/\(t[0].toNat:Int)<224
  .exact ZsT t w ht hs h1 hA.1 hA.2
  focus
   by_cases hB:224<=(t[0].toNat:Int)/\(t[0].toNat:Int)<240
   .exact Znx t w ht hs h1 hB.1 hB.2
   focus
    by_cases hC:240<=(t[0].toNat:Int)/\(t[0].toNat:Int)<248
    .exact ZqG t w ht hs h1 hC.1 hC.2
    focus
     have hws:ZbH (t[0].toNat:Int)=(0,0):=by unfold ZbH;rw[ifN (by omega),ifN (by omega),ifN (by omega)]
     have HE:=A (show whole (tl t)=(0,false,false)by rw[hl0,whole,ifN hz,hws,hrl,ifP (by simp only;omega)])
     clear hl0 hrl hz hws
     by_cases a1:(t[0].toNat:Int)<192
     focus
      by_cases a0:(t.size:Int)=1
      focus
       have a0':((t.size:Int)==1)=true:=by simp[a0]
       have a2:¬(t[0].toNat:Int)<128:=fun h=>h1 ⟨by omega,h⟩
       clear h1 hA hB hC a0
      rotate_left
      focus
       have a0':((t.size:Int)==1)=false:=by simp[a0]
       clear h1 hA hB hC a0
     rotate_left 2
     focus
      have a3:248<=(t[0].toNat:Int):=by omega
      clear h1 hA hB hC a1
      by_cases a0:(t.size:Int)=1
      focus
       have a0':((t.size:Int)==1)=true:=by simp[a0]
       clear a0
      rotate_left
      focus
       have a0':((t.size:Int)==1)=false:=by simp[a0]
       clear a0
 all_goals
  go_enter func171,ntmps171
  go_wp2
  go_ret3
  exact⟨by rw[HE.o];rfl,rfl⟩
def grow(l:List UInt8)(n:Nat)(x:Int×Bool×Bool):Nat×Int×Bool:=
 if x.2.2=true/\n<l.length then
  if(whole (l.take (n+1))).2.1=false/\(whole (l.take (n+1))).2.2=false then(n,x.1,x.2.1)else grow l (n+1) (whole (l.take (n+1)))
 else(n,x.1,x.2.1)
 termination_by l.length-n
 decreasing_by omega
theorem Zo8(l:LB)(n:Nat)(x:Int×Bool×Bool)(h:n<=l.length):n<=(grow l n x).1/\(grow l n x).1<=l.length:=by
 induction n,x using grow.induct (l:=l)with
 | case1 n x h1 h2=>rw[grow,ifP h1,ifP h2];exact⟨XV _,h⟩
 | case2 n x h1 h2 ih=>rw[grow,ifP h1,ifN h2];have:=ih (by omega);omega
 | case3 n x h1=>rw[grow,ifN h1];exact⟨XV _,h⟩
def Zl(l:List UInt8):List Int:=
 match l with
 | []=>[]
 | c::r=>(if(grow (c::r) 1 (whole [c])).2.2 then(grow (c::r) 1 (whole [c])).2.1 else 65533)::Zl (r.drop ((grow (c::r) 1 (whole [c])).1-1))
 termination_by l.length
 decreasing_by simp;omega
theorem Zin(l:LB)(m:Nat)(x1:Int)(x2:Bool)(hl:l≠[])(h:grow l 1 (whole (l.take 1))=(m,x1,x2)):Zl l=(if x2 then x1 else 65533)::Zl (l.drop m):=by
 match l,hl with
 | c::r,_=>
  have hr:=Zo8 (c::r) 1 (whole [c]) (by simp)
  have h':grow (c::r) 1 (whole [c])=(m,x1,x2):=h;rw[h']at hr;rw[Zl,h']
  obtain⟨k,rfl⟩:∃k,m=k+1:=⟨m - 1,by simp only at hr;omega⟩
  rfl
theorem ZaM{l:LB}{m:Nat}{x:Int×Bool×Bool}(h:¬(x.2.2=true/\m<l.length)):grow l m x=(m,x.1,x.2.1):=by rw[grow,ifN h]
theorem Zcj{l:LB}{m:Nat}{x:Int×Bool×Bool}(h:x.2.2=true)(h1:m<l.length)(h2:(whole (l.take (m+1))).2.1=false)(h3:(whole (l.take (m+1))).2.2=false):grow l m x=(m,x.1,x.2.1):=by rw[grow,ifP ⟨h,h1⟩,ifP ⟨h2,h3⟩]
theorem ZfO{l:LB}{m:Nat}{x:Int×Bool×Bool}(h:x.2.2=true)(h1:m<l.length)(h2:¬((whole (l.take (m+1))).2.1=false/\(whole (l.take (m+1))).2.2=false)):grow l m x=grow l (m+1) (whole (l.take (m+1))):=by rw[grow,ifP ⟨h,h1⟩,ifN h2]
theorem Zau(s:BA)(w:World)(hs:s.size<=1000000):Calls prog 128 #[J s] w fun e w'=>∃v,e=Y v/\IntsAt w' v (Zl (tl s))/\Nx w w':=by
 go_enter func128,ntmps128
 go_wp2
 go_loopw [3,4] (fun o i wr=>∃(k:Nat) (P:LI),k<=s.size/\i=I X k/\Zl (tl s)=P++Zl ((tl s).drop k)/\OwnI wr w.heap.size o P/\P.length<=k/\Nx w wr) (fun _ i _=>s.size-(intOf i).toNat)
 case atStart=>exact⟨0,[],Xe _,rfl,by simp,World.ownsRow_nil _ _ _ _,by simp,Nx.rfl⟩
 case round=>
  obtain⟨k,P,hk,rfl,hE,hown,hP,hnx⟩:=hrel
  by_cases hlt:k<s.size
  .have HE:=A hE
   have HO:=A hown;have HN:=A hnx;have hz:=hnx.size
   have hPl:P.length<1099511627776:=by omega
   clear hE hown hnx;obtain⟨L,hL⟩:∃L,(tl s).drop k=L:=⟨_,rfl⟩
   have hLl:L.length=s.size-k:=by rw[<-hL,Xa,Za]
   have HLNE:=A (show L≠[]by intro h;rw[h]at hLl;simp at hLl;omega)
   have HX:=A (show ∀n,tl (s.extract k (k+n))=L.take n from fun n=>by rw[tl_extract,List.drop_take,hL];congr 1;omega)
   have HLK:=A hL.symm;rw[hL]at HE;clear hL;go_wp2_with fail
   refine(Zim _ _ (by simp;omega) (by simp;omega)).mono ?_
   rintro e w' ⟨rfl,rfl⟩;rw[HX.o 1];obtain⟨x,hx⟩:∃x,whole (L.take 1)=x:=⟨_,rfl⟩;have HG0:=A (rfl:grow L 1 (whole (L.take 1))=grow L 1 (whole (L.take 1)));rw[hx]
   have HG1:=A (show grow L 1 (whole (L.take 1))=grow L 1 x by rw[hx])
   clear hx HG0;go_wp2_with fail
   go_loopw [5,6,7,8] (fun n v is more wq=>∃(m:Nat) (x1:Int) (x2 x3:Bool),wq=wr/\1<=m/\k+m<=s.size/\n=I X m/\v=I X x1/\is=C x2/\more=C x3/\grow L 1 (whole (L.take 1))=grow L m (x1,x2,x3)) (fun n _ _ _ _=>s.size-(intOf n).toNat)
   case atStart=>exact⟨1,x.1,x.2.1,x.2.2,rfl,by omega,by omega,rfl,rfl,rfl,rfl,HG1.o⟩
   case round=>
    clear HG1;obtain⟨m,x1,x2,x3,hwq,hm1,hm2,rfl,rfl,rfl,rfl,hgr⟩:=hrel;subst hwq;have HGR:=A hgr;clear hgr
    cases x3
    focus
     have HG:=A (HGR.o.trans (ZaM (by simp)))
     clear HGR
    rotate_left
    focus
     by_cases hml:k+m<s.size
     focus
      obtain⟨y,hy⟩:∃y,whole (L.take (m+1))=y:=⟨_,rfl⟩;have HXm:=A (HX.o (m+1));obtain⟨y1,y2,y3⟩:=y;have HY:=A hy;clear hy
      by_cases hbr:y2=false/\y3=false
      focus
       obtain⟨rfl,rfl⟩:=hbr
       have HG:=A (HGR.o.trans (Zcj rfl (by omega) (by rw[HY.o]) (by rw[HY.o])))
       go_wp2_with fail
       refine(Zim _ _ (by simp;omega) (by simp;omega)).mono ?_
       rintro e w' ⟨rfl,rfl⟩
       rw[show k+m+1=k+(m+1)by omega,HXm.o,HY.o]
       clear HGR HY HXm
      rotate_left
      .have HG:=A (HGR.o.trans ((ZfO rfl (by omega) (by rw[HY.o];exact hbr)).trans (by rw[HY.o])))
       have hbr':(!y2 && !y3)=false:=by cases y2<;>cases y3<;>simp_all
       go_wp2_with fail
       refine(Zim _ _ (by simp;omega) (by simp;omega)).mono ?_
       rintro e w' ⟨rfl,rfl⟩
       rw[show k+m+1=k+(m+1)by omega,HXm.o,HY.o]
       cases y2<;>cases y3
       .simp at hbr
       all_goals
        go_wp2
        go_roundw
        exact⟨m+1,y1,_,_,by trivial,by omega,by omega,by go_num,rfl,rfl,rfl,HG.o⟩
        simp[intOf];omega
     rotate_left
     focus
      have HG:=A (HGR.o.trans (ZaM (by simp;omega)))
      clear HGR
    all_goals
     have HPT:=A (Zin L m x1 x2 HLNE.o HG.o)
     cases x2
     .go_wp2_with (at_builtin;go_must (refine Zd8 wr 65533 rfl _ _ rfl w.heap.size u3 P rfl HO.o rfl hPl hz ?_;intro v' w2 ho2 hb2 _;have HO2:=A ho2;clear ho2))
      go_roundw
      exact⟨k+m,P++[65533],by omega,by go_num,by rw[HE.o,HPT.o,Xj,HLK.o,XQ];rfl,HO2.o,by simp;omega,HN.o.trans hb2⟩
      simp[intOf];omega
     .go_wp2_with (at_builtin;go_must (refine Zd8 wr x1 rfl _ _ rfl w.heap.size u3 P rfl HO.o rfl hPl hz ?_;intro v' w2 ho2 hb2 _;have HO2:=A ho2;clear ho2))
      go_roundw
      exact⟨k+m,P++[x1],by omega,by go_num,by rw[HE.o,HPT.o,Xj,HLK.o,XQ];rfl,HO2.o,by simp;omega,HN.o.trans hb2⟩
      simp[intOf];omega
  .rw[Zu s k (by omega)]at hE
   go_wp2;go_ret
   exact⟨_,rfl,by rw[hE];simpa [Zl]using OwnI.ints hown,hnx⟩
def parts(l:List Int)(t:List UInt8):List (List Int):=
 match l with
 | []=>[[]]
 | c::r=>if among c t then []::parts r t else
  match parts r t with
  | []=>[[c]]
  | p::q=>(c::p)::q
theorem ZkH(l:LI)(t:LB):∃p q,parts l t=p::q:=by
 cases l with
 | nil=>exact⟨[],[],rfl⟩
 | cons c r=>
  rw[parts]
  split
  .exact⟨_,_,rfl⟩
  .split<;>exact⟨_,_,rfl⟩
theorem Zge(l:LI)(t:LB):parts l t=if(cut l t).2.2 then(cut l t).1::parts (cut l t).2.1 t else [(cut l t).1]:=by
 induction l with
 | nil=>simp[parts,cut]
 | cons c r ih=>
  cases h:among c t
  .have hc:cut (c::r) t=(c::(cut r t).1,(cut r t).2):=by simp[cut,h]
   rw[parts,ifN (by simp[h]),hc,ih]
   cases h2:(cut r t).2.2<;>simp
  .have hc:cut (c::r) t=([],r,true):=by simp[cut,h]
   rw[parts,ifP h,hc]
   simp
theorem Zbc(l:LI)(t:LB):(cut l t).1.length+(cut l t).2.1.length<=l.length/\((cut l t).2.2=true->(cut l t).2.1.length<l.length):=by
 induction l with
 | nil=>simp[cut]
 | cons c r ih=>
  cases h:among c t
  .have hc:cut (c::r) t=(c::(cut r t).1,(cut r t).2):=by simp[cut,h]
   rw[hc];simp only[Xd]
   exact⟨by omega,fun hh=>by have:=ih.2 hh;omega⟩
  .have hc:cut (c::r) t=([],r,true):=by simp[cut,h]
   rw[hc]
   simp
theorem Zy{l:LI}{t:LB}{c:Int}(h:c∈(cut l t).1∨c∈(cut l t).2.1):c∈l:=by
 induction l with
 | nil=>simp[cut]at h
 | cons x r ih=>
  cases hx:among x t
  .have hc:cut (x::r) t=(x::(cut r t).1,(cut r t).2):=by simp[cut,hx]
   rw[hc]at h;simp only[XS]at h ⊢;rcases h with(h|h)|h
   .exact Or.inl h
   .exact Or.inr (ih (Or.inl h))
   .exact Or.inr (ih (Or.inr h))
  .have hc:cut (x::r) t=([],r,true):=by simp[cut,hx]
   rw[hc]at h;simp only[List.not_mem_nil,false_or]at h;exact Xy _ h
def FA(w:World)(vs:List Value)(ps:List (List Int)):Prop:=vs.length=ps.length/\∀i,(h:i<vs.length)->(h':i<ps.length)->IntsAt w vs[i] ps[i]
theorem FA.nil(w:World):FA w [] []:=⟨rfl,fun i h=>by simp at h⟩
theorem FA.on{w w':World}{vs:List Value}{ps:List LI}(h:FA w vs ps)(hb:Nx w w'):FA w' vs ps:=⟨h.1,fun i h1 h2=>(h.2 i h1 h2).on hb⟩
theorem FA.kp{w w':World}{vs:List Value}{ps:List LI}{e:TypeId}(h:FA w vs ps)(hb:Kp e w w')(he:3≠e):FA w' vs ps:=⟨h.1,fun i h1 h2=>(h.2 i h1 h2).kp hb he⟩
theorem FA.snoc{w:World}{vs:List Value}{ps:List LI}(h:FA w vs ps){v:Value}{p:LI}(hv:IntsAt w v p):FA w (vs++[v]) (ps++[p]):=by
 refine⟨by simp[h.1],fun i h1 h2=>?_⟩
 by_cases hi:i<vs.length
 .rw[XG hi,XG (by have:=h.1;omega)]
  exact h.2 i hi (by have:=h.1;omega)
 .have hi2:i=vs.length:=by simp at h1;omega
  subst hi2
  rw[List.getElem_concat_length (by rfl)]
  have e:(ps++[p])[vs.length]'h2=p:=by simp[h.1]
  rw[e];exact hv
def PartsAt(w:World)(v:Value)(ps:List (List Int)):Prop:=∃vs:List Value,SlAt 124 id w v vs/\FA w vs ps
theorem IntsAt.one{w:World}{v:Value}{l:LI}(h:IntsAt w v l):v.oneCell'=true:=by
 obtain⟨ao,cap,rfl,_⟩:=h
 rfl
theorem ZlK{ops:Array Oper}{rest:List Oper}{o:Oper}{a:Act}{Q:Exit->Act->World->Prop}(w:World)(y:Value)(hy:y.oneCell'=true)
  (hgd:o.guard=none) (s x:Operand) (ho:o.op=.call { callee:=.builtin .append,args:=#[s,x],argTypes:=#[192,192] })
  (base:Nat) (v:Value) (l:List Value) (hs:a.eval s=v) (hown:w.ownsRow base 124 1 v l.length l) (hx:a.eval x=.slice (some ⟨w.heap.size,0,none⟩) 1 1)
  (hn:l.length<1099511627776) (hbase:base<=w.heap.size)
  (h:∀v' w',w'.ownsRow base 124 1 v' (l++[y]).length (l++[y])->Below base w w'->Kp 124 w w'->wpList prog ops Q rest (a.put o.dst v') w'):
  wpList prog ops Q (o::rest) a (w.alloc (.cells #[y] 124)):=by
 refine ZdC _ _ _ (.slice none 0 0) 24 underlying192 ZuS rfl hgd s x ho base v l.length _ hs (World.ownsRow.alloc hown _) ⟨w.heap.size,0,none⟩ 1 1 [y] hx rfl (Zf0 (by simp)) (by simpa using hy) (by omega) (by decide) (by simp;omega) ?_
 intro v' w' h1 h2 h3
 refine h v' w' ?_ (((Below.refl base w).alloc hbase _).trans h2) ((Kp.rfl.alloc _).then h3)
 rw[Xc];exact h1
theorem ZdV(v:Value)(l:LI)(t:BA)(w:World)(ht:t.size<=maxLen)(hv:IntsAt w v l)(hn:l.length<=1000000):Calls prog 205 #[v,J t] w fun e w'=>∃v',e=Y v'/\PartsAt w' v' (parts l (tl t))/\Nx w w':=by
 go_enter func205,ntmps205
 go_wp2
 go_loopw [0,5] (fun x o wr=>∃(m:LI) (vs:List Value) (ps:List LI),IntsAt wr x m/\wr.ownsRow w.heap.size 124 1 o vs.length vs/\FA wr vs ps/\parts l (tl t)=ps++parts m (tl t)/\ps.length+m.length<=l.length/\Nx w wr) (fun x _ _=>Zbl x)
 case atStart=>exact⟨l,[],[],hv,World.ownsRow_nil _ _ _ _,FA.nil _,rfl,by simp,Nx.rfl⟩
 case round=>
  obtain⟨m,vs,ps,hm,hown,hfa,hE,hlen,hnx⟩:=hrel;have HM:=A hm;have HO:=A hown;have HFA:=A hfa;have HE:=A hE;have HN:=A hnx;have HLEN:=A hlen;clear hm hown hfa hE hnx hlen;go_wp2_with fail
  refine(ZbY _ m t _ ht HM.o).mono ?_
  rintro e w1 ⟨v1,v2,rfl,hv1,hv2,hn1⟩
  obtain⟨ao1,cap1,hve1⟩:∃ao1 cap1,v1=.slice ao1 (cut m (tl t)).1.length cap1:=by obtain⟨ao1,cap1,e,_⟩:=hv1;exact⟨ao1,cap1,e⟩
  subst hve1;have HV1:=A hv1;have HV2:=A hv2;have HO1:=A (Zbw HO.o hn1);have HF1:=A (HFA.o.on hn1);have HN1:=A (HN.o.then hn1);have hz:=HN1.o.size
  have hvl:vs.length<1099511627776:=by have:=HFA.o.1;have:=HLEN.o;omega
  have hone:=IntsAt.one hv1;have HCL:=A (Zbc m (tl t));have HPC:=A (Zge m (tl t))
  have HML:=A (show Zbl u0=m.length by obtain⟨ao,cap,e,_⟩:=HM.o;rw[e];rfl)
  clear hv1 hv2 hn1 HO HFA HN;generalize hcut:cut m (tl t)=q at *;clear hcut;obtain⟨q1,q2,more⟩:=q;simp only at *;have HF2:=A (HF1.o.snoc HV1.o)
  cases more
  .go_wp2_with (at_builtin;go_must (refine ZlK w1 (.slice ao1 q1.length cap1) hone rfl _ _ rfl w.heap.size u5 vs rfl HO1.o rfl hvl hz ?_;intro v' w2 ho2 hb2 hk2;have HO2:=A ho2;clear ho2))
   go_ret
   refine⟨_,rfl,⟨_,Zcf (f:=id) (by rw[List.map_id];exact HO2.o),?_⟩,HN1.o.trans hb2⟩
   have hp:=HPC.o;simp only[Bool.false_eq_true,if_false]at hp;rw[HE.o,hp]
   exact HF2.o.kp hk2 (by decide)
  .go_wp2_with (at_builtin;go_must (refine ZlK w1 (.slice ao1 q1.length cap1) hone rfl _ _ rfl w.heap.size u5 vs rfl HO1.o rfl hvl hz ?_;intro v' w2 ho2 hb2 hk2;have HO2:=A ho2;clear ho2))
   go_roundw
   case rel=>
    refine⟨q2,vs++[_],ps++[q1],HV2.o.kp hk2 (by decide),HO2.o,HF2.o.kp hk2 (by decide),?_,?_,HN1.o.trans hb2⟩
    .have hp:=HPC.o
     simp only[if_true]at hp;rw[HE.o,hp,Xj]
     rfl
    .have:=HCL.o.2 rfl
     have:=HLEN.o;simp only[Xc,Xd,Xs]
     omega
   case measure=>
    have h1:=HCL.o.2 rfl
    have h2:Zbl v2=q2.length:=by obtain⟨ao,cap,e,_⟩:=HV2.o;rw[e];rfl
    have h3:=HML.o
    omega
def ZP(l:List Int):Bool:=l.all numeral && !l.isEmpty
theorem ZqH{l:LI}{k:Nat}(hk:k<l.length)(h:numeral l[k]=false):ZP l=false:=by
 unfold ZP;rw[Xh]
 left
 rw[XO]
 exact⟨l[k],Xo _,by simp[h]⟩
theorem Zgf{p:Int->Bool}{l:LI}{k:Nat}(hk:k<l.length)(h:(l.take k).all p=true)(h1:p l[k]=true):(l.take (k+1)).all p=true:=by rw[Zai l k hk,Xr,h];simp[h1]
theorem ZaN(v:Value)(l:LI)(w:World)(hv:IntsAt w v l):Calls prog 250 #[v] w fun e w'=>e=Y (C (ZP l))/\w=w':=by
 obtain⟨ao,cap,rfl,hlc,hcap,hnone,hsome⟩:=hv;unfold maxLen at hcap
 go_enter func250,ntmps250
 go_wp2
 go_loop [3] (fun i=>∃k:Nat,k<=l.length/\i=I X k/\(l.take k).all numeral=true) (fun i=>l.length-(intOf i).toNat)
 case atStart=>exact⟨0,Xe _,rfl,rfl⟩
 case round=>
  obtain⟨k,hk,rfl,hto⟩:=hrel;have HT:=A hto;clear hto
  by_cases hlt:k<l.length
  .obtain⟨a,ha⟩:=Zv hlt hnone
   subst ha;obtain⟨b,off,rfl,hr⟩:=hsome a rfl;have hck:=hr.cell hlt;clear hnone hsome hr
   cases hnum:numeral l[k]
   .have HF:=A (ZqH hlt hnum)
    go_wp2_with (go_at_call 211;refine(Zc4 _ _).mono ?_;rintro e w' ⟨rfl,rfl⟩)
    go_ret
    exact⟨by rw[HF.o];rfl,rfl⟩
   .go_wp2_with (go_at_call 211;refine(Zc4 _ _).mono ?_;rintro e w' ⟨rfl,rfl⟩)
    go_round
    exact⟨k+1,by omega,by go_num,Zgf hlt HT.o hnum⟩
    simp[intOf];omega
  .rw[Xb (by omega)]at HT
   by_cases h0:l=[]
   .have HF:=A (show ZP l=false by rw[h0];rfl)
    have h0':¬0<l.length:=by rw[h0];simp
    clear h0;go_wp2;go_ret
    exact⟨Zm (by rw[HF.o]),rfl⟩
   .have HF:=A (show ZP l=true by unfold ZP;rw[HT.o];simp[h0])
    have h0':0<l.length:=List.length_pos_iff.2 h0;go_wp2;go_ret
    exact⟨Zm (by rw[HF.o]),rfl⟩
def ZbI(n c:Int):Int:=if 65535<10*n+c-48 then 65536 else 10*n+c-48
def value(l:List Int):Int:=l.foldl ZbI 0
theorem value_snoc(l:LI)(c:Int):value (l++[c])=ZbI (value l) c:=by simp[value]
theorem ZlL(l:LI)(h:l.all numeral=true):0<=value l/\value l<=65536:=by
 have gen:∀(l:LI) (n:Int),0<=n->n<=65536->l.all numeral=true->0<=l.foldl ZbI n/\l.foldl ZbI n<=65536:=by
  intro l
  induction l with
  | nil=>intro n h0 h1 _;exact⟨h0,h1⟩
  | cons c r ih=>
   intro n h0 h1 h2;simp only[XF,Xg]at h2;have hc:=h2.1;simp only[numeral,decide_eq_true_eq]at hc
   refine ih _ ?_ ?_ h2.2<;>(unfold ZbI;split<;>omega)
 exact gen l 0 (by omega) (by omega) h
theorem ZsU(v:Value)(l:LI)(w:World)(hv:IntsAt w v l):Calls prog 216 #[v] w fun e w'=>∃n:Int,e=Y (I X n)/\(l.all numeral=true->n=value l)/\w=w':=by
 obtain⟨ao,cap,rfl,hlc,hcap,hnone,hsome⟩:=hv;unfold maxLen at hcap
 go_enter func216,ntmps216
 go_wp2
 go_loop [3,4] (fun x i=>∃(k:Nat) (n:Int),k<=l.length/\i=I X k/\x=I X n/\Hid ((l.take k).all numeral=true->n=value (l.take k))) (fun _ i=>l.length-(intOf i).toNat)
 case atStart=>exact⟨0,0,Xe _,rfl,rfl,fun _=>rfl⟩
 case round=>
  obtain⟨k,n,hk,rfl,rfl,HT⟩:=hrel
  by_cases hlt:k<l.length
  .obtain⟨a,ha⟩:=Zv hlt hnone
   subst ha;obtain⟨b,off,rfl,hr⟩:=hsome a rfl;have hck:=hr.cell hlt;clear hnone hsome hr;have HS:=A (Zai l k hlt)
   by_cases hall:(l.take (k+1)).all numeral=true
   .rw[HS.o,Xr,Xg]at hall
    have hn:=HT.o hall.1;have hc:=hall.2;simp only[XF,List.all_nil,XC,numeral,decide_eq_true_eq]at hc;obtain⟨hc0,hc1⟩:=hc;have hr:=ZlL _ hall.1;rw[<-hn]at hr;obtain⟨hr0,hr1⟩:=hr
    have HV:=A (show value (l.take (k+1))=ZbI n l[k]by rw[HS.o,value_snoc,<-hn])
    clear hn hall
    by_cases hbig:65535<10*n+l[k]-48
    .have HV2:=A (HV.o.trans (ifP hbig))
     go_wp2
     go_round
     exact⟨k+1,65536,by omega,by go_num,rfl,fun _=>HV2.o.symm⟩
     simp[intOf];omega
    .have HV2:=A (HV.o.trans (ifN hbig))
     go_wp2
     go_round
     exact⟨k+1,10*n+l[k]-48,by omega,by go_num,rfl,fun _=>HV2.o.symm⟩
     simp[intOf];omega
   .have HALL:=A hall
    clear hall;go_wp2
    all_goals
     go_round
     exact⟨k+1,_,by omega,by go_num,rfl,fun h=>absurd h HALL.o⟩
     simp[intOf];omega
  .rw[Xb (by omega)]at HT
   go_wp2;go_ret
   exact⟨_,rfl,fun h=>HT.o (List.all_eq_true.2 h),rfl⟩
def Zgg(n:Nat):UInt8:=(tl ZuN).getD n 0
def hexa(n:Nat):List UInt8:=if n<16 then [Zgg n]else hexa (n/16)++[Zgg (n%16)]
 termination_by n
 decreasing_by omega
theorem Zvs(n:Nat):(hexa n).length<=n+1:=by
 induction n using Nat.strongRecOn with
 | ind n ih=>
  rw[hexa]
  split
  .simp
  .have:=ih (n/16) (by omega)
   simp only[Xc,Xd,Xs]
   omega
theorem Zvt(k:Nat)(h:k<16):tl (ZuN.extract k (k+1))=[Zgg k]:=by
 have h':k<ZuN.size:=h
 rw[tl_extract,Zt ZuN k h',List.drop_append_of_le_length (by rw[Xp,Za];omega),Xu (by rw[Xp];omega)]
 have e:Zgg k=ZuN[k]:=by unfold Zgg;rw[Xw,Xk (by rw[Za];exact h'),Zeu ZuN k h'];rfl
 rw[e];rfl
theorem Zo9(N:Nat):∀(n:Int) (w:World),0<=n->n<=N->N<=1000000 ->
  Calls prog 287 #[I X n] w fun e w'=>∃r:BA,e=Y (J r)/\tl r=hexa n.toNat/\Nx w w':=by
 induction N using Nat.strongRecOn with
 | ind N ih=>
  intro n w h0 h1 hN;obtain⟨m,rfl⟩:=Int.eq_ofNat_of_zero_le h0
  have hcut:=Zvt (m%16) (by omega)
  have HC:=A hcut;clear hcut
  by_cases h9:m<16
  .have HE:=A (show hexa (m:Int).toNat=[Zgg (m%16)]by rw[XP,hexa,ifP h9,Nat.mod_eq_of_lt h9])
   clear ih
   go_enter func287,ntmps287
   go_wp2;go_ret
   exact⟨_,rfl,by rw[HE.o];exact HC.o,Nx.rfl⟩
  .have IH:=A (ih (N/16) (by omega))
   have HE:=A (show hexa (m:Int).toNat=hexa ((m:Int)/16).toNat++[Zgg (m%16)]by rw[XP,hexa,ifN h9];rfl)
   clear ih
   go_enter func287,ntmps287
   go_wp2_with fail
   refine(IH.o _ _ (by omega) (by omega) (by omega)).mono ?_
   rintro e w1 ⟨r,rfl,hr,hn1⟩
   have hrs:r.size<=1000001:=by have h:=congrArg List.length hr;have h2:=Zvs ((m:Int)/16).toNat;rw[Za]at h;omega
   have HR:=A hr;clear hr;go_wp2;go_ret
   exact⟨_,rfl,by rw[tl_append,HR.o,HE.o];exact congrArg _ HC.o,hn1⟩
def noughts(v:List Int)(i n:Nat):Bool:=((v.drop i).take n).all fun x=>x==0
theorem ZlM(v:LI)(i n:Nat)(h:i+n<v.length):noughts v i (n+1)=(noughts v i n&&v[i+n]==0):=by
 unfold noughts
 rw[Xi (by rw[Xa];omega),Xr,Xt]
 simp
theorem Zny(v:LI)(i k n:Nat)(hk:k<n)(h:i+k<v.length)(h0:¬v[i+k]=0):noughts v i n=false:=by
 unfold noughts;rw[XO]
 refine⟨v[i+k],?_,by simp[h0]⟩
 have e:v[i+k]=((v.drop i).take n)[k]'(by rw[Xp,Xa];omega):=by rw[List.getElem_take,Xt]
 rw[e];exact Xo _
theorem Zio(v:Value)(l:LI)(i n:Nat)(w:World)(hv:IntsAt w v l)(hin:i+n<=l.length)(hl:l.length<=1000000):Calls prog 246 #[v,I X i,I X n] w fun e w'=>e=Y (C (noughts l i n))/\w=w':=by
 obtain⟨ao,cap,rfl,hlc,hcap,hnone,hsome⟩:=hv;unfold maxLen at hcap
 go_enter func246,ntmps246
 go_wp2
 go_loop [7] (fun x=>∃k:Nat,k<=n/\x=I X ((i+k:Nat):Int)/\noughts l i k=true) (fun x=>i+n-(intOf x).toNat)
 case atStart=>exact⟨0,Xe _,rfl,by simp[noughts]⟩
 case round=>
  obtain⟨k,hk,rfl,hto⟩:=hrel;have HT:=A hto;clear hto
  by_cases hlt:k<n
  .obtain⟨a,ha⟩:=Zv (k:=i+k) (by omega) hnone
   subst ha;obtain⟨b,off,rfl,hr⟩:=hsome a rfl
   have hck:=hr.cell (i:=i+k) (by omega)
   clear hnone hsome hr
   by_cases h0:l[i+k]=0
   .have HS:=A (show noughts l i (k+1)=true by rw[ZlM l i k (by omega),HT.o,h0];rfl)
    rw[h0]at hck;clear h0;go_wp2
    go_round
    exact⟨k+1,by omega,by go_num,HS.o⟩
    simp[intOf];omega
   .have HS:=A (Zny l i k n hlt (by omega) h0)
    have h0':(l[i+k] != 0)=true:=by simp[h0]
    clear h0;go_wp2;go_ret;exact⟨Zm HS.o.symm,rfl⟩
  .have hkn:k=n:=by omega
   rw[hkn]at HT;clear hkn;go_wp2;go_ret;exact⟨Zm HT.o.symm,rfl⟩
def listed(l:List Int):List UInt8:=match l with | []=>[]|x::r=>hexa x.toNat++r.flatMap fun y=>58::hexa y.toNat
theorem Znz(l:LI)(y:Int):listed (l++[y])=if l=[]then hexa y.toNat else listed l++58::hexa y.toNat:=by cases l<;>simp[listed]
theorem ZgP(n:Nat)(h:n<=65535):(hexa n).length<=4:=by
 rw[hexa]
 split
 .simp
 rw[hexa]
 split
 .simp
 rw[hexa]
 split
 .simp
 rw[hexa]
 split
 .simp
 .omega
theorem ZcY(l:LI)(h:∀x∈l,0<=x/\x<=65535):(listed l).length<=5*l.length:=by
 have gen:∀r:LI,(∀x∈r,0<=x/\x<=65535)->(r.flatMap fun y=>(58:UInt8)::hexa y.toNat).length<=5*r.length:=by
  intro r
  induction r with
  | nil=>simp
  | cons y r ih=>
   intro hr
   have h1:=ih fun x hx=>hr x (Xy _ hx)
   have h2:=ZgP y.toNat (by have:=hr y (XN ..);omega)
   simp only[Xx,Xc,Xd]
   omega
 cases l with
 | nil=>simp[listed]
 | cons x r=>
  have h1:=gen r fun y hy=>h y (Xy _ hy)
  have h2:=ZgP x.toNat (by have:=h x (XN ..);omega)
  simp only[listed,Xc,Xd]
  omega
theorem Zfc(v:Value)(l:LI)(w:World)(hv:IntsAt w v l)(hl:l.length<=8)(hp:∀x∈l,0<=x/\x<=65535):Calls prog 247 #[v] w fun e w'=>∃r:BA,e=Y (J r)/\tl r=listed l/\Nx w w':=by
 obtain⟨ao,cap,rfl,hlc,hcap,hnone,hsome⟩:=hv;unfold maxLen at hcap
 go_enter func247,ntmps247
 go_wp2
 go_loopw [3,4] (fun t i wr=>∃(k:Nat) (r:BA),k<=l.length/\i=I X k/\t=J r/\tl r=listed (l.take k)/\Nx w wr) (fun _ i _=>l.length-(intOf i).toNat)
 case atStart=>exact⟨0,_,Xe _,rfl,rfl,rfl,Nx.rfl⟩
 case round=>
  obtain⟨k,r,hk,rfl,rfl,hr,hnx⟩:=hrel
  by_cases hlt:k<l.length
  .obtain⟨a,ha⟩:=Zv hlt hnone
   subst ha;obtain⟨b,off,rfl,hrow⟩:=hsome a rfl;have hck:=(hrow.on hnx).cell hlt;have hpk:=hp l[k] (Xo _)
   have hrs:r.size<=100:=by
    have h1:=ZcY (l.take k) fun x hx=>hp x (Xz hx)
    rw[<-hr,Za]at h1;have:=Xf k l
    omega
   have HLS:=A ((congrArg listed (Zai l k hlt)).trans (Znz (l.take k) l[k]));have HR:=A hr;have HN:=A hnx
   have HX:=A (ZgP l[k].toNat (by omega))
   clear hnone hsome hrow hr hnx hp;obtain⟨hp0,hp1⟩:=hpk
   by_cases hk0:0<k
   .have HL:=A (HLS.o.trans (ifN (by intro h;have:=congrArg List.length h;rw[Xp,Xs]at this;omega)))
    go_wp2_with fail
    refine(Zo9 65535 _ _ hp0 (by omega) (by omega)).mono ?_
    rintro e w1 ⟨q,rfl,hq,hn1⟩
    have hqs:q.size<=4:=by have h:=HX.o;rw[<-hq,Za]at h;exact h
    have HQ:=A hq;clear hq;go_wp2
    go_roundw
    exact⟨k+1,_,by omega,by go_num,rfl,by rw[HL.o,tl_append,tl_append,HR.o,HQ.o,Xj];rfl,HN.o.then hn1⟩
    simp[intOf];omega
   .have HL:=A (HLS.o.trans (ifP (by rw[show k=0 by omega];rfl)))
    have HR0:=A (show tl r=[]by rw[HR.o,show k=0 by omega];rfl)
    go_wp2_with fail
    refine(Zo9 65535 _ _ hp0 (by omega) (by omega)).mono ?_
    rintro e w1 ⟨q,rfl,hq,hn1⟩
    have hqs:q.size<=4:=by have h:=HX.o;rw[<-hq,Za]at h;exact h
    have HQ:=A hq;clear hq;go_wp2
    go_roundw
    exact⟨k+1,_,by omega,by go_num,rfl,by rw[HL.o,tl_append,HR0.o,HQ.o];rfl,HN.o.then hn1⟩
    simp[intOf];omega
  .rw[Xb (by omega)]at hr
   go_wp2;go_ret;exact⟨_,rfl,hr,hnx⟩
def briefFrom(v:List Int)(n i:Nat):List UInt8:=
 if n<=1 then listed v
 else if i+n<=8 then(if noughts v i n then listed (v.take i)++58::58::listed (v.drop (i+n))else briefFrom v n (i+1))
 else briefFrom v (n-1) 0
 termination_by (n,9-i)
 decreasing_by all_goals simp_wf<;>omega
def brief(v:List Int):List UInt8:=briefFrom v 8 0
theorem ZeQ{l q:LI}(h:∀x∈l,0<=x/\x<=65535)(hq:∀x∈q,x∈l):∀x∈q,0<=x/\x<=65535:=fun x hx=>h x (hq x hx)
theorem ZsV(v:Value)(l:LI)(w:World)(hv:IntsAt w v l)(hl:l.length=8)(hp:∀x∈l,0<=x/\x<=65535):Calls prog 214 #[v] w fun e w'=>∃r:BA,e=Y (J r)/\tl r=brief l/\Nx w w':=by
 have HV:=A hv;have HP:=A hp;have HL:=A hl
 obtain⟨b,off,cap,rfl,hlc,hcap,hr⟩:=hv.open_ (k:=0) (by omega)
 have hlc':8<=cap:=by omega
 rw[hl];rw[hl]at HV;unfold maxLen at hcap;clear hl hp hlc;have HR:=A hr;clear hr
 go_enter func214,ntmps214
 go_wp2
 go_loop [3] (fun x=>∃n:Nat,1<=n/\n<=8/\x=I X n/\brief l=briefFrom l n 0) (fun x=>(intOf x).toNat)
 case atStart=>exact⟨8,by omega,by omega,rfl,rfl⟩
 case round=>
  obtain⟨n,hn1,hn8,rfl,hE⟩:=hrel;have HE:=A hE;clear hE
  by_cases h1:1<n
  .go_wp2
   go_loop [4] (fun y=>∃i:Nat,i+n<=9/\y=I X i/\brief l=briefFrom l n i) (fun y=>9-(intOf y).toNat)
   case atStart=>exact⟨0,by omega,rfl,HE.o⟩
   case round=>
    clear HE;obtain⟨i,hi,rfl,hE⟩:=hrel;have HE:=A hE;clear hE
    by_cases hin:i+n<=8
    .cases hno:noughts l i n
     .have HN:=A (show brief l=briefFrom l n (i+1)by rw[HE.o,briefFrom,ifN (by omega),ifP hin,ifN (by simp[hno])])
      go_wp2_with (go_at_call 246;refine(Zio _ l i n _ HV.o (by rw[HL.o];omega) (by rw[HL.o];omega)).mono ?_;rintro e w' ⟨rfl,rfl⟩)
      go_round
      exact⟨i+1,by omega,by go_num,HN.o⟩
      simp[intOf];omega
     .have HN:=A (show brief l=listed (l.take i)++58::58::listed (l.drop (i+n))by rw[HE.o,briefFrom,ifN (by omega),ifP hin,ifP hno])
      have HS1:=A (ZdB HR.o (cap:=cap) (by rw[HL.o];exact hlc') (by unfold maxLen;omega) i (by rw[HL.o];omega))
      go_wp2_with (go_at_call 246;refine(Zio _ l i n _ HV.o (by rw[HL.o];omega) (by rw[HL.o];omega)).mono ?_;rintro e w' ⟨rfl,rfl⟩)
      refine(Zfc _ _ _ HS1.o (by rw[Xp,HL.o];omega) (ZeQ HP.o fun x hx=>Xz hx)).mono ?_
      rintro e w1 ⟨r1,rfl,hr1,hn1⟩
      have hrs1:r1.size<=40:=by have h:=ZcY (l.take i) (ZeQ HP.o fun x hx=>Xz hx);rw[<-hr1,Za,Xp,HL.o]at h;omega
      have HR1:=A hr1;clear hr1;have HROW:=A (HR.o.on hn1);have HS2:=A (Zjm HROW.o (i+n) 0)
      have HS3:=A (Zfz HROW.o (cap:=cap) (by rw[HL.o];exact hlc') (by unfold maxLen;omega) (i+n) (by rw[HL.o];exact hin))
      rw[HL.o]at HS2 HS3;go_wp2_with fail
      focus
       refine(Zfc _ _ _ (HS2.o (by omega) (Xe _)) (by rw[Xa,HL.o];omega) (ZeQ HP.o fun x hx=>XA hx)).mono ?_
      rotate_left
      focus
       refine(Zfc _ _ _ HS3.o (by rw[Xa,HL.o];omega) (ZeQ HP.o fun x hx=>XA hx)).mono ?_
      all_goals
       rintro e w2 ⟨r2,rfl,hr2,hn2⟩
       have hrs2:r2.size<=40:=by have h:=ZcY (l.drop (i+n)) (ZeQ HP.o fun x hx=>XA hx);rw[<-hr2,Za,Xa,HL.o]at h;omega
       have HR2:=A hr2;clear hr2;go_wp2;go_ret
       exact⟨_,rfl,by rw[HN.o,tl_append,tl_append,HR1.o,HR2.o,Xj];rfl,hn1.then hn2⟩
    .have HN:=A (show brief l=briefFrom l (n-1) 0 by rw[HE.o,briefFrom,ifN (by omega),ifN hin])
     go_wp2
     go_round
     exact⟨n-1,by omega,by omega,by go_num,HN.o⟩
     simp[intOf];omega
  .have HN:=A (show brief l=listed l by rw[HE.o,briefFrom,ifP (by omega)])
   go_wp2_with fail
   refine(Zfc _ l _ HV.o (by rw[HL.o];omega) HP.o).mono ?_
   rintro e w1 ⟨r1,rfl,hr1,hn1⟩;go_wp2;go_ret
   exact⟨_,rfl,by rw[HN.o];exact hr1,hn1⟩
def ZfP(base v d:Int):Int:=if 1099511627776<v*base+d then 1099511627776 else v*base+d
def vGo(base:Int):Int->List UInt8->Option Int
 | v,[]=>some v
 | v,c::r=>if digit c.toNat<0∨base<=digit c.toNat then none else vGo base (ZfP base v (digit c.toNat)) r
def fin(o:Option Int):Int×Bool:=match o with|none=>(0,false)|some v=>(v,true)
def valueStr(t:List UInt8):Int×Bool:=
 if t=[]then(0,false)else if 1<t.length/\t.take 2=[48,120]then fin (vGo 16 0 (t.drop 2))
 else if 1<t.length/\t.take 1=[48]then fin (vGo 8 0 (t.drop 1))else fin (vGo 10 0 t)
def valueOf(l:List Int):Int×Bool:=valueStr (lower (Zb l))
theorem Zgh(s:BA):s.toList=tl s:=ByteArray.toList_eq s
theorem ZlN(l:LB):(lower l).length=l.length:=by simp[lower]
theorem ZkI(base v:Int)(s:BA)(k:Nat)(h:k<s.size):vGo base v ((tl s).drop k)=if digit s[k].toNat<0∨base<=digit s[k].toNat then none else vGo base (ZfP base v (digit s[k].toNat)) ((tl s).drop (k+1)):=by rw[ZB s k h,vGo]
theorem ZaU(v:Value)(l:LI)(w:World)(hv:IntsAt w v l)(hn:l.length<=100000)(hp:∀c∈l,Pt c):Calls prog 249 #[v] w fun e w'=>e=Y (.tuple #[I X (valueOf l).1,C (valueOf l).2])/\Nx w w':=by
 go_enter func249,ntmps249
 go_wp2_with fail
 refine(ZbB _ l _ hv (by omega) hp).mono ?_
 rintro e w1 ⟨r,rfl,hr,hn1⟩
 have hrs:r.size<=400000:=by have h:=Za9 l;rw[<-hr,Za]at h;omega
 have HR:=A hr;clear hr hp hv;go_wp2_with fail
 refine(ZeD _ _ (by omega)).mono ?_
 rintro e w2 ⟨t,rfl,ht,hn2⟩
 have hts:t.size<=400000:=by have h:=congrArg List.length ht;rw[ZlN,Za,Za]at h;omega
 have HT:=A (show valueOf l=valueStr (tl t)by unfold valueOf;rw[<-HR.o,<-ht])
 have HN:=A (hn1.then hn2);clear ht HR hn1 hn2 hn hrs
 by_cases h0:t.size=0
 .have HE:=A (show valueOf l=(0,false)by rw[HT.o,Zz h0];rfl)
  have h0':=Zo h0;clear h0;go_wp2;go_ret2
  exact⟨by rw[HE.o];rfl,HN.o⟩
 have h0':=Zj h0
 have HNE:=A (show ¬tl t=[]by intro h;have:=Za t;rw[h]at this;simp at this;omega)
 by_cases h1:1<t.size
 focus
  by_cases hx:(tl t).take 2=[48,120]
  .have hx':((t.extract 0 2).toList == [48,120])=true:=by rw[Zgh,tl_to,hx];rfl
   have HE:=A (show valueOf l=fin (vGo 16 0 ((tl t).drop 2))by rw[HT.o,valueStr,ifN HNE.o,ifP ⟨by rw[Za];exact h1,hx⟩])
   clear hx;obtain⟨q,hq⟩:∃q,t.extract 2 t.size=q:=⟨_,rfl⟩
   have HQ:=A (show tl q=(tl t).drop 2 by rw[<-hq,tl_from])
   have hqs:q.size<=400000:=by rw[<-hq];simp;omega
   rw[<-HQ.o]at HE;go_wp2;clear hq
   go_loop [6,7] (fun x i=>∃(k:Nat) (n:Int),k<=q.size/\i=I X k/\x=I X n/\0<=n/\n<=1099511627776/\valueOf l=fin (vGo 16 n ((tl q).drop k))) (fun _ i=>q.size-(intOf i).toNat)
   case atStart=>exact⟨0,0,Xe _,rfl,rfl,by omega,by omega,HE.o⟩
   case round=>
    clear HE;obtain⟨k,n,hk,rfl,rfl,hn0,hn1,hE⟩:=hrel;have HE:=A hE;clear hE
    by_cases hlt:k<q.size
    .have hbk:=bb q[k]
     obtain⟨hd0,hd1⟩:=Zev (q[k].toNat:Int);have HS:=A (ZkI 16 n q k hlt)
     by_cases hbad:digit (q[k].toNat:Int)<0∨16<=digit (q[k].toNat:Int)
     .have HF:=A (show valueOf l=(0,false)by rw[HE.o,HS.o,ifP hbad];rfl)
      rcases hbad with hbad|hbad
      .go_wp2_with (go_at_call 286;refine(ZS _ _).mono ?_;rintro e w' ⟨rfl,rfl⟩)
       go_ret2
       exact⟨by rw[HF.o];rfl,HN.o⟩
      .go_wp2_with (go_at_call 286;refine(ZS _ _).mono ?_;rintro e w' ⟨rfl,rfl⟩)
       all_goals go_ret2
       all_goals exact⟨by rw[HF.o];rfl,HN.o⟩
     .have hg0:0<=digit (q[k].toNat:Int):=by omega
      have hg1:digit (q[k].toNat:Int)<16:=by omega
      have HF:=A (show valueOf l=fin (vGo 16 (ZfP 16 n (digit (q[k].toNat:Int))) ((tl q).drop (k+1)))by rw[HE.o,HS.o,ifN hbad])
      clear hbad
      by_cases hbig:1099511627776<n*16+digit (q[k].toNat:Int)
      .have HG:=A (HF.o.trans (by unfold ZfP;rw[ifP hbig]))
       go_wp2_with (go_at_call 286;refine(ZS _ _).mono ?_;rintro e w' ⟨rfl,rfl⟩)
       go_round
       exact⟨k+1,1099511627776,by omega,by go_num,rfl,by omega,by omega,HG.o⟩
       simp[intOf];omega
      .have HG:=A (HF.o.trans (by unfold ZfP;rw[ifN hbig]))
       go_wp2_with (go_at_call 286;refine(ZS _ _).mono ?_;rintro e w' ⟨rfl,rfl⟩)
       go_round
       exact⟨k+1,n*16+digit (q[k].toNat:Int),by omega,by go_num,rfl,by omega,by omega,HG.o⟩
       simp[intOf];omega
    .have HF:=A (show valueOf l=(n,true)by rw[HE.o,Zu q k (by omega)];rfl)
     go_wp2;go_ret2
     exact⟨by rw[HF.o];rfl,HN.o⟩
  focus
   have hx':((t.extract 0 2).toList == [48,120])=false:=by rw[Zgh,tl_to];simpa using hx
   have hb0:=bb t[0]
   by_cases hz:t[0]=48
   .have hz':((t[0].toNat:Int)==48)=true:=by rw[hz];rfl
    have HE:=A (show valueOf l=fin (vGo 8 0 ((tl t).drop 1))by rw[HT.o,valueStr,ifN HNE.o,ifN (fun h=>hx h.2),ifP ⟨by rw[Za];exact h1,by rw[Zko t (by omega),hz]⟩])
    clear hx hz;obtain⟨q,hq⟩:∃q,t.extract 1 t.size=q:=⟨_,rfl⟩
    have HQ:=A (show tl q=(tl t).drop 1 by rw[<-hq,tl_from])
    have hqs:q.size<=400000:=by rw[<-hq];simp;omega
    rw[<-HQ.o]at HE;go_wp2;clear hq
    go_loop [6,7] (fun x i=>∃(k:Nat) (n:Int),k<=q.size/\i=I X k/\x=I X n/\0<=n/\n<=1099511627776/\valueOf l=fin (vGo 8 n ((tl q).drop k))) (fun _ i=>q.size-(intOf i).toNat)
    case atStart=>exact⟨0,0,Xe _,rfl,rfl,by omega,by omega,HE.o⟩
    case round=>
     clear HE;obtain⟨k,n,hk,rfl,rfl,hn0,hn1,hE⟩:=hrel;have HE:=A hE;clear hE
     by_cases hlt:k<q.size
     .have hbk:=bb q[k]
      obtain⟨hd0,hd1⟩:=Zev (q[k].toNat:Int);have HS:=A (ZkI 8 n q k hlt)
      by_cases hbad:digit (q[k].toNat:Int)<0∨8<=digit (q[k].toNat:Int)
      .have HF:=A (show valueOf l=(0,false)by rw[HE.o,HS.o,ifP hbad];rfl)
       rcases hbad with hbad|hbad
       .go_wp2_with (go_at_call 286;refine(ZS _ _).mono ?_;rintro e w' ⟨rfl,rfl⟩)
        go_ret2
        exact⟨by rw[HF.o];rfl,HN.o⟩
       .go_wp2_with (go_at_call 286;refine(ZS _ _).mono ?_;rintro e w' ⟨rfl,rfl⟩)
        all_goals go_ret2
        all_goals exact⟨by rw[HF.o];rfl,HN.o⟩
      .have hg0:0<=digit (q[k].toNat:Int):=by omega
       have hg1:digit (q[k].toNat:Int)<8:=by omega
       have HF:=A (show valueOf l=fin (vGo 8 (ZfP 8 n (digit (q[k].toNat:Int))) ((tl q).drop (k+1)))by rw[HE.o,HS.o,ifN hbad])
       clear hbad
       by_cases hbig:1099511627776<n*8+digit (q[k].toNat:Int)
       .have HG:=A (HF.o.trans (by unfold ZfP;rw[ifP hbig]))
        go_wp2_with (go_at_call 286;refine(ZS _ _).mono ?_;rintro e w' ⟨rfl,rfl⟩)
        go_round
        exact⟨k+1,1099511627776,by omega,by go_num,rfl,by omega,by omega,HG.o⟩
        simp[intOf];omega
       .have HG:=A (HF.o.trans (by unfold ZfP;rw[ifN hbig]))
        go_wp2_with (go_at_call 286;refine(ZS _ _).mono ?_;rintro e w' ⟨rfl,rfl⟩)
        go_round
        exact⟨k+1,n*8+digit (q[k].toNat:Int),by omega,by go_num,rfl,by omega,by omega,HG.o⟩
        simp[intOf];omega
     .have HF:=A (show valueOf l=(n,true)by rw[HE.o,Zu q k (by omega)];rfl)
      go_wp2;go_ret2
      exact⟨by rw[HF.o];rfl,HN.o⟩
   focus
    have hz':((t[0].toNat:Int)==48)=false:=by
     simp only[beq_eq_false_iff_ne,ne_eq];intro h
     exact hz (UInt8.toNat_inj.1 (by show t[0].toNat=48;omega))
    have HE:=A (show valueOf l=fin (vGo 10 0 (tl t))by rw[HT.o,valueStr,ifN HNE.o,ifN (fun h=>hx h.2),ifN (fun h=>hz (by have:=h.2;rw[Zko t (by omega)]at this;simpa using this))])
    clear hx hz
 rotate_left
 focus
  have HE:=A (show valueOf l=fin (vGo 10 0 (tl t))by rw[HT.o,valueStr,ifN HNE.o,ifN (fun h=>h1 (by have:=h.1;rw[Za]at this;exact this)),ifN (fun h=>h1 (by have:=h.1;rw[Za]at this;exact this))])
 all_goals
  go_wp2
  go_loop [6,7] (fun x i=>∃(k:Nat) (n:Int),k<=t.size/\i=I X k/\x=I X n/\0<=n/\n<=1099511627776/\valueOf l=fin (vGo 10 n ((tl t).drop k))) (fun _ i=>t.size-(intOf i).toNat)
  case atStart=>exact⟨0,0,Xe _,rfl,rfl,by omega,by omega,HE.o⟩
  case round=>
   clear HE;obtain⟨k,n,hk,rfl,rfl,hn0,hn1,hE⟩:=hrel;have HE:=A hE;clear hE
   by_cases hlt:k<t.size
   .have hbk:=bb t[k]
    obtain⟨hd0,hd1⟩:=Zev (t[k].toNat:Int);have HS:=A (ZkI 10 n t k hlt)
    by_cases hbad:digit (t[k].toNat:Int)<0∨10<=digit (t[k].toNat:Int)
    .have HF:=A (show valueOf l=(0,false)by rw[HE.o,HS.o,ifP hbad];rfl)
     rcases hbad with hbad|hbad
     .go_wp2_with (go_at_call 286;refine(ZS _ _).mono ?_;rintro e w' ⟨rfl,rfl⟩)
      go_ret2
      exact⟨by rw[HF.o];rfl,HN.o⟩
     .go_wp2_with (go_at_call 286;refine(ZS _ _).mono ?_;rintro e w' ⟨rfl,rfl⟩)
      all_goals go_ret2
      all_goals exact⟨by rw[HF.o];rfl,HN.o⟩
    .have hg0:0<=digit (t[k].toNat:Int):=by omega
     have hg1:digit (t[k].toNat:Int)<10:=by omega
     have HF:=A (show valueOf l=fin (vGo 10 (ZfP 10 n (digit (t[k].toNat:Int))) ((tl t).drop (k+1)))by rw[HE.o,HS.o,ifN hbad])
     clear hbad
     by_cases hbig:1099511627776<n*10+digit (t[k].toNat:Int)
     .have HG:=A (HF.o.trans (by unfold ZfP;rw[ifP hbig]))
      go_wp2_with (go_at_call 286;refine(ZS _ _).mono ?_;rintro e w' ⟨rfl,rfl⟩)
      go_round
      exact⟨k+1,1099511627776,by omega,by go_num,rfl,by omega,by omega,HG.o⟩
      simp[intOf];omega
     .have HG:=A (HF.o.trans (by unfold ZfP;rw[ifN hbig]))
      go_wp2_with (go_at_call 286;refine(ZS _ _).mono ?_;rintro e w' ⟨rfl,rfl⟩)
      go_round
      exact⟨k+1,n*10+digit (t[k].toNat:Int),by omega,by go_num,rfl,by omega,by omega,HG.o⟩
      simp[intOf];omega
   .have HF:=A (show valueOf l=(n,true)by rw[HE.o,Zu t k (by omega)];rfl)
    go_wp2;go_ret2
    exact⟨by rw[HF.o];rfl,HN.o⟩
def Zyj:List UInt8:=[48,49,50,51,52,53,54,55,56,57,65,66,67,68,69,70]
def pct(b:Int):List UInt8:=[37,Zyj.getD (b/16).toNat 0,Zyj.getD (b%16).toNat 0]
def encPt(set:List UInt8)(c:Int):List UInt8:=if among c set||decide (c<32)||decide (126<c)then(utf c).flatMap pct else(utf c).map toB
def encUr(c:Bool)(u:List Int):List UInt8:=if c then u.flatMap pct else u.map toB
theorem encUr_snoc(c:Bool)(u:LI)(x:Int):encUr c (u++[x])=encUr c u++(if c then pct x else [toB x]):=by cases c<;>simp[encUr]
theorem ZlO(c:Bool)(u:LI):(encUr c u).length<=3*u.length:=by
 cases c
 .simp[encUr];omega
 .have:(u.flatMap pct).length=3*u.length:=by
   induction u with
   | nil=>rfl
   | cons x q ih=>simp only[Xx,Xc,Xd,ih,pct,Xs];omega
  simp[encUr,this]
def encoded(l:List Int)(set:List UInt8):List UInt8:=l.flatMap (encPt set)
theorem ZsW(set:LB)(c:Int):(encPt set c).length<=12:=by
 have h:=Zkm c;unfold encPt
 split
 .have:((utf c).flatMap pct).length=3*(utf c).length:=by
   generalize utf c=q
   induction q with
   | nil=>rfl
   | cons x q ih=>simp only[Xx,Xc,Xd,ih,pct,Xs];omega
  omega
 .simp;omega
theorem ZlP(l:LI)(c:Int)(set:LB):encoded (l++[c]) set=encoded l set++encPt set c:=by simp[encoded]
theorem Zdb(l:LI)(set:LB):(encoded l set).length<=12*l.length:=by
 induction l with
 | nil=>simp[encoded]
 | cons c l ih=>
  have h:=ZsW set c;simp only[encoded,Xx,Xc,Xd]at *
  omega
abbrev ZsX:ByteArray:=⟨#[48,49,50,51,52,53,54,55,56,57,65,66,67,68,69,70]⟩
theorem Zpa:∀q:Fin 16,ZsX[q.val]'q.isLt=Zyj.getD q.val 0:=by decide
theorem Zvu{E:LB}{cnd:Bool}{u:LI}{m q r:Nat}(hml:m<u.length)(hc:cnd=true)(hq3:(u[m]/16).toNat=q)(hr3:(u[m]%16).toNat=r)(hq:q<16)(hr:r<16):E++encUr cnd (u.take (m+1))=(E++encUr cnd (u.take m))++[37,ZsX[q]'hq,ZsX[r]'hr]:=by rw[Zai u m hml,encUr_snoc,ifP hc,<-Xj];have e1:=Zpa ⟨q,hq⟩;have e2:=Zpa ⟨r,hr⟩;simp only at e1 e2;rw[e1,e2];simp only[pct,hq3,hr3]
theorem ZsY{E:LB}{cnd:Bool}{u:LI}{m:Nat}(hml:m<u.length)(hc:cnd=false):E++encUr cnd (u.take (m+1))=(E++encUr cnd (u.take m))++[toB u[m]]:=by rw[Zai u m hml,encUr_snoc,ifN (by simp[hc]),<-Xj]
theorem Zy2(x:Int)(h0:0<=x)(h1:x<=255):∃q r:Nat,IntKind.i64.wrap (x.tdiv 16)=(q:Int)/\x.tmod 16=(r:Int)/\(q:Int)<16/\(r:Int)<16/\q<16/\r<16/\(x/16).toNat=q/\(x%16).toNat=r:=by
 have e1:x.tdiv 16=x/16:=Int.tdiv_eq_ediv_of_nonneg h0;have e2:x.tmod 16=x%16:=Int.tmod_eq_emod_of_nonneg h0
 refine⟨(x/16).toNat,(x%16).toNat,?_,?_,by omega,by omega,by omega,by omega,rfl,rfl⟩
 .rw[e1,IntWalk.i64_left,IntWalk.wrap64_in (x/16) ⟨by omega,by omega⟩]
  omega
 .rw[e2]
  omega
theorem Z5(v:Value)(l:LI)(set:BA)(w:World)(hv:IntsAt w v l)(hset:set.size<=maxLen)(hn:l.length<=1000000)(hp:∀c∈l,Pt c):Calls prog 130 #[v,J set] w fun e w'=>∃r:BA,e=Y (J r)/\tl r=encoded l (tl set)/\Nx w w':=by
 obtain⟨ao,cap,rfl,hlc,hcap,hnone,hsome⟩:=hv;unfold maxLen at hcap
 go_enter func130,ntmps130
 go_wp2
 go_loopw [6,7] (fun o i wr=>∃k:Nat,k<=l.length/\i=I X k/\Zgy wr w.heap.size o (encoded (l.take k) (tl set))/\Nx w wr) (fun _ i _=>l.length-(intOf i).toNat)
 case atStart=>exact⟨0,Xe _,rfl,World.ownsRow_nil _ _ _ _,Nx.rfl⟩
 case round=>
  obtain⟨k,hk,rfl,hown,hnx⟩:=hrel
  by_cases hlt:k<l.length
  .obtain⟨a,ha⟩:=Zv hlt hnone
   subst ha;obtain⟨b,off,rfl,hr⟩:=hsome a rfl;have hck:=(hr.on hnx).cell hlt;have HPT:=A (hp l[k] (Xo _));have HTK:=A ((congrArg (encoded · (tl set)) (Zai l k hlt)).trans (ZlP (l.take k) l[k] (tl set)))
   have hsz:(encoded (l.take k) (tl set)).length<=12000000:=by have:=Zdb (l.take k) (tl set);have:=Xf k l;omega
   have HUL:=A (Zkm l[k]);have HB:=A hr;have HO:=A hown;have HN:=A hnx;clear hnone hsome hr hown hnx hp
   by_cases hin:among l[k] (tl set)=true
   focus
    have HEN:=A (show encPt (tl set) l[k]=encUr true (utf l[k])by simp[encPt,encUr,hin])
   rotate_left
   focus
    simp only[Bool.not_eq_true]at hin
    by_cases h32:l[k]<32
    focus
     have HEN:=A (show encPt (tl set) l[k]=encUr true (utf l[k])by simp[encPt,encUr,h32])
    rotate_left
    focus
     by_cases h126:126<l[k]
     focus
      have HEN:=A (show encPt (tl set) l[k]=encUr true (utf l[k])by simp[encPt,encUr,h126])
     rotate_left
     .have HEN:=A (show encPt (tl set) l[k]=encUr false (utf l[k])by simp[encPt,encUr,hin,h32,h126])
      go_wp2_with fail
      refine(Zm3 _ _ HPT.o).mono ?_
      rintro e w1 ⟨u,rfl,hu,hn1⟩;have HO1:=A (Zbw HO.o hn1);have HN1:=A (HN.o.then hn1);have hck1:=(HB.o.on HN1.o).cell hlt;have HU:=A hu;clear hu hn1 HO HN hck;obtain⟨ub,uoff,ucap,rfl,hulc,hucap,hur⟩:=HU.o.open_ (k:=0) (Zh0 _);unfold maxLen at hucap;have HUC:=A hur;clear hur
      go_wp2_with (go_at_call 175;refine(Zbz _ _ _ hset).mono ?_;rintro e w' ⟨rfl,rfl⟩)
      go_loopw [6,10] (fun o j wr=>∃m:Nat,m<=(utf l[k]).length/\j=I X m/\Zgy wr w.heap.size o (encoded (l.take k) (tl set)++encUr false ((utf l[k]).take m))/\Nx w wr/\RowAt 3 (Value.int .i64) wr ub uoff (utf l[k])) (fun _ j _=>(utf l[k]).length-(intOf j).toNat)
      case atStart=>exact⟨0,Xe _,rfl,by simpa [encUr]using HO1.o,HN1.o,HUC.o⟩
      case round=>
       clear HO1 HN1 HUC HU hck1;obtain⟨m,hm,rfl,hown,hnx,hur⟩:=hrel
       by_cases hml:m<(utf l[k]).length
       .have hcm:=hur.cell hml
        have hck:=(HB.o.on hnx).cell hlt;have hby:=ZhP HPT.o (Xo hml);have hz:=hnx.size;have hel:=ZlO false ((utf l[k]).take m)
        have hsz2:(encoded (l.take k) (tl set)++encUr false ((utf l[k]).take m)).length<1000000000000:=by have:=Xf m (utf l[k]);have:=HUL.o;simp only[Xc];omega
        have HO:=A hown;have HN:=A hnx;have HR:=A hur;have HSZ:=A hsz2;clear hown hnx hur hel hsz2;obtain⟨hby0,hby1⟩:=hby
        go_wp2_with (at_builtin;go_must (refine ZbA wr (utf l[k])[m] rfl _ _ rfl w.heap.size _ _ rfl HO.o rfl hby0 hby1 (Nat.lt_of_lt_of_le HSZ.o (by decide)) hz ?_;intro v' w1 ho1 hb1 hk1;have HO1:=A ho1;clear ho1))
        go_roundw
        exact⟨m+1,by omega,by go_num,by rw[ZsY hml rfl];exact HO1.o,HN.o.trans hb1,HR.o.kp hk1 (by decide)⟩
        simp[intOf];omega
       .go_wp2
        go_roundw
        exact⟨k+1,by omega,by go_num,by rw[HTK.o,HEN.o];rw[Xb (l:=utf l[k]) (by omega)]at hown;exact hown,hnx⟩
        simp[intOf];omega
   all_goals
    go_wp2_with fail
    refine(Zm3 _ _ HPT.o).mono ?_
    rintro e w1 ⟨u,rfl,hu,hn1⟩;have HO1:=A (Zbw HO.o hn1);have HN1:=A (HN.o.then hn1);have hck1:=(HB.o.on HN1.o).cell hlt;have HU:=A hu;clear hu hn1 HO HN hck;obtain⟨ub,uoff,ucap,rfl,hulc,hucap,hur⟩:=HU.o.open_ (k:=0) (Zh0 _);unfold maxLen at hucap;have HUC:=A hur;clear hur
    go_wp2_with (go_at_call 175;refine(Zbz _ _ _ hset).mono ?_;rintro e w' ⟨rfl,rfl⟩)
    go_loopw [6,10] (fun o j wr=>∃m:Nat,m<=(utf l[k]).length/\j=I X m/\Zgy wr w.heap.size o (encoded (l.take k) (tl set)++encUr true ((utf l[k]).take m))/\Nx w wr/\RowAt 3 (Value.int .i64) wr ub uoff (utf l[k])) (fun _ j _=>(utf l[k]).length-(intOf j).toNat)
    case atStart=>exact⟨0,Xe _,rfl,by simpa [encUr]using HO1.o,HN1.o,HUC.o⟩
    case round=>
     clear HO1 HN1 HUC HU hck1;obtain⟨m,hm,rfl,hown,hnx,hur⟩:=hrel
     by_cases hml:m<(utf l[k]).length
     .have hcm:=hur.cell hml
      have hck:=(HB.o.on hnx).cell hlt;have hby:=ZhP HPT.o (Xo hml);have hz:=hnx.size;have hel:=ZlO true ((utf l[k]).take m)
      have hsz2:(encoded (l.take k) (tl set)++encUr true ((utf l[k]).take m)).length<1000000000000:=by have:=Xf m (utf l[k]);have:=HUL.o;simp only[Xc];omega
      have HO:=A hown;have HN:=A hnx;have HR:=A hur;have HSZ:=A hsz2;clear hown hnx hur hel hsz2;obtain⟨hby0,hby1⟩:=hby;obtain⟨q,r,hq,hr,hq1,hr1,hq2,hr2,hq3,hr3⟩:=Zy2 _ hby0 hby1;have HQ3:=A hq3;have HR3:=A hr3;clear hq3 hr3;have HO2:=A (World.ownsRow.alloc HO.o (.cells #[.int .u8 37,.int .u8 (ZsX[q]'hq2).toNat,.int .u8 (ZsX[r]'hr2).toNat] 5)).drew
      have HZ2:=A (show w.heap.size<=(wr.alloc (.cells #[.int .u8 37,.int .u8 (ZsX[q]'hq2).toNat,.int .u8 (ZsX[r]'hr2).toNat] 5)).drew.heap.size by simp;omega)
      go_wp2
      go_region_held_law (fun w'=>w'.cell? ⟨ub,uoff+m,none⟩=some (I X (utf l[k])[m])) (first|exact hcm|exact(HR.o.on (Nx.rfl.alloc _)).cell hml|exact((HR.o.on (Nx.rfl.alloc _)).kp hk1 (by decide)).cell hml) ((refine Zp5 ((wr.alloc (.cells #[.int .u8 37,.int .u8 (ZsX[q]'hq2).toNat,.int .u8 (ZsX[r]'hr2).toNat] 5)).drew) 37 (ZsX[q]'hq2) (ZsX[r]'hr2) rfl (.tmp 49) (.tmp 64) rfl w.heap.size u6 _ (by simp[Act.eval]) HO2.o wr.heap.size 0 3 (by simp[Act.eval]) (by simp) (by simp) (by simp) HSZ.o HZ2.o ?_;intro v' w1 ho1 hb1 hk1;have HO1:=A ho1;clear ho1))
      all_goals
       have HF:=A (show Zgy w1 w.heap.size v' (encoded (l.take k) (tl set)++encUr true ((utf l[k]).take (m+1)))/\Nx w w1/\RowAt 3 (Value.int .i64) w1 ub uoff (utf l[k])from⟨by rw[Zvu hml rfl HQ3.o HR3.o hq2 hr2];exact HO1.o,(HN.o.alloc _).drew.trans hb1,(HR.o.on (Nx.rfl.alloc _)).kp hk1 (by decide)⟩)
       clear hb1 hk1 HO1;go_wp2
       go_roundw
       case measure=>simp[intOf];omega
       case rel=>first|exact⟨m+1,by omega,by go_num,HF.o⟩|((repeat apply Exists.intro);exact⟨⟨m+1,by omega,by go_num,HF.o⟩,rfl⟩)
     .go_wp2
      go_roundw
      exact⟨k+1,by omega,by go_num,by rw[HTK.o,HEN.o];rw[Xb (l:=utf l[k]) (by omega)]at hown;exact hown,hnx⟩
      simp[intOf];omega
  .rw[Xb (by omega)]at hown
   have hcv:=Zdp hown;have HO:=A hown;clear hown;go_wp2;go_ret;exact⟨_,rfl,tl_mk _,hnx⟩
def names6:List ByteArray:=[⟨#[104,116,116,112]⟩,⟨#[104,116,116,112,115]⟩,⟨#[119,115]⟩,⟨#[119,115,115]⟩,⟨#[102,116,112]⟩,⟨#[102,105,108,101]⟩]
def ZeR:List Int:=[80,443,80,443,21,-1]
def Zhr:List ByteArray->List Int->List UInt8->Int×Bool
 | a::r,p::q,s=>if tl a=s then(p,true)else Zhr r q s
 | _,_,_=>(-1,false)
def ZdM(s:List UInt8):Int×Bool:=Zhr names6 ZeR s
theorem ZnA(k:Nat)(hk:k<6)(s:LB):Zhr (names6.drop k) (ZeR.drop k) s=if tl (names6[k]'hk)=s then(ZeR[k]'hk,true)else Zhr (names6.drop (k+1)) (ZeR.drop (k+1)) s:=by rw[Xq (l:=names6) hk,Xq (l:=ZeR) hk,Zhr]
theorem ZnB{α:Type}{e:TypeId}{f:α->Value}(w:World)(l:List α)(cs:Array Value)(hc:cs.toList=l.map f):RowAt e f (w.alloc (.cells cs e)) w.heap.size 0 l:=by
 refine⟨cs,_,heap_alloc_new w _,fun i hi=>?_⟩
 rw[Xl,<-Array.getElem?_toList,hc]
 simp[Xk hi]
theorem Zpb(s:BA)(w:World):Calls prog 206 #[J s] w fun e w'=>e=Y (.tuple #[I X (ZdM (tl s)).1,C (ZdM (tl s)).2])/\Nx w w':=by
 go_enter func206,ntmps206
 go_wp2
 have HR1:=A (show ∀wx o2,RowAt 9 Value.string ((wx.alloc (.cells #[J ⟨#[104,116,116,112]⟩,J ⟨#[104,116,116,112,115]⟩,J ⟨#[119,115]⟩,J ⟨#[119,115,115]⟩,J ⟨#[102,116,112]⟩,J ⟨#[102,105,108,101]⟩] 9)).alloc o2) wx.heap.size 0 names6 from fun wx o2=>(ZnB wx names6 _ rfl).on (Nx.rfl.alloc _))
 have HR2:=A (show ∀wx,RowAt 3 (Value.int .i64) (wx.alloc (.cells #[I X 80,I X 443,I X 80,I X 443,I X 21,I X (-1)] 3)) wx.heap.size 0 ZeR from fun wx=>ZnB wx ZeR _ rfl)
 go_loop [6] (fun i=>∃k:Nat,k<=6/\i=I X k/\ZdM (tl s)=Zhr (names6.drop k) (ZeR.drop k) (tl s)) (fun i=>6-(intOf i).toNat)
 case atStart=>exact⟨0,by omega,rfl,rfl⟩
 case round=>
  obtain⟨k,hk,rfl,hE⟩:=hrel
  by_cases hlt:k<6
  .have c1:=(HR1.o w (.cells #[I X 80,I X 443,I X 80,I X 443,I X 21,I X (-1)] 3)).cell (i:=k) hlt
   have c2:=(HR2.o (w.alloc (.cells #[J ⟨#[104,116,116,112]⟩,J ⟨#[104,116,116,112,115]⟩,J ⟨#[119,115]⟩,J ⟨#[119,115,115]⟩,J ⟨#[102,116,112]⟩,J ⟨#[102,105,108,101]⟩] 9))).cell (i:=k) hlt;simp only[Xl]at c1 c2
   rw[show(w.alloc (.cells #[J ⟨#[104,116,116,112]⟩,J ⟨#[104,116,116,112,115]⟩,J ⟨#[119,115]⟩,J ⟨#[119,115,115]⟩,J ⟨#[102,116,112]⟩,J ⟨#[102,105,108,101]⟩] 9)).heap.size=w.heap.size+1 from by simp]at c2
   rw[ZnA k hlt]at hE;generalize (names6[k]'hlt)=nm at *;generalize (ZeR[k]'hlt)=pt at *
   by_cases he:tl nm=tl s
   .have HE:=A (hE.trans (ifP he))
    have he':(nm.toList==s.toList)=true:=by rw[ByteArray.toList_eq,ByteArray.toList_eq];show(tl nm==tl s)=true;rw[he];simp
    clear hE he;go_wp2;go_ret2
    exact⟨by rw[HE.o];rfl,(Nx.rfl.alloc _).alloc _⟩
   .have HE:=A (hE.trans (ifN he))
    have he':(nm.toList==s.toList)=false:=by rw[ByteArray.toList_eq,ByteArray.toList_eq];show(tl nm==tl s)=false;simpa using he
    clear hE he;go_wp2
    go_round
    exact⟨k+1,by omega,by go_num,HE.o⟩
    simp[intOf];omega
  .have HE:=A (show ZdM (tl s)=(-1,false)by rw[hE,Xu (by show 6<=k;omega)];rfl)
   clear hE;go_wp2;go_ret2
   exact⟨by rw[HE.o];rfl,(Nx.rfl.alloc _).alloc _⟩
def Zg(s:List UInt8):Bool:=(ZdM s).2
theorem ZO(s:BA)(w:World):Calls prog 159 #[J s] w fun e w'=>e=Y (C (Zg (tl s)))/\Nx w w':=by
 go_enter func159,ntmps159
 go_wp2_with fail
 refine(Zpb _ _).mono ?_
 rintro e w1 ⟨rfl,hn1⟩;go_wp2;go_ret;exact⟨rfl,hn1⟩
def Zn(s:List UInt8):ByteArray:=if Zg s then⟨#[47,92]⟩else⟨#[47]⟩
theorem Zef(s:LB):(Zn s).size<=2:=by unfold Zn;split<;>decide
theorem Zeg(s:BA)(w:World):Calls prog 176 #[J s] w fun e w'=>e=Y (J (Zn (tl s)))/\Nx w w':=by
 generalize hq:Zg (tl s)=q
 have HF:=A (show Zn (tl s)=if q then⟨#[47,92]⟩else⟨#[47]⟩by unfold Zn;rw[hq])
 have HQ:=A hq;clear hq
 cases q
 rotate_left
 all_goals
  go_enter func176,ntmps176
  go_wp2_with fail
  refine(ZO _ _).mono ?_
  rintro e w1 ⟨rfl,hn1⟩;rw[HQ.o];go_wp2;go_ret;exact⟨Zr5 HF.o.symm,hn1⟩
def Zq(l:List Int)(i:Nat)(s:List UInt8):Bool:=match l[i]? with|none=>false|some c=>among c (tl (Zn s))
theorem Zbd(v:Value)(l:LI)(i:Nat)(s:BA)(w:World)(hv:IntsAt w v l):Calls prog 183 #[v,I X i,J s] w fun e w'=>e=Y (C (Zq l i (tl s)))/\Nx w w':=by
 have hsz:=Zef (tl s);obtain⟨q,hq⟩:∃q,Zn (tl s)=q:=⟨_,rfl⟩;rw[hq]at hsz;have HQ:=A hq;clear hq
 by_cases hlt:i<l.length
 .have HF:=A (show Zq l i (tl s)=among l[i] (tl q)by unfold Zq;rw[Xk hlt,HQ.o])
  obtain⟨b,off,cap,rfl,hlc,hcap,hr⟩:=hv.open_ hlt;unfold maxLen at hcap;have HR:=A hr;clear hr hv
  go_enter func183,ntmps183
  go_wp2_with fail
  refine(Zeg _ _).mono ?_
  rintro e w1 ⟨rfl,hn1⟩;rw[HQ.o];have hck:=(HR.o.on hn1).cell hlt
  go_wp2_with (go_at_call 175;refine(Zbz _ _ _ (Ze (by omega))).mono ?_;rintro e w' ⟨rfl,rfl⟩)
  go_ret;exact⟨Zm HF.o.symm,hn1⟩
 .have HF:=A (show Zq l i (tl s)=false by unfold Zq;rw[List.getElem?_eq_none (by omega)])
  obtain⟨ao,cap,rfl,hlc,hcap,_,_⟩:=hv;unfold maxLen at hcap
  go_enter func183,ntmps183
  go_wp2_with fail
  refine(Zeg _ _).mono ?_
  rintro e w1 ⟨rfl,hn1⟩;rw[HQ.o];go_wp2;go_ret;exact⟨Zm HF.o.symm,hn1⟩
def ZM(inb:Bool)(i:Nat):List Int->Int
 | []=>-1
 | c::r=>if c=91 then ZM true (i+1) r else if c=93 then ZM false (i+1) r else if c=58/\inb=false then(i:Int)else ZM inb (i+1) r
def colon(l:List Int):Int:=ZM false 0 l
theorem ZlQ(inb:Bool)(l:LI)(k:Nat)(h:k<l.length):ZM inb k (l.drop k)=if l[k]=91 then ZM true (k+1) (l.drop (k+1))else if l[k]=93 then ZM false (k+1) (l.drop (k+1))else if l[k]=58/\inb=false then(k:Int)else ZM inb (k+1) (l.drop (k+1)):=by rw[Xq h,ZM]
theorem ZlR(v:Value)(l:LI)(w:World)(hv:IntsAt w v l):Calls prog 180 #[v] w fun e w'=>e=Y (I X (colon l))/\w=w':=by
 obtain⟨ao,cap,rfl,hlc,hcap,hnone,hsome⟩:=hv;unfold maxLen at hcap
 go_enter func180,ntmps180
 go_wp2
 go_loop [3,4] (fun x i=>∃(k:Nat) (inb:Bool),k<=l.length/\i=I X k/\x=C inb/\colon l=ZM inb k (l.drop k)) (fun _ i=>l.length-(intOf i).toNat)
 case atStart=>exact⟨0,false,Xe _,rfl,rfl,rfl⟩
 case round=>
  obtain⟨k,inb,hk,rfl,rfl,hE⟩:=hrel
  by_cases hlt:k<l.length
  .obtain⟨a,ha⟩:=Zv hlt hnone
   subst ha;obtain⟨b,off,rfl,hr⟩:=hsome a rfl;have hck:=hr.cell hlt;clear hnone hsome hr;rw[ZlQ inb l k hlt]at hE;generalize l[k]=c at *
   by_cases h1:c=91
   focus
    subst h1;have HE:=A (hE.trans (ifP rfl));clear hE
   rotate_left
   focus
    rw[ifN h1]at hE
    have h1':(c==91)=false:=by simp[h1]
    by_cases h2:c=93
    .subst h2
     have HE:=A (hE.trans (ifP rfl));clear hE h1;go_wp2
     go_round
     exact⟨k+1,false,by omega,by go_num,rfl,HE.o⟩
     simp[intOf];omega
    focus
     rw[ifN h2]at hE
     have h2':(c==93)=false:=by simp[h2]
     by_cases h3:c=58
     focus
      subst h3
      cases inb
      .have HE:=A (hE.trans (ifP ⟨rfl,rfl⟩))
       clear hE h1 h2;go_wp2;go_ret;exact⟨Zaw HE.o.symm,rfl⟩
      focus
       have HE:=A (hE.trans (ifN (by simp)))
       clear hE h1 h2
     rotate_left
     .have HE:=A (hE.trans (ifN (fun h=>h3 h.1)))
      have h3':(c==58)=false:=by simp[h3]
      clear hE h1 h2 h3;go_wp2
      go_round
      exact⟨k+1,inb,by omega,by go_num,rfl,HE.o⟩
      simp[intOf];omega
   all_goals
    go_wp2
    go_round
    exact⟨k+1,true,by omega,by go_num,rfl,HE.o⟩
    simp[intOf];omega
  .have HE:=A (show colon l=-1 by rw[hE,Xu (by omega)];rfl)
   clear hE;go_wp2;go_ret;exact⟨Zaw HE.o.symm,rfl⟩
def letter(l:List Int):Bool:=match l with | [a,b]=>alpha a&&(b==58||b==124)|_=>false
theorem Zbr(v:Value)(l:LI)(w:World)(hv:IntsAt w v l):Calls prog 219 #[v] w fun e w'=>e=Y (C (letter l))/\w=w':=by
 by_cases h2:l.length=2
 .match l,h2 with
  | [x,y],_=>
   obtain⟨b,off,cap,rfl,hlc,hcap,hr⟩:=hv.open_ (k:=0) (by simp)
   have c0:=hr.cell (i:=0) (by simp)
   have c1:=hr.cell (i:=1) (by simp)
   simp only[Nat.add_zero,XJ,XK]at c0 c1;unfold maxLen at hcap;clear hr hv hlc
   have HF:=A (show letter [x,y]=(alpha x&&(y==58||y==124))from rfl);generalize hax:alpha x=ax at *;have HAX:=A hax;clear hax;simp only[Xd,Xs,Xl,Nat.reduceAdd]
   cases ax
   rotate_left
   focus
    by_cases hy:y=58
    focus
     subst hy
    rotate_left
    .have hy':(y==58)=false:=by simp[hy]
     clear hy
     go_enter func219,ntmps219
     go_wp2_with (go_at_call 210;refine(ZdQ _ _).mono ?_;rintro e w' ⟨rfl,rfl⟩;rw[HAX.o])
     all_goals go_ret
     all_goals exact⟨Zm (by rw[HF.o];simp[hy']),rfl⟩
   all_goals
    go_enter func219,ntmps219
    go_wp2_with (go_at_call 210;refine(ZdQ _ _).mono ?_;rintro e w' ⟨rfl,rfl⟩;rw[HAX.o])
    go_ret
    exact⟨Zm (by rw[HF.o];rfl),rfl⟩
 .have HF:=A (show letter l=false by unfold letter;split;simp at h2;rfl)
  obtain⟨ao,cap,rfl,hlc,hcap,_,_⟩:=hv;unfold maxLen at hcap
  have h2':((l.length:Int) != 2)=true:=by simp only[bne_iff_ne,ne_eq];omega
  clear h2
  go_enter func219,ntmps219
  go_wp2;go_ret;exact⟨Zm HF.o.symm,rfl⟩
theorem Zaf(l:LB):(Zl l).length<=l.length:=by
 generalize hn:l.length=n
 induction n using Nat.strongRecOn generalizing l with
 | ind n ih=>
  cases l with
  | nil=>simp[Zl]
  | cons c r=>
   obtain⟨h1,h2⟩:=Zo8 (c::r) 1 (whole [c]) (by simp)
   have h3:=ih (r.drop ((grow (c::r) 1 (whole [c])).1-1)).length (by rw[Xa];simp at hn;omega) _ rfl
   rw[Zl];rw[Xa]at h3;simp only[Xd]at hn ⊢
   omega
def drive(s:List UInt8):Bool:=letter (Zl s)&&((Zl s)[1]?).getD 0==58
theorem ZgQ(s:BA)(w:World)(hs:s.size<=1000000):Calls prog 252 #[J s] w fun e w'=>e=Y (C (drive (tl s)))/\Nx w w':=by
 go_enter func252,ntmps252
 go_wp2_with fail
 refine(Zau _ _ hs).mono ?_
 rintro e w1 ⟨v,rfl,hv,hn1⟩;have HD:=A (show drive (tl s)=(letter (Zl (tl s))&&((Zl (tl s))[1]?).getD 0==58)from rfl);generalize Zl (tl s)=l at *;have HV:=A hv
 cases hlt:letter l
 .go_wp2_with fail
  refine(Zbr _ l _ HV.o).mono ?_
  rintro e w' ⟨rfl,rfl⟩;rw[hlt];go_wp2;go_ret
  exact⟨Zm (by rw[HD.o,hlt];rfl),hn1⟩
 .match l,hlt,hv,HV,HD with
  | [x,y],hlt,hv,HV,HD=>
   obtain⟨b,off,cap,rfl,hlc,hcap,hr⟩:=hv.open_ (k:=0) (by simp)
   have c1:=hr.cell (i:=1) (by simp)
   simp only[XJ,XK]at c1;unfold maxLen at hcap;clear hr hv hlc;go_wp2_with fail
   refine(Zbr _ _ _ HV.o).mono ?_
   rintro e w' ⟨rfl,rfl⟩;rw[hlt];go_wp2
   all_goals go_ret
   all_goals exact⟨Zm (by rw[HD.o,hlt];simp),hn1⟩
def Zpc(special:Bool):ByteArray:=if special then⟨#[32,34,35,60,62,39]⟩else⟨#[32,34,35,60,62]⟩
theorem Zip(v:Value)(l:LI)(s:BA)(w:World)(hv:IntsAt w v l)(hn:l.length<=1000000)(hp:∀c∈l,Pt c):Calls prog 185 #[v,J s] w fun e w'=>∃r:BA,e=Y (J r)/\tl r=encoded l (tl (Zpc (Zg (tl s))))/\Nx w w':=by
 generalize hq:Zg (tl s)=q;have HQ:=A hq;clear hq
 cases q
 rotate_left
 all_goals
  go_enter func185,ntmps185
  go_wp2_with fail
  refine(ZO _ _).mono ?_
  rintro e w1 ⟨rfl,hn1⟩;rw[HQ.o];go_wp2_with fail
  refine(Z5 _ l _ _ (hv.on hn1) (Ze (by decide)) hn hp).mono ?_
  rintro e w2 ⟨r,rfl,hr,hn2⟩;go_wp2;go_ret;exact⟨_,rfl,hr,hn1.then hn2⟩
def cands:List (List UInt8×Int):=[([46],1),([46,46],2),([46,37,50,101],2),([37,50,101],1),([37,50,101,46],2),([37,50,101,37,50,101],2)]
def Zdv:List (List UInt8×Int)->List UInt8->Int
 | [],_=>0
 | (a,n)::r,t=>if t=a then n else Zdv r t
def dots(s:List UInt8):Int:=Zdv cands (lower s)
def ZyQ:List ByteArray:=[⟨#[46]⟩,⟨#[37,50,101]⟩]
def Zhs(j:Nat):List UInt8×Int:=cands.getD j ([],0)
def ZhL(i:Nat):ByteArray:=ZyQ.getD i ⟨#[]⟩
theorem Ziq(j:Nat)(hj:j<6)(t:LB):Zdv (cands.drop j) t=if t=(Zhs j).1 then(Zhs j).2 else Zdv (cands.drop (j+1)) t:=by
 have e:Zhs j=cands[j]'hj:=by unfold Zhs;rw[Xw,Xk (show j<cands.length from hj)];rfl
 rw[e,Xq (l:=cands) hj,Zdv]
theorem Zvv:∀i:Fin 2,Zhs (3*i.val)=(tl (ZhL i.val),1):=by decide
theorem Zvw:∀i k:Fin 2,Zhs (3*i.val+1+k.val)=(tl (ZhL i.val)++tl (ZhL k.val),2):=by decide
theorem ZsZ(i:Nat)(h:i<2):Zhs (3*i)=(tl (ZhL i),1):=Zvv ⟨i,h⟩
theorem Zs0(i k:Nat)(h:i<2)(h2:k<2):Zhs (3*i+1+k)=(tl (ZhL i)++tl (ZhL k),2):=Zvw ⟨i,h⟩ ⟨k,h2⟩
theorem ZnC(i:Nat)(h:i<ZyQ.length):ZyQ[i]=ZhL i:=by unfold ZhL;rw[Xw,Xk h];rfl
theorem Zyk{a b:BA}(h:tl a=tl b):(a.toList==b.toList)=true:=by rw[ByteArray.toList_eq,ByteArray.toList_eq];show(tl a==tl b)=true;rw[h];simp
theorem Zyl{a b:BA}(h:¬tl a=tl b):(a.toList==b.toList)=false:=by rw[ByteArray.toList_eq,ByteArray.toList_eq];show(tl a==tl b)=false;simpa using h
theorem Zpd:∀i:Fin 2,(ZhL i.val).size<=3:=by decide
theorem Zpe(s:BA)(w:World)(hs:s.size<=1000000):Calls prog 217 #[J s] w fun e w'=>e=Y (I X (dots (tl s)))/\Nx w w':=by
 go_enter func217,ntmps217
 go_wp2_with fail
 refine(ZeD _ _ hs).mono ?_
 rintro e w1 ⟨t,rfl,ht,hn1⟩
 have HD:=A (show dots (tl s)=Zdv cands (tl t)by unfold dots;rw[ht])
 clear ht;have HN1:=A hn1;clear hn1;go_wp2;have HR:=A (ZnB w1 ZyQ #[J ⟨#[46]⟩,J ⟨#[37,50,101]⟩] rfl:RowAt 9 Value.string _ _ _ _);have HN2:=A (HN1.o.alloc (.cells #[J ⟨#[46]⟩,J ⟨#[37,50,101]⟩] 9))
 go_loopw [5] (fun x wr=>∃i:Nat,i<=2/\x=I X i/\dots (tl s)=Zdv (cands.drop (3*i)) (tl t)/\Nx (w1.alloc (.cells #[J ⟨#[46]⟩,J ⟨#[37,50,101]⟩] 9)) wr) (fun x _=>2-(intOf x).toNat)
 case atStart=>exact⟨0,by omega,rfl,HD.o,Nx.rfl⟩
 case round=>
  clear HD;obtain⟨i,hi,rfl,hE,hnx⟩:=hrel;have HNX:=A hnx;clear hnx
  by_cases hlt:i<2
  .have ci:=((HR.o.on HNX.o).cell (i:=i) hlt).trans (congrArg (fun z=>some (Value.string z)) (ZnC i hlt))
   simp only[Xl]at ci
   rw[Ziq (3*i) (by omega),ZsZ i hlt]at hE
   have hsi:=Zpd ⟨i,hlt⟩;simp only at hsi
   by_cases he:tl t=tl (ZhL i)
   .have HE:=A (hE.trans (ifP he))
    have he':=Zyk he;clear hE he;go_wp2;go_ret;exact⟨Zaw HE.o.symm,HN2.o.then HNX.o⟩
   .have HE:=A (hE.trans (ifN he))
    have he':=Zyl he;clear hE he;go_wp2;clear ci he'
    go_loopw [6] (fun y wr=>∃k:Nat,k<=2/\y=I X k/\dots (tl s)=Zdv (cands.drop (3*i+1+k)) (tl t)/\Nx (w1.alloc (.cells #[J ⟨#[46]⟩,J ⟨#[37,50,101]⟩] 9)) wr) (fun y _=>2-(intOf y).toNat)
    case atStart=>exact⟨0,by omega,rfl,HE.o,HNX.o⟩
    case round=>
     clear HE HNX;obtain⟨k,hk,rfl,hE,hnx⟩:=hrel;have HNX:=A hnx;clear hnx
     by_cases hlt2:k<2
     .have ci:=((HR.o.on HNX.o).cell (i:=i) hlt).trans (congrArg (fun z=>some (Value.string z)) (ZnC i hlt))
      have ck:=((HR.o.on HNX.o).cell (i:=k) hlt2).trans (congrArg (fun z=>some (Value.string z)) (ZnC k hlt2))
      simp only[Xl]at ci ck
      rw[Ziq (3*i+1+k) (by omega),Zs0 i k hlt hlt2]at hE
      have hsk:=Zpd ⟨k,hlt2⟩;simp only at hsk;rw[<-tl_append]at hE
      by_cases he2:tl t=tl (ZhL i++ZhL k)
      .have HE:=A (hE.trans (ifP he2))
       have he2':=Zyk he2;clear hE he2;go_wp2
       go_region
       all_goals go_wp2
       all_goals go_ret
       all_goals exact⟨Zaw HE.o.symm,(HN2.o.then HNX.o).drew⟩
      .have HE:=A (hE.trans (ifN he2))
       have he2':=Zyl he2;clear hE he2;go_wp2
       go_region
       all_goals go_wp2
       all_goals go_roundw
       exact⟨k+1,by omega,by go_num,HE.o,HNX.o.drew⟩
       simp[intOf];omega
     .have HE:=A (show dots (tl s)=Zdv (cands.drop (3*(i+1))) (tl t)by rw[hE,show 3*i+1+k=3*(i+1)by omega])
      clear hE;go_wp2
      go_roundw
      exact⟨i+1,by omega,by go_num,HE.o,HNX.o⟩
      simp[intOf];omega
  .have HE:=A (show dots (tl s)=0 by rw[hE,Xu (by show 6<=3*i;omega)];rfl)
   clear hE;go_wp2;go_ret;exact⟨Zaw HE.o.symm,HN2.o.then HNX.o⟩
theorem Zpf{size v k:Int}(h:wtest size (v*64^0) (v*64^0+64^0-1) k=true):Pt v:=by
 unfold wtest at h;simp only[Xg,decide_eq_true_eq,Int.pow_zero,Int.mul_one]at h
 have hr:128<=(room size k).1/\(room size k).2<=1114111:=by
  unfold room
  split
  rotate_left
  focus
   split
   rotate_left
   focus
    split
    rotate_left
  all_goals
   exact⟨by decide,by decide⟩
 unfold Pt
 omega
theorem Zpg(t:LB)(h:(whole t).2.1=true):Pt (whole t).1:=by
 cases t with
 | nil=>simp[whole]at h
 | cons b r=>
  rw[whole]at h ⊢
  split at h
  .rename_i hc
   rw[ifP hc];have:=bb b;unfold Pt;simp only
   omega
  .rename_i hc
   rw[ifN hc]
   split at h
   .cases h
   .rename_i hc2
    rw[ifN hc2]
    split at h
    .cases h
    .rename_i hc3
     rw[ifN hc3];simp only[Xg,beq_iff_eq]at h ⊢;obtain⟨h1,h2⟩:=h
     rw[show((ZbH (b.toNat:Int)).1-((r.length:Int)+1)).toNat=0 by omega]at h1
     unfold wok at h1;simp only[Xg,Bool.or_eq_true]at h1;rcases h1.2 with h3|h3
     .exact Zpf h3
     .exact Zpf h3
theorem grow_pt(l:LB)(n:Nat)(x:Int×Bool×Bool)(hx:x.2.1=true->Pt x.1)(h:(grow l n x).2.2=true):Pt (grow l n x).2.1:=by
 induction n,x using grow.induct (l:=l)with
 | case1 n x h1 h2=>rw[grow,ifP h1,ifP h2]at h ⊢;exact hx h
 | case2 n x h1 h2 ih=>rw[grow,ifP h1,ifN h2]at h ⊢;exact ih (Zpg _) h
 | case3 n x h1=>rw[grow,ifN h1]at h ⊢;exact hx h
theorem Zcy(l:LB):∀c∈Zl l,Pt c:=by
 generalize hn:l.length=n
 induction n using Nat.strongRecOn generalizing l with
 | ind n ih=>
  cases l with
  | nil=>simp[Zl]
  | cons c r=>
   rw[Zl];intro x hx;rcases XS.1 hx with rfl|hx
   .split
    .rename_i h
     exact grow_pt _ _ _ (Zpg _) h
    .exact⟨by decide,by decide⟩
   .exact ih (r.drop ((grow (c::r) 1 (whole [c])).1-1)).length (by rw[Xa];simp at hn;omega) _ rfl x hx
end Go.Proofs.YtchkhibgbnhjpabGreatDoor
