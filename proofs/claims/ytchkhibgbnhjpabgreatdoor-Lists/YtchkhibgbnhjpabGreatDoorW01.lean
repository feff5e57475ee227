import Derived.Test.YtchkhibgbnhjpabGreatDoorW00
import Derived.Deep.OwnRows
import Derived.Laws.OwnMore
open Array renaming getElem?_eq_some_iff→Xb,getElem?_modify→Xe
open Bool renaming false_or→XE,false_eq_true→XJ
open Int renaming le_refl→Xv,tdiv_eq_ediv_of_nonneg→XD,mul_nonneg→XQ
open List renaming length_map→Xd,length_take→Xf,length_append→Xg,drop_of_length_le→Xh,length_cons→Xi,getD_eq_getElem?_getD→Xj,append_assoc→Xk,getElem?_eq_getElem→Xl,length_drop→Xm,getElem_mem→Xn,drop_eq_getElem_cons→Xo,map_cons→Xq,take_of_length_le→Xs,append_nil→Xt,drop_zero→Xu,take_succ_eq_append_getElem→Xw,nil_append→Xz,length_nil→XA,map_append→XB,drop_drop→XC,map_take→XF,map_nil→XG,map_set→XH,getElem?_map→XL,cons_append→XN,any_eq_true→XO,length_set→XP,mem_cons→XR,mem_map→XS
open Nat renaming le_refl→Xa,zero_le→Xc,le_of_not_lt→Xx,le_trans→XI,lt_of_lt_of_le→XK,eq_zero_or_pos→XM
open Or renaming inr→Xp,inl→Xr
open UInt8 renaming toNat_inj→Xy
open Go.Value renaming string→J,bool→C,int→I
open Go.IntKind renaming i64→X
open Go.Ending renaming returned→Y
open Go.Obj renaming cells→O
namespace Go.Proofs.YtchkhibgbnhjpabGreatDoor
open Tryz
open Go.RowKit
set_option maxHeartbeats 8000000
set_option maxRecDepth 100000
variable [Fl]
set_option linter.all false
theorem ZaQ(s:BA)(n:Int)(w:World)(hs:s.size<=maxLen):Calls prog 194 #[J s,.int .u8 n] w fun e w'=>e=Y (C (among n (tl s)))/\w=w':=by
 unfold maxLen at hs
 go_enter func194,ntmps194
 go_wp2
 go_loop [5] (fun i=>∃k:Nat,k<=s.size/\i=I X k/\among n ((tl s).take k)=false) (fun i=>s.size-(intOf i).toNat)
 case atStart=>exact⟨0,Xc _,rfl,rfl⟩
 case round=>
  obtain⟨k,hk,rfl,ha⟩:=hrel;have HA:=A ha;clear ha
  by_cases hlt:k<s.size
  .have hb:=bb s[k]
   go_wp2
   .go_ret
    exact⟨Zm (Zld n s k hlt (by assumption)).symm,rfl⟩
   .go_round
    exact⟨k+1,by omega,by go_num,by rw[Zt s k hlt,among_snoc,HA.o];assumption⟩
    simp[intOf];omega
  .go_wp2
   go_ret
   exact⟨Zm (by rw[<-HA.o,ZQ _ _ (by omega)]),rfl⟩
def bcut(p:UInt8->Bool):List UInt8->List UInt8×List UInt8×Bool
 | []=>([],[],false)
 | c::r=>if p c then([],r,true)else(c::(bcut p r).1,(bcut p r).2)
def ZeC(p:UInt8->Bool)(l:List UInt8)(k:Nat):Prop:=bcut p l=(l.take k++(bcut p (l.drop k)).1,(bcut p (l.drop k)).2)
theorem Zh2(p:UInt8->Bool)(l:LB):ZeC p l 0:=by simp[ZeC]
theorem Zh3{p:UInt8->Bool}{s:BA}{k:Nat}(hk:k<s.size)(h:ZeC p (tl s) k)(ha:p s[k]=false):ZeC p (tl s) (k+1):=by unfold ZeC at *;rw[h,ZB s k hk,Zt s k hk,Xk];simp only[bcut,ha,XJ,if_false,XN,Xz]
theorem Zjp{p:UInt8->Bool}{s:BA}{k:Nat}(hk:k<s.size)(h:ZeC p (tl s) k)(ha:p s[k]=true):bcut p (tl s)=((tl s).take k,(tl s).drop (k+1),true):=by
 unfold ZeC at h;rw[h,ZB s k hk]
 simp[bcut,ha]
theorem Zjq{p:UInt8->Bool}{s:BA}{k:Nat}(hk:s.size<=k)(h:ZeC p (tl s) k):bcut p (tl s)=(tl s,[],false):=by
 unfold ZeC at h;rw[h,Zu s k hk,ZQ s k hk]
 simp[bcut]
def Zp6(q:List UInt8×List UInt8×Bool)(e:Ending):Prop:=∃a b:ByteArray,e=Y (.tuple #[J a,J b,C q.2.2])/\tl a=q.1/\tl b=q.2.1
def isB(n:Int)(b:UInt8):Bool:=(b.toNat:Int)==n
theorem Zd9(s:BA)(n:Int)(w:World)(hs:s.size<=maxLen):Calls prog 141 #[J s,.int .u8 n] w fun e w'=>Zp6 (bcut (isB n) (tl s)) e/\Nx w w':=by
 unfold maxLen at hs
 go_enter func141,ntmps141
 go_wp2
 go_loop [7] (fun i=>∃k:Nat,k<=s.size/\i=I X k/\ZeC (isB n) (tl s) k) (fun i=>s.size-(intOf i).toNat)
 case atStart=>exact⟨0,Xc _,rfl,Zh2 _ _⟩
 case round=>
  obtain⟨k,hk,rfl,ha⟩:=hrel;have HA:=A ha;clear ha
  by_cases hlt:k<s.size
  .have hb:=bb s[k]
   go_wp2
   .have HR:=A (Zjp hlt HA.o (by assumption))
    go_region
    all_goals go_wp2
    all_goals go_ret3
    all_goals exact⟨⟨_,_,by rw[HR.o];rfl,by rw[HR.o,tl_to],by rw[HR.o,tl_from]⟩,Nx.rfl.drew⟩
   .go_round
    exact⟨k+1,by omega,by go_num,Zh3 hlt HA.o (by assumption)⟩
    simp[intOf];omega
  .have HR:=A (Zjq (Xx hlt) HA.o)
   go_wp2
   go_ret3
   exact⟨⟨_,_,by rw[HR.o];rfl,by rw[HR.o],by rw[HR.o];rfl⟩,Nx.rfl⟩
def bcutLast(n:Int)(l:List UInt8):List UInt8×List UInt8×Bool:=
 match l with
 | []=>([],[],false)
 | c::r=>if(bcutLast n r).2.2 then(c::(bcutLast n r).1,(bcutLast n r).2)else if isB n c then([],r,true)else([],c::r,false)
theorem Zf3(n:Int)(l:LB)(h:among n l=false):bcutLast n l=([],l,false):=by
 induction l with
 | nil=>rfl
 | cons c r ih=>
  simp only[among,List.any_cons,Bool.or_eq_false_iff]at h
  rw[bcutLast,ih (by simpa [among]using h.2)]
  simp[isB,h.1]
theorem Zlf(n:Int)(a r:LB)(c:UInt8)(hc:isB n c=true)(h:among n r=false):bcutLast n (a++c::r)=(a,r,true):=by
 induction a with
 | nil=>rw[Xz,bcutLast,Zf3 n r h];simp[hc]
 | cons x a ih=>rw[XN,bcutLast,ih];simp
theorem Zh4(s:BA)(n:Int)(k:Nat)(h:k<s.size):among n ((tl s).drop k)=(((s[k].toNat:Int)==n)||among n ((tl s).drop (k+1))):=by rw[ZB s k h];simp[among]
theorem Zlg(s:BA)(n:Int)(w:World)(hs:s.size<=maxLen):Calls prog 261 #[J s,.int .u8 n] w fun e w'=>Zp6 (bcutLast n (tl s)) e/\Nx w w':=by
 unfold maxLen at hs
 go_enter func261,ntmps261
 go_wp2
 go_loop [7] (fun i=>∃k:Nat,k<=s.size/\i=I X ((k:Int)-1)/\among n ((tl s).drop k)=false) (fun i=>(intOf i+1).toNat)
 case atStart=>exact⟨s.size,Xa _,by go_num,by rw[Zu s _ (Xa _)];rfl⟩
 case round=>
  obtain⟨k,hk,rfl,ha⟩:=hrel;have HA:=A ha;clear ha
  cases k with
  | zero=>
   have HR:=A (Zf3 n (tl s) HA.o);go_wp2
   go_ret3
   exact⟨⟨_,_,by rw[HR.o];rfl,by rw[HR.o];rfl,by rw[HR.o]⟩,Nx.rfl⟩
  | succ k=>
   have hlt:k<s.size:=by omega
   have hb:=bb s[k]
   have ek:((k+1:Nat):Int)-1=(k:Int):=by omega
   rw[ek];clear ek
   by_cases hc:((s[k].toNat:Int)==n)=true
   .have HR:=A (show bcutLast n (tl s)=((tl s).take k,(tl s).drop (k+1),true)by
     conv=>lhs;rw[<-List.take_append_drop k (tl s),ZB s k hlt]
     exact Zlf n _ _ _ hc HA.o)
    go_wp2
    go_region
    all_goals go_wp2
    all_goals go_ret3
    all_goals exact⟨⟨_,_,by rw[HR.o];rfl,by rw[HR.o,tl_to],by rw[HR.o,tl_from]⟩,Nx.rfl.drew⟩
   .simp only[Bool.not_eq_true]at hc
    have HD:=A (Zh4 s n k hlt);go_wp2
    go_round
    exact⟨k,by omega,by go_num,by rw[HD.o,hc,XE];exact HA.o⟩
    simp[intOf]
theorem Zbm(n:Int)(w:World):Calls prog 253 #[.int .u8 n] w fun e w'=>e=Y (C (alpha n))/\w=w':=by
 go_enter func253,ntmps253
 go_wp2
 all_goals go_ret
 all_goals exact⟨Zm (by rw[Bool.eq_iff_iff];simp[alpha];omega),rfl⟩
def Zhc(special:Bool)(n:Int):Bool:=n==47||(special&&n==92)
theorem Zh5(n:Int)(sp:Bool)(w:World):Calls prog 257 #[.int .u8 n,C sp] w fun e w'=>e=Y (C (Zhc sp n))/\w=w':=by
 by_cases h:n=47
 .subst h
  go_enter func257,ntmps257
  go_wp2
  all_goals go_ret
  all_goals exact⟨Zm (by simp[Zhc]),rfl⟩
 .have h':(n==47)=false:=by simp[h]
  have HE:=A (show Zhc sp n=(sp&&n==92)by simp[Zhc,h])
  clear h
  cases sp
  rotate_left
  all_goals
   go_enter func257,ntmps257
   go_wp2
   all_goals go_ret
   all_goals exact⟨Zm (by rw[HE.o];rfl),rfl⟩
def slB(sp:Bool)(b:UInt8):Bool:=Zhc sp (b.toNat:Int)
theorem Zdq(s:BA)(sp:Bool)(w:World)(hs:s.size<=maxLen):Calls prog 260 #[J s,C sp] w fun e w'=>Zp6 (bcut (slB sp) (tl s)) e/\Nx w w':=by
 unfold maxLen at hs
 go_enter func260,ntmps260
 go_wp2
 go_loop [7] (fun i=>∃k:Nat,k<=s.size/\i=I X k/\ZeC (slB sp) (tl s) k) (fun i=>s.size-(intOf i).toNat)
 case atStart=>exact⟨0,Xc _,rfl,Zh2 _ _⟩
 case round=>
  obtain⟨k,hk,rfl,ha⟩:=hrel;have HA:=A ha;clear ha
  by_cases hlt:k<s.size
  .have hb:=bb s[k]
   go_wp2_with (go_at_call 257;refine(Zh5 _ _ _).mono ?_;rintro e w' ⟨rfl,rfl⟩)
   .have HR:=A (Zjp hlt HA.o (by assumption))
    go_region
    all_goals go_wp2
    all_goals go_ret3
    all_goals exact⟨⟨_,_,by rw[HR.o];rfl,by rw[HR.o,tl_to],by rw[HR.o,tl_from]⟩,Nx.rfl.drew⟩
   .go_round
    exact⟨k+1,by omega,by go_num,Zh3 hlt HA.o (by assumption)⟩
    simp[intOf];omega
  .have HR:=A (Zjq (Xx hlt) HA.o)
   go_wp2
   go_ret3
   exact⟨⟨_,_,by rw[HR.o];rfl,by rw[HR.o],by rw[HR.o];rfl⟩,Nx.rfl⟩
def countSl(sp:Bool):List UInt8->Nat
 | []=>0
 | c::r=>if slB sp c then countSl sp r+1 else 0
theorem Ze5(sp:Bool)(l:LB):countSl sp l<=l.length:=by
 induction l with
 | nil=>simp[countSl]
 | cons c r ih=>rw[countSl];split<;>simp;omega
theorem Zs(s:BA)(sp:Bool)(w:World)(hs:s.size<=maxLen):Calls prog 226 #[J s,C sp] w fun e w'=>e=Y (I X (countSl sp (tl s)))/\w=w':=by
 unfold maxLen at hs
 go_enter func226,ntmps226
 go_wp2
 go_loop [5] (fun i=>∃k:Nat,k<=s.size/\i=I X k/\countSl sp (tl s)=k+countSl sp ((tl s).drop k)) (fun i=>s.size-(intOf i).toNat)
 case atStart=>exact⟨0,Xc _,rfl,by simp⟩
 case round=>
  obtain⟨k,hk,rfl,ha⟩:=hrel;have HA:=A ha;clear ha
  by_cases hlt:k<s.size
  .have hb:=bb s[k]
   cases hsl:Zhc sp (s[k].toNat:Int)
   .have HR:=A (show countSl sp (tl s)=k by rw[HA.o,ZB s k hlt,countSl,ifN (by simp[slB,hsl])];rfl)
    go_wp2_with (go_at_call 257;refine(Zh5 _ _ _).mono ?_;rintro e w' ⟨rfl,rfl⟩)
    go_ret
    exact⟨Zaw (by rw[HR.o]),rfl⟩
   .have HR:=A (show countSl sp (tl s)=(k+1)+countSl sp ((tl s).drop (k+1))by rw[HA.o,ZB s k hlt,countSl,ifP (by simp[slB,hsl])];omega)
    go_wp2_with (go_at_call 257;refine(Zh5 _ _ _).mono ?_;rintro e w' ⟨rfl,rfl⟩)
    go_round
    exact⟨k+1,by omega,by go_num,HR.o⟩
    simp[intOf];omega
  .have HR:=A (show countSl sp (tl s)=k by rw[HA.o,Zu s k (by omega)];rfl)
   go_wp2;go_ret
   exact⟨Zaw (by rw[HR.o]),rfl⟩
theorem Ze6(b:UInt8):UInt8.ofNat ((b.toNat:Int)).toNat=b:=by rw[Int.toNat_natCast];exact UInt8.ofNat_toNat
theorem Zxe{b:UInt8}(h0:65<=b.toNat)(h1:b.toNat<=90):UInt8.ofNat ((b.toNat:Int)+32).toNat=Zey b:=by
 apply Xy.1
 have:=ZoO h0 h1
 rw[UInt8.toNat_ofNat_of_lt' (by show((b.toNat:Int)+32).toNat<256;omega)]
 omega
theorem ZdR(w:World):Zgy (w.alloc (.cells #[] 5)) w.heap.size (.slice (some ⟨w.heap.size,0,none⟩) 0 0) []:=
 World.ownsRow_made w #[] 0 (Xa _) (Xc _) rfl
theorem Zp8(l:LB)(b:UInt8):lower (l++[b])=lower l++[Zey b]:=by simp[lower]
theorem Zjr(s:BA)(w:World)(hs:s.size<=1000000):Calls prog 222 #[J s] w fun e w'=>∃r:BA,e=Y (J r)/\tl r=lower (tl s)/\Nx w w':=by
 go_enter func222,ntmps222
 go_wp2
 go_loopw [3,4] (fun o i wr=>∃k:Nat,k<=s.size/\i=I X k/\Zgy wr w.heap.size o (lower ((tl s).take k))/\Nx w wr) (fun _ i _=>s.size-(intOf i).toNat)
 case atStart=>exact⟨0,Xc _,rfl,ZdR w,Nx.rfl.alloc _⟩
 case round=>
  obtain⟨k,hk,rfl,hown,hnx⟩:=hrel
  by_cases hlt:k<s.size
  .have hb:=bb s[k]
   have HTK:=A ((congrArg lower (Zt s k hlt)).trans (Zp8 _ _));have hz:=hnx.size
   have hsz:(lower ((tl s).take k)).length<1099511627776:=by simp only[lower,Xd,Xf];omega
   have HO:=A hown;have HN:=A hnx;clear hown hnx
   by_cases hit:65<=s[k].toNat/\s[k].toNat<=90
   .obtain⟨hi0,hi1⟩:=hit
    have HT:=A (Zxe hi0 hi1)
    go_wp2_with (at_builtin;go_must (refine ZbA wr ((s[k].toNat:Int)+32) rfl _ _ rfl w.heap.size _ _ rfl HO.o rfl (by omega) (by omega) hsz hz ?_;intro v' w1 ho1 hb1 hk1;have HO1:=A ho1;clear ho1))
    go_roundw
    exact⟨k+1,by omega,by go_num,by rw[HTK.o,<-HT.o];exact HO1.o,HN.o.trans hb1⟩
    simp[intOf];omega
   .have HT:=A (Zlh hit)
    have HT2:=A (Ze6 s[k])
    by_cases hi0:65<=s[k].toNat
    focus
     have hi1:90<s[k].toNat:=by omega
    rotate_left
    all_goals
     clear hit
     go_wp2_with (at_builtin;go_must (refine ZbA wr (s[k].toNat:Int) rfl _ _ rfl w.heap.size _ _ rfl HO.o rfl (by omega) (by omega) hsz hz ?_;intro v' w1 ho1 hb1 hk1;have HO1:=A ho1;clear ho1))
     go_roundw
     exact⟨k+1,by omega,by go_num,by rw[HTK.o,HT.o];have h:=HO1.o;rw[HT2.o]at h;exact h,HN.o.trans hb1⟩
     simp[intOf];omega
  .rw[ZQ s k (by omega)]at hown
   have hcv:=Zdp hown;clear hown;go_wp2;go_ret;exact⟨_,rfl,tl_mk _,hnx⟩
def ZK(n base:Int):Int×Bool:=
 let d:=if 48<=n/\n<=57 then n-48 else if 97<=n/\n<=102 then n-97+10 else if 65<=n/\n<=70 then n-65+10 else base
 if base<=d then(0,false)else(d,true)
theorem ZaI(n base:Int)(w:World)(h0:0<=n)(h1:n<=255):Calls prog 297 #[.int .u8 n,I X base] w fun e w'=>e=Y (.tuple #[I X (ZK n base).1,C (ZK n base).2])/\w=w':=by
 by_cases c1:48<=n/\n<=57
 focus
  obtain⟨c1,c2⟩:=c1
  by_cases c3:base<=n-48
  focus
   have HE:=A (show ZK n base=(0,false)by simp[ZK,c1,c2,c3])
  rotate_left
  focus
   have HE:=A (show ZK n base=(n-48,true)by simp[ZK,c1,c2,c3])
 rotate_left 2
 focus
  by_cases d1:97<=n/\n<=102
  focus
   obtain⟨d1,d2⟩:=d1
   have e1:¬n<=57:=by omega
   by_cases c3:base<=n-97+10
   focus
    have HE:=A (show ZK n base=(0,false)by simp[ZK,d1,d2,c3,e1])
    clear c1
   rotate_left
   focus
    have HE:=A (show ZK n base=(n-97+10,true)by simp[ZK,d1,d2,c3,e1])
    clear c1
  rotate_left 2
  focus
   by_cases f1:65<=n/\n<=70
   focus
    obtain⟨f1,f2⟩:=f1
    have e1:¬n<=57:=by omega
    have e2:¬97<=n:=by omega
    by_cases c3:base<=n-65+10
    focus
     have HE:=A (show ZK n base=(0,false)by simp[ZK,f1,f2,c3,e1,e2])
     clear c1 d1
    rotate_left
    focus
     have HE:=A (show ZK n base=(n-65+10,true)by simp[ZK,f1,f2,c3,e1,e2])
     clear c1 d1
   rotate_left 2
   focus
    have HE:=A (show ZK n base=(0,false)by simp[ZK,c1,d1,f1])
    by_cases g1:n<48
    focus
     clear c1 d1 f1
    rotate_left
    focus
     by_cases g2:n<65
     focus
      have g3:57<n:=by omega
      clear c1 d1 f1
     rotate_left
     focus
      by_cases g4:n<97
      focus
       have g3:70<n:=by omega
       clear c1 d1 f1
      rotate_left
      focus
       have g3:102<n:=by omega
       clear c1 d1 f1
 all_goals
  go_enter func297,ntmps297
  go_wp2;go_ret2
  exact⟨by rw[HE.o];rfl,rfl⟩
theorem Zo{s:BA}(h:s.size=0):s.toList.isEmpty=true:=by rw[ByteArray.toList_eq];show(tl s).isEmpty=true;rw[Zz h];rfl
theorem Zj{s:BA}(h:¬s.size=0):s.toList.isEmpty=false:=by
 rw[ByteArray.toList_eq];show(tl s).isEmpty=false;have:=Za s
 cases e:tl s with
 | nil=>rw[e]at this;simp at this;omega
 | cons=>rfl
theorem Zbn(n base:Int):0<=(ZK n base).1/\((ZK n base).2=true->(ZK n base).1<base):=by
 unfold ZK;simp only
 split
 rotate_left
 focus
  split
  rotate_left
  focus
   split
   rotate_left
   .rw[ifP (Xv _)];simp
 all_goals
  split
  .simp
  .simp only[true_implies];omega
def numGo(base most:Int):Int->List UInt8->Option Int
 | n,[]=>some n
 | n,c::r=>if(ZK c.toNat base).2 then numGo base most (if n<=most then n*base+(ZK c.toNat base).1 else n) r else none
def Zp(l:List UInt8)(base most:Int):Int×Bool:=
 if l=[]then(0,false)else
 match numGo base most 0 l with
 | none=>(0,false)
 | some n=>if most<n then(most+1,true)else(n,true)
theorem Zm4(s:BA)(most:Int)(w:World)(hs:s.size<=1000000)(hm0:0<=most)(hm1:most<=4294967295):Calls prog 301 #[J s,I X 8,I X most] w fun e w'=>e=Y (.tuple #[I X (Zp (tl s) 8 most).1,C (Zp (tl s) 8 most).2])/\w=w':=by
 by_cases he:s.size=0
 .have HE:=A (show Zp (tl s) 8 most=(0,false)by rw[Zz he];rfl)
  have he':s.toList.isEmpty=true:=Zo he;clear he
  go_enter func301,ntmps301
  go_wp2;go_ret2
  exact⟨by rw[HE.o];rfl,rfl⟩
 have he':s.toList.isEmpty=false:=Zj he
 have HNE:=A (show ¬tl s=[]by intro h;have:=Za s;rw[h]at this;simp at this;omega)
 go_enter func301,ntmps301
 go_wp2
 go_loop [8,9] (fun x i=>∃(k:Nat) (n:Int),k<=s.size/\i=I X k/\x=I X n/\0<=n/\n<=4294967295*8+8/\numGo 8 most 0 (tl s)=numGo 8 most n ((tl s).drop k)) (fun _ i=>s.size-(intOf i).toNat)
 case atStart=>exact⟨0,0,Xc _,rfl,rfl,by omega,by omega,rfl⟩
 case round=>
  obtain⟨k,n,hk,rfl,rfl,hn0,hn1,hE⟩:=hrel;have HE:=A hE;clear hE
  by_cases hlt:k<s.size
  .have hb:=bb s[k]
   have hd:=Zbn (s[k].toNat:Int) 8
   have HS:=A (show numGo 8 most n ((tl s).drop k)=if(ZK (s[k].toNat:Int) 8).2 then numGo 8 most (if n<=most then n*8+(ZK (s[k].toNat:Int) 8).1 else n) ((tl s).drop (k+1))else none by rw[ZB s k hlt,numGo])
   generalize hq:ZK (s[k].toNat:Int) 8=q at *;have HQ:=A hq;clear hq;obtain⟨d,ok⟩:=q;simp only at hd HS
   cases ok
   .have HF:=A (show Zp (tl s) 8 most=(0,false)by unfold Zp;rw[ifN HNE.o,HE.o,HS.o];rfl)
    go_wp2_with (go_at_call 297;refine(ZaI _ _ _ (by omega) (by omega)).mono ?_;rintro e w' ⟨rfl,rfl⟩;rw[HQ.o])
    go_ret2
    exact⟨by rw[HF.o];rfl,rfl⟩
   .obtain⟨hd0,hd1⟩:=hd
    have hd2:=hd1 rfl;clear hd1
    by_cases hnm:n<=most
    .have HF:=A (show numGo 8 most 0 (tl s)=numGo 8 most (n*8+d) ((tl s).drop (k+1))by rw[HE.o,HS.o,ifP rfl,ifP hnm])
     go_wp2_with (go_at_call 297;refine(ZaI _ _ _ (by omega) (by omega)).mono ?_;rintro e w' ⟨rfl,rfl⟩;rw[HQ.o])
     go_round
     exact⟨k+1,n*8+d,by omega,by go_num,rfl,by omega,by omega,HF.o⟩
     simp[intOf];omega
    .have HF:=A (show numGo 8 most 0 (tl s)=numGo 8 most n ((tl s).drop (k+1))by rw[HE.o,HS.o,ifP rfl,ifN hnm])
     go_wp2_with (go_at_call 297;refine(ZaI _ _ _ (by omega) (by omega)).mono ?_;rintro e w' ⟨rfl,rfl⟩;rw[HQ.o])
     go_round
     exact⟨k+1,n,by omega,by go_num,rfl,by omega,by omega,HF.o⟩
     simp[intOf];omega
  .have HF:=A (show Zp (tl s) 8 most=if most<n then(most+1,true)else(n,true)by unfold Zp;rw[ifN HNE.o,HE.o,Zu s k (by omega),numGo])
   by_cases hnm:most<n
   .go_wp2
    go_ret2
    exact⟨by rw[HF.o,ifP hnm];rfl,rfl⟩
   .have HF2:=A (HF.o.trans (ifN hnm))
    go_wp2;go_ret2
    exact⟨by rw[HF2.o];rfl,rfl⟩
theorem Zdr(s:BA)(most:Int)(w:World)(hs:s.size<=1000000)(hm0:0<=most)(hm1:most<=4294967295):Calls prog 301 #[J s,I X 10,I X most] w fun e w'=>e=Y (.tuple #[I X (Zp (tl s) 10 most).1,C (Zp (tl s) 10 most).2])/\w=w':=by
 by_cases he:s.size=0
 .have HE:=A (show Zp (tl s) 10 most=(0,false)by rw[Zz he];rfl)
  have he':s.toList.isEmpty=true:=Zo he;clear he
  go_enter func301,ntmps301
  go_wp2;go_ret2
  exact⟨by rw[HE.o];rfl,rfl⟩
 have he':s.toList.isEmpty=false:=Zj he
 have HNE:=A (show ¬tl s=[]by intro h;have:=Za s;rw[h]at this;simp at this;omega)
 go_enter func301,ntmps301
 go_wp2
 go_loop [8,9] (fun x i=>∃(k:Nat) (n:Int),k<=s.size/\i=I X k/\x=I X n/\0<=n/\n<=4294967295*10+10/\numGo 10 most 0 (tl s)=numGo 10 most n ((tl s).drop k)) (fun _ i=>s.size-(intOf i).toNat)
 case atStart=>exact⟨0,0,Xc _,rfl,rfl,by omega,by omega,rfl⟩
 case round=>
  obtain⟨k,n,hk,rfl,rfl,hn0,hn1,hE⟩:=hrel;have HE:=A hE;clear hE
  by_cases hlt:k<s.size
  .have hb:=bb s[k]
   have hd:=Zbn (s[k].toNat:Int) 10
   have HS:=A (show numGo 10 most n ((tl s).drop k)=if(ZK (s[k].toNat:Int) 10).2 then numGo 10 most (if n<=most then n*10+(ZK (s[k].toNat:Int) 10).1 else n) ((tl s).drop (k+1))else none by rw[ZB s k hlt,numGo])
   generalize hq:ZK (s[k].toNat:Int) 10=q at *;have HQ:=A hq;clear hq;obtain⟨d,ok⟩:=q;simp only at hd HS
   cases ok
   .have HF:=A (show Zp (tl s) 10 most=(0,false)by unfold Zp;rw[ifN HNE.o,HE.o,HS.o];rfl)
    go_wp2_with (go_at_call 297;refine(ZaI _ _ _ (by omega) (by omega)).mono ?_;rintro e w' ⟨rfl,rfl⟩;rw[HQ.o])
    go_ret2
    exact⟨by rw[HF.o];rfl,rfl⟩
   .obtain⟨hd0,hd1⟩:=hd
    have hd2:=hd1 rfl;clear hd1
    by_cases hnm:n<=most
    .have HF:=A (show numGo 10 most 0 (tl s)=numGo 10 most (n*10+d) ((tl s).drop (k+1))by rw[HE.o,HS.o,ifP rfl,ifP hnm])
     go_wp2_with (go_at_call 297;refine(ZaI _ _ _ (by omega) (by omega)).mono ?_;rintro e w' ⟨rfl,rfl⟩;rw[HQ.o])
     go_round
     exact⟨k+1,n*10+d,by omega,by go_num,rfl,by omega,by omega,HF.o⟩
     simp[intOf];omega
    .have HF:=A (show numGo 10 most 0 (tl s)=numGo 10 most n ((tl s).drop (k+1))by rw[HE.o,HS.o,ifP rfl,ifN hnm])
     go_wp2_with (go_at_call 297;refine(ZaI _ _ _ (by omega) (by omega)).mono ?_;rintro e w' ⟨rfl,rfl⟩;rw[HQ.o])
     go_round
     exact⟨k+1,n,by omega,by go_num,rfl,by omega,by omega,HF.o⟩
     simp[intOf];omega
  .have HF:=A (show Zp (tl s) 10 most=if most<n then(most+1,true)else(n,true)by unfold Zp;rw[ifN HNE.o,HE.o,Zu s k (by omega),numGo])
   by_cases hnm:most<n
   .go_wp2
    go_ret2
    exact⟨by rw[HF.o,ifP hnm];rfl,rfl⟩
   .have HF2:=A (HF.o.trans (ifN hnm))
    go_wp2;go_ret2
    exact⟨by rw[HF2.o];rfl,rfl⟩
theorem ZeE(s:BA)(most:Int)(w:World)(hs:s.size<=1000000)(hm0:0<=most)(hm1:most<=4294967295):Calls prog 301 #[J s,I X 16,I X most] w fun e w'=>e=Y (.tuple #[I X (Zp (tl s) 16 most).1,C (Zp (tl s) 16 most).2])/\w=w':=by
 by_cases he:s.size=0
 .have HE:=A (show Zp (tl s) 16 most=(0,false)by rw[Zz he];rfl)
  have he':s.toList.isEmpty=true:=Zo he;clear he
  go_enter func301,ntmps301
  go_wp2;go_ret2
  exact⟨by rw[HE.o];rfl,rfl⟩
 have he':s.toList.isEmpty=false:=Zj he
 have HNE:=A (show ¬tl s=[]by intro h;have:=Za s;rw[h]at this;simp at this;omega)
 go_enter func301,ntmps301
 go_wp2
 go_loop [8,9] (fun x i=>∃(k:Nat) (n:Int),k<=s.size/\i=I X k/\x=I X n/\0<=n/\n<=4294967295*16+16/\numGo 16 most 0 (tl s)=numGo 16 most n ((tl s).drop k)) (fun _ i=>s.size-(intOf i).toNat)
 case atStart=>exact⟨0,0,Xc _,rfl,rfl,by omega,by omega,rfl⟩
 case round=>
  obtain⟨k,n,hk,rfl,rfl,hn0,hn1,hE⟩:=hrel;have HE:=A hE;clear hE
  by_cases hlt:k<s.size
  .have hb:=bb s[k]
   have hd:=Zbn (s[k].toNat:Int) 16
   have HS:=A (show numGo 16 most n ((tl s).drop k)=if(ZK (s[k].toNat:Int) 16).2 then numGo 16 most (if n<=most then n*16+(ZK (s[k].toNat:Int) 16).1 else n) ((tl s).drop (k+1))else none by rw[ZB s k hlt,numGo])
   generalize hq:ZK (s[k].toNat:Int) 16=q at *;have HQ:=A hq;clear hq;obtain⟨d,ok⟩:=q;simp only at hd HS
   cases ok
   .have HF:=A (show Zp (tl s) 16 most=(0,false)by unfold Zp;rw[ifN HNE.o,HE.o,HS.o];rfl)
    go_wp2_with (go_at_call 297;refine(ZaI _ _ _ (by omega) (by omega)).mono ?_;rintro e w' ⟨rfl,rfl⟩;rw[HQ.o])
    go_ret2
    exact⟨by rw[HF.o];rfl,rfl⟩
   .obtain⟨hd0,hd1⟩:=hd
    have hd2:=hd1 rfl;clear hd1
    by_cases hnm:n<=most
    .have HF:=A (show numGo 16 most 0 (tl s)=numGo 16 most (n*16+d) ((tl s).drop (k+1))by rw[HE.o,HS.o,ifP rfl,ifP hnm])
     go_wp2_with (go_at_call 297;refine(ZaI _ _ _ (by omega) (by omega)).mono ?_;rintro e w' ⟨rfl,rfl⟩;rw[HQ.o])
     go_round
     exact⟨k+1,n*16+d,by omega,by go_num,rfl,by omega,by omega,HF.o⟩
     simp[intOf];omega
    .have HF:=A (show numGo 16 most 0 (tl s)=numGo 16 most n ((tl s).drop (k+1))by rw[HE.o,HS.o,ifP rfl,ifN hnm])
     go_wp2_with (go_at_call 297;refine(ZaI _ _ _ (by omega) (by omega)).mono ?_;rintro e w' ⟨rfl,rfl⟩;rw[HQ.o])
     go_round
     exact⟨k+1,n,by omega,by go_num,rfl,by omega,by omega,HF.o⟩
     simp[intOf];omega
  .have HF:=A (show Zp (tl s) 16 most=if most<n then(most+1,true)else(n,true)by unfold Zp;rw[ifN HNE.o,HE.o,Zu s k (by omega),numGo])
   by_cases hnm:most<n
   .go_wp2
    go_ret2
    exact⟨by rw[HF.o,ifP hnm];rfl,rfl⟩
   .have HF2:=A (HF.o.trans (ifN hnm))
    go_wp2;go_ret2
    exact⟨by rw[HF2.o];rfl,rfl⟩
def ZC(s:List UInt8):Int×Bool:=
 if s=[104,116,116,112]∨s=[119,115]then(80,true)else if s=[104,116,116,112,115]∨s=[119,115,115]then(443,true)else if s=[102,116,112]then(21,true)else(0,false)
theorem eqB{s:BA}{l:LB}(h:tl s=l):(s.toList==l)=true:=by rw[ByteArray.toList_eq];show(tl s==l)=true;rw[h];simp
theorem neB{s:BA}{l:LB}(h:¬tl s=l):(s.toList==l)=false:=by rw[ByteArray.toList_eq];show(tl s==l)=false;simpa using h
theorem ZfC(s:BA)(w:World):Calls prog 223 #[J s] w fun e w'=>e=Y (.tuple #[I X (ZC (tl s)).1,C (ZC (tl s)).2])/\w=w':=by
 by_cases h1:tl s=[104,116,116,112]
 focus
  have HE:=A (show ZC (tl s)=(80,true)by unfold ZC;rw[ifP (Xr h1)])
  have h1':=eqB h1;clear h1
 rotate_left
 focus
  have h1':=neB h1
  by_cases h2:tl s=[119,115]
  focus
   have HE:=A (show ZC (tl s)=(80,true)by unfold ZC;rw[ifP (Xp h2)])
   have h2':=eqB h2;clear h1 h2
  rotate_left
  focus
   have h2':=neB h2
   by_cases h3:tl s=[104,116,116,112,115]
   focus
    have HE:=A (show ZC (tl s)=(443,true)by unfold ZC;rw[ifN (not_or.2 ⟨h1,h2⟩),ifP (Xr h3)])
    have h3':=eqB h3;clear h1 h2 h3
   rotate_left
   focus
    have h3':=neB h3
    by_cases h4:tl s=[119,115,115]
    focus
     have HE:=A (show ZC (tl s)=(443,true)by unfold ZC;rw[ifN (not_or.2 ⟨h1,h2⟩),ifP (Xp h4)])
     have h4':=eqB h4;clear h1 h2 h3 h4
    rotate_left
    focus
     have h4':=neB h4
     by_cases h5:tl s=[102,116,112]
     focus
      have HE:=A (show ZC (tl s)=(21,true)by unfold ZC;rw[ifN (not_or.2 ⟨h1,h2⟩),ifN (not_or.2 ⟨h3,h4⟩),ifP h5])
      have h5':=eqB h5;clear h1 h2 h3 h4 h5
     rotate_left
     focus
      have h5':=neB h5
      have HE:=A (show ZC (tl s)=(0,false)by unfold ZC;rw[ifN (not_or.2 ⟨h1,h2⟩),ifN (not_or.2 ⟨h3,h4⟩),ifN h5])
      clear h1 h2 h3 h4 h5
 all_goals
  go_enter func223,ntmps223
  go_wp2;go_ret2
  exact⟨by rw[HE.o];rfl,rfl⟩
def Zc(s:List UInt8):Bool:=(ZC s).2||s == [102,105,108,101]
theorem Zaj(s:BA)(w:World):Calls prog 189 #[J s] w fun e w'=>e=Y (C (Zc (tl s)))/\w=w':=by
 have HE:=A (show Zc (tl s)=((ZC (tl s)).2||s.toList == [102,105,108,101])by rw[ByteArray.toList_eq];rfl)
 generalize hq:ZC (tl s)=q at *;have HQ:=A hq;clear hq;obtain⟨p,ok⟩:=q
 cases ok
 rotate_left
 all_goals
  go_enter func189,ntmps189
  go_wp2_with (go_at_call 223;refine(ZfC _ _).mono ?_;rintro e w' ⟨rfl,rfl⟩;rw[HQ.o])
  all_goals go_ret
  all_goals exact⟨Zm (by rw[HE.o];simp),rfl⟩
def capital(n:Int):Int:=if n<10 then 48+n else 65+n-10
theorem Zm5(n:Int)(w:World)(h0:0<=n)(h1:n<16):Calls prog 195 #[.int .u8 n] w fun e w'=>e=Y (.int .u8 (capital n))/\w=w':=by
 by_cases h:n<10
 .have HE:=A (show capital n=48+n by simp[capital,h])
  go_enter func195,ntmps195
  go_wp2;go_ret;exact⟨Zaw HE.o.symm,rfl⟩
 .have HE:=A (show capital n=65+n-10 by simp[capital,h])
  go_enter func195,ntmps195
  go_wp2;go_ret;exact⟨Zaw HE.o.symm,rfl⟩
def follow(b:Int):Int×Int×Int:=
 if b<128 then(1,0,0)else if b<194 then(0,0,0)else if b<224 then(2,128,191)else if b=224 then(3,160,191)else if b=237 then(3,128,159)
 else if b<240 then(3,128,191)else if b=240 then(4,144,191)else if b<244 then(4,128,191)else if b=244 then(4,128,143)else(0,0,0)
theorem Zp9(b:Int):0<=(follow b).1/\(follow b).1<=4/\0<=(follow b).2.1/\(follow b).2.1<=191/\0<=(follow b).2.2/\(follow b).2.2<=191:=by unfold follow;repeat (first|(refine⟨?_,?_,?_,?_,?_,?_⟩<;>decide)|split)
theorem Zqa(b:Int)(w:World):Calls prog 220 #[.int .u8 b] w fun e w'=>e=Y (.tuple #[I X (follow b).1,.int .u8 (follow b).2.1,.int .u8 (follow b).2.2])/\w=w':=by
 have go:∀q,follow b=q->(Calls prog 220 #[.int .u8 b] w fun e w'=>e=Y (.tuple #[I X q.1,.int .u8 q.2.1,.int .u8 q.2.2])/\w=w')->Calls prog 220 #[.int .u8 b] w fun e w'=>e=Y (.tuple #[I X (follow b).1,.int .u8 (follow b).2.1,.int .u8 (follow b).2.2])/\w=w':=by intro q h hc;rw[h];exact hc
 by_cases a1:b<128
 focus
  refine go _ (ifP a1) ?_
 rotate_left
 focus
  by_cases a2:b<194
  focus
   refine go (0,0,0) (by unfold follow;rw[ifN a1,ifP a2]) ?_
  rotate_left
  focus
   by_cases a3:b<224
   focus
    refine go (2,128,191) (by unfold follow;rw[ifN a1,ifN a2,ifP a3]) ?_
    clear a1
   rotate_left
   focus
    by_cases a4:b=224
    focus
     subst a4
    rotate_left
    focus
     by_cases a5:b=237
     focus
      subst a5
     rotate_left
     focus
      have a4':(b==224)=false:=by simp[a4]
      have a5':(b==237)=false:=by simp[a5]
      by_cases a6:b<240
      focus
       refine go (3,128,191) (by unfold follow;rw[ifN a1,ifN a2,ifN a3,ifN a4,ifN a5,ifP a6]) ?_
       clear a1 a2 a4 a5
      rotate_left
      focus
       by_cases a7:b=240
       focus
        subst a7
       rotate_left
       focus
        have a7':(b==240)=false:=by simp[a7]
        by_cases a8:b<244
        focus
         refine go (4,128,191) (by unfold follow;rw[ifN a1,ifN a2,ifN a3,ifN a4,ifN a5,ifN a6,ifN a7,ifP a8]) ?_
         clear a1 a2 a3 a4 a5 a7
        rotate_left
        focus
         by_cases a9:b=244
         focus
          subst a9
         rotate_left
         focus
          have a9':(b==244)=false:=by simp[a9]
          refine go (0,0,0) (by unfold follow;rw[ifN a1,ifN a2,ifN a3,ifN a4,ifN a5,ifN a6,ifN a7,ifN a8,ifN a9]) ?_
          clear a1 a2 a3 a4 a5 a6 a7 a9
 all_goals
  go_enter func220,ntmps220
  go_wp2
  go_ret3
  exact⟨rfl,rfl⟩
def Z8(want:Int):Int->Int->Nat->List UInt8->Nat
 | _,_,size,[]=>size
 | low,high,size,c::r=>if(size:Int)<want/\low<=(c.toNat:Int)/\(c.toNat:Int)<=high then Z8 want 128 191 (size+1) r else size
def measure(l:List UInt8):Nat×Bool:=
 match l with
 | []=>(0,false)
 | c::r=>(Z8 (follow c.toNat).1 (follow c.toNat).2.1 (follow c.toNat).2.2 1 r,(Z8 (follow c.toNat).1 (follow c.toNat).2.1 (follow c.toNat).2.2 1 r:Int)==(follow c.toNat).1)
theorem Zqb(want low high:Int)(size:Nat)(l:LB):size<=Z8 want low high size l/\Z8 want low high size l<=size+l.length:=by
 induction l generalizing low high size with
 | nil=>simp[Z8]
 | cons c r ih=>
  rw[Z8]
  split
  .have:=ih 128 191 (size+1)
   simp only[Xi]
   omega
  .simp
theorem Zm6(s:BA)(w:World)(hs:s.size<=1000000)(h0:0<s.size):Calls prog 186 #[J s] w fun e w'=>e=Y (.tuple #[I X (measure (tl s)).1,C (measure (tl s)).2])/\w=w':=by
 have hne:=Zj (s:=s) (by omega)
 have hl0:=ZB s 0 h0;simp only[Xu,Nat.zero_add]at hl0;have hb0:=bb s[0];obtain⟨q,hq⟩:∃q,follow (s[0].toNat:Int)=q:=⟨_,rfl⟩;have hrng:=Zp9 (s[0].toNat:Int)
 have HE0:=A (show measure (tl s)=(Z8 q.1 q.2.1 q.2.2 1 ((tl s).drop 1),(Z8 q.1 q.2.1 q.2.2 1 ((tl s).drop 1):Int)==q.1)by rw[hl0,measure,hq];rfl)
 rw[hq]at hrng;have HQ:=A hq;clear hq hl0;obtain⟨want,low,high⟩:=q;simp only at hrng HE0;obtain⟨r0,r1,r2,r3,r4,r5⟩:=hrng
 go_enter func186,ntmps186
 go_wp2_with (go_at_call 220;refine(Zqa _ _).mono ?_;rintro e w' ⟨rfl,rfl⟩;rw[HQ.o])
 go_loop [5,6,7] (fun x y z=>∃(lo hi:Int) (k:Nat),1<=k/\k<=s.size/\x=.int .u8 lo/\y=.int .u8 hi/\z=I X k/\Z8 want low high 1 ((tl s).drop 1)=Z8 want lo hi k ((tl s).drop k)) (fun _ _ z=>s.size-(intOf z).toNat)
 case atStart=>exact⟨low,high,1,by omega,by omega,rfl,rfl,rfl,rfl⟩
 case round=>
  obtain⟨lo,hi,k,hk1,hk,rfl,rfl,rfl,hE⟩:=hrel;have HE:=A hE;clear hE
  by_cases hlt:k<s.size
  focus
   have hbk:=bb s[k]
   have HS:=A (show Z8 want lo hi k ((tl s).drop k)=if(k:Int)<want/\lo<=(s[k].toNat:Int)/\(s[k].toNat:Int)<=hi then Z8 want 128 191 (k+1) ((tl s).drop (k+1))else k by rw[ZB s k hlt,Z8])
   by_cases hc:(k:Int)<want/\lo<=(s[k].toNat:Int)/\(s[k].toNat:Int)<=hi
   .have HF:=A (HE.o.trans (HS.o.trans (ifP hc)))
    obtain⟨c1,c2,c3⟩:=hc;go_wp2
    go_round
    exact⟨128,191,k+1,by omega,by omega,rfl,rfl,by go_num,HF.o⟩
    simp[intOf];omega
   focus
    have HF:=A (show measure (tl s)=(k,(k:Int)==want)by rw[HE0.o,HE.o,HS.o,ifN hc])
    by_cases c1:(k:Int)<want
    focus
     by_cases c2:lo<=(s[k].toNat:Int)
     focus
      have c3:hi<(s[k].toNat:Int):=by omega
      clear hc
     rotate_left
     focus
      clear hc
    rotate_left 2
    focus
     clear hc
  rotate_left 3
  focus
   have HF:=A (show measure (tl s)=(k,(k:Int)==want)by rw[HE0.o,HE.o,Zu s k (by omega),Z8])
   by_cases c1:(k:Int)<want
   rotate_left
  all_goals
   go_wp2;go_ret2
   exact⟨by rw[HF.o];rfl,rfl⟩
theorem Zr6{ops:Array Oper}{rest:List Oper}{o:Oper}{a:Act}{Q:Exit->Act->World->Prop}(w:World)(q:BA)
  (hgd:o.guard=none) (s x:Operand) (ho:o.op=.call { callee:=.builtin .append,args:=#[s,x],argTypes:=#[160,9] })
  (base:Nat) (v:Value) (l:LB) (hs:a.eval s=v) (hown:Zgy w base v l) (hx:a.eval x=J q)
  (hn:l.length+q.size<1099511627776) (hbase:base<=w.heap.size)
  (h:∀v' w',Zgy w' base v' (l++tl q)->Below base w w'->Kp 5 w w'->wpList prog ops Q rest (a.put o.dst v') w'):wpList prog ops Q (o::rest) a w:=by
 obtain⟨i,hi,hz0,hz1,hz2⟩:=info_parts ZoK
 refine Lib.wpList_append_own_string w hgd s x _ _ ho base _ i underlying160 underlying9 hi hz0 hz1 hz2 v l.length _ hs hown q hx (by unfold maxLen;omega) (by omega) hbase ?_
 intro v' w' h2 h3 _
 refine h v' w' ?_ ((Below.refl base w).grown h3 hbase (fun k hk=>(hown.lt k hk).1)) (ZhO hown h3)
 rw[Lib.strCells_eq,<-Lib.byteCells_append]at h2;unfold Zgy;rw[Xg,Za];exact h2
def clean(l:List UInt8):List UInt8:=
 match l with
 | []=>[]
 | c::r=>(if(measure (c::r)).2 then(c::r).take (measure (c::r)).1 else [239,191,189])++clean (r.drop ((measure (c::r)).1-1))
 termination_by l.length
 decreasing_by simp;omega
theorem Zm7(c:UInt8)(r:LB):(measure (c::r)).1=Z8 (follow (c.toNat:Int)).1 (follow (c.toNat:Int)).2.1 (follow (c.toNat:Int)).2.2 1 r:=by rw[measure]
theorem ZfD(c:UInt8)(r:LB):1<=(measure (c::r)).1/\(measure (c::r)).1<=r.length+1:=by
 have h:=Zqb (follow (c.toNat:Int)).1 (follow (c.toNat:Int)).2.1 (follow (c.toNat:Int)).2.2 1 r;rw[Zm7]
 omega
theorem Ze7(c:UInt8)(r:LB):clean (c::r)=(if(measure (c::r)).2 then(c::r).take (measure (c::r)).1 else [239,191,189])++clean (r.drop ((measure (c::r)).1-1)):=by conv=>lhs;unfold clean
theorem ZbC:clean []=[]:=by unfold clean;rfl
theorem ZcV(l:LB)(hl:l≠[]):clean l=(if(measure l).2 then l.take (measure l).1 else [239,191,189])++clean (l.drop (measure l).1):=by
 cases l with
 | nil=>exact absurd rfl hl
 | cons c r=>
  have hr:=ZfD c r;rw[Ze7];generalize measure (c::r)=q at *;obtain⟨m,good⟩:=q
  obtain⟨k,hk⟩:∃k,m=k+1:=⟨m - 1,by simp only at hr;omega⟩
  subst hk;simp only[List.drop_succ_cons,Nat.add_sub_cancel]
theorem Ze8{l:LB}(hl:l≠[]):1<=(measure l).1/\(measure l).1<=l.length:=by
 cases l with
 | nil=>exact absurd rfl hl
 | cons c r=>rw[Xi];exact ZfD c r
theorem ZbZ(s:BA)(w:World)(hs:s.size<=1000000):Calls prog 138 #[J s] w fun e w'=>∃r:BA,e=Y (J r)/\tl r=clean (tl s)/\Nx w w':=by
 go_enter func138,ntmps138
 go_wp2
 go_loopw [3,4] (fun o i wr=>∃(k:Nat) (P:LB),k<=s.size/\i=I X k/\clean (tl s)=P++clean ((tl s).drop k)/\Zgy wr w.heap.size o P/\P.length<=3*k/\Nx w wr) (fun _ i _=>s.size-(intOf i).toNat)
 case atStart=>exact⟨0,[],Xc _,rfl,by simp,ZdR w,by simp,Nx.rfl.alloc _⟩
 case round=>
  obtain⟨k,P,hk,rfl,hE,hown,hP,hnx⟩:=hrel
  by_cases hlt:k<s.size
  .have HE:=A hE
   have HO:=A hown;have HN:=A hnx;have hz:=hnx.size;clear hE hown hnx;obtain⟨L,hL⟩:∃L,(tl s).drop k=L:=⟨_,rfl⟩
   have hLl:L.length=s.size-k:=by rw[<-hL,Xm,Za]
   have hLne:L≠[]:=by intro h;rw[h]at hLl;simp at hLl;omega
   have HST:=A (ZcV L hLne);obtain⟨hm1,hm2⟩:=Ze8 hLne
   have HX:=A (show tl (s.extract k s.size)=L by rw[tl_from,hL])
   have HX2:=A (show ∀n,tl (s.extract k (k+n))=L.take n from fun n=>by rw[tl_extract,List.drop_take,hL];congr 1;omega)
   have HLK:=A hL.symm;rw[hL]at HE;clear hL hLne;go_wp2_with fail
   refine(Zm6 _ _ (by simp;omega) (by simp;omega)).mono ?_
   rintro e w' ⟨rfl,rfl⟩;rw[HX.o];generalize hq:measure L=q at *;clear hq;obtain⟨m,good⟩:=q;simp only at hm1 hm2 HST
   cases good
   .go_wp2_with (at_builtin;go_must (refine Zr6 wr ⟨#[239,191,189]⟩ rfl _ _ rfl w.heap.size u3 P rfl HO.o rfl (by show P.length+3<_;omega) hz ?_;intro v' w2 ho2 hb2 _;have HO2:=A ho2;clear ho2))
    go_roundw
    exact⟨k+m,P++[239,191,189],by omega,by go_num,by rw[HE.o,HST.o,Xk,HLK.o,XC];rfl,HO2.o,by simp;omega,HN.o.trans hb2⟩
    simp[intOf];omega
   .have hsz:(s.extract k (k+m)).size<=m:=by simp;omega
    go_wp2_with (at_builtin;go_must (refine Zr6 wr (s.extract k (k+m)) rfl _ _ rfl w.heap.size u3 P rfl HO.o rfl (by omega) hz ?_;intro v' w2 ho2 hb2 _;have HO2:=A ho2;clear ho2))
    go_roundw
    exact⟨k+m,P++L.take m,by omega,by go_num,by rw[HE.o,HST.o,Xk,HLK.o,XC];rfl,by rw[<-HX2.o m];exact HO2.o,by simp;omega,HN.o.trans hb2⟩
    simp[intOf];omega
  .rw[Zu s k (by omega)]at hE
   have hcv:=Zdp hown;clear hown;go_wp2;go_ret
   exact⟨_,rfl,by rw[hE,tl_mk,ZbC,Xt],hnx⟩
def Zbo(n:Int):ByteArray:=
 if n=1 then⟨#[32,34,60,62,96]⟩else if n=2 then⟨#[32,34,35,60,62]⟩else if n=3 then⟨#[32,34,35,60,62,39]⟩
 else if n=4 then⟨#[32,34,35,60,62,63,94,123,125,96]⟩else if n=5 then⟨#[32,34,35,60,62,63,94,123,125,96,47,58,59,61,64,91,92,93,124]⟩
 else if n=6 then⟨#[32,34,35,60,62,63,94,123,125,96,47,58,59,61,64,91,92,93,124,36,37,38,43,44]⟩
 else if n=7 then⟨#[32,34,35,60,62,63,94,123,125,96,47,58,59,61,64,91,92,93,124,36,37,38,43,44,33,39,40,41,126]⟩else⟨#[]⟩
theorem Zr7(n:Int):(Zbo n).size<=40:=by unfold Zbo;repeat (first|decide|split)
theorem Zm8(n:Int)(w:World):Calls prog 193 #[I X n] w fun e w'=>e=Y (J (Zbo n))/\w=w':=by
 by_cases h1:n=1
 focus
  subst h1
 rotate_left
 focus
  by_cases h2:n=2
  focus
   subst h2
  rotate_left
  focus
   by_cases h3:n=3
   focus
    subst h3
   rotate_left
   focus
    by_cases h4:n=4
    focus
     subst h4
    rotate_left
    focus
     by_cases h5:n=5
     focus
      subst h5
     rotate_left
     focus
      by_cases h6:n=6
      focus
       subst h6
      rotate_left
      focus
       by_cases h7:n=7
       focus
        subst h7
       rotate_left
       .have HE:=A (show Zbo n=⟨#[]⟩by simp[Zbo,h1,h2,h3,h4,h5,h6,h7])
        have b1:(n==1)=false:=by simp[h1]
        have b2:(n==2)=false:=by simp[h2]
        have b3:(n==3)=false:=by simp[h3]
        have b4:(n==4)=false:=by simp[h4]
        have b5:(n==5)=false:=by simp[h5]
        have b6:(n==6)=false:=by simp[h6]
        have b7:(n==7)=false:=by simp[h7]
        clear h1 h2 h3 h4 h5 h6 h7
        go_enter func193,ntmps193
        go_wp2;go_ret;exact⟨Zr5 HE.o.symm,rfl⟩
 all_goals
  go_enter func193,ntmps193
  go_wp2;go_ret;exact⟨rfl,rfl⟩
theorem ZaJ(l:LB):(clean l).length<=3*l.length:=by
 generalize hn:l.length=n
 induction n using Nat.strongRecOn generalizing l with
 | ind n ih=>
  cases l with
  | nil=>rw[ZbC];simp
  | cons c r=>
   obtain⟨h1,h2⟩:=Ze8 (l:=c::r) (by simp)
   rw[ZcV (c::r) (by simp)]
   have h3:=ih ((c::r).drop (measure (c::r)).1).length (by rw[Xm];omega) _ rfl
   rw[Xm]at h3;rw[Xg]
   split
   .rw[Xf];omega
   .simp only[Xi,XA];omega
def ZL(set:List UInt8)(b:UInt8):List UInt8:=
 if(b.toNat:Int)<32∨126<(b.toNat:Int)∨among (b.toNat:Int) set=true then [37,toB (capital ((b.toNat:Int)/16)),toB (capital ((b.toNat:Int)%16))]else [b]
def encB(set l:List UInt8):List UInt8:=l.flatMap (ZL set)
theorem Zr8(set l:LB)(b:UInt8):encB set (l++[b])=encB set l++ZL set b:=by simp[encB]
theorem Zkp(set l:LB):(encB set l).length<=3*l.length:=by
 induction l with
 | nil=>simp[encB]
 | cons c r ih=>
  have h:(ZL set c).length<=3:=by unfold ZL;split<;>simp
  simp only[encB,List.flatMap_cons,Xg,Xi]at *
  omega
theorem Zr9{n:Int}(h0:0<=n)(h1:n<16):0<=capital n/\capital n<=255:=by unfold capital;split<;>omega
theorem Zsa{ops:Array Oper}{rest:List Oper}{o:Oper}{a:Act}{Q:Exit->Act->World->Prop}(w:World)(y1 y2:Int)(h10:0<=y1)(h11:y1<=255)(h20:0<=y2)(h21:y2<=255)
  (hgd:o.guard=none) (s x:Operand) (ho:o.op=.call { callee:=.builtin .append,args:=#[s,x],argTypes:=#[160,160] })
  (base:Nat) (v:Value) (l:LB) (hs:a.eval s=v) (hown:Zgy w base v l) (hx:a.eval x=.slice (some ⟨w.heap.size,0,none⟩) 3 3)
  (hn:l.length<1000000000000) (hbase:base<=w.heap.size)
  (h:∀v' w',Zgy w' base v' (l++[37,toB y1,toB y2])->Below base w w'->Kp 5 w w'->wpList prog ops Q rest (a.put o.dst v') w'):
  wpList prog ops Q (o::rest) a (w.alloc (.cells #[.int .u8 37,.int .u8 y1,.int .u8 y2] 5)):=by
 refine ZdC _ _ _ (.int .u8 0) 1 underlying160 ZoK rfl hgd s x ho base v l.length _ hs (World.ownsRow.alloc hown _) ⟨w.heap.size,0,none⟩ 3 3 [.int .u8 37,.int .u8 y1,.int .u8 y2] hx rfl (ZhZ (by simp) (by simp) (by simp)) (by simp[Value.oneCell']) (by omega) (by decide) (by simp;omega) ?_
 intro v' w' q1 q2 q3
 refine h v' w' ?_ (((Below.refl base w).alloc hbase _).trans q2) ((Kp.rfl.alloc _).then q3)
 have e2:Lib.byteCells [37,toB y1,toB y2]=[.int .u8 37,.int .u8 y1,.int .u8 y2]:=by simp only[Lib.byteCells,Xq,XG,Zf2 h10 h11,Zf2 h20 h21];rfl
 unfold Zgy;rw[Xg,Lib.byteCells_append,e2];exact q1
theorem Za1(s:BA)(n:Int)(w:World)(hs:s.size<=1000000):Calls prog 143 #[J s,I X n] w fun e w'=>∃r:BA,e=Y (J r)/\tl r=encB (tl (Zbo n)) (clean (tl s))/\Nx w w':=by
 have hset:=Zr7 n;generalize hS:Zbo n=set at *;have HS:=A hS;clear hS
 go_enter func143,ntmps143
 go_wp2_with fail
 refine(ZbZ _ _ hs).mono ?_
 rintro e w1 ⟨c,rfl,hc,hn1⟩
 have hcs:c.size<=3000000:=by have h:=ZaJ (tl s);rw[<-hc,Za,Za]at h;omega
 have HCL:=A hc;clear hc
 go_wp2_with (go_at_call 193;refine(Zm8 _ _).mono ?_;rintro e w' ⟨rfl,rfl⟩;rw[HS.o])
 go_loopw [7,8] (fun o i wr=>∃k:Nat,k<=c.size/\i=I X k/\Zgy wr w1.heap.size o (encB (tl set) ((tl c).take k))/\Nx w1 wr) (fun _ i _=>c.size-(intOf i).toNat)
 case atStart=>exact⟨0,Xc _,rfl,ZdR w1,Nx.rfl.alloc _⟩
 case round=>
  obtain⟨k,hk,rfl,hown,hnx⟩:=hrel
  by_cases hlt:k<c.size
  .have hb:=bb c[k]
   have HTK:=A ((congrArg (encB (tl set)) (Zt c k hlt)).trans (Zr8 _ _ _));have hz:=hnx.size
   have hsz:(encB (tl set) ((tl c).take k)).length<1000000000000:=by have h:=Zkp (tl set) ((tl c).take k);have:=List.length_take_le k (tl c);omega
   have HO:=A hown;have HN:=A hnx;clear hown hnx
   by_cases hit:(c[k].toNat:Int)<32∨126<(c[k].toNat:Int)∨among (c[k].toNat:Int) (tl set)=true
   .have HB:=A (show ZL (tl set) c[k]=[37,toB (capital ((c[k].toNat:Int)/16)),toB (capital ((c[k].toNat:Int)%16))]by unfold ZL;rw[ifP hit])
    obtain⟨hc1,hc2⟩:=Zr9 (n:=(c[k].toNat:Int)/16) (by omega) (by omega)
    obtain⟨hc3,hc4⟩:=Zr9 (n:=(c[k].toNat:Int)%16) (by omega) (by omega)
    by_cases h32:(c[k].toNat:Int)<32
    rotate_left
    focus
     by_cases h126:126<(c[k].toNat:Int)
     rotate_left
     focus
      have hin:among (c[k].toNat:Int) (tl set)=true:=by
       rcases hit with h|h|h
       .exact absurd h h32
       .exact absurd h h126
       .exact h
    all_goals
     clear hit
     go_wp2_with (first|(go_at_call 194;refine(ZaQ _ _ _ (Ze (by omega))).mono ?_;rintro e w' ⟨rfl,rfl⟩)|(go_at_call 195;refine(Zm5 _ _ (by omega) (by omega)).mono ?_;rintro e w' ⟨rfl,rfl⟩)|(at_builtin;go_must (refine Zsa wr (capital ((c[k].toNat:Int)/16)) (capital ((c[k].toNat:Int)%16)) hc1 hc2 hc3 hc4 rfl _ _ rfl w1.heap.size _ _ rfl HO.o rfl hsz hz ?_;intro v' w2 ho1 hb1 hk1;have HO1:=A ho1;clear ho1)))
     go_roundw
     exact⟨k+1,by omega,by go_num,by rw[HTK.o,HB.o];exact HO1.o,HN.o.trans hb1⟩
     simp[intOf];omega
   .have HB:=A (show ZL (tl set) c[k]=[c[k]]by unfold ZL;rw[ifN hit])
    have h32:¬(c[k].toNat:Int)<32:=fun h=>hit (Xr h)
    have h126:¬126<(c[k].toNat:Int):=fun h=>hit (Xp (Xr h))
    have hin:among (c[k].toNat:Int) (tl set)=false:=by cases h:among (c[k].toNat:Int) (tl set);rfl;exact absurd (Xp (Xp h)) hit
    have HT2:=A (Ze6 c[k]);clear hit
    go_wp2_with (first|(go_at_call 194;refine(ZaQ _ _ _ (Ze (by omega))).mono ?_;rintro e w' ⟨rfl,rfl⟩)|(at_builtin;go_must (refine ZbA wr (c[k].toNat:Int) rfl _ _ rfl w1.heap.size _ _ rfl HO.o rfl (by omega) (by omega) (XK hsz (by decide)) hz ?_;intro v' w2 ho1 hb1 hk1;have HO1:=A ho1;clear ho1)))
    go_roundw
    exact⟨k+1,by omega,by go_num,by rw[HTK.o,HB.o];have h:=HO1.o;rw[HT2.o]at h;exact h,HN.o.trans hb1⟩
    simp[intOf];omega
  .rw[ZQ c k (by omega)]at hown
   have hcv:=Zdp hown;clear hown;go_wp2;go_ret
   exact⟨_,rfl,by rw[tl_mk,HCL.o],hn1.then hnx⟩
def Zcg(l:List UInt8):Int×Bool:=
 match l with
 | c::x::y::_=>if c=37/\(ZK x.toNat 16).2=true/\(ZK y.toNat 16).2=true then((ZK x.toNat 16).1*(16:Int)+(ZK y.toNat 16).1,true)else(0,false)
 | _=>(0,false)
theorem Zsb(l:LB):0<=(Zcg l).1/\(Zcg l).1<=255:=by
 unfold Zcg
 split
 .split
  .rename_i x y r h
   have h1:=Zbn (x.toNat:Int) 16;have h2:=Zbn (y.toNat:Int) 16;have h3:=h1.2 h.2.1;have h4:=h2.2 h.2.2;simp only
   omega
  .exact⟨by decide,by decide⟩
 .exact⟨by decide,by decide⟩
theorem Zea(l:LB)(h:l.length<3):Zcg l=(0,false):=by
 match l,h with
 | [],_=>rfl
 | [_],_=>rfl
 | [_,_],_=>rfl
theorem Zm9(s:BA)(h:2<s.size):Zcg (tl s)=if s[0]=37/\(ZK (s[1].toNat:Int) 16).2=true/\(ZK (s[2].toNat:Int) 16).2=true then((ZK (s[1].toNat:Int) 16).1*(16:Int)+(ZK (s[2].toNat:Int) 16).1,true)else(0,false):=by
 have e0:=ZB s 0 (by omega)
 rw[Xu,ZB s 1 (by omega),ZB s 2 (by omega)]at e0
 rw[e0]
 rfl
theorem Zzi{b:UInt8}(h:¬b=37):((b.toNat:Int) != 37)=true:=by
 simp only[bne_iff_ne,ne_eq];intro h2
 exact h (Xy.1 (by show b.toNat=37;omega))
theorem Zkq(s:BA)(w:World)(hs:s.size<=1000000):Calls prog 272 #[J s] w fun e w'=>e=Y (.tuple #[.int .u8 (Zcg (tl s)).1,C (Zcg (tl s)).2])/\w=w':=by
 by_cases h3:s.size<3
 focus
  have HE:=A (Zea (tl s) (by rw[Za];exact h3))
 rotate_left
 focus
  have h3':2<s.size:=by omega
  have HC:=A (Zm9 s h3');have hb1:=bb s[1];have hb2:=bb s[2]
  by_cases hp:s[0]=37
  .have hp':((s[0].toNat:Int) != 37)=false:=by rw[hp];rfl
   obtain⟨q1,hq1⟩:∃q,ZK (s[1].toNat:Int) 16=q:=⟨_,rfl⟩;obtain⟨q2,hq2⟩:∃q,ZK (s[2].toNat:Int) 16=q:=⟨_,rfl⟩;have r1:=Zbn (s[1].toNat:Int) 16;have r2:=Zbn (s[2].toNat:Int) 16;rw[hq1]at r1 HC;rw[hq2]at r2 HC;have HQ1:=A hq1;have HQ2:=A hq2;clear hq1 hq2;obtain⟨d1,k1⟩:=q1;obtain⟨d2,k2⟩:=q2;simp only at r1 r2 HC
   cases k1
   focus
    have HE:=A (show Zcg (tl s)=(0,false)by rw[HC.o,ifN (by simp)])
    clear hp
   rotate_left
   focus
    cases k2
    focus
     have HE:=A (show Zcg (tl s)=(0,false)by rw[HC.o,ifN (by simp)])
     clear hp
    rotate_left
    focus
     have HE:=A (show Zcg (tl s)=(d1*16+d2,true)by rw[HC.o,ifP ⟨hp,rfl,rfl⟩])
     obtain⟨r10,r11⟩:=r1;obtain⟨r20,r21⟩:=r2;have r12:=r11 rfl;have r22:=r21 rfl;clear hp r11 r21
   all_goals
    go_enter func272,ntmps272
    go_wp2_with fail
    refine(ZaI _ _ _ (by omega) (by omega)).mono ?_
    rintro e w' ⟨rfl,rfl⟩;rw[HQ1.o];go_wp2_with fail
    refine(ZaI _ _ _ (by omega) (by omega)).mono ?_
    rintro e w' ⟨rfl,rfl⟩;rw[HQ2.o];go_wp2;go_ret2
    exact⟨by rw[HE.o];rfl,rfl⟩
  focus
   have HE:=A (show Zcg (tl s)=(0,false)by rw[HC.o,ifN (fun h=>hp h.1)])
   have hp':=Zzi hp;clear hp
 all_goals
  go_enter func272,ntmps272
  go_wp2;go_ret2
  exact⟨by rw[HE.o];rfl,rfl⟩
def ZD(l:List UInt8):List UInt8:=
 match l with
 | []=>[]
 | c::r=>if(Zcg (c::r)).2 then toB (Zcg (c::r)).1::ZD (r.drop 2)else c::ZD r
 termination_by l.length
 decreasing_by all_goals simp_wf<;>omega
theorem ZbQ(c:UInt8)(r:LB):ZD (c::r)=if(Zcg (c::r)).2 then toB (Zcg (c::r)).1::ZD (r.drop 2)else c::ZD r:=by conv=>lhs;unfold ZD
theorem Zch:ZD []=[]:=by unfold ZD;rfl
theorem Zsc{l:LB}(h:(Zcg l).2=true):3<=l.length:=by
 by_cases hl:l.length<3
 .rw[Zea l hl]at h;cases h
 .omega
theorem Zjs(s:BA)(w:World)(hs:s.size<=1000000):Calls prog 236 #[J s] w fun e w'=>∃r:BA,e=Y (J r)/\tl r=ZD (tl s)/\Nx w w':=by
 go_enter func236,ntmps236
 go_wp2
 go_loopw [3,4] (fun o i wr=>∃(k:Nat) (P:LB),k<=s.size/\i=I X k/\ZD (tl s)=P++ZD ((tl s).drop k)/\Zgy wr w.heap.size o P/\P.length<=k/\Nx w wr) (fun _ i _=>s.size-(intOf i).toNat)
 case atStart=>exact⟨0,[],Xc _,rfl,by simp,ZdR w,by simp,Nx.rfl.alloc _⟩
 case round=>
  obtain⟨k,P,hk,rfl,hE,hown,hP,hnx⟩:=hrel
  by_cases hlt:k<s.size
  .have HO:=A hown
   have HN:=A hnx;have hz:=hnx.size
   have hPl:P.length<1099511627776:=by omega
   have hb:=bb s[k];have HST:=A (ZbQ s[k] ((tl s).drop (k+1)));rw[<-ZB s k hlt]at HST;have HX:=A (tl_from s k);have HE:=A hE;have HCL:=A (Zsc (l:=(tl s).drop k));obtain⟨hr0,hr1⟩:=Zsb ((tl s).drop k);clear hE hown hnx;go_wp2_with fail
   refine(Zkq _ _ (by simp;omega)).mono ?_
   rintro e w' ⟨rfl,rfl⟩;rw[HX.o];generalize hq:Zcg ((tl s).drop k)=q at *;clear hq;obtain⟨y,ok⟩:=q;simp only at hr0 hr1 HST HCL
   cases ok
   .have HT2:=A (Ze6 s[k])
    go_wp2_with (at_builtin;go_must (refine ZbA wr (s[k].toNat:Int) rfl _ _ rfl w.heap.size u3 P rfl HO.o rfl (by omega) (by omega) hPl hz ?_;intro v' w2 ho2 hb2 _;have HO2:=A ho2;clear ho2))
    go_roundw
    exact⟨k+1,P++[s[k]],by omega,by go_num,by rw[HE.o,HST.o,ifN (by simp),Xk];rfl,by have h:=HO2.o;rw[HT2.o]at h;exact h,by simp;omega,HN.o.trans hb2⟩
    simp[intOf];omega
   .have h3:=HCL.o rfl
    rw[Xm,Za]at h3
    go_wp2_with (at_builtin;go_must (refine ZbA wr y rfl _ _ rfl w.heap.size u3 P rfl HO.o rfl (by omega) (by omega) hPl hz ?_;intro v' w2 ho2 hb2 _;have HO2:=A ho2;clear ho2))
    go_roundw
    exact⟨k+3,P++[toB y],by omega,by go_num,by rw[HE.o,HST.o,ifP trivial,Xk,XC];rfl,HO2.o,by simp;omega,HN.o.trans hb2⟩
    simp[intOf];omega
  .rw[Zu s k (by omega)]at hE
   have hcv:=Zdp hown;clear hown;go_wp2;go_ret
   exact⟨_,rfl,by rw[hE,tl_mk,Zch,Xt],hnx⟩
def bsplit(n:Int)(l:List UInt8):List (List UInt8):=
 match l with
 | []=>[[]]
 | c::r=>if isB n c then []::bsplit n r else
  match bsplit n r with
  | []=>[[c]]
  | p::q=>(c::p)::q
theorem ZeF(n:Int)(l:LB):∃p q,bsplit n l=p::q:=by
 cases l with
 | nil=>exact⟨[],[],rfl⟩
 | cons c r=>
  rw[bsplit]
  split
  .exact⟨_,_,rfl⟩
  .split<;>exact⟨_,_,rfl⟩
theorem Zjt(n:Int)(l:LB):bsplit n l=if(bcut (isB n) l).2.2 then(bcut (isB n) l).1::bsplit n (bcut (isB n) l).2.1 else [(bcut (isB n) l).1]:=by
 induction l with
 | nil=>simp[bsplit,bcut]
 | cons c r ih=>
  cases h:isB n c
  .have hc:bcut (isB n) (c::r)=(c::(bcut (isB n) r).1,(bcut (isB n) r).2):=by simp[bcut,h]
   rw[bsplit,ifN (by simp[h]),hc,ih]
   cases h2:(bcut (isB n) r).2.2<;>simp
  .have hc:bcut (isB n) (c::r)=([],r,true):=by simp[bcut,h]
   rw[bsplit,ifP h,hc]
   simp
theorem Z9(p:UInt8->Bool)(l:LB):(bcut p l).1.length+(bcut p l).2.1.length<=l.length/\((bcut p l).2.2=true->(bcut p l).2.1.length<l.length):=by
 induction l with
 | nil=>simp[bcut]
 | cons c r ih=>
  cases h:p c
  .have hc:bcut p (c::r)=(c::(bcut p r).1,(bcut p r).2):=by simp[bcut,h]
   rw[hc];simp only[Xi]
   exact⟨by omega,fun hh=>by have:=ih.2 hh;omega⟩
  .have hc:bcut p (c::r)=([],r,true):=by simp[bcut,h]
   rw[hc]
   simp
abbrev ZbK(w:World)(base:Nat)(v:Value)(l:List ByteArray):Prop:=w.ownsRow base 9 1 v l.length (l.map Value.string)
theorem Zds{ops:Array Oper}{rest:List Oper}{o:Oper}{a:Act}{Q:Exit->Act->World->Prop}(w:World)(y:BA)
  (hgd:o.guard=none) (s x:Operand) (ho:o.op=.call { callee:=.builtin .append,args:=#[s,x],argTypes:=#[78,78] })
  (base:Nat) (v:Value) (l:LA) (hs:a.eval s=v) (hown:ZbK w base v l) (hx:a.eval x=.slice (some ⟨w.heap.size,0,none⟩) 1 1)
  (hn:l.length<1099511627776) (hbase:base<=w.heap.size)
  (h:∀v' w',ZbK w' base v' (l++[y])->Below base w w'->Kp 9 w w'->wpList prog ops Q rest (a.put o.dst v') w'):
  wpList prog ops Q (o::rest) a (w.alloc (.cells #[J y] 9)):=by
 refine ZdC _ _ _ (J ByteArray.empty) 16 underlying78 Zgz rfl hgd s x ho base v l.length _ hs (World.ownsRow.alloc hown _) ⟨w.heap.size,0,none⟩ 1 1 [J y] hx rfl (Zf0 (by simp)) (by simp[Value.oneCell']) (by omega) (by decide) (by simp;omega) ?_
 intro v' w' h1 h2 h3
 refine h v' w' ?_ (((Below.refl base w).alloc hbase _).trans h2) ((Kp.rfl.alloc _).then h3)
 unfold ZbK;rw[Xg,XB];exact h1
theorem Zju(w:World):ZbK (w.alloc (.cells #[] 9)) w.heap.size (.slice (some ⟨w.heap.size,0,none⟩) 0 0) []:=
 World.ownsRow_made w #[] 0 (Xa _) (Xc _) rfl
def ZoP:Value->Nat | J s=>s.size|_=>0
def ZoQ:Value->Bool | C b=>b|_=>false
theorem ZeG(s:BA)(n:Int)(w:World)(hs:s.size<=1000000):Calls prog 202 #[J s,.int .u8 n] w fun e w'=>∃v bs,e=Y v/\ZbP w' v bs/\bs.map tl=bsplit n (tl s)/\Nx w w':=by
 go_enter func202,ntmps202
 go_wp2
 go_loopw [5,6,7] (fun o x m wr=>∃(bs:LA) (q:BA) (more:Bool),x=J q/\m=C more/\ZbK wr w.heap.size o bs/\bs.length+q.size<=s.size+1/\bsplit n (tl s)=bs.map tl++(if more then bsplit n (tl q)else [])/\(more=true->bs.length+q.size<=s.size)/\Nx w wr)
  (fun _ x m _=>if ZoQ m then ZoP x+1 else 0)
 case atStart=>exact⟨[],s,true,rfl,rfl,Zju w,by simp,by simp,fun _=>by simp,Nx.rfl.alloc _⟩
 case round=>
  obtain⟨bs,q,more,rfl,rfl,hown,hl,hE,hm,hnx⟩:=hrel
  cases more
  .simp only[XJ,if_false,Xt]at hE
   go_wp2;go_ret;exact⟨_,_,rfl,Zcf hown,hE.symm,hnx⟩
  .have hl2:=hm rfl
   simp only[if_true]at hE;have HE:=A hE;have HO:=A hown;have HN:=A hnx;clear hE hown hnx hm;have HC:=A (Zjt n (tl q));have HL:=A (Z9 (isB n) (tl q));go_wp2_with fail
   refine(Zd9 _ _ _ (Ze (by omega))).mono ?_
   rintro e w1 ⟨⟨a,b,rfl,ha,hb⟩,hn1⟩;have HA:=A ha;have HB:=A hb
   have hla:a.size=(bcut (isB n) (tl q)).1.length:=by rw[<-ha,Za]
   have hlb:b.size=(bcut (isB n) (tl q)).2.1.length:=by rw[<-hb,Za]
   have HLA:=A hla;have HLB:=A hlb;clear ha hb hla hlb;generalize bcut (isB n) (tl q)=c at *;obtain⟨c1,c2,found⟩:=c;simp only at *;have HO1:=A (Zbw HO.o hn1);have HN1:=A (HN.o.then hn1);have hz:=HN1.o.size;clear hn1
   have hbl:bs.length<1099511627776:=by omega
   go_wp2_with (at_builtin;go_must (refine Zds w1 a rfl _ _ rfl w.heap.size u5 bs rfl HO1.o rfl hbl hz ?_;intro v' w2 ho2 hb2 _;have HO2:=A ho2;clear ho2))
   go_roundw
   case rel=>
    refine⟨bs++[a],b,found,rfl,rfl,HO2.o,?_,?_,?_,HN1.o.trans hb2⟩
    .have h:=HL.o.1;have h1:=HLA.o;have h2:=HLB.o;rw[Za]at h;simp only[Xg,Xi,XA];omega
    .rw[HE.o,HC.o,XB,Xk,Xq,XG,HA.o,HB.o]
     cases found<;>rfl
    .intro hf
     have h:=HL.o.2 hf;have h2:=HLB.o;rw[Za]at h;simp only[Xg,Xi,XA]
     omega
   case measure=>
    have h:=HL.o;have h2:=HLB.o;rw[Za]at h;simp only[ZoQ,ZoP]
    cases found
    .simp
    .have:=h.2 rfl
     simp;omega
theorem any_snoc{α:Type}(p:α->Bool)(l:List α)(b:α):(l++[b]).any p=(l.any p||p b):=by simp
theorem Zkr(p:UInt8->Bool)(s:BA)(k:Nat)(h:k<s.size)(he:p s[k]=true):(tl s).any p=true:=
 XO.2 ⟨s[k],by rw[<-Zeu s k h];exact Xn _,he⟩
theorem Zam(s:BA)(k:Nat):(s.extract k s.size).size=s.size-k:=by rw[ByteArray.size_extract];omega
theorem Zxf(s:BA)(k:Nat):(s.extract 0 k).size<=s.size:=by rw[ByteArray.size_extract];omega
theorem Zf4(s:BA)(a b:Nat):(s.extract a b).size<=s.size:=by rw[ByteArray.size_extract];omega
theorem Zeb(s:BA)(k:Nat)(h:k<s.size):(tl s).getD k 0=s[k]:=by rw[Xj,Xl (by rw[Za];exact h),Zeu s k h];rfl
theorem Zli{a b:Int×Bool}(h:a=b):Ending.returned (.tuple #[I X a.1,C a.2])=Y (.tuple #[I X b.1,C b.2]):=by rw[h]
theorem ZdF{s:BA}(h:¬s.size=0):¬tl s=[]:=by intro e;have:=Za s;rw[e]at this;simp at this;omega
theorem ZuX{x y:Int}(h:(x==y)=true):(x != y)=false:=by simp only[bne,h];rfl
theorem Zjv{x y:Int}(h:(x==y)=false):(x != y)=true:=by simp only[bne,h];rfl
def beyondB(l:List UInt8):Bool:=l.any fun b=>decide (127<(b.toNat:Int))
theorem Ze9(s:BA)(w:World)(hs:s.size<=maxLen):Calls prog 308 #[J s] w fun e w'=>e=Y (C (beyondB (tl s)))/\w=w':=by
 unfold maxLen at hs
 go_enter func308,ntmps308
 go_wp2
 go_loop [3] (fun i=>∃k:Nat,k<=s.size/\i=I X k/\beyondB ((tl s).take k)=false) (fun i=>s.size-(intOf i).toNat)
 case atStart=>exact⟨0,Xc _,rfl,rfl⟩
 case round=>
  obtain⟨k,hk,rfl,ha⟩:=hrel;have HA:=A ha;clear ha
  by_cases hlt:k<s.size
  .have hb:=bb s[k]
   by_cases hc:127<(s[k].toNat:Int)
   .go_wp2
    go_ret
    exact⟨Zm (Zkr (fun b=>decide (127<(b.toNat:Int))) s k hlt (decide_eq_true hc)).symm,rfl⟩
   .go_wp2
    go_round
    exact⟨k+1,by omega,by go_num,by rw[Zt s k hlt];unfold beyondB;rw[any_snoc];rw[show((tl s).take k).any (fun b=>decide (127<(b.toNat:Int)))=false from HA.o,XE];exact decide_eq_false hc⟩
    simp[intOf];omega
  .go_wp2
   go_ret
   exact⟨Zm (by rw[<-HA.o,ZQ _ _ (by omega)]),rfl⟩
def ZdG(l:List UInt8):Bool:=decide (4<=l.length)&&(l.take 4 == [120,110,45,45])
def Zxg(ps:List (List UInt8)):Bool:=ps.any ZdG
theorem ZhQ(v:Value)(bs:LA)(w:World)(hv:ZbP w v bs)(hl:∀b∈bs,b.size<=1000000):Calls prog 309 #[v] w fun e w'=>e=Y (C (Zxg (bs.map tl)))/\w=w':=by
 obtain⟨ao,cap,rfl,hlc,hcap,hnone,hsome⟩:=hv;have HL:=A hl;clear hl;unfold maxLen at hcap
 go_enter func309,ntmps309
 go_wp2
 go_loop [3] (fun i=>∃k:Nat,k<=bs.length/\i=I X k/\((bs.take k).map tl).any ZdG=false) (fun i=>bs.length-(intOf i).toNat)
 case atStart=>exact⟨0,Xc _,rfl,rfl⟩
 case round=>
  obtain⟨k,hk,rfl,ha⟩:=hrel;have HA:=A ha;clear ha
  by_cases hlt:k<bs.length
  .obtain⟨a,ha⟩:=Zv hlt hnone
   subst ha;obtain⟨b,off,rfl,hr⟩:=hsome a rfl;have hck:=hr.cell hlt;clear hnone hsome hr;have hz:=HL.o bs[k] (Xn hlt)
   have HS:=A (show((bs.take (k+1)).map tl).any ZdG=ZdG (tl bs[k])by
    rw[Xw hlt,XB,Xq,XG,any_snoc,HA.o,XE])
   have HX:=A (show ZdG (tl bs[k])=true->Zxg (bs.map tl)=true from fun h=>XO.2 ⟨tl bs[k],XS.2 ⟨_,Xn hlt,rfl⟩,h⟩)
   generalize bs[k]=p at *
   by_cases h4:4<=p.size
   focus
    by_cases hx:tl (p.extract 0 4)=[120,110,45,45]
    .have HH:=A (HX.o (by unfold ZdG;rw[Za,<-tl_to p 4,hx];simp[h4]))
     have hx':=eqB hx;clear hx;go_wp2;go_ret;exact⟨Zm HH.o.symm,rfl⟩
    focus
     have HN:=A (show ZdG (tl p)=false by
      unfold ZdG;rw[<-tl_to p 4]
      simp[hx])
     have hx':=neB hx;clear hx
   rotate_left
   focus
    have HN:=A (show ZdG (tl p)=false by
      unfold ZdG;rw[Za]
      simp[h4])
   all_goals
    go_wp2
    go_round
    exact⟨k+1,by omega,by go_num,by rw[HS.o];exact HN.o⟩
    simp[intOf];omega
  .go_wp2
   go_ret
   exact⟨Zm (by rw[<-HA.o,Xs (by omega)];rfl),rfl⟩
def ZhJ:List UInt8:=[0,9,10,13,32,35,47,58,60,62,63,64,91,92,93,94,124]
def ZoR(b:UInt8):Bool:=decide ((b.toNat:Int)<32)||(b.toNat:Int)==37||(b.toNat:Int)==127||among b.toNat ZhJ
def plainDom(l:List UInt8):Bool:=!(l.any ZoR) && !l.isEmpty
theorem Zhd(s:BA)(w:World)(hs:s.size<=maxLen):Calls prog 310 #[J s] w fun e w'=>e=Y (C (plainDom (tl s)))/\w=w':=by
 unfold maxLen at hs
 go_enter func310,ntmps310
 go_wp2
 go_loop [3] (fun i=>∃k:Nat,k<=s.size/\i=I X k/\((tl s).take k).any ZoR=false) (fun i=>s.size-(intOf i).toNat)
 case atStart=>exact⟨0,Xc _,rfl,rfl⟩
 case round=>
  obtain⟨k,hk,rfl,ha⟩:=hrel;have HA:=A ha;clear ha
  by_cases hlt:k<s.size
  .have hb:=bb s[k]
   have HY:=A (show ZoR s[k]=true->plainDom (tl s)=false from fun h=>by unfold plainDom;rw[Zkr ZoR s k hlt h];rfl)
   have HN:=A (show ZoR s[k]=false->((tl s).take (k+1)).any ZoR=false from fun h=>by rw[Zt s k hlt,any_snoc,HA.o,h];rfl)
   have HD:=A (show ZoR s[k]=(decide ((s[k].toNat:Int)<32)||(s[k].toNat:Int)==37||(s[k].toNat:Int)==127||among s[k].toNat ZhJ)from rfl)
   by_cases h32:(s[k].toNat:Int)<32
   focus
    have HH:=A (HY.o (by rw[HD.o];simp[h32]))
    go_wp2
   rotate_left
   focus
    cases h37:((s[k].toNat:Int)==37)
    focus
     cases h127:((s[k].toNat:Int)==127)
     focus
      cases hA:among (s[k].toNat:Int) ZhJ
      .have HH:=A (HN.o (by rw[HD.o,h37,h127,hA];simp[h32]))
       have HA2:=A hA;clear hA
       go_wp2_with (go_at_call 194;refine(ZaQ _ _ _ (Ze (by decide))).mono ?_;rintro e w' ⟨rfl,rfl⟩;rw[show among (s[k].toNat:Int) (tl ⟨#[0,9,10,13,32,35,47,58,60,62,63,64,91,92,93,94,124]⟩)=false from HA2.o])
       go_round
       exact⟨k+1,by omega,by go_num,HH.o⟩
       simp[intOf];omega
      focus
       have HH:=A (HY.o (by rw[HD.o,hA];simp))
       have HA2:=A hA;clear hA
       go_wp2_with (go_at_call 194;refine(ZaQ _ _ _ (Ze (by decide))).mono ?_;rintro e w' ⟨rfl,rfl⟩;rw[show among (s[k].toNat:Int) (tl ⟨#[0,9,10,13,32,35,47,58,60,62,63,64,91,92,93,94,124]⟩)=true from HA2.o])
     rotate_left
     focus
      have HH:=A (HY.o (by rw[HD.o,h127];simp))
      go_wp2
    rotate_left 2
    focus
     have HH:=A (HY.o (by rw[HD.o,h37];simp))
     go_wp2
   all_goals
    go_ret;exact⟨Zm HH.o.symm,rfl⟩
  .have HF:=A (show plainDom (tl s)=!(tl s).isEmpty by
    have h:=HA.o
    rw[ZQ _ _ (by omega)]at h
    unfold plainDom
    rw[h];rfl)
   by_cases h0:s.size=0
   .have h0':=Zo h0
    have HT:=A (Zz h0);clear h0;go_wp2;go_ret
    exact⟨Zm (by rw[HF.o,HT.o];rfl),rfl⟩
   .have h0':=Zj h0
    have HT:=A (show(tl s).isEmpty=false by rw[<-h0',ByteArray.toList_eq];rfl)
    clear h0;go_wp2;go_ret
    exact⟨Zm (by rw[HF.o,HT.o];rfl),rfl⟩
theorem Zsd(base most:Int)(hb:0<=base)(l:LB):∀n q,0<=n->numGo base most n l=some q->0<=q:=by
 induction l with
 | nil=>intro n q h e;rw[numGo]at e;cases e;exact h
 | cons c r ih=>
  intro n q h e;rw[numGo]at e
  split at e
  .refine ih _ q ?_ e
   split
   .have:=Zbn (c.toNat:Int) base
    have h2:=XQ h hb
    omega
   .exact h
  .cases e
theorem ZdS(l:LB)(base most:Int)(hb:0<=base)(hm:0<=most):0<=(Zp l base most).1/\(Zp l base most).1<=most+1:=by
 unfold Zp
 split
 .exact⟨Xv _,by show(0:Int)<=_;omega⟩
 .split
  .exact⟨Xv _,by show(0:Int)<=_;omega⟩
  .rename_i n e
   have:=Zsd base most hb l 0 n (Xv _) e
   split
   .exact⟨by show(0:Int)<=most+1;omega,Xv _⟩
   .exact⟨this,by show n<=most+1;omega⟩
def ZJ(l:List UInt8):Int×Bool:=
 if l.length<2∨¬((l.getD 0 0).toNat:Int)=48 then Zp l 10 4294967295
 else if ¬((l.getD 1 0).toNat:Int)=120/\¬((l.getD 1 0).toNat:Int)=88 then Zp (l.drop 1) 8 4294967295
 else if l.length=2 then(0,true)else Zp (l.drop 2) 16 4294967295
theorem Zqc(l:LB):ZJ l=if l.length<2∨¬((l.getD 0 0).toNat:Int)=48 then Zp l 10 4294967295
 else if ¬((l.getD 1 0).toNat:Int)=120/\¬((l.getD 1 0).toNat:Int)=88 then Zp (l.drop 1) 8 4294967295
 else if l.length=2 then(0,true)else Zp (l.drop 2) 16 4294967295:=rfl
theorem ZfE(l:LB):0<=(ZJ l).1/\(ZJ l).1<=4294967296:=by
 unfold ZJ
 split
 rotate_left
 focus
  split
  rotate_left
  focus
   split
   .exact⟨by decide,by decide⟩
 all_goals
  exact ZdS _ _ _ (by decide) (by decide)
theorem Zc7(s:BA)(w:World)(hs:s.size<=1000000):Calls prog 321 #[J s] w fun e w'=>e=Y (.tuple #[I X (ZJ (tl s)).1,C (ZJ (tl s)).2])/\w=w':=by
 have HD:=A (Zqc (tl s));rw[Za]at HD
 by_cases h2:s.size<2
 focus
  have HE:=A (HD.o.trans (ifP (Xr h2)))
 rotate_left
 focus
  rw[Zeb s 0 (by omega),Zeb s 1 (by omega)]at HD
  have hb0:=bb s[0];have hb1:=bb s[1]
  cases h48:((s[0].toNat:Int)==48)
  focus
   have h48':=Zjv h48
   have HE:=A (HD.o.trans (ifP (Xp (by simpa using h48))))
  rotate_left
  .have h48':=ZuX h48
   have HD2:=A (HD.o.trans (ifN (by rintro(h|h);exact h2 h;exact h (by simpa using h48))))
   clear HD
   by_cases hx:((s[1].toNat:Int)==120)=true∨((s[1].toNat:Int)==88)=true
   .have HD3:=A (HD2.o.trans (ifN (by rintro⟨ha,hb⟩;rcases hx with h|h;exact ha (by simpa using h);exact hb (by simpa using h))))
    clear HD2
    by_cases hl2:s.size=2
    .have HE:=A (HD3.o.trans (ifP hl2))
     clear HD3
     have hl2':((s.size:Int)==2)=true:=by rw[hl2];rfl
     rcases hx with h|h
     .have HL:=A hl2
      have h':=ZuX h;clear hl2
      go_enter func321,ntmps321
      go_wp2;go_ret2;exact⟨Zli (b:=ZJ (tl s)) (a:=(0,true)) HE.o.symm,rfl⟩
     .clear hl2
      have hn:((s[1].toNat:Int)==120)=false:=by have:(s[1].toNat:Int)=88:=by simpa using h
                                                rw[this];rfl
      have hn':=Zjv hn;have h':=ZuX h
      go_enter func321,ntmps321
      go_wp2;go_ret2;exact⟨Zli (b:=ZJ (tl s)) (a:=(0,true)) HE.o.symm,rfl⟩
    .have HE:=A (HD3.o.trans (ifN hl2))
     have hl2':((s.size:Int)==2)=false:=by simp;omega
     clear HD3 hl2;rcases hx with h|h
     rotate_left
     focus
      have hn:((s[1].toNat:Int)==120)=false:=by have:(s[1].toNat:Int)=88:=by simpa using h
                                                rw[this];rfl
      have hn':=Zjv hn
     all_goals
      have h':=ZuX h
      go_enter func321,ntmps321
      go_wp2_with (go_at_call 301;refine(ZeE _ _ _ (by rw[Zam];omega) (by decide) (by decide)).mono ?_;rintro e w' ⟨rfl,rfl⟩)
      go_ret2
      exact⟨Zli (by rw[tl_from];exact HE.o.symm),rfl⟩
   .have hx1:((s[1].toNat:Int)==120)=false:=by cases h:((s[1].toNat:Int)==120);rfl;exact absurd (Xr h) hx
    have hx2:((s[1].toNat:Int)==88)=false:=by cases h:((s[1].toNat:Int)==88);rfl;exact absurd (Xp h) hx
    have HE:=A (HD2.o.trans (ifP ⟨by simpa using hx1,by simpa using hx2⟩))
    have hx1':=Zjv hx1;have hx2':=Zjv hx2;clear HD2 hx
    go_enter func321,ntmps321
    go_wp2_with (go_at_call 301;refine(Zm4 _ _ _ (by rw[Zam];omega) (by decide) (by decide)).mono ?_;rintro e w' ⟨rfl,rfl⟩)
    go_ret2
    exact⟨Zli (by rw[tl_from];exact HE.o.symm),rfl⟩
 all_goals
  clear HD
  go_enter func321,ntmps321
  go_wp2_with (go_at_call 301;refine(Zdr _ _ _ hs (by decide) (by decide)).mono ?_;rintro e w' ⟨rfl,rfl⟩)
  go_ret2;exact⟨Zli HE.o.symm,rfl⟩
def ZgA(bs:List ByteArray):List ByteArray:=if 1<bs.length/\tl (bs.getD (bs.length-1) ⟨#[]⟩)=[]then bs.take (bs.length-1)else bs
def Zh6(ps:List (List UInt8)):List (List UInt8):=if 1<ps.length/\ps.getD (ps.length-1) []=[]then ps.take (ps.length-1)else ps
theorem Zks{bs:LA}{k:Nat}(h:k<bs.length):bs.getD k ⟨#[]⟩=bs[k]:=by rw[Xj,Xl h];rfl
theorem map_getDk(bs:LA)(k:Nat):(bs.map tl).getD k []=tl (bs.getD k ⟨#[]⟩):=by
 rw[Xj,Xj,XL]
 cases bs[k]? <;> rfl
theorem Zse(bs:LA):(ZgA bs).map tl=Zh6 (bs.map tl):=by
 unfold ZgA Zh6;rw[Xd,map_getDk]
 split
 .rw[XF]
 .rfl
theorem Zsf{bs:LA}{b:BA}(h:b∈ZgA bs):b∈bs:=by
 unfold ZgA at h
 split at h
 .exact List.mem_of_mem_take h
 .exact h
theorem Zsg(v:Value)(bs:LA)(w:World)(hv:ZbP w v bs):Calls prog 311 #[v] w fun e w'=>∃v',e=Y v'/\ZbP w v' (ZgA bs)/\w=w':=by
 have HV:=A hv;obtain⟨ao,cap,rfl,hlc,hcap,hnone,hsome⟩:=hv;have HCAP:=A hcap;unfold maxLen at hcap
 by_cases h1:1<bs.length
 focus
  obtain⟨a,ha⟩:=Zv (k:=0) (by omega) hnone
  subst ha;obtain⟨b,off,rfl,hr⟩:=hsome a rfl
  have hck:=hr.cell (i:=bs.length-1) (by omega)
  have HT:=A (ZdB hr hlc HCAP.o (bs.length-1) (by omega))
  have hz:bs.length-1<bs.length:=by omega
  clear hnone hsome hr
  by_cases hz0:(bs[bs.length-1]'hz).size=0
  .have HE:=A (show ZgA bs=bs.take (bs.length-1)by unfold ZgA;rw[ifP ⟨h1,by rw[Zks hz,Zz hz0]⟩])
   have hz':=Zo hz0;clear hz0
   go_enter func311,ntmps311
   go_wp2;go_ret
   exact⟨_,rfl,by rw[HE.o];exact HT.o,rfl⟩
  focus
   have HE:=A (show ZgA bs=bs by unfold ZgA;rw[ifN (by rintro⟨-,h⟩;rw[Zks hz]at h;exact ZdF hz0 h)])
   have hz':=Zj hz0;clear hz0
 rotate_left
 focus
  have HE:=A (show ZgA bs=bs by unfold ZgA;rw[ifN (fun h=>h1 h.1)])
  clear hnone hsome
 all_goals
  go_enter func311,ntmps311
  go_wp2;go_ret
  exact⟨_,rfl,by rw[HE.o];exact HV.o,rfl⟩
def ZdH(ps:List (List UInt8)):Bool:=if ps.length=0 then false else(Zp (ps.getD (ps.length-1) []) 10 4294967295).2||(ZJ (ps.getD (ps.length-1) [])).2
theorem ZfF(v:Value)(bs:LA)(w:World)(hv:ZbP w v bs)(hl:∀b∈bs,b.size<=1000000):Calls prog 312 #[v] w fun e w'=>e=Y (C (ZdH (bs.map tl)))/\w=w':=by
 obtain⟨ao,cap,rfl,hlc,hcap,hnone,hsome⟩:=hv;unfold maxLen at hcap;rcases XM bs.length with h0|hpos
 .have HE:=A (show ZdH (bs.map tl)=false by unfold ZdH;rw[Xd,ifP h0])
  have h0':((bs.length:Int)==0)=true:=by rw[h0];rfl
  clear h0 hnone hsome hl
  go_enter func312,ntmps312
  go_wp2;go_ret;exact⟨Zm HE.o.symm,rfl⟩
 .obtain⟨a,ha⟩:=Zv (k:=0) hpos hnone
  subst ha;obtain⟨b,off,rfl,hr⟩:=hsome a rfl
  have hz:bs.length-1<bs.length:=by omega
  have hck:=hr.cell (i:=bs.length-1) hz;have hsz:=hl _ (Xn hz)
  have HE:=A (show ZdH (bs.map tl)=((Zp (tl (bs[bs.length-1]'hz)) 10 4294967295).2||(ZJ (tl (bs[bs.length-1]'hz))).2)by
   unfold ZdH;rw[Xd,ifN (by omega),map_getDk,Zks hz])
  have h0':((bs.length:Int)==0)=false:=beq_eq_false_iff_ne.2 (by omega)
  clear hnone hsome hr hl;generalize bs[bs.length-1]'hz=p at *
  cases hA:(Zp (tl p) 10 4294967295).2
  rotate_left
  all_goals
   have HA:=A hA;clear hA
   go_enter func312,ntmps312
   go_wp2_with (first|(go_at_call 301;refine(Zdr _ _ _ hsz (by decide) (by decide)).mono ?_;rintro e w' ⟨rfl,rfl⟩;rw[HA.o])|(go_at_call 321;refine(Zc7 _ _ hsz).mono ?_;rintro e w' ⟨rfl,rfl⟩))
   go_ret
   exact⟨Zm (by rw[HE.o,HA.o];rfl),rfl⟩
def ip4Go:List (List UInt8)->Int->Int->Int×Bool
 | [],_,value=>(value,true)
 | p::r,room,value=>
  if(ZJ p).2=false then(0,false)else
  if room<=(ZJ p).1∨(r≠[]/\255<(ZJ p).1)then(0,false)else
  if r≠[]then ip4Go r (room/256) (value+(ZJ p).1*(room/256))else ip4Go r room (value+(ZJ p).1)
def ip4(ps:List (List UInt8)):Int×Bool:=if ps.length=0∨4<ps.length then(0,false)else ip4Go ps 4294967296 0
theorem ZuY(bs:LA)(k:Nat)(h:k<bs.length)(room value:Int):ip4Go ((bs.drop k).map tl) room value =
  if(ZJ (tl bs[k])).2=false then(0,false)else
  if room<=(ZJ (tl bs[k])).1∨(k+1<bs.length/\255<(ZJ (tl bs[k])).1)then(0,false)else
  if k+1<bs.length then ip4Go ((bs.drop (k+1)).map tl) (room/256) (value+(ZJ (tl bs[k])).1*(room/256))else ip4Go ((bs.drop (k+1)).map tl) room (value+(ZJ (tl bs[k])).1):=by
 rw[Xo h,Xq,ip4Go]
 have hr:((bs.drop (k+1)).map tl≠[])↔k+1<bs.length:=by
  constructor
  .intro hn
   rcases Nat.lt_or_ge (k+1) bs.length with h|h
   .exact h
   .rw[Xh h]at hn;exact absurd rfl hn
  .intro hlt hn
   have:=congrArg List.length hn;rw[Xd,Xm]at this
   simp at this
   omega
 simp only[hr]
theorem Zsh(v:Value)(bs:LA)(w:World)(hv:ZbP w v bs)(hl:∀b∈bs,b.size<=1000000):Calls prog 313 #[v] w fun e w'=>e=Y (.tuple #[I X (ip4 (bs.map tl)).1,C (ip4 (bs.map tl)).2])/\w=w':=by
 obtain⟨ao,cap,rfl,hlc,hcap,hnone,hsome⟩:=hv;unfold maxLen at hcap;have HL:=A hl;clear hl
 by_cases hbad:bs.length=0∨4<bs.length
 .have HE:=A (show ip4 (bs.map tl)=(0,false)by unfold ip4;rw[Xd,ifP hbad])
  clear hnone hsome;rcases hbad with h0|h4
  .have h0':((bs.length:Int)==0)=true:=by rw[h0];rfl
   clear h0
   go_enter func313,ntmps313
   go_wp2;go_ret2
   exact⟨by rw[HE.o];rfl,rfl⟩
  .have h0':((bs.length:Int)==0)=false:=beq_eq_false_iff_ne.2 (by omega)
   go_enter func313,ntmps313
   go_wp2;go_ret2
   exact⟨by rw[HE.o];rfl,rfl⟩
 .have hpos:0<bs.length:=by omega
  have h4:bs.length<=4:=by omega
  have HE:=A (show ip4 (bs.map tl)=ip4Go ((bs.drop 0).map tl) 4294967296 0 by unfold ip4;rw[Xd,ifN hbad];rfl)
  clear hbad
  have h0':((bs.length:Int)==0)=false:=beq_eq_false_iff_ne.2 (by omega)
  obtain⟨a,ha⟩:=Zv (k:=0) hpos hnone;subst ha;obtain⟨b,off,rfl,hr⟩:=hsome a rfl;have HR:=A hr;clear hnone hsome hr
  go_enter func313,ntmps313
  go_wp2
  go_loop [4,5,6] (fun x r i=>∃(k:Nat) (value room:Int),k<=bs.length/\i=I X k/\x=I X value/\r=I X room/\0<=value/\value<=k*4294967296/\0<=room/\room<=4294967296/\ip4 (bs.map tl)=ip4Go ((bs.drop k).map tl) room value) (fun _ _ i=>bs.length-(intOf i).toNat)
  case atStart=>exact⟨0,0,4294967296,Xc _,rfl,rfl,rfl,by omega,by omega,by omega,by omega,HE.o⟩
  case round=>
   obtain⟨k,value,room,hk,rfl,rfl,rfl,hv0,hv1,hr0,hr1,hE⟩:=hrel
   by_cases hlt:k<bs.length
   .have hck:=HR.o.cell hlt
    have hsz:=HL.o _ (Xn hlt);rw[ZuY bs k hlt]at hE;have hrn:=ZfE (tl bs[k]);have HE2:=A hE;clear hE;generalize bs[k]=p at *;generalize hq:ZJ (tl p)=q at *;have HQ:=A hq;clear hq;obtain⟨n,ok⟩:=q;simp only at HE2 hrn;obtain⟨hn0,hn1⟩:=hrn
    cases ok
    .have HF:=A (HE2.o.trans (ifP rfl))
     clear HE2
     go_wp2_with (go_at_call 321;refine(Zc7 _ _ hsz).mono ?_;rintro e w' ⟨rfl,rfl⟩;rw[HQ.o])
     go_ret2
     exact⟨by rw[HF.o];rfl,rfl⟩
    .have HF:=A (HE2.o.trans (ifN (by decide)))
     clear HE2
     by_cases hb:room<=n∨(k+1<bs.length/\255<n)
     .have HG:=A (HF.o.trans (ifP hb))
      clear HF
      by_cases hrn:room<=n
      rotate_left
      focus
       have hb2:k+1<bs.length/\255<n:=by
        rcases hb with h|h
        .exact absurd h hrn
        .exact h
       obtain⟨hb3,hb4⟩:=hb2
       have hlast:((k:Int)==(bs.length:Int)-1)=false:=beq_eq_false_iff_ne.2 (by omega)
      all_goals
       clear hb
       go_wp2_with (go_at_call 321;refine(Zc7 _ _ hsz).mono ?_;rintro e w' ⟨rfl,rfl⟩;rw[HQ.o])
       all_goals go_ret2
       all_goals exact⟨by rw[HG.o];rfl,rfl⟩
     .have HG:=A (HF.o.trans (ifN hb))
      clear HF
      have hrn:¬room<=n:=fun h=>hb (Xr h)
      by_cases hm:k+1<bs.length
      .have hn255:¬255<n:=fun h=>hb (Xp ⟨hm,h⟩)
       have HH:=A (HG.o.trans (ifP hm))
       have hlast:((k:Int)==(bs.length:Int)-1)=false:=beq_eq_false_iff_ne.2 (by omega)
       clear hb HG
       have hd0:0<=room/256:=by omega
       have hd1:room/256<=16777216:=by omega
       have hm0:0<=n*(room/256):=XQ hn0 hd0
       have hm1:n*(room/256)<=255*16777216:=Int.mul_le_mul (by omega) hd1 hd0 (by decide)
       have HDV:=A (show Int.tdiv room 256=room/256 from XD hr0)
       go_wp2_with (go_at_call 321;refine(Zc7 _ _ hsz).mono ?_;rintro e w' ⟨rfl,rfl⟩;rw[HQ.o])
       go_round
       exact⟨k+1,value+n*(room/256),room/256,by omega,by go_num,by go_num,by go_num,by omega,by omega,by omega,by omega,HH.o⟩
       simp[intOf];omega
      .have HH:=A (HG.o.trans (ifN hm))
       have hlast:((k:Int)==(bs.length:Int)-1)=true:=by rw[beq_iff_eq];omega
       clear hb HG
       go_wp2_with (go_at_call 321;refine(Zc7 _ _ hsz).mono ?_;rintro e w' ⟨rfl,rfl⟩;rw[HQ.o])
       go_round
       exact⟨k+1,value+n,room,by omega,by go_num,by go_num,rfl,by omega,by omega,by omega,by omega,HH.o⟩
       simp[intOf];omega
   .have HF:=A (show ip4 (bs.map tl)=(value,true)by rw[hE,Xh (by omega)];rfl)
    clear hE;go_wp2;go_ret2
    exact⟨by rw[HF.o];rfl,rfl⟩
structure But (gb:Nat) (w w':World):Prop where
 os:w'.os=w.os
 tape:w'.tape=w.tape
 output:w'.output=w.output
 size:w.heap.size<=w'.heap.size
 block:∀k,k<w.heap.size->k≠gb->w'.heap[k]?=w.heap[k]?
theorem But.refl(gb:Nat)(w:World):But gb w w:=⟨rfl,rfl,rfl,Xa _,fun _ _ _=>rfl⟩
theorem But.then{gb:Nat}{a b c:World}(h:But gb a b)(k:But gb b c):But gb a c:=
 ⟨k.os.trans h.os,k.tape.trans h.tape,k.output.trans h.output,XI h.size k.size,fun i hi hn=>(k.block i (XK hi h.size) hn).trans (h.block i hi hn)⟩
theorem But.nx{gb:Nat}{a b:World}(h:Nx a b):But gb a b:=⟨h.os,h.tape,h.output,h.size,fun k hk _=>h.block k hk⟩
theorem But.set{gb:Nat}{a b:World}(h:But gb a b)(i:Nat)(u:Value):But gb a (b.setCell ⟨gb,i,none⟩ u):=
 h.then ⟨rfl,rfl,rfl,by simp[World.setCell],fun k _ hk=>Below.heap_setCell _ _ _ _ hk⟩
theorem But.drew{gb:Nat}{a w:World}(h:But gb a w):But gb a w.drew:=⟨h.os,h.tape,h.output,h.size,h.block⟩
theorem But.below{gb B:Nat}{a w:World}(h:But gb a w)(h1:B<=gb)(h2:B<=a.heap.size):Below B a w:=⟨h.os,h.tape,h.output,h.size,fun k hk=>h.block k (by omega) (by omega)⟩
theorem RowAt.but{α:Type}{e:TypeId}{f:α->Value}{w w':World}{b off gb:Nat}{l:List α}(h:RowAt e f w b off l)(hb:But gb w w')(hn:b≠gb):RowAt e f w' b off l:=by obtain⟨cs,fz,hh,hc⟩:=h;exact⟨cs,fz,(hb.block b (Xb.1 hh).1 hn).trans hh,hc⟩
def GrpAt(w:World)(gb:Nat)(ns:List Int)(n:Nat):Prop:=w.heap[gb]?=some (O (ns.map (Value.int .i64)++[Value.int .i64 (n:Int)]).toArray 265 (0,0))/\ns.length=8
theorem GrpAt.on{w w':World}{gb n:Nat}{ns:LI}(h:GrpAt w gb ns n)(hb:Nx w w'):GrpAt w' gb ns n:=
 ⟨(hb.block gb (Xb.1 h.1).1).trans h.1,h.2⟩
theorem GrpAt.but{w w':World}{gb q n:Nat}{ns:LI}(h:GrpAt w gb ns n)(hb:But q w w')(hn:gb≠q):GrpAt w' gb ns n:=
 ⟨(hb.block gb (Xb.1 h.1).1 hn).trans h.1,h.2⟩
theorem GrpAt.cell{w:World}{gb n:Nat}{ns:LI}(h:GrpAt w gb ns n){i:Nat}(hi:i<ns.length):w.cell? ⟨gb,i,none⟩=some (I X ns[i]):=by
 have h1:=h.1
 simp[World.cell?,h1,List.getElem?_append,hi]
theorem GrpAt.count{w:World}{gb n:Nat}{ns:LI}(h:GrpAt w gb ns n):w.cell? ⟨gb,8,none⟩=some (I X (n:Int)):=by
 have h1:=h.1;have h2:=h.2
 simp[World.cell?,h1,h2]
theorem GrpAt.free{w:World}{gb n:Nat}{ns:LI}(h:GrpAt w gb ns n)(i:Nat):w.frozen? ⟨gb,i,none⟩=false:=by
 have h1:=h.1
 simp[World.frozen?,h1]
theorem GrpAt.add{w:World}{gb n:Nat}{ns:LI}(h:GrpAt w gb ns n)(hn:n<8)(x:Int):GrpAt ((w.setCell ⟨gb,n,none⟩ (I X x)).setCell ⟨gb,8,none⟩ (I X ((n:Int)+1))) gb (ns.set n x) (n+1):=by
 obtain⟨h1,h2⟩:=h
 refine⟨?_,by rw[XP];exact h2⟩
 simp only[World.setCell,Xe,ifP,h1]
 simp[XH,h2,hn]
def Zf5(g:List Int×Nat)(x:Int):(List Int×Nat)×Bool:=if g.2<8 then((g.1.set g.2 x,g.2+1),true)else(g,false)
theorem ZhR(g:LI×Nat)(x:Int):(Zf5 g x).1.1.length=g.1.length:=by unfold Zf5;split<;>simp
theorem Zkt(g:LI×Nat)(x:Int)(h:g.2<=8):(Zf5 g x).1.2<=8:=by unfold Zf5;split<;>simp<;>omega
theorem Zku(gb:Nat)(g:LI×Nat)(x:Int)(w:World)(h:GrpAt w gb g.1 g.2):Calls prog 325 #[.pointer (some ⟨gb,0,none⟩),I X x] w fun e w'=>e=Y (C (Zf5 g x).2)/\GrpAt w' gb (Zf5 g x).1.1 (Zf5 g x).1.2/\But gb w w':=by
 obtain⟨ns,n⟩:=g;simp only at *;have hl:=h.2;have hc8:=h.count;have hf8:=h.free 8;have HG:=A h
 by_cases hn:n<8
 .have HE:=A (show Zf5 (ns,n) x=((ns.set n x,n+1),true)from ifP hn)
  have hnl:n<ns.length:=by omega
  have hcn:=h.cell (i:=n) hnl;have hfn:=h.free n;have HA:=A (h.add hn x);have HB:=A (((But.refl gb w).set n (I X x)).set 8 (I X ((n:Int)+1)))
  have hne:(n:Int)<=7:=by omega
  have HL:=A hl
  have hz:n≠8:=by omega
  clear h hl
  go_enter func325,ntmps325
  go_wp2
  go_region
  all_goals go_wp2
  all_goals go_ret
  all_goals rw[HE.o]
  all_goals exact⟨rfl,HA.o,HB.o.drew⟩
 .have HE:=A (show Zf5 (ns,n) x=((ns,n),false)from ifN hn)
  have hne:8<=(n:Int):=by omega
  clear h hl
  go_enter func325,ntmps325
  go_wp2;go_ret;rw[HE.o];exact⟨rfl,HG.o,But.refl _ _⟩
def ZgB(l:List UInt8):Int×Bool:=if(Zp l 10 255).2=false∨255<(Zp l 10 255).1∨(1<l.length/\((l.getD 0 0).toNat:Int)=48)then(0,false)else((Zp l 10 255).1,true)
theorem Zlj(l:LB):0<=(ZgB l).1/\(ZgB l).1<=255:=by
 unfold ZgB
 have:=ZdS l 10 255 (by decide) (by decide)
 split
 .exact⟨by decide,by decide⟩
 .rename_i h
  exact⟨this.1,Int.not_lt.1 (fun hh=>h (Xp (Xr hh)))⟩
theorem ZuZ(l:LB):ZgB l=if(Zp l 10 255).2=false∨255<(Zp l 10 255).1∨(1<l.length/\((l.getD 0 0).toNat:Int)=48)then(0,false)else((Zp l 10 255).1,true):=rfl
theorem Zlk(s:BA)(w:World)(hs:s.size<=1000000):Calls prog 324 #[J s] w fun e w'=>e=Y (.tuple #[I X (ZgB (tl s)).1,C (ZgB (tl s)).2])/\w=w':=by
 have HD:=A (ZuZ (tl s));rw[Za]at HD
 have hrn:=ZdS (tl s) 10 255 (by decide) (by decide)
 generalize hq:Zp (tl s) 10 255=q at *;have HQ:=A hq;clear hq;obtain⟨n,ok⟩:=q;simp only at HD hrn;obtain⟨hn0,hn1⟩:=hrn
 cases ok
 focus
  have HE:=A (HD.o.trans (ifP (Xr rfl)))
 rotate_left
 focus
  by_cases h255:255<n
  focus
   have HE:=A (HD.o.trans (ifP (Xp (Xr h255))))
  rotate_left
  focus
   by_cases h1:1<s.size
   focus
    have hb0:=bb s[0]
    rw[Zeb s 0 (by omega)]at HD
    cases h48:((s[0].toNat:Int)==48)
    focus
     have HE:=A (HD.o.trans (ifN (by rintro(h|h|⟨-,h⟩);cases h;exact h255 h;rw[h]at h48;cases h48)))
    rotate_left
    focus
     have HE:=A (HD.o.trans (ifP (Xp (Xp ⟨h1,by simpa using h48⟩))))
   rotate_left 2
   focus
    have HE:=A (HD.o.trans (ifN (by rintro(h|h|⟨h,-⟩);cases h;exact h255 h;exact h1 h)))
 all_goals
  clear HD
  go_enter func324,ntmps324
  go_wp2_with (go_at_call 301;refine(Zdr _ _ _ hs (by decide) (by decide)).mono ?_;rintro e w' ⟨rfl,rfl⟩;rw[HQ.o])
  go_ret2
  exact⟨by rw[HE.o];rfl,rfl⟩
def ZbR(g:List Int×Nat)(l:List UInt8):(List Int×Nat)×Bool:=if(Zp l 16 65535).2=false∨4<l.length then(g,false)else Zf5 g (Zp l 16 65535).1
theorem ZgC(gb:Nat)(g:LI×Nat)(s:BA)(w:World)(h:GrpAt w gb g.1 g.2)(hs:s.size<=1000000):Calls prog 323 #[.pointer (some ⟨gb,0,none⟩),J s] w fun e w'=>e=Y (C (ZbR g (tl s)).2)/\GrpAt w' gb (ZbR g (tl s)).1.1 (ZbR g (tl s)).1.2/\But gb w w':=by
 have HG:=A h;clear h
 have HD:=A (show ZbR g (tl s)=if(Zp (tl s) 16 65535).2=false∨4<s.size then(g,false)else Zf5 g (Zp (tl s) 16 65535).1 by rw[<-Za];rfl)
 generalize hq:Zp (tl s) 16 65535=q at *;have HQ:=A hq;clear hq;obtain⟨n,ok⟩:=q;simp only at HD
 cases ok
 focus
  have HE:=A (HD.o.trans (ifP (Xr rfl)))
 rotate_left
 focus
  by_cases h4:4<s.size
  focus
   have HE:=A (HD.o.trans (ifP (Xp h4)))
  rotate_left
  .have HE:=A (HD.o.trans (ifN (by rintro(h|h);cases h;exact h4 h)))
   clear HD
   go_enter func323,ntmps323
   go_wp2_with (first|(go_at_call 301;refine(ZeE _ _ _ hs (by decide) (by decide)).mono ?_;rintro e w' ⟨rfl,rfl⟩;rw[HQ.o])|(go_at_call 325;refine(Zku gb g _ _ HG.o).mono ?_;rintro e w1 ⟨rfl,h1,h2⟩;have H1:=A h1;have H2:=A h2;clear h1 h2))
   go_ret;rw[HE.o];exact⟨rfl,H1.o,H2.o⟩
 all_goals
  clear HD
  go_enter func323,ntmps323
  go_wp2_with (go_at_call 301;refine(ZeE _ _ _ hs (by decide) (by decide)).mono ?_;rintro e w' ⟨rfl,rfl⟩;rw[HQ.o])
  go_ret;rw[HE.o];exact⟨rfl,HG.o,But.refl _ _⟩
def d4Go:Int->List (List UInt8)->Option Int
 | v,[]=>some v
 | v,p::r=>if(ZgB p).2=true then d4Go (v*256+(ZgB p).1) r else none
def Zba(g:List Int×Nat)(l:List UInt8):(List Int×Nat)×Bool:=
 if(bsplit 46 l).length≠4 then(g,false)else
 match d4Go 0 (bsplit 46 l)with
 | none=>(g,false)
 | some v=>if(Zf5 g (v/65536)).2=false then((Zf5 g (v/65536)).1,false)else Zf5 (Zf5 g (v/65536)).1 (v%65536)
theorem Zna{g:LI×Nat}{l:LB}(h:d4Go 0 (bsplit 46 l)=none):Zba g l=(g,false):=by unfold Zba;rw[h];split<;>rfl
theorem Znb{g:LI×Nat}{l:LB}{v:Int}(h4:(bsplit 46 l).length=4)(h:d4Go 0 (bsplit 46 l)=some v):Zba g l=if(Zf5 g (v/65536)).2=false then((Zf5 g (v/65536)).1,false)else Zf5 (Zf5 g (v/65536)).1 (v%65536):=by unfold Zba;rw[ifN (fun hh=>hh h4),h]
theorem Zxh(bs:LA)(k:Nat)(h:k<bs.length)(v:Int):d4Go v ((bs.drop k).map tl)=if(ZgB (tl bs[k])).2=true then d4Go (v*256+(ZgB (tl bs[k])).1) ((bs.drop (k+1)).map tl)else none:=by rw[Xo h,Xq,d4Go]
theorem ZfG{n:Int}{s:BA}{bs:LA}(h:bs.map tl=bsplit n (tl s)):∀b∈bs,b.size<=s.size:=by
 have key:∀l:LB,∀p∈bsplit n l,p.length<=l.length:=by
  intro l
  induction l with
  | nil=>intro p hp;rw[bsplit]at hp;simp at hp;subst hp;simp
  | cons c r ih=>
   intro p hp;rw[bsplit]at hp
   split at hp
   .rcases XR.1 hp with rfl|hp
    .simp
    .have:=ih p hp;simp;omega
   .obtain⟨x,q,hx⟩:=ZeF n r
    rw[hx]at hp ih;simp only at hp;rcases XR.1 hp with rfl|hp
    .have:=ih x (List.mem_cons_self ..);simp;omega
    .have:=ih p (List.mem_cons_of_mem _ hp);simp;omega
 intro b hb
 have h1:=key (tl s) (tl b) (by rw[<-h];exact XS.2 ⟨b,hb,rfl⟩)
 rw[Za,Za]at h1;exact h1
theorem Zqd(gb:Nat)(g:LI×Nat)(s:BA)(w:World)(h:GrpAt w gb g.1 g.2)(hs:s.size<=1000000):Calls prog 322 #[.pointer (some ⟨gb,0,none⟩),J s] w fun e w'=>e=Y (C (Zba g (tl s)).2)/\GrpAt w' gb (Zba g (tl s)).1.1 (Zba g (tl s)).1.2/\But gb w w':=by
 have HG:=A h;clear h
 go_enter func322,ntmps322
 go_wp2_with fail
 refine(ZeG s 46 w hs).mono ?_
 rintro e w1 ⟨v,bs,rfl,hv,hbs,hn⟩;have HG1:=A (HG.o.on hn);have HB1:=A (show But gb w w1 from But.nx hn);have HBS:=A hbs
 have HSZ:=A (show ∀b∈bs,b.size<=1000000 from fun b hb=>XI (ZfG hbs b hb) hs)
 have HLEN:=A (show(bsplit 46 (tl s)).length=bs.length by rw[<-hbs,Xd])
 clear hbs hn HG;obtain⟨ao,cap,rfl,hlc,hcap,hnone,hsome⟩:=hv;unfold maxLen at hcap
 by_cases h4:bs.length=4
 .have hne:((bs.length:Int) != 4)=false:=by rw[h4];rfl
  have hpos:0<bs.length:=by omega
  have hle:bs.length<=4:=by omega
  have H4:=A h4;obtain⟨a,ha⟩:=Zv (k:=0) hpos hnone;subst ha;obtain⟨b,off,rfl,hr⟩:=hsome a rfl;have HR:=A hr;clear hnone hsome hr h4;go_wp2
  go_loop [6,7] (fun x i=>∃(k:Nat) (val:Int),k<=bs.length/\i=I X k/\x=I X val/\0<=val/\val<=4294967295/\(k<=3->val<=16777215)/\(k<=2->val<=65535)/\(k<=1->val<=255)/\(k=0->val=0)/\d4Go 0 (bs.map tl)=d4Go val ((bs.drop k).map tl)) (fun _ i=>bs.length-(intOf i).toNat)
  case atStart=>exact⟨0,0,Xc _,rfl,rfl,by omega,by omega,by omega,by omega,by omega,by omega,rfl⟩
  case round=>
   obtain⟨k,val,hk,rfl,rfl,hv0,hv1,hv2,hv3,hv4,hv5,hE⟩:=hrel;have HV:=A (And.intro hv2 (And.intro hv3 (And.intro hv4 hv5)));clear hv2 hv3 hv4 hv5
   by_cases hlt:k<bs.length
   .have hck:=HR.o.cell hlt
    have hsz:=HSZ.o _ (Xn hlt);have hrn:=Zlj (tl bs[k]);rw[Zxh bs k hlt]at hE;have HE2:=A hE;clear hE
    have hval:val<=16777215:=HV.o.1 (by omega)
    generalize bs[k]=p at *;generalize hq:ZgB (tl p)=q at *;have HQ:=A hq;clear hq;obtain⟨n,ok⟩:=q;simp only at HE2 hrn;obtain⟨hn0,hn1⟩:=hrn
    cases ok
    .have HF:=A (Zna (g:=g) (l:=tl s) (by rw[<-HBS.o];exact HE2.o.trans (ifN (by decide))))
     clear HE2
     go_wp2_with (go_at_call 324;refine(Zlk _ _ hsz).mono ?_;rintro e w' ⟨rfl,rfl⟩;rw[HQ.o])
     go_ret;rw[HF.o];exact⟨rfl,HG1.o,HB1.o⟩
    .have HF:=A (HE2.o.trans (ifP rfl))
     clear HE2
     go_wp2_with (go_at_call 324;refine(Zlk _ _ hsz).mono ?_;rintro e w' ⟨rfl,rfl⟩;rw[HQ.o])
     go_round
     case rel=>
      obtain⟨g1,g2,g3,g4⟩:=HV.o
      exact⟨k+1,val*256+n,by omega,by go_num,by go_num,by omega,by omega,by intro h;have:=g2 (by omega);omega,by intro h;have:=g3 (by omega);omega,by intro h;have:=g4 (by omega);omega,by omega,HF.o⟩
     case measure=>simp[intOf];omega
   .have HF:=A (Znb (g:=g) (l:=tl s) (v:=val) (by rw[HLEN.o];exact H4.o) (by rw[<-HBS.o,hE,Xh (by omega)];rfl))
    clear hE;have HDV:=A (show Int.tdiv val 65536=val/65536 from XD hv0);have HMV:=A (show Int.tmod val 65536=val%65536 from Int.tmod_eq_emod_of_nonneg hv0);go_wp2_with fail
    refine(Zku gb g _ _ HG1.o).mono ?_
    rintro e w2 ⟨rfl,h1,h2⟩
    try rw[HDV.o]at *
    generalize Zf5 g (val/65536)=a1 at *;obtain⟨g1,ok1⟩:=a1;simp only at *;have HG2:=A h1;have HB2:=A (HB1.o.then h2);clear h1 h2
    cases ok1
    .have HH:=A (HF.o.trans (ifP rfl))
     clear HF;go_wp2;go_ret;rw[HH.o];exact⟨rfl,HG2.o,HB2.o⟩
    .have HH:=A (HF.o.trans (ifN (by decide)))
     clear HF;go_wp2_with fail
     refine(Zku gb g1 _ _ HG2.o).mono ?_
     rintro e w3 ⟨rfl,h1,h2⟩
     try rw[HMV.o]at *
     have HG3:=A h1;have HB3:=A (HB2.o.then h2);clear h1 h2;go_wp2;go_ret;rw[HH.o];exact⟨rfl,HG3.o,HB3.o⟩
 .have hne:((bs.length:Int) != 4)=true:=Zjv (beq_eq_false_iff_ne.2 (by omega))
  have HF:=A (show Zba g (tl s)=(g,false)by unfold Zba;rw[ifP (by rw[HLEN.o];exact h4)])
  clear hnone hsome;go_wp2;go_ret;rw[HF.o];exact⟨rfl,HG1.o,HB1.o⟩
def cutGap:List UInt8->List UInt8×List UInt8×Bool
 | []=>([],[],false)
 | [_]=>([],[],false)
 | c::d::r=>if c=58/\d=58 then([],r,true)else if(cutGap (d::r)).2.2=true then(c::(cutGap (d::r)).1,(cutGap (d::r)).2.1,true)else([],[],false)
theorem Zll{l:LB}(h:l.length<=1):cutGap l=([],[],false):=by
 match l,h with
 | [],_=>rfl
 | [_],_=>rfl
def Zi6(l:List UInt8)(k:Nat):Prop:=cutGap l=if(cutGap (l.drop k)).2.2=true then(l.take k++(cutGap (l.drop k)).1,(cutGap (l.drop k)).2.1,true)else([],[],false)
theorem Zhe{l:LB}(h:(cutGap l).2.2=false):cutGap l=([],[],false):=by
 match l,h with
 | [],_=>rfl
 | [_],_=>rfl
 | c::d::r,h=>
  rw[cutGap]at h ⊢
  split at h
  .cases h
  .rename_i hc
   rw[ifN hc]
   split at h
   .cases h
   .rename_i hd;rw[ifN hd]
theorem Zqe(l:LB):Zi6 l 0:=by
 unfold Zi6
 cases h:(cutGap l).2.2
 .rw[Xu,h,ifN (by decide)];exact Zhe h
 .rw[Xu,h,ifP rfl,List.take_zero,Xz];rw[<-h]
theorem Zyd(s:BA)(k:Nat)(h:k+1<s.size):(tl s).drop k=s[k]::s[k+1]::(tl s).drop (k+2):=by rw[ZB s k (by omega),ZB s (k+1) h]
theorem Zqf{s:BA}{k:Nat}(hk:k+1<s.size)(h:Zi6 (tl s) k)(hn:¬(s[k]=58/\s[k+1]=58)):Zi6 (tl s) (k+1):=by
 unfold Zi6 at *
 rw[h,Zyd s k hk,cutGap,ifN hn,<-ZB s (k+1) hk,Zt s k (by omega)]
 cases hq:(cutGap ((tl s).drop (k+1))).2.2
 .rfl
 .simp
theorem Zsi{s:BA}{k:Nat}(hk:k+1<s.size)(h:Zi6 (tl s) k)(hn:s[k]=58/\s[k+1]=58):cutGap (tl s)=((tl s).take k,(tl s).drop (k+2),true):=by unfold Zi6 at h;rw[h,Zyd s k hk,cutGap,ifP hn,ifP rfl,Xt]
theorem Zsj{s:BA}{k:Nat}(hk:s.size<=k+1)(h:Zi6 (tl s) k):cutGap (tl s)=([],[],false):=by
 unfold Zi6 at h
 rw[h,Zll (by rw[Xm,Za];omega),ifN (by decide)]
theorem ZoS(b:UInt8):((b.toNat:Int)==58)=true↔b=58:=by
 rw[beq_iff_eq]
 constructor
 .intro h;exact Xy.1 (by show b.toNat=58;omega)
 .intro h;rw[h];rfl
theorem Zqg(s:BA)(w:World)(hs:s.size<=1000000):Calls prog 316 #[J s] w fun e w'=>Zp6 (cutGap (tl s)) e/\Nx w w':=by
 go_enter func316,ntmps316
 go_wp2
 go_loop [5] (fun i=>∃k:Nat,k<=s.size/\i=I X k/\Zi6 (tl s) k) (fun i=>s.size-(intOf i).toNat)
 case atStart=>exact⟨0,Xc _,rfl,Zqe _⟩
 case round=>
  obtain⟨k,hk,rfl,ha⟩:=hrel;have HA:=A ha;clear ha
  by_cases hlt:k+1<s.size
  .have hb:=bb s[k]
   have hb1:=bb s[k+1]
   have HS:=A (fun hn=>Zqf hlt HA.o hn)
   have HH:=A (fun hn=>Zsi hlt HA.o hn)
   cases h0:((s[k].toNat:Int)==58)
   focus
    have HN:=A (HS.o (fun h=>by rw[(ZoS _).2 h.1]at h0;cases h0))
   rotate_left
   focus
    cases h1:((s[k+1].toNat:Int)==58)
    focus
     have HN:=A (HS.o (fun h=>by rw[(ZoS _).2 h.2]at h1;cases h1))
    rotate_left
    .have HR:=A (HH.o ⟨(ZoS _).1 h0,(ZoS _).1 h1⟩)
     clear HS HH;go_wp2
     go_region
     all_goals go_wp2
     all_goals go_ret3
     all_goals exact⟨⟨_,_,by rw[HR.o];rfl,by rw[HR.o,tl_to],by rw[HR.o,tl_from]⟩,Nx.rfl.drew⟩
   all_goals
    clear HS HH;go_wp2
    go_round
    exact⟨k+1,by omega,by go_num,HN.o⟩
    simp[intOf];omega
  .have HR:=A (Zsj (Xx hlt) HA.o)
   go_wp2
   go_ret3
   exact⟨⟨_,_,by rw[HR.o];rfl,by rw[HR.o];rfl,by rw[HR.o];rfl⟩,Nx.rfl⟩
def zeros8:List Int:=[0,0,0,0,0,0,0,0]
def zeroG:List Int×Nat:=(zeros8,0)
def grpGo(en:Bool):List Int×Nat->List (List UInt8)->Option (List Int×Nat)
 | g,[]=>some g
 | g,p::r=>
  if en=true/\r=[]/\among 46 p=true then(if(Zba g p).2=true then grpGo en (Zba g p).1 r else none)
  else(if(ZbR g p).2=true then grpGo en (ZbR g p).1 r else none)
def ZA(l:List UInt8)(en:Bool):(List Int×Nat)×Bool:=
 if l=[]then(zeroG,true)else
 match grpGo en zeroG (bsplit 58 l)with
 | none=>(zeroG,false)
 | some g=>(g,true)
theorem Zu0(en:Bool)(bs:LA)(k:Nat)(h:k<bs.length)(g:LI×Nat):grpGo en g ((bs.drop k).map tl) =
  if en=true/\k+1=bs.length/\among 46 (tl bs[k])=true then(if(Zba g (tl bs[k])).2=true then grpGo en (Zba g (tl bs[k])).1 ((bs.drop (k+1)).map tl)else none)
  else(if(ZbR g (tl bs[k])).2=true then grpGo en (ZbR g (tl bs[k])).1 ((bs.drop (k+1)).map tl)else none):=by
 rw[Xo h,Xq,grpGo]
 have hr:((bs.drop (k+1)).map tl=[])↔k+1=bs.length:=by
  constructor
  .intro hn
   have:=congrArg List.length hn;rw[Xd,Xm]at this
   simp at this
   omega
  .intro hlt
   rw[Xh (by omega)]
   rfl
 simp only[hr]
theorem GrpAt.nine{w:World}{gb n:Nat}{a0 a1 a2 a3 a4 a5 a6 a7:Int}(h:GrpAt w gb [a0,a1,a2,a3,a4,a5,a6,a7] n):w.cell? ⟨gb,0,none⟩=some (I X a0)/\w.cell? ⟨gb,1,none⟩=some (I X a1)/\w.cell? ⟨gb,2,none⟩=some (I X a2)/\w.cell? ⟨gb,3,none⟩=some (I X a3)/\w.cell? ⟨gb,4,none⟩=some (I X a4)/\w.cell? ⟨gb,5,none⟩=some (I X a5)/\w.cell? ⟨gb,6,none⟩=some (I X a6)/\w.cell? ⟨gb,7,none⟩=some (I X a7)/\w.cell? ⟨gb,8,none⟩=some (I X (n:Int)):=by
 have h1:=h.1
 refine⟨?_,?_,?_,?_,?_,?_,?_,?_,?_⟩<;>simp[World.cell?,h1]
theorem GrpAt.put{w:World}{gb n:Nat}{ns:LI}(h:GrpAt w gb ns n)(a0 a1 a2 a3 a4 a5 a6 a7:Int)(m:Nat)(m':Int)(hm:m'=(m:Int)):GrpAt (((((((((w.setCell ⟨gb,0,none⟩ (I X a0)).setCell ⟨gb,1,none⟩ (I X a1)).setCell ⟨gb,2,none⟩ (I X a2)).setCell ⟨gb,3,none⟩ (I X a3)).setCell ⟨gb,4,none⟩ (I X a4)).setCell ⟨gb,5,none⟩ (I X a5)).setCell ⟨gb,6,none⟩ (I X a6)).setCell ⟨gb,7,none⟩ (I X a7)).setCell ⟨gb,8,none⟩ (I X m')) gb [a0,a1,a2,a3,a4,a5,a6,a7] m:=by
 subst hm;obtain⟨h1,h2⟩:=h
 match ns,h2 with
 | [_,_,_,_,_,_,_,_],_=>
  refine⟨?_,rfl⟩
  simp[World.setCell,Xe,h1]
theorem Zye{l:LI}(h:l.length=8):∃a0 a1 a2 a3 a4 a5 a6 a7,l=[a0,a1,a2,a3,a4,a5,a6,a7]:=by
 match l,h with
 | [a0,a1,a2,a3,a4,a5,a6,a7],_=>exact⟨a0,a1,a2,a3,a4,a5,a6,a7,rfl⟩
theorem Zsk(w:World):GrpAt (w.alloc (O #[I X 0,I X 0,I X 0,I X 0,I X 0,I X 0,I X 0,I X 0,I X 0] 265)) w.heap.size zeros8 0:=⟨heap_alloc_new w _,rfl⟩
theorem Zqh(g:LI×Nat)(l:LB):(Zba g l).1.1.length=g.1.length:=by
 unfold Zba
 split
 .rfl
 .split
  .rfl
  .split
   .rw[ZhR]
   .rw[ZhR,ZhR]
theorem ZgD(g:LI×Nat)(l:LB):(ZbR g l).1.1.length=g.1.length:=by
 unfold ZbR
 split
 .rfl
 .rw[ZhR]
theorem Zyf{w:World}{b off gb n:Nat}{l:LA}{ns:LI}(h:RowAt 9 Value.string w b off l)(hg:GrpAt w gb ns n):b≠gb:=by
 rintro rfl;obtain⟨cs,fz,hh,-⟩:=h;have h1:=hg.1;rw[hh]at h1;simp only[Option.some.injEq,Obj.cells.injEq]at h1
 exact absurd h1.2.1 (by decide)
theorem Zqi(n:Int)(l:LB):(bsplit n l).length<=l.length+1:=by
 induction l with
 | nil=>simp[bsplit]
 | cons c r ih=>
  rw[bsplit]
  split
  .simp;omega
  .obtain⟨x,q,hx⟩:=ZeF n r
   rw[hx]at ih ⊢
   simp at ih ⊢
   omega
theorem Zsl{w wr:World}{rb:Nat}(hrb:w.heap.size=rb)(h:Nx w wr)(x0 x1 x2 x3 x4 x5 x6 x7 x8:Value):Nx w (((((((((wr.setCell ⟨rb,0,none⟩ x0).setCell ⟨rb,1,none⟩ x1).setCell ⟨rb,2,none⟩ x2).setCell ⟨rb,3,none⟩ x3).setCell ⟨rb,4,none⟩ x4).setCell ⟨rb,5,none⟩ x5).setCell ⟨rb,6,none⟩ x6).setCell ⟨rb,7,none⟩ x7).setCell ⟨rb,8,none⟩ x8):=by subst hrb;exact((((((((h.setCell (Xa _) _).setCell (Xa _) _).setCell (Xa _) _).setCell (Xa _) _).setCell (Xa _) _).setCell (Xa _) _).setCell (Xa _) _).setCell (Xa _) _).setCell (Xa _) _
theorem ZfH(s:BA)(en:Bool)(w:World)(hs:s.size<=1000000):Calls prog 318 #[J s,C en] w fun e w'=>∃(a0 a1 a2 a3 a4 a5 a6 a7:Int) (n:Nat) (ok:Bool),e=Y (.tuple #[.agg #[I X a0,I X a1,I X a2,I X a3,I X a4,I X a5,I X a6,I X a7,I X (n:Int)],C ok])/\ZA (tl s) en=(([a0,a1,a2,a3,a4,a5,a6,a7],n),ok)/\Nx w w':=by
 by_cases h0:s.size=0
 .have HE:=A (show ZA (tl s) en=(zeroG,true)by unfold ZA;rw[ifP (Zz h0)])
  have h0':=Zo h0;clear h0
  go_enter func318,ntmps318
  go_wp2
  exact bodyPost_ret (v:=.tuple #[.agg #[I X 0,I X 0,I X 0,I X 0,I X 0,I X 0,I X 0,I X 0,I X 0],C true]) (by simp[results,results318,go_sem]) rfl ⟨0,0,0,0,0,0,0,0,0,true,rfl,HE.o,Nx.rfl.alloc _⟩
 .have h0':=Zj h0
  have HE:=A (show ZA (tl s) en=match grpGo en zeroG (bsplit 58 (tl s))with|none=>(zeroG,false)|some g=>(g,true)by unfold ZA;rw[ifN (ZdF h0)])
  clear h0
  go_enter func318,ntmps318
  go_wp2_with fail
  refine(ZeG s 58 _ hs).mono ?_
  rintro e w1 ⟨v,bs,rfl,hv,hbs,hn⟩;have HR0:=A (show GrpAt w1 w.heap.size zeros8 0 from((Zsk w).on (Nx.rfl.alloc _)).on hn)
  have HG0:=A (show GrpAt w1 (w.heap.size+1) zeros8 0 from(show GrpAt ((w.alloc _).alloc _) (w.heap.size+1) zeros8 0 by have:=Zsk (w.alloc (O #[I X 0,I X 0,I X 0,I X 0,I X 0,I X 0,I X 0,I X 0,I X 0] 265));simpa using this).on hn)
  have HN1:=A (show Nx w w1 from((Nx.rfl.alloc _).alloc _).then hn);have HBS:=A hbs
  have HSZ:=A (show ∀b∈bs,b.size<=1000000 from fun b hb=>XI (ZfG hbs b hb) hs)
  have hz:w.heap.size+2<=w1.heap.size:=by have:=hn.size;simpa using this
  obtain⟨ao,cap,rfl,hlc,hcap,hnone,hsome⟩:=hv;unfold maxLen at hcap
  have HRW:=A (show ∀k,k<bs.length->∃b off,ao=some ⟨b,off,none⟩/\RowAt 9 Value.string w1 b off bs/\b≠w.heap.size+1 from fun k hk=>by
   obtain⟨a,ha⟩:=Zv hk hnone;obtain⟨b,off,rfl,hr⟩:=hsome a ha
   exact⟨b,off,ha,hr,Zyf hr HG0.o⟩)
  have hbl:bs.length<=s.size+1:=by have h1:=congrArg List.length hbs;rw[Xd]at h1;rw[h1];have:=Zqi 58 (tl s);rw[Za]at this;exact this
  clear hnone hsome hbs hn;generalize hrb:w.heap.size=rb at *;have HRB:=A hrb;clear hrb;go_wp2
  go_loopw [8] (fun i wr=>∃(k:Nat) (g:LI×Nat),k<=bs.length/\i=I X k/\g.1.length=8/\GrpAt wr (rb+1) g.1 g.2/\grpGo en zeroG (bsplit 58 (tl s))=grpGo en g ((bs.drop k).map tl)/\But (rb+1) w1 wr) (fun i _=>bs.length-(intOf i).toNat)
  case atStart=>exact⟨0,zeroG,Xc _,rfl,rfl,HG0.o,by rw[<-HBS.o];rfl,But.refl _ _⟩
  case round=>
   obtain⟨k,g,hk,rfl,hgl,hg,hE,hbut⟩:=hrel;have HGL:=A hgl;have HG:=A hg;have HBT:=A hbut
   have HRR:=A (HR0.o.but hbut (by omega))
   clear hgl hg hbut
   by_cases hlt:k<bs.length
   .obtain⟨b,off,rfl,hr,hne⟩:=HRW.o k hlt
    have hck:=(hr.but HBT.o hne).cell hlt;have hsz:=HSZ.o _ (Xn hlt);rw[Zu0 en bs k hlt]at hE;have HE2:=A hE;clear hE hr hne HRW;generalize bs[k]=p at *
    have HPUT:=A (fun w2 (hb2:But (rb+1) wr w2)=>(HRR.o.but hb2 (by omega)))
    have KEY:=A (show grpGo en zeroG (bsplit 58 (tl s))=none->ZA (tl s) en=(zeroG,false)from fun h=>by rw[HE.o,h])
    by_cases hdot:en=true/\k+1=bs.length/\among 46 (tl p)=true
    focus
     have HF:=A (HE2.o.trans (ifP hdot));obtain⟨rfl,hlast,hA⟩:=hdot;have HA:=A hA
     have hl':((k:Int)==(bs.length:Int)-1)=true:=by rw[beq_iff_eq];omega
     clear HE2 hA hlast
     go_wp2_with (first|(go_at_call 194;refine(ZaQ _ _ _ (Ze hsz)).mono ?_;rintro e w' ⟨rfl,rfl⟩;rw[HA.o])|fail)
     refine(Zqd (rb+1) g p _ HG.o hsz).mono ?_
     rintro e w2 ⟨rfl,h1,h2⟩;have HLN:=A ((Zqh g (tl p)).trans HGL.o);generalize Zba g (tl p)=q at *
    rotate_left
    focus
     have HF:=A (HE2.o.trans (ifN hdot));clear HE2
     have hcase:(en=true/\k+1=bs.length->among 46 (tl p)=false):=fun h=>by
      cases hA:among 46 (tl p)
      .rfl
      .exact absurd ⟨h.1,h.2,hA⟩ hdot
     have CC:=A hcase;clear hcase hdot
     cases en
     focus
      go_wp2_with fail
      refine(ZgC (rb+1) g p _ HG.o hsz).mono ?_
      rintro e w2 ⟨rfl,h1,h2⟩;have HLN:=A ((ZgD g (tl p)).trans HGL.o);generalize ZbR g (tl p)=q at *
     rotate_left
     focus
      by_cases hlast:k+1=bs.length
      focus
       have HA:=A (CC.o ⟨rfl,hlast⟩)
       have hl':((k:Int)==(bs.length:Int)-1)=true:=by rw[beq_iff_eq];omega
       clear hlast CC
       go_wp2_with (first|(go_at_call 194;refine(ZaQ _ _ _ (Ze hsz)).mono ?_;rintro e w' ⟨rfl,rfl⟩;rw[HA.o])|fail)
       refine(ZgC (rb+1) g p _ HG.o hsz).mono ?_
       rintro e w2 ⟨rfl,h1,h2⟩;have HLN:=A ((ZgD g (tl p)).trans HGL.o);generalize ZbR g (tl p)=q at *
      rotate_left
      focus
       have hl':((k:Int)==(bs.length:Int)-1)=false:=beq_eq_false_iff_ne.2 (by omega)
       clear hlast CC;go_wp2_with fail
       refine(ZgC (rb+1) g p _ HG.o hsz).mono ?_
       rintro e w2 ⟨rfl,h1,h2⟩;have HLN:=A ((ZgD g (tl p)).trans HGL.o);generalize ZbR g (tl p)=q at *
    all_goals
     obtain⟨g2,ok⟩:=q;simp only at *;have HG2:=A h1;have HB2:=A (HBT.o.then h2);have HR2:=A (HPUT.o w2 h2);clear h1 h2
     cases ok
     .have HF2:=A (KEY.o (HF.o.trans (ifN (by decide))))
      obtain⟨z0,z1,z2,z3,z4,z5,z6,z7,z8⟩:=HR2.o.nine;have f0:=HR2.o.free 0;have f1:=HR2.o.free 1;have f2:=HR2.o.free 2;have f3:=HR2.o.free 3;have f4:=HR2.o.free 4;have f5:=HR2.o.free 5;have f6:=HR2.o.free 6;have f7:=HR2.o.free 7;have f8:=HR2.o.free 8;have HP:=A (HR2.o.put 0 0 0 0 0 0 0 0 0 0 rfl)
      have HNF:=A (show ∀x0 x1 x2 x3 x4 x5 x6 x7 x8,Nx w (((((((((w2.setCell ⟨rb,0,none⟩ x0).setCell ⟨rb,1,none⟩ x1).setCell ⟨rb,2,none⟩ x2).setCell ⟨rb,3,none⟩ x3).setCell ⟨rb,4,none⟩ x4).setCell ⟨rb,5,none⟩ x5).setCell ⟨rb,6,none⟩ x6).setCell ⟨rb,7,none⟩ x7).setCell ⟨rb,8,none⟩ x8)from Zsl HRB.o (HN1.o.trans (HB2.o.below (by rw[HRB.o];omega) HN1.o.size)))
      go_wp2;obtain⟨y0,y1,y2,y3,y4,y5,y6,y7,y8⟩:=HP.o.nine
      exact bodyPost_ret (v:=.tuple #[.agg #[I X 0,I X 0,I X 0,I X 0,I X 0,I X 0,I X 0,I X 0,I X 0],C false]) (by simp[results,results318,go_sem,y0,y1,y2,y3,y4,y5,y6,y7,y8]) rfl ⟨0,0,0,0,0,0,0,0,0,false,rfl,HF2.o,HNF.o _ _ _ _ _ _ _ _ _⟩
     .have HF2:=A (HF.o.trans (ifP rfl))
      clear HF;go_wp2
      go_roundw
      exact⟨k+1,g2,by omega,by go_num,HLN.o,HG2.o,HF2.o,HB2.o⟩
      simp[intOf];omega
   .have HF:=A (show ZA (tl s) en=(g,true)by rw[HE.o,hE,Xh (by omega)];rfl)
    clear hE;obtain⟨a0,a1,a2,a3,a4,a5,a6,a7,hg8⟩:=Zye HGL.o;obtain⟨g1,n⟩:=g;simp only at hg8;subst hg8;simp only at *;obtain⟨z0,z1,z2,z3,z4,z5,z6,z7,z8⟩:=HG.o.nine;obtain⟨x0,x1,x2,x3,x4,x5,x6,x7,x8⟩:=HRR.o.nine;have f0:=HRR.o.free 0;have f1:=HRR.o.free 1;have f2:=HRR.o.free 2;have f3:=HRR.o.free 3;have f4:=HRR.o.free 4;have f5:=HRR.o.free 5;have f6:=HRR.o.free 6;have f7:=HRR.o.free 7;have f8:=HRR.o.free 8;have HP:=A (HRR.o.put a0 a1 a2 a3 a4 a5 a6 a7 n (n:Int) rfl)
    have HNF:=A (show ∀x0 x1 x2 x3 x4 x5 x6 x7 x8,Nx w (((((((((wr.setCell ⟨rb,0,none⟩ x0).setCell ⟨rb,1,none⟩ x1).setCell ⟨rb,2,none⟩ x2).setCell ⟨rb,3,none⟩ x3).setCell ⟨rb,4,none⟩ x4).setCell ⟨rb,5,none⟩ x5).setCell ⟨rb,6,none⟩ x6).setCell ⟨rb,7,none⟩ x7).setCell ⟨rb,8,none⟩ x8)from Zsl HRB.o (HN1.o.trans (HBT.o.below (by rw[HRB.o];omega) HN1.o.size)))
    go_wp2;obtain⟨y0,y1,y2,y3,y4,y5,y6,y7,y8⟩:=HP.o.nine
    exact bodyPost_ret (v:=.tuple #[.agg #[I X a0,I X a1,I X a2,I X a3,I X a4,I X a5,I X a6,I X a7,I X (n:Int)],C true]) (by simp[results,results318,go_sem,y0,y1,y2,y3,y4,y5,y6,y7,y8]) rfl ⟨a0,a1,a2,a3,a4,a5,a6,a7,n,true,rfl,HF.o,HNF.o _ _ _ _ _ _ _ _ _⟩
def ArrAt(w:World)(gb:Nat)(ns:List Int):Prop:=w.heap[gb]?=some (O (ns.map (Value.int .i64)).toArray 255 (0,0))/\ns.length=8
theorem ArrAt.on{w w':World}{gb:Nat}{ns:LI}(h:ArrAt w gb ns)(hb:Nx w w'):ArrAt w' gb ns:=
 ⟨(hb.block gb (Xb.1 h.1).1).trans h.1,h.2⟩
theorem ArrAt.but{w w':World}{gb q:Nat}{ns:LI}(h:ArrAt w gb ns)(hb:But q w w')(hn:gb≠q):ArrAt w' gb ns:=
 ⟨(hb.block gb (Xb.1 h.1).1 hn).trans h.1,h.2⟩
theorem ArrAt.cell{w:World}{gb:Nat}{ns:LI}(h:ArrAt w gb ns){i:Nat}(hi:i<ns.length):w.cell? ⟨gb,i,none⟩=some (I X ns[i]):=by
 have h1:=h.1
 simp[World.cell?,h1,Xl hi]
theorem ArrAt.free{w:World}{gb:Nat}{ns:LI}(h:ArrAt w gb ns)(i:Nat):w.frozen? ⟨gb,i,none⟩=false:=by
 have h1:=h.1
 simp[World.frozen?,h1]
theorem ArrAt.set{w:World}{gb:Nat}{ns:LI}(h:ArrAt w gb ns)(i:Nat)(x:Int):ArrAt (w.setCell ⟨gb,i,none⟩ (I X x)) gb (ns.set i x):=by
 obtain⟨h1,h2⟩:=h
 refine⟨?_,by rw[XP];exact h2⟩
 simp only[World.setCell,Xe,ifP,h1]
 simp[XH]
theorem ArrAt.nine{w:World}{gb:Nat}{a0 a1 a2 a3 a4 a5 a6 a7:Int}(h:ArrAt w gb [a0,a1,a2,a3,a4,a5,a6,a7]):w.cell? ⟨gb,0,none⟩=some (I X a0)/\w.cell? ⟨gb,1,none⟩=some (I X a1)/\w.cell? ⟨gb,2,none⟩=some (I X a2)/\w.cell? ⟨gb,3,none⟩=some (I X a3)/\w.cell? ⟨gb,4,none⟩=some (I X a4)/\w.cell? ⟨gb,5,none⟩=some (I X a5)/\w.cell? ⟨gb,6,none⟩=some (I X a6)/\w.cell? ⟨gb,7,none⟩=some (I X a7):=by
 have h1:=h.1
 refine⟨?_,?_,?_,?_,?_,?_,?_,?_⟩<;>simp[World.cell?,h1]
theorem ArrAt.put{w:World}{gb:Nat}{ns:LI}(h:ArrAt w gb ns)(a0 a1 a2 a3 a4 a5 a6 a7:Int):ArrAt ((((((((w.setCell ⟨gb,0,none⟩ (I X a0)).setCell ⟨gb,1,none⟩ (I X a1)).setCell ⟨gb,2,none⟩ (I X a2)).setCell ⟨gb,3,none⟩ (I X a3)).setCell ⟨gb,4,none⟩ (I X a4)).setCell ⟨gb,5,none⟩ (I X a5)).setCell ⟨gb,6,none⟩ (I X a6)).setCell ⟨gb,7,none⟩ (I X a7)) gb [a0,a1,a2,a3,a4,a5,a6,a7]:=by
 obtain⟨h1,h2⟩:=h
 match ns,h2 with
 | [_,_,_,_,_,_,_,_],_=>
  refine⟨?_,rfl⟩
  simp[World.setCell,Xe,h1]
theorem Zh7(w:World)(a0 a1 a2 a3 a4 a5 a6 a7:Int):ArrAt (w.alloc (O #[I X a0,I X a1,I X a2,I X a3,I X a4,I X a5,I X a6,I X a7] 255)) w.heap.size [a0,a1,a2,a3,a4,a5,a6,a7]:=⟨heap_alloc_new w _,rfl⟩
theorem ZoT(w:World)(a0 a1 a2 a3 a4 a5 a6 a7:Int)(n:Nat):GrpAt (w.alloc (O #[I X a0,I X a1,I X a2,I X a3,I X a4,I X a5,I X a6,I X a7,I X (n:Int)] 265)) w.heap.size [a0,a1,a2,a3,a4,a5,a6,a7] n:=⟨heap_alloc_new w _,rfl⟩
theorem Zf6{w wr:World}{rb:Nat}(hrb:w.heap.size=rb)(h:Nx w wr)(x0 x1 x2 x3 x4 x5 x6 x7:Value):Nx w ((((((((wr.setCell ⟨rb,0,none⟩ x0).setCell ⟨rb,1,none⟩ x1).setCell ⟨rb,2,none⟩ x2).setCell ⟨rb,3,none⟩ x3).setCell ⟨rb,4,none⟩ x4).setCell ⟨rb,5,none⟩ x5).setCell ⟨rb,6,none⟩ x6).setCell ⟨rb,7,none⟩ x7):=by subst hrb;exact(((((((h.setCell (Xa _) _).setCell (Xa _) _).setCell (Xa _) _).setCell (Xa _) _).setCell (Xa _) _).setCell (Xa _) _).setCell (Xa _) _).setCell (Xa _) _
def Zjw(l:List UInt8):List Int×Bool:=if(ZA l true).2=false∨(ZA l true).1.2≠8 then(zeros8,false)else((ZA l true).1.1,true)
theorem Zqj(s:BA)(w:World)(hs:s.size<=1000000):Calls prog 317 #[J s] w fun e w'=>∃(a0 a1 a2 a3 a4 a5 a6 a7:Int) (ok:Bool),e=Y (.tuple #[.agg #[I X a0,I X a1,I X a2,I X a3,I X a4,I X a5,I X a6,I X a7],C ok])/\Zjw (tl s)=([a0,a1,a2,a3,a4,a5,a6,a7],ok)/\Nx w w':=by
 have HD:=A (show Zjw (tl s)=if(ZA (tl s) true).2=false∨(ZA (tl s) true).1.2≠8 then(zeros8,false)else((ZA (tl s) true).1.1,true)from rfl)
 go_enter func317,ntmps317
 go_wp2_with fail
 refine(ZfH s true _ hs).mono ?_
 rintro e w1 ⟨a0,a1,a2,a3,a4,a5,a6,a7,n,ok,rfl,hq,hn⟩;have HR:=A (show ArrAt w1 w.heap.size zeros8 from(Zh7 w 0 0 0 0 0 0 0 0).on hn);have HN:=A (show Nx w w1 from(Nx.rfl.alloc _).then hn);rw[hq]at HD;simp only at HD;clear hq hn;generalize hrb:w.heap.size=rb at *;have HRB:=A hrb;clear hrb;obtain⟨z0,z1,z2,z3,z4,z5,z6,z7⟩:=HR.o.nine;have f0:=HR.o.free 0;have f1:=HR.o.free 1;have f2:=HR.o.free 2;have f3:=HR.o.free 3;have f4:=HR.o.free 4;have f5:=HR.o.free 5;have f6:=HR.o.free 6;have f7:=HR.o.free 7;have hlt:rb<w1.heap.size:=(Xb.1 HR.o.1).1
 cases ok
 focus
  have HE:=A (HD.o.trans (ifP (Xr rfl)));clear HD
 rotate_left
 focus
  by_cases h8:n=8
  .have HE:=A (HD.o.trans (ifN (by rintro(h|h);cases h;exact h h8)))
   have h8':((n:Int) != 8)=false:=by rw[h8];rfl
   clear HD h8;go_wp2;obtain⟨y0,y1,y2,y3,y4,y5,y6,y7⟩:=((HR.o.put a0 a1 a2 a3 a4 a5 a6 a7).on (Nx.rfl.alloc (O #[I X a0,I X a1,I X a2,I X a3,I X a4,I X a5,I X a6,I X a7,I X (n:Int)] 265))).nine
   exact bodyPost_ret (v:=.tuple #[.agg #[I X a0,I X a1,I X a2,I X a3,I X a4,I X a5,I X a6,I X a7],C true]) (by simp[results,results317,go_sem,y0,y1,y2,y3,y4,y5,y6,y7]) rfl ⟨a0,a1,a2,a3,a4,a5,a6,a7,true,rfl,HE.o,(Zf6 HRB.o HN.o _ _ _ _ _ _ _ _).alloc _⟩
  focus
   have HE:=A (HD.o.trans (ifP (Xp h8)))
   have h8':((n:Int) != 8)=true:=Zjv (beq_eq_false_iff_ne.2 (by omega))
   clear HD h8
 all_goals
  go_wp2;obtain⟨y0,y1,y2,y3,y4,y5,y6,y7⟩:=((HR.o.put 0 0 0 0 0 0 0 0).on (Nx.rfl.alloc (O #[I X a0,I X a1,I X a2,I X a3,I X a4,I X a5,I X a6,I X a7,I X (n:Int)] 265))).nine
  exact bodyPost_ret (v:=.tuple #[.agg #[I X 0,I X 0,I X 0,I X 0,I X 0,I X 0,I X 0,I X 0],C false]) (by simp[results,results317,go_sem,y0,y1,y2,y3,y4,y5,y6,y7]) rfl ⟨0,0,0,0,0,0,0,0,false,rfl,HE.o,(Zf6 HRB.o HN.o _ _ _ _ _ _ _ _).alloc _⟩
def putGo:List Int->Nat->List Int->List Int
 | ns,_,[]=>ns
 | ns,i,x::r=>putGo (ns.set i x) (i+1) r
def ip6(l:List UInt8):List Int×Bool:=
 if(cutGap l).2.2=false then Zjw l else
 if(ZA (cutGap l).1 false).2=false∨(ZA (cutGap l).2.1 true).2=false∨7<(ZA (cutGap l).1 false).1.2+(ZA (cutGap l).2.1 true).1.2 then(zeros8,false)
 else(putGo (ZA (cutGap l).1 false).1.1 (8-(ZA (cutGap l).2.1 true).1.2) ((ZA (cutGap l).2.1 true).1.1.take (ZA (cutGap l).2.1 true).1.2),true)
theorem Zjx(l:LB):(cutGap l).1.length<=l.length/\(cutGap l).2.1.length<=l.length:=by
 match l with
 | []=>exact⟨by simp[cutGap],by simp[cutGap]⟩
 | [_]=>exact⟨by simp[cutGap],by simp[cutGap]⟩
 | c::d::r=>
  have ih:=Zjx (d::r);rw[cutGap]
  split
  .exact⟨by simp,by simp;omega⟩
  .split
   .simp only[Xi]at *
    exact⟨by omega,by omega⟩
   .exact⟨by simp,by simp⟩
theorem Zu1(ns bl:LI)(i k m:Nat)(hk:k<m)(hl:m<=bl.length):putGo ns i ((bl.take m).drop k)=putGo (ns.set i (bl[k]'(by omega))) (i+1) ((bl.take m).drop (k+1)):=by
 have h1:k<(bl.take m).length:=by rw[Xf];omega
 rw[Xo h1,putGo,List.getElem_take]
theorem Zsm(g:LI×Nat)(l:LB)(h:g.2<=8):(ZbR g l).1.2<=8:=by
 unfold ZbR
 split
 .exact h
 .exact Zkt _ _ h
theorem Zsn(g:LI×Nat)(l:LB)(h:g.2<=8):(Zba g l).1.2<=8:=by
 unfold Zba
 split
 .exact h
 .split
  .exact h
  .split
   .exact Zkt _ _ h
   .exact Zkt _ _ (Zkt _ _ h)
theorem grpGo_le(en:Bool)(ps:List LB):∀g q,g.2<=8->grpGo en g ps=some q->q.2<=8:=by
 induction ps with
 | nil=>intro g q h e;rw[grpGo]at e;cases e;exact h
 | cons p r ih=>
  intro g q h e;rw[grpGo]at e
  split at e
  .split at e
   .exact ih _ _ (Zsn g p h) e
   .cases e
  .split at e
   .exact ih _ _ (Zsm g p h) e
   .cases e
theorem Zjy(l:LB)(en:Bool):(ZA l en).1.2<=8:=by
 unfold ZA
 split
 .decide
 .split
  .decide
  .rename_i g e
   exact grpGo_le en _ _ _ (by decide) e
theorem Zxi(s:BA)(w:World)(hs:s.size<=1000000):Calls prog 306 #[J s] w fun e w'=>∃(a0 a1 a2 a3 a4 a5 a6 a7:Int) (ok:Bool),e=Y (.tuple #[.agg #[I X a0,I X a1,I X a2,I X a3,I X a4,I X a5,I X a6,I X a7],C ok])/\ip6 (tl s)=([a0,a1,a2,a3,a4,a5,a6,a7],ok)/\Nx w w':=by
 have HD:=A (show ip6 (tl s)=if(cutGap (tl s)).2.2=false then Zjw (tl s)else
  if(ZA (cutGap (tl s)).1 false).2=false∨(ZA (cutGap (tl s)).2.1 true).2=false∨7<(ZA (cutGap (tl s)).1 false).1.2+(ZA (cutGap (tl s)).2.1 true).1.2 then(zeros8,false)
  else(putGo (ZA (cutGap (tl s)).1 false).1.1 (8-(ZA (cutGap (tl s)).2.1 true).1.2) ((ZA (cutGap (tl s)).2.1 true).1.1.take (ZA (cutGap (tl s)).2.1 true).1.2),true)from rfl)
 have hcl:=Zjx (tl s);rw[Za]at hcl
 go_enter func306,ntmps306
 go_wp2_with fail
 refine(Zqg s _ hs).mono ?_
 rintro e w1 ⟨⟨x,y,rfl,hx,hy⟩,hn1⟩;have HR1:=A (show ArrAt w1 w.heap.size zeros8 from(Zh7 w 0 0 0 0 0 0 0 0).on hn1);have HN1:=A (show Nx w w1 from(Nx.rfl.alloc _).then hn1);rw[<-hx,<-hy]at HD hcl;rw[Za,Za]at hcl;generalize (cutGap (tl s)).2.2=gap at *;obtain⟨hxl,hyl⟩:=hcl;clear hx hy hn1;generalize hrb:w.heap.size=rb at *;have HRB:=A hrb;clear hrb
 cases gap
 .have HE:=A (HD.o.trans (ifP rfl))
  clear HD;go_wp2_with fail
  refine(Zqj s _ hs).mono ?_
  rintro e w2 ⟨a0,a1,a2,a3,a4,a5,a6,a7,ok,rfl,hq,hn⟩;have HQ:=A (HE.o.trans hq);have HR:=A (HR1.o.on hn);have HN:=A (HN1.o.then hn);clear hq hn;obtain⟨z0,z1,z2,z3,z4,z5,z6,z7⟩:=HR.o.nine;have f0:=HR.o.free 0;have f1:=HR.o.free 1;have f2:=HR.o.free 2;have f3:=HR.o.free 3;have f4:=HR.o.free 4;have f5:=HR.o.free 5;have f6:=HR.o.free 6;have f7:=HR.o.free 7;go_wp2;obtain⟨y0,y1,y2,y3,y4,y5,y6,y7⟩:=(HR.o.put a0 a1 a2 a3 a4 a5 a6 a7).nine
  exact bodyPost_ret (v:=.tuple #[.agg #[I X a0,I X a1,I X a2,I X a3,I X a4,I X a5,I X a6,I X a7],C ok]) (by simp[results,results306,go_sem,y0,y1,y2,y3,y4,y5,y6,y7]) rfl ⟨a0,a1,a2,a3,a4,a5,a6,a7,ok,rfl,HQ.o,Zf6 HRB.o HN.o _ _ _ _ _ _ _ _⟩
 .have HD2:=A (HD.o.trans (ifN (by decide)))
  clear HD;go_wp2_with fail
  refine(ZfH x false _ (by omega)).mono ?_
  rintro e w2 ⟨c0,c1,c2,c3,c4,c5,c6,c7,fn,fok,rfl,hq1,hn2⟩
  have hfn:fn<=8:=by have:=Zjy (tl x) false;rw[hq1]at this;exact this
  rw[hq1]at HD2;have HR2:=A (HR1.o.on hn2);have HN2:=A (HN1.o.then hn2);clear hq1 hn2 HR1 HN1;go_wp2_with fail
  refine(ZfH y true _ (by omega)).mono ?_
  rintro e w3 ⟨b0,b1,b2,b3,b4,b5,b6,b7,bn,bok,rfl,hq2,hn3⟩
  have hbn:bn<=8:=by have:=Zjy (tl y) true;rw[hq2]at this;exact this
  rw[hq2]at HD2;simp only at HD2;have HR3:=A (HR2.o.on ((Nx.rfl.alloc _).then hn3));have HN3:=A (HN2.o.then ((Nx.rfl.alloc _).then hn3));have HF3:=A (GrpAt.on (ZoT w2 c0 c1 c2 c3 c4 c5 c6 c7 fn) hn3);generalize hfb:w2.heap.size=fb at *;have hlf:fb<w3.heap.size:=(Xb.1 HF3.o.1).1;have hlr:rb<w3.heap.size:=(Xb.1 HR3.o.1).1;clear hq2 hn3 hfb HR2 HN2;obtain⟨z0,z1,z2,z3,z4,z5,z6,z7⟩:=HR3.o.nine;obtain⟨g0,g1,g2,g3,g4,g5,g6,g7,g8⟩:=HF3.o.nine;have f0:=HR3.o.free 0;have f1:=HR3.o.free 1;have f2:=HR3.o.free 2;have f3:=HR3.o.free 3;have f4:=HR3.o.free 4;have f5:=HR3.o.free 5;have f6:=HR3.o.free 6;have f7:=HR3.o.free 7
  by_cases hbad:fok=false∨bok=false∨7<fn+bn
  .have HE:=A (HD2.o.trans (ifP hbad))
   clear HD2
   cases fok
   rotate_left
   focus
    cases bok
    rotate_left
    focus
     have h7:7<(fn:Int)+(bn:Int):=by
      rcases hbad with h|h|h
      .cases h
      .cases h
      .omega
   all_goals
    clear hbad;go_wp2;obtain⟨y0,y1,y2,y3,y4,y5,y6,y7⟩:=((HR3.o.put 0 0 0 0 0 0 0 0).on (Nx.rfl.alloc (O #[I X b0,I X b1,I X b2,I X b3,I X b4,I X b5,I X b6,I X b7,I X (bn:Int)] 265))).nine
    exact bodyPost_ret (v:=.tuple #[.agg #[I X 0,I X 0,I X 0,I X 0,I X 0,I X 0,I X 0,I X 0],C false]) (by simp[results,results306,go_sem,y0,y1,y2,y3,y4,y5,y6,y7]) rfl ⟨0,0,0,0,0,0,0,0,false,rfl,HE.o,(Zf6 HRB.o HN3.o _ _ _ _ _ _ _ _).alloc _⟩
  .have HE:=A (HD2.o.trans (ifN hbad))
   clear HD2
   have hfok:fok=true:=by cases fok;exact absurd (Xr rfl) hbad;rfl
   have hbok:bok=true:=by cases bok;exact absurd (Xp (Xr rfl)) hbad;rfl
   have h7:(fn:Int)+(bn:Int)<=7:=by have:¬7<fn+bn:=fun h=>hbad (Xp (Xp h));omega
   subst hfok;subst hbok;clear hbad;have HG4:=A (show GrpAt ((w3.alloc (O #[I X b0,I X b1,I X b2,I X b3,I X b4,I X b5,I X b6,I X b7,I X (bn:Int)] 265)).alloc (O #[I X c0,I X c1,I X c2,I X c3,I X c4,I X c5,I X c6,I X c7] 255)) w3.heap.size [b0,b1,b2,b3,b4,b5,b6,b7] bn from(ZoT w3 b0 b1 b2 b3 b4 b5 b6 b7 bn).on (Nx.rfl.alloc _))
   have HA4:=A (show ArrAt ((w3.alloc (O #[I X b0,I X b1,I X b2,I X b3,I X b4,I X b5,I X b6,I X b7,I X (bn:Int)] 265)).alloc (O #[I X c0,I X c1,I X c2,I X c3,I X c4,I X c5,I X c6,I X c7] 255)) (w3.heap.size+1) [c0,c1,c2,c3,c4,c5,c6,c7]from by have:=Zh7 (w3.alloc (O #[I X b0,I X b1,I X b2,I X b3,I X b4,I X b5,I X b6,I X b7,I X (bn:Int)] 265)) c0 c1 c2 c3 c4 c5 c6 c7;simpa using this)
   have HR4:=A (show ArrAt ((w3.alloc (O #[I X b0,I X b1,I X b2,I X b3,I X b4,I X b5,I X b6,I X b7,I X (bn:Int)] 265)).alloc (O #[I X c0,I X c1,I X c2,I X c3,I X c4,I X c5,I X c6,I X c7] 255)) rb zeros8 from HR3.o.on ((Nx.rfl.alloc _).alloc _));have HN4:=A (show Nx w ((w3.alloc (O #[I X b0,I X b1,I X b2,I X b3,I X b4,I X b5,I X b6,I X b7,I X (bn:Int)] 265)).alloc (O #[I X c0,I X c1,I X c2,I X c3,I X c4,I X c5,I X c6,I X c7] 255))from(HN3.o.alloc _).alloc _);go_wp2;generalize hbb:w3.heap.size=bb at *;generalize ((w3.alloc (O #[I X b0,I X b1,I X b2,I X b3,I X b4,I X b5,I X b6,I X b7,I X (bn:Int)] 265)).alloc (O #[I X c0,I X c1,I X c2,I X c3,I X c4,I X c5,I X c6,I X c7] 255))=w4 at *;clear z0 z1 z2 z3 z4 z5 z6 z7 g0 g1 g2 g3 g4 g5 g6 g7 g8 f0 f1 f2 f3 f4 f5 f6 f7 HF3 HR3 HN3 hlf hbb
   go_loopw [12] (fun i wr=>∃(k:Nat) (ns:LI),k<=bn/\i=I X k/\ArrAt wr (bb+1) ns/\putGo [c0,c1,c2,c3,c4,c5,c6,c7] (8-bn) (List.take bn [b0,b1,b2,b3,b4,b5,b6,b7])=putGo ns (8-bn+k) ((List.take bn [b0,b1,b2,b3,b4,b5,b6,b7]).drop k)/\But (bb+1) w4 wr) (fun i _=>bn-(intOf i).toNat)
   case atStart=>exact⟨0,_,Xc _,rfl,HA4.o,rfl,But.refl _ _⟩
   case round=>
    obtain⟨k,ns,hk,rfl,hA,hE,hbut⟩:=hrel;have HA:=A hA;have HBT:=A hbut
    have HG:=A (HG4.o.but hbut (by omega))
    have hc8:=HG.o.count;clear hA hbut
    by_cases hlt:k<bn
    .have hk8:k < [b0,b1,b2,b3,b4,b5,b6,b7].length:=by simp;omega
     have hE2:=hE.trans (Zu1 ns [b0,b1,b2,b3,b4,b5,b6,b7] _ k bn hlt (by simp;omega))
     have hck:=HG.o.cell (i:=k) hk8;obtain⟨m,hm⟩:∃m:Nat,m=8 - bn+k:=⟨_,rfl⟩
     have hml:m<ns.length:=by have:=HA.o.2;omega
     have hcm:=HA.o.cell hml;have hfm:=HA.o.free m;have HAS:=A (HA.o.set m ([b0,b1,b2,b3,b4,b5,b6,b7][k]'hk8));have HBS:=A (HBT.o.set m (I X ([b0,b1,b2,b3,b4,b5,b6,b7][k]'hk8)));rw[<-hm]at hE2;generalize [b0,b1,b2,b3,b4,b5,b6,b7][k]'hk8=u at *
     have hmi:(8:Int)-(bn:Int)+(k:Int)=(m:Int):=by omega
     have hm8:(m:Int)<8:=by omega
     have HE2:=A hE2;have HM:=A hm;generalize ns[m]=un at *;clear hE2 hE hm;go_wp2
     go_region
     all_goals go_wp2
     all_goals exact⟨⟨k+1,ns.set m u,by omega,by simp,HAS.o,by rw[HE2.o,show 8-bn+(k+1)=m+1 by have:=HM.o;omega],HBS.o.drew⟩,by simp[intOf];omega⟩
    .rw[Xh (by rw[Xf];omega),putGo]at hE
     obtain⟨a0,a1,a2,a3,a4,a5,a6,a7,hg8⟩:=Zye HA.o.2;subst hg8
     have HQ:=A (HE.o.trans (by rw[hE]))
     clear hE
     have HR:=A (HR4.o.but HBT.o (by omega))
     have HN:=A (HN4.o.trans (HBT.o.below (by rw[HRB.o];omega) HN4.o.size))
     obtain⟨z0,z1,z2,z3,z4,z5,z6,z7⟩:=HR.o.nine;obtain⟨g0,g1,g2,g3,g4,g5,g6,g7⟩:=HA.o.nine;have f0:=HR.o.free 0;have f1:=HR.o.free 1;have f2:=HR.o.free 2;have f3:=HR.o.free 3;have f4:=HR.o.free 4;have f5:=HR.o.free 5;have f6:=HR.o.free 6;have f7:=HR.o.free 7;go_wp2;obtain⟨y0,y1,y2,y3,y4,y5,y6,y7⟩:=(HR.o.put a0 a1 a2 a3 a4 a5 a6 a7).nine
     exact bodyPost_ret (v:=.tuple #[.agg #[I X a0,I X a1,I X a2,I X a3,I X a4,I X a5,I X a6,I X a7],C true]) (by simp[results,results306,go_sem,y0,y1,y2,y3,y4,y5,y6,y7]) rfl ⟨a0,a1,a2,a3,a4,a5,a6,a7,true,rfl,HQ.o,Zf6 HRB.o HN.o _ _ _ _ _ _ _ _⟩
def ZY(l:List UInt8):Bool:=match l with | [a,b]=>alpha a.toNat&&((b.toNat:Int)==58||(b.toNat:Int)==124)|_=>false
theorem Zfa{l:LB}(h:ZY l=true):l.length=2:=by
 unfold ZY at h
 split at h
 .rfl
 .cases h
theorem Zyg{s:BA}(h:s.size=2):tl s=[s[0],s[1]]:=by
 have h0:=ZB s 0 (by omega)
 have h1:=ZB s 1 (by omega)
 rw[Zu s 2 (by omega)]at h1
 rw[h1]at h0
 simpa using h0
theorem ZdT(s:BA)(w:World):Calls prog 288 #[J s] w fun e w'=>e=Y (C (ZY (tl s)))/\w=w':=by
 by_cases h2:s.size=2
 .have hg:1<s.size:=by omega
  have hg0:0<s.size:=by omega
  have HT:Hid (ZY (tl s)=(alpha (s[0]'hg0).toNat&&(((s[1]'hg).toNat:Int)==58||((s[1]'hg).toNat:Int)==124))):=A (by rw[Zyg h2];rfl)
  have hl:((s.size:Int)==2)=true:=by rw[h2];rfl
  have hb0:=bb (s[0]'hg0);have hb1:=bb (s[1]'hg);clear h2
  cases hA:alpha (s[0].toNat:Int)
  .have HA:=A hA
   clear hA
   go_enter func288,ntmps288
   go_wp2_with (go_at_call 253;refine(Zbm _ _).mono ?_;rintro e w' ⟨rfl,rfl⟩;rw[HA.o])
   all_goals go_ret
   all_goals exact⟨Zm (by rw[HT.o,HA.o];rfl),rfl⟩
  .have HA:=A hA
   clear hA
   cases h58:((s[1].toNat:Int)==58)
   .go_enter func288,ntmps288
    go_wp2_with (go_at_call 253;refine(Zbm _ _).mono ?_;rintro e w' ⟨rfl,rfl⟩;rw[HA.o])
    all_goals go_ret
    all_goals exact⟨Zm (by rw[HT.o,HA.o,h58];simp),rfl⟩
   .go_enter func288,ntmps288
    go_wp2_with (go_at_call 253;refine(Zbm _ _).mono ?_;rintro e w' ⟨rfl,rfl⟩;rw[HA.o])
    all_goals go_ret
    all_goals exact⟨Zm (by rw[HT.o,HA.o,h58];rfl),rfl⟩
 .have HT:=A (show ZY (tl s)=false by
   cases h:ZY (tl s)
   .rfl
   .have:=Zfa h
    rw[Za]at this
    exact absurd this h2)
  have hl:((s.size:Int)==2)=false:=by simp;omega
  clear h2
  go_enter func288,ntmps288
  go_wp2
  all_goals go_ret
  all_goals exact⟨Zm HT.o.symm,rfl⟩
def Zad(l:List UInt8):Bool:=ZY l&&((l.getD 1 0).toNat:Int)==58
theorem Zct(s:BA)(w:World):Calls prog 289 #[J s] w fun e w'=>e=Y (C (Zad (tl s)))/\w=w':=by
 cases hd:ZY (tl s)
 focus
  have HE:=A (show Zad (tl s)=false by unfold Zad;rw[hd];rfl)
  have HD:=A hd;clear hd
 rotate_left
 focus
  have h2:=Zfa hd;rw[Za]at h2
  have hg:1<s.size:=by omega
  have hb1:=bb s[1]
  have HE:=A (show Zad (tl s)=((s[1].toNat:Int)==58)by unfold Zad;rw[hd,Zeb s 1 hg,Bool.true_and])
  have HD:=A hd;clear hd h2
 all_goals
  go_enter func289,ntmps289
  go_wp2_with (go_at_call 288;refine(ZdT _ _).mono ?_;rintro e w' ⟨rfl,rfl⟩;rw[HD.o])
  all_goals go_ret
  all_goals exact⟨Zm HE.o.symm,rfl⟩
def Z3(l:List UInt8):Bool:=ZY (bcut (slB true) l).1
theorem ZdI(s:BA)(w:World)(hs:s.size<=maxLen):Calls prog 256 #[J s] w fun e w'=>e=Y (C (Z3 (tl s)))/\Nx w w':=by
 go_enter func256,ntmps256
 go_wp2_with fail
 refine(Zdq _ _ _ hs).mono ?_
 rintro e w1 ⟨⟨a,b,rfl,ha,hb⟩,hn1⟩
 have HA:=A (show Z3 (tl s)=ZY (tl a)by unfold Z3;rw[ha])
 clear ha hb
 go_wp2_with (go_at_call 288;refine(ZdT _ _).mono ?_;rintro e w' ⟨rfl,rfl⟩)
 go_ret;exact⟨Zm HA.o.symm,hn1⟩
def dotSize(l:List UInt8):Nat:=
 if((l.getD 0 0).toNat:Int)=46 then 1
 else if 3<=l.length/\((l.getD 0 0).toNat:Int)=37/\((l.getD 1 0).toNat:Int)=50/\(((l.getD 2 0).toNat:Int)=101∨((l.getD 2 0).toNat:Int)=69)then 3 else 0
theorem Zqk(l:LB):dotSize l=if((l.getD 0 0).toNat:Int)=46 then 1
 else if 3<=l.length/\((l.getD 0 0).toNat:Int)=37/\((l.getD 1 0).toNat:Int)=50/\(((l.getD 2 0).toNat:Int)=101∨((l.getD 2 0).toNat:Int)=69)then 3 else 0:=rfl
theorem Zql(l:LB):dotSize l<=l.length:=by
 unfold dotSize
 split
 .rename_i h
  cases l with
  | nil=>simp at h
  | cons=>simp
 .split
  .omega
  .omega
theorem Zh8(s:BA)(w:World)(hs:s.size<=maxLen):Calls prog 315 #[J s] w fun e w'=>e=Y (I X (dotSize (tl s):Nat))/\w=w':=by
 unfold maxLen at hs
 by_cases h0:s.size=0
 focus
  have HE:=A (show dotSize (tl s)=0 by rw[Zz h0];rfl)
  have h0':=Zo h0
  have h3:s.size<3:=by omega
  clear h0
 rotate_left
 focus
  have h0':=Zj h0;have hb0:=bb s[0];have HD:=A (Zqk (tl s))
  rw[Za,Zeb s 0 (by omega)]at HD
  cases h46:((s[0].toNat:Int)==46)
  focus
   have HD2:=A (HD.o.trans (ifN (by simpa using h46)))
   clear HD
   by_cases h3:3<=s.size
   focus
    rw[Zeb s 1 (by omega),Zeb s 2 (by omega)]at HD2
    have hb1:=bb s[1];have hb2:=bb s[2]
    by_cases hy:(s[0].toNat:Int)=37/\(s[1].toNat:Int)=50/\((s[2].toNat:Int)=101∨(s[2].toNat:Int)=69)
    focus
     have HE:=A (HD2.o.trans (ifP ⟨h3,hy⟩));clear HD2;obtain⟨y0,y1,y2⟩:=hy
     have z0:((s[0].toNat:Int)==37)=true:=by simpa using y0
     have z1:((s[1].toNat:Int)==50)=true:=by simpa using y1
     cases z2:((s[2].toNat:Int)==101)
     focus
      have z3:((s[2].toNat:Int)==69)=true:=by
       rcases y2 with h|h
       .rw[h]at z2;cases z2
       .simpa using h
      clear y0 y1 y2
     rotate_left
     focus
      clear y0 y1 y2
    rotate_left 2
    focus
     have HE:=A (HD2.o.trans (ifN (fun h=>hy h.2)))
     clear HD2
     cases z0:((s[0].toNat:Int)==37)
     focus
      clear hy
     rotate_left
     focus
      cases z1:((s[1].toNat:Int)==50)
      focus
       clear hy
      rotate_left
      focus
       have z2:((s[2].toNat:Int)==101)=false:=by
        cases h:((s[2].toNat:Int)==101)
        .rfl
        .exact absurd ⟨by simpa using z0,by simpa using z1,Xr (by simpa using h)⟩ hy
       have z3:((s[2].toNat:Int)==69)=false:=by
        cases h:((s[2].toNat:Int)==69)
        .rfl
        .exact absurd ⟨by simpa using z0,by simpa using z1,Xp (by simpa using h)⟩ hy
       clear hy
   rotate_left 5
   focus
    have HE:=A (HD2.o.trans (ifN (fun h=>h3 h.1)))
    clear HD2
    have h3':s.size<3:=by omega
  rotate_left 6
  focus
   have HE:=A (HD.o.trans (ifP (by simpa using h46)))
   clear HD
 all_goals
  go_enter func315,ntmps315
  go_wp2;go_ret
  exact⟨Zaw (by rw[HE.o];rfl),rfl⟩
def cdGo:Nat->Nat->List UInt8->Nat
 | 0,_,_=>0
 | m+1,n,l=>if l=[]then n else if dotSize l=0 then 0 else cdGo m (n+1) (l.drop (dotSize l))
def countDots(l:List UInt8):Nat:=cdGo 3 0 l
theorem Zxj(m:Nat):∀n l,m+n=3->cdGo m n l<=2:=by
 induction m with
 | zero=>intro n l h;simp[cdGo]
 | succ m ih=>
  intro n l h;rw[cdGo]
  split
  .omega
  .split
   .omega
   .exact ih _ _ (by omega)
theorem Zb0(s:BA)(w:World)(hs:s.size<=1000000):Calls prog 302 #[J s] w fun e w'=>e=Y (I X (countDots (tl s):Nat))/\w=w':=by
 go_enter func302,ntmps302
 go_wp2
 go_loop [3,4] (fun r i=>∃(m n:Nat) (q:BA),m+n=3/\r=J q/\i=I X n/\q.size<=s.size/\countDots (tl s)=cdGo m n (tl q)) (fun _ i=>3-(intOf i).toNat)
 case atStart=>exact⟨3,0,s,rfl,rfl,rfl,Xa _,rfl⟩
 case round=>
  obtain⟨m,n,q,hmn,rfl,rfl,hq,hE⟩:=hrel
  cases m with
  | zero=>
   have:n=3:=by omega
   subst this;have HE:=A hE;clear hE hmn;go_wp2;go_ret
   exact⟨Zaw (by rw[HE.o];rfl),rfl⟩
  | succ m=>
   rw[cdGo]at hE
   have hn3:n<3:=by omega
   by_cases h0:q.size=0
   .have HE:=A (hE.trans (ifP (Zz h0)))
    have h0':=Zo h0;clear hE h0;have HM:=A hmn;clear hmn;go_wp2;go_ret
    exact⟨Zaw (by rw[HE.o]),rfl⟩
   .have h0':=Zj h0
    have hE2:=hE.trans (ifN (ZdF h0));have hle:=Zql (tl q);rw[Za]at hle;have HM:=A hmn;clear hE hmn;generalize hd:dotSize (tl q)=d at *;have HD:=A hd;clear hd
    by_cases hd0:d=0
    .have HE:=A (hE2.trans (ifP hd0))
     subst hd0;clear hE2
     go_wp2_with (go_at_call 315;refine(Zh8 _ _ (Ze (by omega))).mono ?_;rintro e w' ⟨rfl,rfl⟩;rw[HD.o])
     go_ret
     exact⟨Zaw (by rw[HE.o];rfl),rfl⟩
    .have HE:=A (hE2.trans (ifN hd0))
     have hd1:((d:Int)==0)=false:=by simp;omega
     clear hE2
     go_wp2_with (go_at_call 315;refine(Zh8 _ _ (Ze (by omega))).mono ?_;rintro e w' ⟨rfl,rfl⟩;rw[HD.o])
     go_round
     exact⟨m,n+1,_,by have:=HM.o;omega,rfl,by go_num,by rw[Zam];omega,by rw[HE.o,tl_from]⟩
     simp[intOf];omega
def RowS(w:World)(nb:Nat)(ns:List ByteArray):Prop:=w.heap[nb]?=some (O (ns.map Value.string).toArray 9 (0,0))
theorem RowS.cell{w:World}{nb:Nat}{ns:LA}(h:RowS w nb ns){i:Nat}(hi:i<ns.length):w.cell? ⟨nb,i,none⟩=some (J ns[i]):=by
 unfold RowS at h
 simp[World.cell?,h,Xl hi]
theorem RowS.free{w:World}{nb:Nat}{ns:LA}(h:RowS w nb ns)(i:Nat):w.frozen? ⟨nb,i,none⟩=false:=by
 unfold RowS at h
 simp[World.frozen?,h]
theorem RowS.set{w:World}{nb:Nat}{ns:LA}(h:RowS w nb ns)(i:Nat)(x:BA):RowS (w.setCell ⟨nb,i,none⟩ (J x)) nb (ns.set i x):=by
 unfold RowS at *;simp only[World.setCell,Xe,ifP,h]
 simp[XH]
theorem Zqm(w:World)(n:Nat):RowS (w.alloc (.cells (madeCells #[Value.string ByteArray.empty] n) 9)) w.heap.size (List.replicate n ByteArray.empty):=by
 unfold RowS;rw[heap_alloc_new]
 congr 2
 apply Array.toList_inj.1
 rw[toList_madeCells_one]
 simp
theorem RowS.own{w:World}{nb base:Nat}{ns:LA}(h:RowS w nb ns)(hb:base<=nb)(hl:ns.length<=maxLen):ZbK w base (.slice (some ⟨nb,0,none⟩) ns.length ns.length) ns:=
 ⟨by simp,.inr ⟨nb,ns.length,_,rfl,hb,h,Xa _,hl,by simp,by rw[Nat.mul_one];exact Xs (by simp)⟩⟩
theorem Zso(bs:LA)(k:Nat)(h:k<bs.length):(bs.take k++List.replicate (bs.length-k) ByteArray.empty).set k bs[k]=bs.take (k+1)++List.replicate (bs.length-(k+1)) ByteArray.empty:=by
 rw[List.set_append_right k _ (by rw[Xf];omega),Xf,show k-min k bs.length=0 by omega,show bs.length-k=(bs.length-(k+1))+1 by omega,List.replicate_succ,List.set_cons_zero,Xw h,Xk]
 rfl
theorem Zu2(bs:LA)(k:Nat)(h:bs.length<=k):bs.take k++List.replicate (bs.length-k) ByteArray.empty=bs:=by
 rw[Xs h,show bs.length-k=0 by omega]
 simp
theorem ZoU(v:Value)(bs:LA)(w:World)(hv:ZbP w v bs)(hl:bs.length<=1000000):Calls prog 264 #[v] w fun e w'=>∃v',e=Y v'/\ZbK w' w.heap.size v' bs/\Nx w w':=by
 obtain⟨ao,cap,rfl,hlc,hcap,hnone,hsome⟩:=hv;unfold maxLen at hcap
 have hmk:=run_make_row' (P:=prog) 78 9 (J ByteArray.empty) 16 underlying78 Zgz rfl .i64 .i64 bs.length (by omega) (by omega)
 go_enter func264,ntmps264
 go_wp2;clear hmk
 go_loopw [4] (fun i wr=>∃k:Nat,k<=bs.length/\i=I X k/\RowS wr w.heap.size (bs.take k++List.replicate (bs.length-k) ByteArray.empty)/\Nx w wr) (fun i _=>bs.length-(intOf i).toNat)
 case atStart=>exact⟨0,Xc _,rfl,by simpa using Zqm w bs.length,Nx.rfl.alloc _⟩
 case round=>
  obtain⟨k,hk,rfl,hrow,hnx⟩:=hrel
  by_cases hlt:k<bs.length
  .obtain⟨a,ha⟩:=Zv hlt hnone
   subst ha;obtain⟨b,off,rfl,hr⟩:=hsome a rfl;have hck:=(hr.on hnx).cell hlt
   have hc2:=hrow.cell (i:=k) (by rw[Xg,Xf,List.length_replicate];omega)
   have hf2:=hrow.free k;have HR:=A (hrow.set k bs[k]);rw[Zso bs k hlt]at HR;have HN:=A (show Nx w (wr.setCell ⟨w.heap.size,k,none⟩ (J bs[k]))from Below.setCell hnx (Xa _) _);clear hnone hsome hr hrow hnx;go_wp2
   go_roundw
   exact⟨k+1,by omega,by go_num,HR.o,HN.o⟩
   simp[intOf];omega
  .rw[Zu2 bs k (by omega)]at hrow
   have HO:=A (hrow.own (Xa _) (Ze hl));have HN:=A hnx;clear hrow hnx;go_wp2;go_ret;exact⟨_,rfl,HO.o,HN.o⟩
def PthAt(w:World)(pb:Nat)(f s:Bool)(v:Value):Prop:=w.heap[pb]?=some (O #[C f,C s,v] 223 (0,0))
theorem PthAt.on{w w':World}{pb:Nat}{f s:Bool}{v:Value}(h:PthAt w pb f s v)(hb:Nx w w'):PthAt w' pb f s v:=
 (hb.block pb (Xb.1 h).1).trans h
theorem PthAt.kp{w w':World}{pb:Nat}{f s:Bool}{v:Value}(h:PthAt w pb f s v)(hb:Kp 9 w w'):PthAt w' pb f s v:=hb.2 pb _ _ _ h (by decide)
theorem PthAt.facts{w:World}{pb:Nat}{f s:Bool}{v:Value}(h:PthAt w pb f s v):w.cell? ⟨pb,0,none⟩=some (C f)/\w.cell? ⟨pb,1,none⟩=some (C s)/\w.cell? ⟨pb,2,none⟩=some v/\w.frozen? ⟨pb,2,none⟩=false:=by
 unfold PthAt at h
 refine⟨?_,?_,?_,?_⟩<;>simp[World.cell?,World.frozen?,h]
theorem PthAt.set{w:World}{pb:Nat}{f s:Bool}{v:Value}(h:PthAt w pb f s v)(u:Value):PthAt (w.setCell ⟨pb,2,none⟩ u) pb f s u:=by
 unfold PthAt at *;simp only[World.setCell,Xe,ifP,h]
 rfl
theorem PthAt.own{w:World}{pb base:Nat}{f s:Bool}{v x:Value}{bs:LA}(h:PthAt w pb f s v)(ho:ZbK w base x bs)(u:Value):ZbK (w.setCell ⟨pb,2,none⟩ u) base x bs:=by
 obtain⟨h1,⟨rfl,h3⟩|⟨g,cap,cur,rfl,h4,h5,h6⟩⟩:=ho
 .exact⟨h1,.inl ⟨rfl,h3⟩⟩
 .refine⟨h1,.inr ⟨g,cap,cur,rfl,h4,?_,h6⟩⟩
  have hne:pb≠g:=by
   intro e;subst e;unfold PthAt at h;rw[h]at h5;simp only[Option.some.injEq,Obj.cells.injEq]at h5
   exact absurd h5.2.1 (by decide)
  simp only[World.setCell,Xe,ifN hne];exact h5
theorem Zsp{w:World}{base g n cap:Nat}{bs:LA}(h:ZbK w base (.slice (some ⟨g,0,none⟩) n cap) bs)(k:Nat)(hk:k<=bs.length):ZbK w base (.slice (some ⟨g,0,none⟩) k cap) (bs.take k):=by
 obtain⟨h1,⟨h2,h3⟩|⟨g',cap',cur,h2,h4,h5,h6,h7,h8,h9⟩⟩:=h
 .cases h2
 .simp only[Value.slice.injEq,Option.some.injEq,Addr.mk.injEq]at h2
  obtain⟨⟨rfl,-⟩,rfl,rfl⟩:=h2
  have hl:(bs.take k).length=k:=by rw[Xf];omega
  refine⟨by simp,.inr ⟨g,cap,cur,by rw[hl],h4,h5,by omega,h7,h8,?_⟩⟩
  rw[hl,XF,<-h9,List.take_take]
  congr 1
  omega
theorem Zh9{w:World}{base:Nat}{v:Value}{bs:LA}(h:ZbK w base v bs)(h0:0<bs.length):∃g cap,v=.slice (some ⟨g,0,none⟩) bs.length cap/\bs.length<=cap/\cap<=maxLen:=by
 obtain⟨h1,⟨h2,h3⟩|⟨g',cap',cur,h2,h4,h5,h6,h7,h8,h9⟩⟩:=h
 .omega
 .exact⟨g',cap',h2,h6,h7⟩
theorem Zjz{w:World}{base:Nat}{v:Value}(h:ZbK w base v []):∃ao cap,v=.slice ao 0 cap:=by
 obtain⟨h1,⟨h2,h3⟩|⟨g',cap',cur,h2,h4,h5,h6,h7,h8,h9⟩⟩:=h
 .exact⟨_,_,h2⟩
 .exact⟨_,_,h2⟩
def ZaK(f:Bool)(ps:List (List UInt8)):List (List UInt8):=if f=true/\ps.length=1/\Zad (ps.getD 0 [])=true then ps else ps.take (ps.length-1)
theorem Zqn(f:Bool)(ps:List LB):(ZaK f ps).length<=ps.length:=by
 unfold ZaK
 split
 .omega
 .rw[Xf];omega
theorem Zkv(bs:LA)(h:0<bs.length):(bs.map tl).getD 0 []=tl bs[0]:=by rw[Xj,XL,Xl h];rfl
theorem ZfI(pb base:Nat)(f s:Bool)(v:Value)(bs:LA)(w:World)(hp:PthAt w pb f s v)(ho:ZbK w base v bs)(hb:base<=pb)(hl:bs.length<=1000000):Calls prog 291 #[.pointer (some ⟨pb,0,none⟩)] w fun e w'=>∃x v' bs',e=Y x/\PthAt w' pb f s v'/\ZbK w' base v' bs'/\bs'.map tl=ZaK f (bs.map tl)/\Below base w w':=by
 obtain⟨hc0,hc1,hc2,hf2⟩:=hp.facts;have HP:=A hp;have HO:=A ho;have HB:=A hb;clear hp ho hb;rcases XM bs.length with h0|hpos
 .have e0:bs=[]:=List.eq_nil_of_length_eq_zero h0
  subst e0;obtain⟨ao,cap,rfl⟩:=Zjz HO.o;clear h0
  go_enter func291,ntmps291
  go_wp2
  exact bodyPost_ret (v:=.tuple #[]) (by simp[results,results291,go_sem]) rfl ⟨_,_,_,rfl,HP.o,HO.o,by cases f<;>rfl,Below.refl _ _⟩
 .obtain⟨g,cap,rfl,hlc,hcm⟩:=Zh9 HO.o hpos
  have hrow:=(Zcf HO.o).open_ (k:=0) hpos;obtain⟨b,off,cap2,he,-,-,hr⟩:=hrow;simp only[Value.slice.injEq,Option.some.injEq,Addr.mk.injEq]at he;obtain⟨⟨rfl,rfl,-⟩,-,rfl⟩:=he;have hck:=hr.cell (i:=0) hpos;rw[Nat.add_zero]at hck
  have hn0:((bs.length:Int)==0)=false:=beq_eq_false_iff_ne.2 (by omega)
  unfold maxLen at hcm
  have HT:=A (Zsp HO.o (bs.length-1) (by omega))
  have HM:=A (Zkv bs hpos)
  by_cases hstop:f=true/\bs.length=1/\Zad (tl bs[0])=true
  .obtain⟨rfl,hl1,hw⟩:=hstop
   have hl1':((bs.length:Int)==1)=true:=by rw[hl1];rfl
   have HE:=A (show ZaK true (bs.map tl)=bs.map tl by unfold ZaK;rw[ifP ⟨rfl,by rw[Xd];exact hl1,by rw[HM.o];exact hw⟩])
   have HW:=A hw;clear hw hl1 hr
   go_enter func291,ntmps291
   go_wp2_with (go_at_call 289;refine(Zct _ _).mono ?_;rintro e w' ⟨rfl,rfl⟩;rw[HW.o])
   exact bodyPost_ret (v:=.tuple #[]) (by simp[results,results291,go_sem]) rfl ⟨_,_,_,rfl,HP.o,HO.o,HE.o.symm,Below.refl _ _⟩
  .have HE:=A (show ZaK f (bs.map tl)=(bs.take (bs.length-1)).map tl by
    unfold ZaK
    rw[ifN (by rw[Xd,HM.o];exact hstop),Xd,XF])
   have HR:=A (show ∀u,PthAt (w.setCell ⟨pb,2,none⟩ u) pb f s u from fun u=>HP.o.set u)
   have HS:=A (show ∀u,ZbK (w.setCell ⟨pb,2,none⟩ u) base (.slice (some ⟨g,0,none⟩) (bs.length-1) cap) (bs.take (bs.length-1))from fun u=>HP.o.own HT.o u)
   have HX:=A (show ∀u,Below base w (w.setCell ⟨pb,2,none⟩ u)from fun u=>(Below.refl base w).setCell HB.o u)
   cases f
   focus
    clear hstop hr
    go_enter func291,ntmps291
    go_wp2
   rotate_left
   focus
    by_cases hl1:bs.length=1
    focus
     have hw:Zad (tl bs[0])=false:=by
      cases h:Zad (tl bs[0])
      .rfl
      .exact absurd ⟨rfl,hl1,h⟩ hstop
     have hl1':((bs.length:Int)==1)=true:=by rw[hl1];rfl
     have HW:=A hw;clear hw hl1 hstop hr
     go_enter func291,ntmps291
     go_wp2_with (go_at_call 289;refine(Zct _ _).mono ?_;rintro e w' ⟨rfl,rfl⟩;rw[HW.o])
    rotate_left
    focus
     have hl1':((bs.length:Int)==1)=false:=beq_eq_false_iff_ne.2 (by omega)
     clear hstop hl1 hr
     go_enter func291,ntmps291
     go_wp2
   all_goals
    exact bodyPost_end (v:=.tuple #[]) (by simp[results,results291,go_sem]) rfl ⟨_,_,_,rfl,HR.o _,HS.o _,HE.o.symm,HX.o _⟩
end Go.Proofs.YtchkhibgbnhjpabGreatDoor
