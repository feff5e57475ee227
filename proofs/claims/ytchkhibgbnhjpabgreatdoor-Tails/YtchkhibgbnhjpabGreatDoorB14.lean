import Derived.Test.YtchkhibgbnhjpabGreatDoorB13
open Array renaming getElem?_modify→Xa,getElem?_eq_some_iff→Xd
open List renaming length_take→Xc,mem_of_mem_take→Xe,mem_cons_of_mem→Xf,mem_singleton→Xg,mem_cons_self→Xh,mem_append→Xi,drop_zero→Xj,mem_cons→Xk,mem_map→Xl
open Nat renaming le_refl→Xb
namespace Go.Proofs.YtchkhibgbnhjpabGreatDoor
open Go.RowKit
set_option maxHeartbeats 8000000
def ZgE(b:UInt8):Bool:=(b.toNat:Int)==43||(b.toNat:Int)==45||(b.toNat:Int)==46||decide (48≤(b.toNat:Int)∧(b.toNat:Int)≤57)||alpha b.toNat
def Zcm(l:List UInt8):Bool:=match l with | []=>false|c::r=>alpha c.toNat&&r.all ZgE
theorem ZiU(p:UInt8→Bool)(s:BA)(k:Nat)(h:k<s.size)(he:p s[k]=false)(h1:1≤k):((tl s).drop 1).all p=false:=by
 rw[List.all_eq_false]
 refine⟨s[k],?_,by rw[he];decide⟩
 rw[←Zew s k h]
 rw[show(tl s)[k]'(by rw[tl_length];exact h)=((tl s).drop 1)[k-1]'(by rw[List.length_drop,tl_length];omega)by rw[List.getElem_drop];congr 1;omega]
 exact List.getElem_mem _
theorem Zh9(s:BA)(w:World)(hs:s.size≤1000000):Calls Tryz.prog 221 #[.string s] w fun e w'=>e=.returned (.bool (Zcm (tl s)))∧w=w':=by
 by_cases h0:s.size=0
 ·have HE:=Za (show Zcm (tl s)=false by rw[Zw h0];rfl)
  have h0':=Zl h0;clear h0
  go_enter Tryz.func221,Tryz.ntmps221
  go_wp2;go_ret;exact⟨Zo HE.out.symm,rfl⟩
 have hpos:0<s.size:=by omega
 have h0':=Zh h0;have hb0:=bb (s[0]'hpos)
 have HD:=Za (show Zcm (tl s)=(alpha (s[0]'hpos).toNat&&((tl s).drop 1).all ZgE)by have:=ZI s 0 hpos;rw[Xj]at this;rw[this];rfl)
 clear h0
 cases hA:alpha ((s[0]'hpos).toNat:Int)
 ·have HA:=Za hA
  have HE:=Za (show Zcm (tl s)=false by rw[HD.out,hA];rfl)
  clear hA
  go_enter Tryz.func221,Tryz.ntmps221
  go_wp2_with (go_at_call 253;refine(Zbt _ _).mono ?_;rintro e w' ⟨rfl,rfl⟩;rw[HA.out])
  go_ret;exact⟨Zo HE.out.symm,rfl⟩
 ·have HA:=Za hA
  have HE:=Za (show Zcm (tl s)=((tl s).drop 1).all ZgE by rw[HD.out,hA];rfl)
  clear hA HD
  go_enter Tryz.func221,Tryz.ntmps221
  go_wp2_with (go_at_call 253;refine(Zbt _ _).mono ?_;rintro e w' ⟨rfl,rfl⟩;rw[HA.out])
  go_loop [3] (fun i=>∃k:Nat,1≤k∧k≤s.size∧i=.int .i64 k∧(((tl s).take k).drop 1).all ZgE=true) (fun i=>s.size-(intOf i).toNat)
  case atStart=>exact⟨1,by omega,by omega,rfl,by rw[List.drop_of_length_le (by rw[Xc];omega)];rfl⟩
  case round=>
   obtain⟨k,hk1,hk,rfl,ha⟩:=hrel;have HAL:=Za ha;clear ha
   by_cases hlt:k<s.size
   ·have hb:=bb s[k]
    have HY:=Za (show ZgE s[k]=true→(((tl s).take (k+1)).drop 1).all ZgE=true from fun h=>by
     rw[Zz s k hlt,List.drop_append_of_le_length (by rw[Xc,tl_length];omega),all_snoc,HAL.out,h];rfl)
    have HNO:=Za (show ZgE s[k]=false→Zcm (tl s)=false from fun h=>by rw[HE.out];exact ZiU ZgE s k hlt h hk1)
    have HM:=Za (show ZgE s[k]=((s[k].toNat:Int)==43||(s[k].toNat:Int)==45||(s[k].toNat:Int)==46||decide (48≤(s[k].toNat:Int)∧(s[k].toNat:Int)≤57)||alpha s[k].toNat)from rfl)
    cases h43:((s[k].toNat:Int)==43)
    ·cases h45:((s[k].toNat:Int)==45)
     ·cases h46:((s[k].toNat:Int)==46)
      ·by_cases hd:48≤(s[k].toNat:Int)∧(s[k].toNat:Int)≤57
       ·have HG:=Za (HY.out (by rw[HM.out,decide_eq_true hd];simp))
        obtain⟨hd1,hd2⟩:=hd;clear HY HNO;go_wp2
        go_round
        case rel=>exact⟨k+1,by omega,by omega,by go_num,HG.out⟩
        case measure=>simp[intOf];omega
       ·cases hal:alpha (s[k].toNat:Int)
        ·have HG:=Za (HNO.out (by rw[HM.out,h43,h45,h46,decide_eq_false hd,hal];rfl))
         have HALP:=Za hal;clear HY HNO hal
         by_cases hd1:48≤(s[k].toNat:Int)
         ·have hd2:¬(s[k].toNat:Int)≤57:=fun h=>hd ⟨hd1,h⟩
          clear hd
          go_wp2_with (go_at_call 253;refine(Zbt _ _).mono ?_;rintro e w' ⟨rfl,rfl⟩;rw[HALP.out])
          go_ret;exact⟨Zo HG.out.symm,rfl⟩
         ·clear hd
          go_wp2_with (go_at_call 253;refine(Zbt _ _).mono ?_;rintro e w' ⟨rfl,rfl⟩;rw[HALP.out])
          go_ret;exact⟨Zo HG.out.symm,rfl⟩
        ·have HG:=Za (HY.out (by rw[HM.out,hal];simp))
         have HALP:=Za hal;clear HY HNO hal
         by_cases hd1:48≤(s[k].toNat:Int)
         ·have hd2:¬(s[k].toNat:Int)≤57:=fun h=>hd ⟨hd1,h⟩
          clear hd
          go_wp2_with (go_at_call 253;refine(Zbt _ _).mono ?_;rintro e w' ⟨rfl,rfl⟩;rw[HALP.out])
          go_round
          case rel=>exact⟨k+1,by omega,by omega,by go_num,HG.out⟩
          case measure=>simp[intOf];omega
         ·clear hd
          go_wp2_with (go_at_call 253;refine(Zbt _ _).mono ?_;rintro e w' ⟨rfl,rfl⟩;rw[HALP.out])
          go_round
          case rel=>exact⟨k+1,by omega,by omega,by go_num,HG.out⟩
          case measure=>simp[intOf];omega
      ·have HG:=Za (HY.out (by rw[HM.out,h46];simp))
       clear HY HNO;go_wp2
       go_round
       case rel=>exact⟨k+1,by omega,by omega,by go_num,HG.out⟩
       case measure=>simp[intOf];omega
     ·have HG:=Za (HY.out (by rw[HM.out,h45];simp))
      clear HY HNO;go_wp2
      go_round
      case rel=>exact⟨k+1,by omega,by omega,by go_num,HG.out⟩
      case measure=>simp[intOf];omega
    ·have HG:=Za (HY.out (by rw[HM.out,h43];simp))
     clear HY HNO;go_wp2
     go_round
     case rel=>exact⟨k+1,by omega,by omega,by go_num,HG.out⟩
     case measure=>simp[intOf];omega
   ·have HF:=Za (show Zcm (tl s)=true by rw[HE.out];have h:=HAL.out;rw[Z3 s k (by omega)]at h;exact h)
    go_wp2;go_ret;exact⟨Zo HF.out.symm,rfl⟩
def Zaw(l:List UInt8):List UInt8×List UInt8×Bool:=
 if(bcut (isB 58) l).2.2=true∧Zcm (bcut (isB 58) l).1=true then(lower (bcut (isB 58) l).1,(bcut (isB 58) l).2.1,true)else([],l,false)
theorem ZpP(s:BA)(w:World)(hs:s.size≤1000000):Calls Tryz.prog 187 #[.string s] w fun e w'=>Zpo (Zaw (tl s)) e∧Nx w w':=by
 have HD:=Za (show Zaw (tl s)=if(bcut (isB 58) (tl s)).2.2=true∧Zcm (bcut (isB 58) (tl s)).1=true then(lower (bcut (isB 58) (tl s)).1,(bcut (isB 58) (tl s)).2.1,true)else([],tl s,false)from rfl)
 have hcl:=Zaz (isB 58) (tl s)
 go_enter Tryz.func187,Tryz.ntmps187
 go_wp2_with fail
 refine(Zfb s 58 _ (Zf hs)).mono ?_
 rintro e w1 ⟨⟨a,b,rfl,ha,hb⟩,hn1⟩
 have has:a.size≤1000000:=by have h:=hcl.1;rw[←ha,tl_length,tl_length]at h;omega
 rw[←ha,←hb]at HD;have HN1:=Za hn1;clear ha hb hn1 hcl;generalize (bcut (isB 58) (tl s)).2.2=found at *
 cases found
 ·have HE:=Za (HD.out.trans (if_neg (by rintro⟨h,-⟩;cases h)))
  clear HD;go_wp2
  go_ret3
  exact⟨⟨⟨#[]⟩,s,by rw[HE.out];rfl,by rw[HE.out];rfl,by rw[HE.out]⟩,HN1.out⟩
 ·cases hsc:Zcm (tl a)
  ·have HE:=Za (HD.out.trans (if_neg (by rintro⟨-,h⟩;rw[hsc]at h;cases h)))
   have HSC:=Za hsc;clear HD hsc
   go_wp2_with (go_at_call 221;refine(Zh9 _ _ has).mono ?_;rintro e w' ⟨rfl,rfl⟩;rw[HSC.out])
   go_ret3
   exact⟨⟨⟨#[]⟩,s,by rw[HE.out];rfl,by rw[HE.out];rfl,by rw[HE.out]⟩,HN1.out⟩
  ·have HE:=Za (HD.out.trans (if_pos ⟨rfl,hsc⟩))
   have HSC:=Za hsc;clear HD hsc
   go_wp2_with (first|(go_at_call 221;refine(Zh9 _ _ has).mono ?_;rintro e w' ⟨rfl,rfl⟩;rw[HSC.out])|(go_at_call 222;refine(Zjd _ _ has).mono ?_;rintro e w2 ⟨r,rfl,hr,hn2⟩;have HR:=Za hr;have HN2:=Za (HN1.out.then hn2);clear hr hn2))
   go_ret3
   exact⟨⟨r,b,by rw[HE.out];rfl,by rw[HE.out];exact HR.out,by rw[HE.out]⟩,HN2.out⟩
def ZaQ(sch:List UInt8):Int:=if Zc sch=true then 3 else 2
theorem ZeR(s:BA)(w:World):Calls Tryz.prog 190 #[.bool (Zc (tl s))] w fun e w'=>e=.returned (.int .i64 (ZaQ (tl s)))∧w=w':=by
 cases h:Zc (tl s)
 ·have HE:=Za (show ZaQ (tl s)=2 from if_neg (by rw[h];decide))
  clear h
  go_enter Tryz.func190,Tryz.ntmps190
  go_wp2;go_ret;exact⟨Zam HE.out.symm,rfl⟩
 ·have HE:=Za (show ZaQ (tl s)=3 from if_pos h)
  clear h
  go_enter Tryz.func190,Tryz.ntmps190
  go_wp2;go_ret;exact⟨Zam HE.out.symm,rfl⟩
def cutPortGo(inb:Bool):List UInt8→Option (List UInt8×List UInt8)
 | []=>none
 | c::r=>if(c.toNat:Int)=91 then(cutPortGo true r).map (fun q=>(c::q.1,q.2))else if(c.toNat:Int)=93 then(cutPortGo false r).map (fun q=>(c::q.1,q.2))
  else if(c.toNat:Int)=58∧inb=false then some ([],r)else(cutPortGo inb r).map (fun q=>(c::q.1,q.2))
def Zu(l:List UInt8):List UInt8×List UInt8×Bool:=match cutPortGo false l with|none=>(l,[],false)|some q=>(q.1,q.2,true)
def ZtC(l:List UInt8)(k:Nat)(inb:Bool):Prop:=cutPortGo false l=(cutPortGo inb (l.drop k)).map (fun q=>(l.take k++q.1,q.2))
theorem ZrG(l:LB):ZtC l 0 false:=by
 unfold ZtC;rw[Xj,List.take_zero]
 cases cutPortGo false l<;>rfl
theorem Zkk{s:BA}{k:Nat}{inb inb':Bool}(hk:k<s.size)(h:ZtC (tl s) k inb)(hs:cutPortGo inb (s[k]::(tl s).drop (k+1))=(cutPortGo inb' ((tl s).drop (k+1))).map (fun q=>(s[k]::q.1,q.2))):ZtC (tl s) (k+1) inb':=by
 unfold ZtC at *;rw[h,ZI s k hk,hs,Zz s k hk]
 cases cutPortGo inb' ((tl s).drop (k+1))with
 | none=>rfl
 | some q=>simp
theorem Zt9{s:BA}{k:Nat}(hk:k<s.size)(h:ZtC (tl s) k false)(h91:¬(s[k].toNat:Int)=91)(h93:¬(s[k].toNat:Int)=93)(h58:(s[k].toNat:Int)=58):Zu (tl s)=((tl s).take k,(tl s).drop (k+1),true):=by
 unfold ZtC at h;rw[ZI s k hk,cutPortGo,if_neg h91,if_neg h93,if_pos ⟨h58,rfl⟩]at h;unfold Zu;rw[h]
 simp
theorem Zua{s:BA}{k:Nat}{inb:Bool}(hk:s.size≤k)(h:ZtC (tl s) k inb):Zu (tl s)=(tl s,[],false):=by
 unfold ZtC at h;rw[ZC s k hk]at h;unfold Zu;rw[h]
 rfl
theorem Zm6(s:BA)(w:World)(hs:s.size≤1000000):Calls Tryz.prog 275 #[.string s] w fun e w'=>Zpo (Zu (tl s)) e∧Nx w w':=by
 go_enter Tryz.func275,Tryz.ntmps275
 go_wp2
 go_loop [5,6] (fun b i=>∃(k:Nat) (inb:Bool),k≤s.size∧b=.bool inb∧i=.int .i64 k∧ZtC (tl s) k inb) (fun _ i=>s.size-(intOf i).toNat)
 case atStart=>exact⟨0,false,Nat.zero_le _,rfl,rfl,ZrG _⟩
 case round=>
  obtain⟨k,inb,hk,rfl,rfl,ha⟩:=hrel;have HA:=Za ha;clear ha
  by_cases hlt:k<s.size
  ·have hb:=bb s[k]
   cases h91:((s[k].toNat:Int)==91)
   ·have e91:¬(s[k].toNat:Int)=91:=by simpa using h91
    cases h93:((s[k].toNat:Int)==93)
    ·have e93:¬(s[k].toNat:Int)=93:=by simpa using h93
     cases h58:((s[k].toNat:Int)==58)
     ·have e58:¬(s[k].toNat:Int)=58:=by simpa using h58
      have HG:=Za (Zkk (inb':=inb) hlt HA.out (by rw[cutPortGo,if_neg e91,if_neg e93,if_neg (fun h=>e58 h.1)]))
      clear e91 e93 e58;go_wp2
      go_round
      case rel=>exact⟨k+1,inb,by omega,rfl,by go_num,HG.out⟩
      case measure=>simp[intOf];omega
     ·cases inb
      ·have HR:=Za (Zt9 hlt HA.out e91 e93 (by simpa using h58))
       clear e91 e93;go_wp2
       go_region
       all_goals go_wp2
       all_goals go_ret3
       all_goals exact⟨⟨_,_,by rw[HR.out];rfl,by rw[HR.out,tl_to],by rw[HR.out,tl_from]⟩,Nx.rfl.drew⟩
      ·have HG:=Za (Zkk (inb':=true) hlt HA.out (by rw[cutPortGo,if_neg e91,if_neg e93,if_neg (fun h=>by cases h.2)]))
       clear e91 e93;go_wp2
       go_round
       case rel=>exact⟨k+1,true,by omega,rfl,by go_num,HG.out⟩
       case measure=>simp[intOf];omega
    ·have HG:=Za (Zkk (inb':=false) hlt HA.out (by rw[cutPortGo,if_neg e91,if_pos (by simpa using h93)]))
     clear e91;go_wp2
     go_round
     case rel=>exact⟨k+1,false,by omega,rfl,by go_num,HG.out⟩
     case measure=>simp[intOf];omega
   ·have HG:=Za (Zkk (inb':=true) hlt HA.out (by rw[cutPortGo,if_pos (by simpa using h91)]))
    go_wp2
    go_round
    case rel=>exact⟨k+1,true,by omega,rfl,by go_num,HG.out⟩
    case measure=>simp[intOf];omega
  ·have HR:=Za (Zua (Nat.le_of_not_lt hlt) HA.out)
   go_wp2
   go_ret3
   exact⟨⟨_,_,by rw[HR.out];rfl,by rw[HR.out],by rw[HR.out];rfl⟩,Nx.rfl⟩
def ZeS:List UInt8:=[108,111,99,97,108,104,111,115,116]
def ZH(l:List UInt8):List UInt8×Int:=if l=[]then([],0)else if(ZT l true).2≠0 then([],(ZT l true).2)else if(ZT l true).1=ZeS then([],0)else((ZT l true).1,0)
theorem Zln(s:BA)(w:World)(hs:s.size≤1000000)(ht:Tb w):Calls Tryz.prog 274 #[.string s] w fun e w'=>∃r:BA,e=.returned (.tuple #[.string r,.int .i64 (ZH (tl s)).2])∧tl r=(ZH (tl s)).1∧Nx w w':=by
 by_cases h0:s.size=0
 ·have HE:=Za (show ZH (tl s)=([],0)from if_pos (Zw h0))
  have h0':=Zl h0;clear h0
  go_enter Tryz.func274,Tryz.ntmps274
  go_wp2;go_ret2
  exact⟨⟨#[]⟩,by rw[HE.out];rfl,by rw[HE.out];rfl,Nx.rfl⟩
 ·have HE:=Za (show ZH (tl s)=if(ZT (tl s) true).2≠0 then([],(ZT (tl s) true).2)else if(ZT (tl s) true).1=ZeS then([],0)else((ZT (tl s) true).1,0)from if_neg (ZcO h0))
  have h0':=Zh h0;clear h0
  go_enter Tryz.func274,Tryz.ntmps274
  go_wp2_with fail
  refine(Zlk s true _ hs ht).mono ?_
  rintro e w1 ⟨r,rfl,hr,hn⟩;have HN:=Za hn;rw[←hr]at HE;have HR:=Za hr;clear hn hr;generalize (ZT (tl s) true).2=err at *
  by_cases he:err=0
  ·subst he
   have HE2:=Za (HE.out.trans (if_neg (by decide)))
   clear HE
   by_cases hl:tl r=ZeS
   ·have HE3:=Za (HE2.out.trans (if_pos hl))
    have hl':=eqB hl;unfold ZeS at hl';clear HE2 hl;go_wp2;go_ret2
    exact⟨⟨#[]⟩,by rw[HE3.out];rfl,by rw[HE3.out];rfl,HN.out⟩
   ·have HE3:=Za (HE2.out.trans (if_neg hl))
    have hl':=neB hl;unfold ZeS at hl';clear HE2 hl;go_wp2;go_ret2
    exact⟨r,by rw[HE3.out];rfl,by rw[HE3.out],HN.out⟩
  ·have HE2:=Za (HE.out.trans (if_pos he))
   have he':(err != 0)=true:=ZhB (beq_eq_false_iff_ne.2 he);clear HE he;go_wp2;go_ret2
   exact⟨⟨#[]⟩,by rw[HE2.out];rfl,by rw[HE2.out];rfl,HN.out⟩
def rz:Rc:=⟨⟨#[]⟩,⟨#[]⟩,⟨#[]⟩,false,⟨#[]⟩,false,0,false,⟨#[]⟩,none,0,0,false,⟨#[]⟩,false,⟨#[]⟩⟩
def zeroU:U:=⟨[],[],[],false,[],false,0,false,[],[],false,[],false,[]⟩
theorem ZeC(w:World):RcIs w rz zeroU []:=⟨rfl,SlAt.nil w,by decide,by decide,by decide,by decide,by decide,by decide,by decide,(fun b hb=>by cases hb),by decide,by decide⟩
theorem ZfT(w:World):RecB (w.alloc (Obj.cells #[.string ⟨#[]⟩,.string ⟨#[]⟩,.string ⟨#[]⟩,.bool false,.string ⟨#[]⟩,.bool false,.int .i64 0,.bool false,.string ⟨#[]⟩,.slice none 0 0,.bool false,.string ⟨#[]⟩,.bool false,.string ⟨#[]⟩] 101)) w.heap.size rz:=heap_alloc_new w _
def C14(w:World)(b:Nat)(v0 v1 v2 v3 v4 v5 v6 v7 v8 v9 v10 v11 v12 v13:Value):Prop:=w.heap[b]?=some (Obj.cells #[v0,v1,v2,v3,v4,v5,v6,v7,v8,v9,v10,v11,v12,v13] 101 (0,0))
theorem C14.on{w w':World}{b:Nat}{v0 v1 v2 v3 v4 v5 v6 v7 v8 v9 v10 v11 v12 v13:Value}(h:C14 w b v0 v1 v2 v3 v4 v5 v6 v7 v8 v9 v10 v11 v12 v13)(hb:Nx w w'):C14 w' b v0 v1 v2 v3 v4 v5 v6 v7 v8 v9 v10 v11 v12 v13:=(hb.block b (Xd.1 h).1).trans h
theorem RecB.put{w:World}{b:Nat}{r:Rc}(h:RecB w b r)(v0 v1 v2 v3 v4 v5 v6 v7 v8 v9 v10 v11 v12 v13:Value):C14 ((((((((((((((w.setCell ⟨b,0,none⟩ v0).setCell ⟨b,1,none⟩ v1).setCell ⟨b,2,none⟩ v2).setCell ⟨b,3,none⟩ v3).setCell ⟨b,4,none⟩ v4).setCell ⟨b,5,none⟩ v5).setCell ⟨b,6,none⟩ v6).setCell ⟨b,7,none⟩ v7).setCell ⟨b,8,none⟩ v8).setCell ⟨b,9,none⟩ v9).setCell ⟨b,10,none⟩ v10).setCell ⟨b,11,none⟩ v11).setCell ⟨b,12,none⟩ v12).setCell ⟨b,13,none⟩ v13) b v0 v1 v2 v3 v4 v5 v6 v7 v8 v9 v10 v11 v12 v13:=by
 unfold RecB at h;unfold C14
 simp[World.setCell,Xa,h]
theorem C14.cells{w:World}{b:Nat}{v0 v1 v2 v3 v4 v5 v6 v7 v8 v9 v10 v11 v12 v13:Value}(h:C14 w b v0 v1 v2 v3 v4 v5 v6 v7 v8 v9 v10 v11 v12 v13):w.cell? ⟨b,0,none⟩=some v0∧w.cell? ⟨b,1,none⟩=some v1∧w.cell? ⟨b,2,none⟩=some v2∧w.cell? ⟨b,3,none⟩=some v3∧w.cell? ⟨b,4,none⟩=some v4∧w.cell? ⟨b,5,none⟩=some v5∧w.cell? ⟨b,6,none⟩=some v6∧w.cell? ⟨b,7,none⟩=some v7∧w.cell? ⟨b,8,none⟩=some v8∧w.cell? ⟨b,9,none⟩=some v9∧w.cell? ⟨b,10,none⟩=some v10∧w.cell? ⟨b,11,none⟩=some v11∧w.cell? ⟨b,12,none⟩=some v12∧w.cell? ⟨b,13,none⟩=some v13:=by
 unfold C14 at h
 refine⟨?_,?_,?_,?_,?_,?_,?_,?_,?_,?_,?_,?_,?_,?_⟩<;>simp[World.cell?,h]
theorem RecB.far{w:World}{b q:Nat}{r:Rc}(h:RecB w b r)(hq:q≠b)(i:Nat)(u:Value):RecB (w.setCell ⟨q,i,none⟩ u) b r:=by unfold RecB at *;simp only[World.setCell,Xa,if_neg hq];exact h
theorem Zd{B:Nat}{a w:World}{b:Nat}(h:Below B a w)(hb:B≤b)(v0 v1 v2 v3 v4 v5 v6 v7 v8 v9 v10 v11 v12 v13:Value):Below B a ((((((((((((((w.setCell ⟨b,0,none⟩ v0).setCell ⟨b,1,none⟩ v1).setCell ⟨b,2,none⟩ v2).setCell ⟨b,3,none⟩ v3).setCell ⟨b,4,none⟩ v4).setCell ⟨b,5,none⟩ v5).setCell ⟨b,6,none⟩ v6).setCell ⟨b,7,none⟩ v7).setCell ⟨b,8,none⟩ v8).setCell ⟨b,9,none⟩ v9).setCell ⟨b,10,none⟩ v10).setCell ⟨b,11,none⟩ v11).setCell ⟨b,12,none⟩ v12).setCell ⟨b,13,none⟩ v13):=
 ((((((((((((((h.setCell hb _).setCell hb _).setCell hb _).setCell hb _).setCell hb _).setCell hb _).setCell hb _).setCell hb _).setCell hb _).setCell hb _).setCell hb _).setCell hb _).setCell hb _).setCell hb _)
def Ks(w w':World):Prop:=∀(k:Nat) (cs:Array Value) (fz:Nat×Nat),w.heap[k]?=some (Obj.cells cs 9 fz)→w'.heap[k]?=some (Obj.cells cs 9 fz)
theorem Ks.rfl{w:World}:Ks w w:=fun _ _ _ h=>h
theorem Ks.then{a b c:World}(h:Ks a b)(k:Ks b c):Ks a c:=fun i cs fz hi=>k i cs fz (h i cs fz hi)
theorem Nx.ks{w w':World}(h:Nx w w'):Ks w w':=fun k _ _ hk=>(h.block k (Xd.1 hk).1).trans hk
theorem ZW{w:World}{pb:Nat}{t:TypeId}(h:TyB w pb t)(ht:t≠9)(i:Nat)(u:Value):Ks w (w.setCell ⟨pb,i,none⟩ u):=by
 intro k cs fz hk;obtain⟨cs',fz',h⟩:=h
 have hne:pb≠k:=by intro e;subst e;rw[h]at hk;simp only[Option.some.injEq,Obj.cells.injEq]at hk;exact ht hk.2.1
 simp only[World.setCell,Xa,if_neg hne];exact hk
theorem RecB.ty{w:World}{b:Nat}{r:Rc}(h:RecB w b r):TyB w b 101:=⟨_,_,h⟩
theorem Zm{w:World}{b:Nat}{t:TypeId}(h:TyB w b t)(ht:t≠9)(v0 v1 v2 v3 v4 v5 v6 v7 v8 v9 v10 v11 v12 v13:Value):Ks w ((((((((((((((w.setCell ⟨b,0,none⟩ v0).setCell ⟨b,1,none⟩ v1).setCell ⟨b,2,none⟩ v2).setCell ⟨b,3,none⟩ v3).setCell ⟨b,4,none⟩ v4).setCell ⟨b,5,none⟩ v5).setCell ⟨b,6,none⟩ v6).setCell ⟨b,7,none⟩ v7).setCell ⟨b,8,none⟩ v8).setCell ⟨b,9,none⟩ v9).setCell ⟨b,10,none⟩ v10).setCell ⟨b,11,none⟩ v11).setCell ⟨b,12,none⟩ v12).setCell ⟨b,13,none⟩ v13):=by have h1:=h.set b 0 v0;have h2:=h1.set b 1 v1;have h3:=h2.set b 2 v2;have h4:=h3.set b 3 v3;have h5:=h4.set b 4 v4;have h6:=h5.set b 5 v5;have h7:=h6.set b 6 v6;have h8:=h7.set b 7 v7;have h9:=h8.set b 8 v8;have h10:=h9.set b 9 v9;have h11:=h10.set b 10 v10;have h12:=h11.set b 11 v11;have h13:=h12.set b 12 v12;exact((((((((((((((ZW h ht 0 v0).then (ZW h1 ht 1 v1)).then (ZW h2 ht 2 v2)).then (ZW h3 ht 3 v3)).then (ZW h4 ht 4 v4)).then (ZW h5 ht 5 v5)).then (ZW h6 ht 6 v6)).then (ZW h7 ht 7 v7)).then (ZW h8 ht 8 v8)).then (ZW h9 ht 9 v9)).then (ZW h10 ht 10 v10)).then (ZW h11 ht 11 v11)).then (ZW h12 ht 12 v12)).then (ZW h13 ht 13 v13))
theorem SlAt.ks{w w':World}{v:Value}{l:LA}(h:Zcv w v l)(hk:Ks w w'):Zcv w' v l:=by
 obtain⟨ao,cap,rfl,hlc,hcap,hnone,hsome⟩:=h
 refine⟨ao,cap,rfl,hlc,hcap,hnone,fun a ha=>?_⟩
 obtain⟨b,off,rfl,cs,fz,hh,hc⟩:=hsome a ha;exact⟨b,off,rfl,cs,fz,hk b cs fz hh,hc⟩
theorem RcIs.ks{w w':World}{r:Rc}{u:U}{bs:LA}(h:RcIs w r u bs)(hk:Ks w w'):RcIs w' r u bs:={ h with seg:=h.seg.ks hk }
theorem Zac{fn:Func}{R:Ending→World→Prop}{a:Act}{W:World}{c t:Tmp}{rb:Nat}{v0 v1 v2 v3 v4 v5 v6 v7 v8 v9 v10 v11 v12 v13:Value}{err:Int}(hres:fn.results=#[.cell c 101,.tmp t])(hc:a.tmps[c]?.getD undef=.pointer (some ⟨rb,0,none⟩))(ht:a.tmps[t]?.getD undef=.int .i64 err)
  (hC:C14 W rb v0 v1 v2 v3 v4 v5 v6 v7 v8 v9 v10 v11 v12 v13) (hd:a.defers=[]) (hR:R (.returned (.tuple #[.agg #[v0,v1,v2,v3,v4,v5,v6,v7,v8,v9,v10,v11,v12,v13],.int .i64 err])) W):bodyPost Tryz.prog fn R .ret a W:=by
 obtain⟨y0,y1,y2,y3,y4,y5,y6,y7,y8,y9,y10,y11,y12,y13⟩:=hC.cells
 exact bodyPost_ret (v:=.tuple #[.agg #[v0,v1,v2,v3,v4,v5,v6,v7,v8,v9,v10,v11,v12,v13],.int .i64 err]) (by simp[results,hres,hc,ht,go_sem,y0,y1,y2,y3,y4,y5,y6,y7,y8,y9,y10,y11,y12,y13]) hd hR
theorem Za0{fn:Func}{R:Ending→World→Prop}{a:Act}{W:World}{c:Tmp}{rb:Nat}{v0 v1 v2 v3 v4 v5 v6 v7 v8 v9 v10 v11 v12 v13:Value}(hres:fn.results=#[.cell c 101])(hc:a.tmps[c]?.getD undef=.pointer (some ⟨rb,0,none⟩))
  (hC:C14 W rb v0 v1 v2 v3 v4 v5 v6 v7 v8 v9 v10 v11 v12 v13) (hd:a.defers=[]) (hR:R (.returned (.agg #[v0,v1,v2,v3,v4,v5,v6,v7,v8,v9,v10,v11,v12,v13])) W):bodyPost Tryz.prog fn R .ret a W:=by
 obtain⟨y0,y1,y2,y3,y4,y5,y6,y7,y8,y9,y10,y11,y12,y13⟩:=hC.cells
 exact bodyPost_ret (v:=.agg #[v0,v1,v2,v3,v4,v5,v6,v7,v8,v9,v10,v11,v12,v13]) (by simp[results,hres,hc,go_sem,y0,y1,y2,y3,y4,y5,y6,y7,y8,y9,y10,y11,y12,y13]) hd hR
def Zfy(e:Ending)(w':World)(x:U×Int)(n:Nat):Prop:=∃(r:Rc) (bs:List ByteArray),e=.returned (.tuple #[.agg #[.string r.sch,.string r.nam,.string r.pw,.bool r.hh,.string r.host,.bool r.hp,.int .i64 (r.port:Int),.bool r.op,.string r.opath,.slice r.so r.sn r.sc,.bool r.hq,.string r.q,.bool r.hf,.string r.fr],.int .i64 x.2])∧RcIs w' r x.1 bs∧bs.length≤n
def ZeD(ps:List (List UInt8)):Prop:=∀p∈ps,p.length≤300000
theorem Zbd(set l:LB)(h:l.length≤30000):(encB set (clean l)).length≤300000:=by
 have h1:=Zj6 set (clean l);have h2:=Zb4 l
 omega
theorem Zhc{f:Bool}{ps:List LB}(h:ZeD ps):ZeD (ZaK f ps):=by
 unfold ZaK
 split
 ·exact h
 ·exact fun p hp=>h p (Xe hp)
theorem Zm7{f:Bool}{ps:List LB}{seg:LB}(h:ZeD ps)(hs:seg.length≤30000):ZeD (joinL f ps seg):=by
 intro p hp;unfold joinL at hp;rcases Xi.1 hp with hp|hp
 ·exact h p hp
 ·rw[Xg]at hp
  subst hp
  split
  ·rw[List.length_append,Xc];simp;omega
  ·exact Zbd _ _ hs
theorem Zia{f:Bool}{ps:List LB}{seg:LB}{last:Bool}(h:ZeD ps)(hs:seg.length≤30000):ZeD (ZdM f ps seg last):=by
 have h2:ZeD (if countDots seg=2 then ZaK f ps else ps):=by split;exact Zhc h;exact h
 unfold ZdM
 split
 ·exact Zm7 h hs
 ·split
  ·intro p hp
   rcases Xi.1 hp with hp|hp
   ·exact h2 p hp
   ·rw[Xg]at hp;subst hp;simp
  ·exact h2
theorem Zlo(f:Bool)(ss:List LB):∀ps,ZeD ps→(∀s∈ss,s.length≤30000)→ZeD (Zch f ps ss):=by
 induction ss with
 | nil=>intro ps h _;exact h
 | cons x r ih=>
  intro ps h hs;have hx:=hs x (Xh ..)
  cases r with
  | nil=>exact Zia h hx
  | cons y q=>exact ih _ (Zia h hx) (fun s hh=>hs s (Xf _ hh))
theorem Zlp(p:UInt8→Bool)(l:LB):∀s∈ZbT p l,s.length≤l.length:=by
 induction l with
 | nil=>intro s hs;rw[ZbT]at hs;simp at hs;subst hs;simp
 | cons c r ih=>
  intro s hs;rw[ZbT]at hs
  split at hs
  ·rcases Xk.1 hs with rfl|hs
   ·simp
   ·have:=ih s hs;simp;omega
  ·obtain⟨x,q,hx⟩:=ZeO p r
   rw[hx]at hs ih;simp only at hs;rcases Xk.1 hs with rfl|hs
   ·have:=ih x (Xh ..);simp;omega
   ·have:=ih s (Xf _ hs);simp;omega
theorem Zel{f sp:Bool}{ps:List LB}{t:LB}(h:ZeD ps)(ht:t.length≤30000):ZeD (Za4 f sp ps t):=
 Zlo f _ ps h (fun s hs=>Nat.le_trans (Zlp _ _ s hs) ht)
theorem Z1{t sch:LB}(ht:t.length≤30000):ZeD (Zbe t sch):=Zel (fun p hp=>by cases hp) ht
theorem Zkl{base:List LB}{t sch:LB}(h:ZeD base)(ht:t.length≤30000):ZeD (ZcQ base t sch):=Zel (Zhc h) ht
theorem ZiV{base:List LB}{t:LB}(h:ZeD base)(ht:t.length≤30000):ZeD (ZaN base t):=by
 unfold ZaN
 split
 ·exact Z1 ht
 ·exact Zel (fun p hp=>h p (Xe hp)) ht
theorem Zax{bs:LA}{ps:List LB}(h:bs.map tl=ps)(hs:ZeD ps):∀b∈bs,b.size≤300000:=fun b hb=>by
 have:=hs (tl b) (by rw[←h];exact Xl.2 ⟨b,hb,rfl⟩)
 rwa [tl_length]at this
theorem RcIs.short{w:World}{r:Rc}{u:U}{bs:LA}(h:RcIs w r u bs):ZeD u.segs:=by
 intro p hp
 have e:u.segs=bs.map tl:=by rw[←h.eq];rfl
 rw[e]at hp;obtain⟨b,hb,rfl⟩:=Xl.1 hp;rw[tl_length];exact h.lseg b hb
theorem RcIs.segs{w:World}{r:Rc}{u:U}{bs:LA}(h:RcIs w r u bs):bs.map tl=u.segs:=by rw[←h.eq];rfl
theorem RcIs.usch{w:World}{r:Rc}{u:U}{bs:LA}(h:RcIs w r u bs):tl r.sch=u.sch:=by rw[←h.eq];rfl
theorem Z5{w w1:World}{ru rb:Rc}(hn:Nx (((w.alloc (Obj.cells #[.string ru.sch,.string ru.nam,.string ru.pw,.bool ru.hh,.string ru.host,.bool ru.hp,.int .i64 (ru.port:Int),.bool ru.op,.string ru.opath,.slice ru.so ru.sn ru.sc,.bool ru.hq,.string ru.q,.bool ru.hf,.string ru.fr] 101)).alloc (Obj.cells #[.string rb.sch,.string rb.nam,.string rb.pw,.bool rb.hh,.string rb.host,.bool rb.hp,.int .i64 (rb.port:Int),.bool rb.op,.string rb.opath,.slice rb.so rb.sn rb.sc,.bool rb.hq,.string rb.q,.bool rb.hf,.string rb.fr] 101)).alloc (Obj.cells #[.string ⟨#[]⟩,.string ⟨#[]⟩,.string ⟨#[]⟩,.bool false,.string ⟨#[]⟩,.bool false,.int .i64 0,.bool false,.string ⟨#[]⟩,.slice none 0 0,.bool false,.string ⟨#[]⟩,.bool false,.string ⟨#[]⟩] 101)) w1):RecB w1 w.heap.size ru∧RecB w1 (w.heap.size+1) rb∧RecB w1 (w.heap.size+1+1) rz∧Nx w w1:=by
 refine⟨((Za5 w ru).on ((Nx.rfl.alloc _).alloc _)).on hn,?_,?_,(((Nx.rfl.alloc _).alloc _).alloc _).then hn⟩
 ·have h:=Za5 (w.alloc (Obj.cells #[.string ru.sch,.string ru.nam,.string ru.pw,.bool ru.hh,.string ru.host,.bool ru.hp,.int .i64 (ru.port:Int),.bool ru.op,.string ru.opath,.slice ru.so ru.sn ru.sc,.bool ru.hq,.string ru.q,.bool ru.hf,.string ru.fr] 101)) rb
  rw[show(w.alloc (Obj.cells #[.string ru.sch,.string ru.nam,.string ru.pw,.bool ru.hh,.string ru.host,.bool ru.hp,.int .i64 (ru.port:Int),.bool ru.op,.string ru.opath,.slice ru.so ru.sn ru.sc,.bool ru.hq,.string ru.q,.bool ru.hf,.string ru.fr] 101)).heap.size=w.heap.size+1 by simp]at h
  exact(h.on (Nx.rfl.alloc _)).on hn
 ·have h:=ZfT ((w.alloc (Obj.cells #[.string ru.sch,.string ru.nam,.string ru.pw,.bool ru.hh,.string ru.host,.bool ru.hp,.int .i64 (ru.port:Int),.bool ru.op,.string ru.opath,.slice ru.so ru.sn ru.sc,.bool ru.hq,.string ru.q,.bool ru.hf,.string ru.fr] 101)).alloc (Obj.cells #[.string rb.sch,.string rb.nam,.string rb.pw,.bool rb.hh,.string rb.host,.bool rb.hp,.int .i64 (rb.port:Int),.bool rb.op,.string rb.opath,.slice rb.so rb.sn rb.sc,.bool rb.hq,.string rb.q,.bool rb.hf,.string rb.fr] 101))
  rw[show((w.alloc (Obj.cells #[.string ru.sch,.string ru.nam,.string ru.pw,.bool ru.hh,.string ru.host,.bool ru.hp,.int .i64 (ru.port:Int),.bool ru.op,.string ru.opath,.slice ru.so ru.sn ru.sc,.bool ru.hq,.string ru.q,.bool ru.hf,.string ru.fr] 101)).alloc (Obj.cells #[.string rb.sch,.string rb.nam,.string rb.pw,.bool rb.hh,.string rb.host,.bool rb.hp,.int .i64 (rb.port:Int),.bool rb.op,.string rb.opath,.slice rb.so rb.sn rb.sc,.bool rb.hq,.string rb.q,.bool rb.hf,.string rb.fr] 101)).heap.size=w.heap.size+1+1 by simp]at h
  exact h.on hn
theorem ZaA{w w1:World}{ru:Rc}(hn:Nx ((w.alloc (Obj.cells #[.string ru.sch,.string ru.nam,.string ru.pw,.bool ru.hh,.string ru.host,.bool ru.hp,.int .i64 (ru.port:Int),.bool ru.op,.string ru.opath,.slice ru.so ru.sn ru.sc,.bool ru.hq,.string ru.q,.bool ru.hf,.string ru.fr] 101)).alloc (Obj.cells #[.string ⟨#[]⟩,.string ⟨#[]⟩,.string ⟨#[]⟩,.bool false,.string ⟨#[]⟩,.bool false,.int .i64 0,.bool false,.string ⟨#[]⟩,.slice none 0 0,.bool false,.string ⟨#[]⟩,.bool false,.string ⟨#[]⟩] 101)) w1):RecB w1 w.heap.size ru∧RecB w1 (w.heap.size+1) rz∧Nx w w1:=by
 refine⟨((Za5 w ru).on (Nx.rfl.alloc _)).on hn,?_,((Nx.rfl.alloc _).alloc _).then hn⟩
 have h:=ZfT (w.alloc (Obj.cells #[.string ru.sch,.string ru.nam,.string ru.pw,.bool ru.hh,.string ru.host,.bool ru.hp,.int .i64 (ru.port:Int),.bool ru.op,.string ru.opath,.slice ru.so ru.sn ru.sc,.bool ru.hq,.string ru.q,.bool ru.hf,.string ru.fr] 101))
 rw[show(w.alloc (Obj.cells #[.string ru.sch,.string ru.nam,.string ru.pw,.bool ru.hh,.string ru.host,.bool ru.hp,.int .i64 (ru.port:Int),.bool ru.op,.string ru.opath,.slice ru.so ru.sn ru.sc,.bool ru.hq,.string ru.q,.bool ru.hf,.string ru.fr] 101)).heap.size=w.heap.size+1 by simp]at h
 exact h.on hn
def Zad(u:U)(left:List UInt8)(base:U):U:=
 if left=[]then { u with segs:=base.segs,hq:=u.hq||base.hq,q:=if u.hq=true then u.q else base.q }else { u with segs:=ZcQ base.segs left u.sch }
theorem Zjo(ru rb:Rc)(u base:U)(bs cs:LA)(left:BA)(w:World)(h1:RcIs w ru u bs)(h2:RcIs w rb base cs)(hcs:cs.length≤60000)(hl:left.size≤30000):Calls Tryz.prog 229 #[.agg #[.string ru.sch,.string ru.nam,.string ru.pw,.bool ru.hh,.string ru.host,.bool ru.hp,.int .i64 (ru.port:Int),.bool ru.op,.string ru.opath,.slice ru.so ru.sn ru.sc,.bool ru.hq,.string ru.q,.bool ru.hf,.string ru.fr],.string left,.agg #[.string rb.sch,.string rb.nam,.string rb.pw,.bool rb.hh,.string rb.host,.bool rb.hp,.int .i64 (rb.port:Int),.bool rb.op,.string rb.opath,.slice rb.so rb.sn rb.sc,.bool rb.hq,.string rb.q,.bool rb.hf,.string rb.fr]] w fun e w'=>∃(r:Rc) (ds:LA),e=.returned (.agg #[.string r.sch,.string r.nam,.string r.pw,.bool r.hh,.string r.host,.bool r.hp,.int .i64 (r.port:Int),.bool r.op,.string r.opath,.slice r.so r.sn r.sc,.bool r.hq,.string r.q,.bool r.hf,.string r.fr])∧RcIs w' r (Zad u (tl left) base) ds∧ds.length≤cs.length+30001∧Nx w w':=by
 have HU:=Za h1;have HBS:=Za h2;clear h1 h2
 by_cases h0:left.size=0
 ·have HE:=Za (show Zad u (tl left) base={ u with segs:=base.segs,hq:=u.hq||base.hq,q:=if u.hq=true then u.q else base.q }from if_pos (Zw h0))
  have h0':=Zl h0;clear h0
  go_enter Tryz.func229,Tryz.ntmps229
  go_wp2_with fail
  refine(Zon _ cs _ (HBS.out.seg.on (((Nx.rfl.alloc _).alloc _).alloc _)) (by omega)).mono ?_
  rintro e w1 ⟨v1,rfl,ho,hn⟩;obtain⟨ao,n,cap,rfl⟩:=ZF ho;obtain⟨g1,g2,g3,g4⟩:=Z5 hn;have HO:=Za (Zp ho);have HUB:=Za g1;have HBB:=Za g2;have HZ:=Za g3;have HN:=Za g4;clear ho hn g1 g2 g3 g4;obtain⟨a0,a1,a2,a3,a4,a5,a6,a7,a8,a9,a10,a11,a12,a13⟩:=HUB.out.cells;have af9:=HUB.out.free 9;have af10:=HUB.out.free 10;have af11:=HUB.out.free 11;obtain⟨-,-,-,-,-,-,-,-,-,-,b10,b11,-,-⟩:=HBB.out.cells;obtain⟨z0,z1,z2,z3,z4,z5,z6,z7,z8,z9,z10,z11,z12,z13⟩:=HZ.out.cells;have zf0:=HZ.out.free 0;have zf1:=HZ.out.free 1;have zf2:=HZ.out.free 2;have zf3:=HZ.out.free 3;have zf4:=HZ.out.free 4;have zf5:=HZ.out.free 5;have zf6:=HZ.out.free 6;have zf7:=HZ.out.free 7;have zf8:=HZ.out.free 8;have zf9:=HZ.out.free 9;have zf10:=HZ.out.free 10;have zf11:=HZ.out.free 11;have zf12:=HZ.out.free 12;have zf13:=HZ.out.free 13
  cases hhq:ru.hq
  ·rw[hhq]at a10
   go_wp2
   refine Za0 (rb:=w.heap.size+1+1) Tryz.results229 rfl (RecB.put (((HZ.out.far (by omega) 9 _).far (by omega) 10 _).far (by omega) 11 _) _ _ _ _ _ _ _ _ _ _ _ _ _ _) rfl ⟨{ ru with so:=ao,sn:=n,sc:=cap,hq:=rb.hq,q:=rb.q },cs,rfl,?_,by omega,(Zd (Below.setCell (Below.setCell (Below.setCell HN.out (Xb _) _) (Xb _) _) (Xb _) _) (by omega) _ _ _ _ _ _ _ _ _ _ _ _ _ _)⟩
   exact { eq:=by rw[HE.out,←HU.out.eq,←HBS.out.eq];simp[Rc.u,hhq]
           seg:=HO.out.ks (Ks.then (Ks.then (Ks.then (Ks.then Ks.rfl (ZW HUB.out.ty (by decide) 9 _)) (ZW (HUB.out.ty.set w.heap.size 9 _) (by decide) 10 _)) (ZW ((HUB.out.ty.set w.heap.size 9 _).set w.heap.size 10 _) (by decide) 11 _)) (Zm (((HZ.out.ty.set w.heap.size 9 _).set w.heap.size 10 _).set w.heap.size 11 _) (by decide) _ _ _ _ _ _ _ _ _ _ _ _ _ _))
           lsch:=HU.out.lsch
           lnam:=HU.out.lnam
           lpw:=HU.out.lpw
           lhost:=HU.out.lhost
           lport:=HU.out.lport
           lopath:=HU.out.lopath
           lsegs:=HBS.out.lsegs
           lseg:=HBS.out.lseg
           lq:=HBS.out.lq
           lfr:=HU.out.lfr }
  ·rw[hhq]at a10
   go_wp2
   refine Za0 (rb:=w.heap.size+1+1) Tryz.results229 rfl (RecB.put (HZ.out.far (by omega) 9 _) _ _ _ _ _ _ _ _ _ _ _ _ _ _) rfl ⟨{ ru with so:=ao,sn:=n,sc:=cap,hq:=true },cs,rfl,?_,by omega,(Zd (Below.setCell HN.out (Xb _) _) (by omega) _ _ _ _ _ _ _ _ _ _ _ _ _ _)⟩
   exact { eq:=by rw[HE.out,←HU.out.eq,←HBS.out.eq];simp[Rc.u,hhq]
           seg:=HO.out.ks (Ks.then (Ks.then Ks.rfl (ZW HUB.out.ty (by decide) 9 _)) (Zm (HZ.out.ty.set w.heap.size 9 _) (by decide) _ _ _ _ _ _ _ _ _ _ _ _ _ _))
           lsch:=HU.out.lsch
           lnam:=HU.out.lnam
           lpw:=HU.out.lpw
           lhost:=HU.out.lhost
           lport:=HU.out.lport
           lopath:=HU.out.lopath
           lsegs:=HBS.out.lsegs
           lseg:=HBS.out.lseg
           lq:=HU.out.lq
           lfr:=HU.out.lfr }
 ·have HE:=Za (show Zad u (tl left) base={ u with segs:=ZcQ base.segs (tl left) u.sch }from if_neg (ZcO h0))
  have h0':=Zh h0;clear h0
  go_enter Tryz.func229,Tryz.ntmps229
  go_wp2_with fail
  refine(Zm2 _ cs left ru.sch _ (HBS.out.seg.on (((Nx.rfl.alloc _).alloc _).alloc _)) (by omega) (by omega)).mono ?_
  rintro e w1 ⟨v1,ds,rfl,ho,hds,hdl,hn⟩;obtain⟨ao,n,cap,rfl⟩:=ZF ho;obtain⟨g1,g2,g3,g4⟩:=Z5 hn;have HO:=Za (Zp ho);have HUB:=Za g1;have HZ:=Za g3;have HN:=Za g4;have HDS:=Za hds
  have HSH:=Za (Zax (hds.trans (by rw[HBS.out.segs])) (Zkl HBS.out.short (by rw[tl_length];exact hl)))
  clear ho hn g1 g2 g3 g4 hds;obtain⟨a0,a1,a2,a3,a4,a5,a6,a7,a8,a9,a10,a11,a12,a13⟩:=HUB.out.cells;have af9:=HUB.out.free 9;obtain⟨z0,z1,z2,z3,z4,z5,z6,z7,z8,z9,z10,z11,z12,z13⟩:=HZ.out.cells;have zf0:=HZ.out.free 0;have zf1:=HZ.out.free 1;have zf2:=HZ.out.free 2;have zf3:=HZ.out.free 3;have zf4:=HZ.out.free 4;have zf5:=HZ.out.free 5;have zf6:=HZ.out.free 6;have zf7:=HZ.out.free 7;have zf8:=HZ.out.free 8;have zf9:=HZ.out.free 9;have zf10:=HZ.out.free 10;have zf11:=HZ.out.free 11;have zf12:=HZ.out.free 12;have zf13:=HZ.out.free 13;go_wp2
  refine Za0 (rb:=w.heap.size+1+1) Tryz.results229 rfl (RecB.put (HZ.out.far (by omega) 9 _) _ _ _ _ _ _ _ _ _ _ _ _ _ _) rfl ⟨{ ru with so:=ao,sn:=n,sc:=cap },ds,rfl,?_,by omega,(Zd (Below.setCell HN.out (Xb _) _) (by omega) _ _ _ _ _ _ _ _ _ _ _ _ _ _)⟩
  exact { eq:=by rw[HE.out,←HU.out.eq,←HBS.out.eq];simp only[Rc.u];rw[HDS.out]
          seg:=HO.out.ks (Ks.then (Ks.then Ks.rfl (ZW HUB.out.ty (by decide) 9 _)) (Zm (HZ.out.ty.set w.heap.size 9 _) (by decide) _ _ _ _ _ _ _ _ _ _ _ _ _ _))
          lsch:=HU.out.lsch
          lnam:=HU.out.lnam
          lpw:=HU.out.lpw
          lhost:=HU.out.lhost
          lport:=HU.out.lport
          lopath:=HU.out.lopath
          lsegs:=by omega
          lseg:=HSH.out
          lq:=HU.out.lq
          lfr:=HU.out.lfr }
end Go.Proofs.YtchkhibgbnhjpabGreatDoor
