import Derived.Test.YtchkhibgbnhjpabGreatDoorB43
import Derived.Test.YtchkhibgbnhjpabGreatDoorB49
open List renaming length_drop→Xa,mem_filter→Xb,mem_of_mem_drop→Xc,eq_nil_of_length_eq_zero→Xd,length_nil→Xf
open Nat renaming eq_zero_or_pos→Xe,add_zero→Xg
namespace Go.Proofs.YtchkhibgbnhjpabGreatDoor
open Go.RowKit
set_option maxHeartbeats 8000000
set_option maxRecDepth 8000
theorem dropBlR_eq(l:LB):Zeu l=ZbX l:=rfl
def blN(w:World)(rb:Nat):Nat:=match w.cell? ⟨rb,8,none⟩with|some (.string s)=>s.size|_=>0
theorem ZvN{w:World}{rb:Nat}{R:RR}(h:RB w rb R):blN w rb=R.bl.size:=by unfold blN;rw[h.cells.2.2.2.2.2.2.2.2.1]
theorem ZqQ{m:RU}(h:m.hq=false):Zf0 (Zez m)=[]:=by
 have e:(Zez m).hq=false:=by unfold Zez;split<;>exact h
 exact if_neg (by rw[e];decide)
theorem Zmv(ub rb:Nat)(v0:Value)(R:RR)(u:RU)(bs:LA)(w:World)(hu:URB w ub rb v0)(h:RB w rb R)(hr:RIs w R u bs)(hl:R.bl.size≤300000):Calls Tryz.prog 112 #[.pointer (some ⟨ub,0,none⟩)] w fun e w'=>e=.returned (.tuple #[])∧(∃R',RB w' rb R'∧RIs w' R' (Zez u) bs)∧But rb w w':=by
 have HD:Hid (Zez u=if R.op=true∧R.hq=false∧R.hf=false then { u with bl:=Zeu (tl R.bl) }else u):=Za (by unfold Zez;rw[←hr.eq];rfl)
 have HU:=Za hu;have HB:=Za h;have HR:=Za hr;have HNE:=Za (hu.ne h);obtain⟨a0,a1⟩:=hu.cells;clear hr;obtain⟨sch,user,pass,his,htx,port,po,pn,pc,op,bl,hq,q,hf,fr⟩:=R
 try simp only at *
 obtain⟨-,-,-,-,-,-,-,c7,c8,c9,-,c11,-⟩:=h.cells
 try simp only at c7 c8 c9 c11
 cases op
 ·have HE:=Za (HD.out.trans (if_neg (by rintro⟨x,-⟩;cases x)))
  clear HD;clear hu h
  go_enter Tryz.func112,Tryz.ntmps112
  go_wp2
  go_loopw [2] (fun _ wr=>wr=w) (fun _ _=>0)
  case atStart=>exact rfl
  case round=>
   obtain rfl:=hrel;go_wp2
   exact bodyPost_end (results_none rfl _ _ _) rfl ⟨rfl,⟨_,HB.out,by rw[HE.out];exact HR.out⟩,But.refl _ _⟩
 cases hq
 rotate_left
 ·have HE:=Za (HD.out.trans (if_neg (by rintro⟨-,x,-⟩;cases x)))
  clear HD;clear hu h
  go_enter Tryz.func112,Tryz.ntmps112
  go_wp2
  go_loopw [2] (fun _ wr=>wr=w) (fun _ _=>0)
  case atStart=>exact rfl
  case round=>
   obtain rfl:=hrel;go_wp2
   exact bodyPost_end (results_none rfl _ _ _) rfl ⟨rfl,⟨_,HB.out,by rw[HE.out];exact HR.out⟩,But.refl _ _⟩
 cases hf
 rotate_left
 ·have HE:=Za (HD.out.trans (if_neg (by rintro⟨-,-,x⟩;cases x)))
  clear HD;clear hu h
  go_enter Tryz.func112,Tryz.ntmps112
  go_wp2
  go_loopw [2] (fun _ wr=>wr=w) (fun _ _=>0)
  case atStart=>exact rfl
  case round=>
   obtain rfl:=hrel;go_wp2
   exact bodyPost_end (results_none rfl _ _ _) rfl ⟨rfl,⟨_,HB.out,by rw[HE.out];exact HR.out⟩,But.refl _ _⟩
 have HE:=Za (HD.out.trans (if_pos ⟨rfl,rfl,rfl⟩));clear HD hu h a0 a1 c7 c8 c9 c11
 go_enter Tryz.func112,Tryz.ntmps112
 go_wp2
 go_loopw [2] (fun _ wr=>∃b:BA,RB wr rb ⟨sch,user,pass,his,htx,port,po,pn,pc,true,b,false,q,false,fr⟩∧b.size≤300000∧Zeu (tl bl)=Zeu (tl b)∧But rb w wr) (fun _ wr=>blN wr rb)
 case atStart=>exact⟨bl,HB.out,hl,rfl,But.refl _ _⟩
 case round=>
  rename_i wr
  obtain⟨b,hB,hbl,hdr,hbt⟩:=hrel;have HB1:=Za hB;have HBT:=Za hbt;have HU1:=Za (HU.out.but hbt HNE.out);have HDR:=Za hdr;obtain⟨a0,a1⟩:=HU1.out.cells;obtain⟨-,-,-,-,-,-,-,c7,c8,c9,-,c11,-⟩:=hB.cells
  try simp only at c7 c8 c9 c11
  have f8:=hB.free 8;clear hB hbt hdr
  by_cases h0:0<b.size
  ·have hk1:b.size-1<b.size:=by omega
   have hz0:((b.size:Int)==0)=false:=beq_eq_false_iff_ne.2 (by omega)
   have hzb:¬b=ByteArray.empty:=fun e=>by rw[e]at h0;exact absurd h0 (by decide)
   have HT:=Za (show tl b=(tl b).take (b.size-1)++[b[b.size-1]'hk1]by
    have:=Zz b (b.size-1) hk1
    rw[show b.size-1+1=b.size by omega,Z3 _ _ (Nat.le_refl _)]at this
    exact this)
   have hb1:=bb (b[b.size-1]'hk1)
   cases hc:(((b[b.size-1]'hk1).toNat:Int)==32)
   ·have HF:=Za (show Zeu (tl bl)=tl b by rw[HDR.out,dropBlR_eq,HT.out,ZiL (by simpa using hc)])
    have hc2:(((b[b.size-1]'hk1).toNat:Int) != 32)=true:=by simp only[bne,hc];rfl
    go_wp2
    exact bodyPost_ret (results_none rfl _ _ _) rfl ⟨rfl,⟨_,HB1.out,by rw[HE.out,HF.out];exact { HR.out.kp (HBT.out.kp HB.out)with eq:=by rw[←HR.out.eq];rfl }⟩,HBT.out⟩
   ·have HF:=Za (show Zeu (tl bl)=Zeu (tl (b.extract 0 (b.size-1)))by rw[HDR.out,dropBlR_eq,HT.out,ZjX (by simpa using hc),dropBlR_eq,tl_extract];rfl)
    have hc2:(((b[b.size-1]'hk1).toNat:Int) != 32)=false:=by simp only[bne,hc];rfl
    have hez:=Zee b 0 (b.size-1);have HB2:=Za (HB1.out.s8 (b.extract 0 (b.size-1)));go_wp2_with fail
    go_region
    all_goals go_wp2
    all_goals go_roundw
    case rel=>exact⟨_,HB2.out.on Nx.rfl.drew,by omega,HF.out,(HBT.out.set 8 _).then (But.nx Nx.rfl.drew)⟩
    case measure=>rw[ZvN (HB2.out.on Nx.rfl.drew),ZvN HB1.out];show(b.extract 0 (b.size-1)).size<b.size;rw[ByteArray.size_extract];omega
  ·have HF:=Za (show Zeu (tl bl)=tl b by
    have e:tl b=[]:=Zi4 (by omega)
    rw[HDR.out,e];rfl)
   have hz0:((b.size:Int)==0)=true:=by rw[show b.size=0 by omega];rfl
   go_wp2
   exact bodyPost_ret (results_none rfl _ _ _) rfl ⟨rfl,⟨_,HB1.out,by rw[HE.out,HF.out];exact { HR.out.kp (HBT.out.kp HB.out)with eq:=by rw[←HR.out.eq];rfl }⟩,HBT.out⟩
theorem Zn0(ub rb:Nat)(v0:Value)(R:RR)(u:RU)(bs:LA)(v:Value)(p:LI)(w:World)(hu:URB w ub rb v0)(h:RB w rb R)(hr:RIs w R u bs)(hl:R.bl.size≤300000)(hv:IntsAt w v p)(hpl:p.length≤1000)(hp:∀c∈p,Pt c):Calls Tryz.prog 135 #[.pointer (some ⟨ub,0,none⟩),v] w fun e w'=>e=.returned (.tuple #[])∧(∃R' v' ps,URB w' ub rb v'∧RB w' rb R'∧RIs w' R' (Zcd u p) bs∧PlAt w' v' ps∧ps.map tl2=Zf0 (Zcd u p))∧Two ub rb w w':=by
 have HU:=Za hu;have HB:=Za h;have HR:=Za hr;have HL:=Za hl;have HP:=Za hp;have HNE:=Za (hu.ne h);have fB:=h.free 9;have cB:=h.cells.2.2.2.2.2.2.2.2.2.1;obtain⟨a0,a1⟩:=hu.cells;rcases Xe p.length with h0|hpos
 ·obtain rfl:=Xd h0
  have HE:=Za (show Zcd u []=Zez { u with hq:=false,q:=[] }from if_pos rfl)
  obtain⟨ao,cap,rfl,-⟩:=hv;simp only[Xf];clear hu h hr hl hp h0 hpl
  go_enter Tryz.func135,Tryz.ntmps135
  go_upto_region 1 with fail;have HB1:=Za (HB.out.s9 false);have HBT1:Hid (But rb w (w.setCell ⟨rb,9,none⟩ (.bool false))):=Za ((But.refl rb w).set 9 _);have HU1:=Za (HU.out.but HBT1.out HNE.out);clear a0 a1 fB cB;generalize w.setCell ⟨rb,9,none⟩ (.bool false)=w1 at *;obtain⟨a0,a1⟩:=HU1.out.cells;have fS:=HB1.out.free 10;have cS:=HB1.out.cells.2.2.2.2.2.2.2.2.2.2.1;go_upto_region 2 with fail;have HB2:=Za (HB1.out.s10 ⟨#[]⟩);have HBT2:Hid (But rb w (w1.setCell ⟨rb,10,none⟩ (.string ⟨#[]⟩))):=Za (HBT1.out.set 10 _);have HU2:=Za (HU.out.but HBT2.out HNE.out);clear a0 a1 fS cS HU1 HB1 HBT1;generalize w1.setCell ⟨rb,10,none⟩ (.string ⟨#[]⟩)=w2 at *
  have HR2:Hid (RIs w2 { R with hq:=false,q:=⟨#[]⟩ } { u with hq:=false,q:=[] } bs):=Za { HR.out.kp (HBT2.out.kp HB.out)with eq:=by rw[←HR.out.eq];rfl }
  obtain⟨a0,a1⟩:=HU2.out.cells;have f1:=HU2.out.free 1;go_upto_region 4 with fail;have HBU:Hid (But ub w2 (w2.setCell ⟨ub,1,none⟩ (.slice none 0 0))):=Za ((But.refl ub w2).set 1 _);have HU3:=Za (HU2.out.s1 (.slice none 0 0));have HB3:=Za (HB2.out.but HBU.out (Ne.symm HNE.out));have HR3:=Za (HR2.out.kpU (HBU.out.kpU HU2.out));clear a0 a1 f1;generalize w2.setCell ⟨ub,1,none⟩ (.slice none 0 0)=w3 at *;go_wp2_with fail
  refine(Zmv ub rb _ _ _ bs w3 HU3.out HB3.out HR3.out HL.out).mono ?_
  rintro e w4 ⟨rfl,hx,hbt⟩;have HX:=Za hx;have HBT4:=Za hbt;clear hx hbt;go_wp2;obtain⟨R',k1,k2⟩:=HX.out
  exact bodyPost_ret (results_none rfl _ _ _) rfl ⟨rfl,⟨R',.slice none 0 0,[],HU3.out.but HBT4.out HNE.out,k1,by rw[HE.out];exact k2,PlAt.nil _,by rw[HE.out,ZqQ rfl];rfl⟩,((Two.r HBT2.out).then (Two.l HBU.out)).then (Two.r HBT4.out)⟩
 ·have HE:=Za (show Zcd u p={ u with hq:=true,q:=encoded (flat (ZqV 63 p)) (tl (ZhD (Ze (tl R.sch)))) }from(if_neg (fun e=>by rw[e]at hpos;exact absurd hpos (by decide))).trans (by first|rfl|rw[hr.usch]))
  obtain⟨b,off,cap,rfl,hlc,hcap,-⟩:=hv.open_ hpos;have HV:=Za hv;unfold maxLen at hcap
  have hgt:decide ((0:Int)<(p.length:Int))=true:=decide_eq_true (by omega)
  clear hu h hr hl hp hv
  go_enter Tryz.func135,Tryz.ntmps135
  go_upto_region 1 with fail;clear hgt;have HB1:=Za (HB.out.s9 true);have HBT1:Hid (But rb w (w.setCell ⟨rb,9,none⟩ (.bool true))):=Za ((But.refl rb w).set 9 _);have HU1:=Za (HU.out.but HBT1.out HNE.out);clear a0 a1 fB cB;generalize w.setCell ⟨rb,9,none⟩ (.bool true)=w1 at *;obtain⟨a0,a1⟩:=HU1.out.cells;have fS:=HB1.out.free 10;have cS:=HB1.out.cells.2.2.2.2.2.2.2.2.2.2.1;go_upto_region 2 with fail;have HB2:=Za (HB1.out.s10 ⟨#[]⟩);have HBT2:Hid (But rb w (w1.setCell ⟨rb,10,none⟩ (.string ⟨#[]⟩))):=Za (HBT1.out.set 10 _);have HU2:=Za (HU.out.but HBT2.out HNE.out);clear a0 a1 fS cS HU1 HB1 HBT1;generalize w1.setCell ⟨rb,10,none⟩ (.string ⟨#[]⟩)=w2 at *
  have HR2:Hid (RIs w2 { R with hq:=true,q:=⟨#[]⟩ } { u with hq:=true,q:=[] } bs):=Za { HR.out.kp (HBT2.out.kp HB.out)with eq:=by rw[←HR.out.eq];rfl }
  obtain⟨a0,a1⟩:=HU2.out.cells
  have HV2:=Za (HV.out.kp (HBT2.out.kp HB.out) (by decide))
  obtain⟨b',off',cap',hve,hlc',hcap',hrow⟩:=HV2.out.open_ hpos;simp only[Value.slice.injEq,Option.some.injEq,Addr.mk.injEq,and_true,true_and]at hve;obtain⟨⟨rfl,rfl⟩,rfl⟩:=hve
  have HDR:=Za (ZbB hrow hlc' hcap' 1 (by omega))
  have hck:=hrow.cell hpos;simp only[Xg]at hck
  have HHD:=Za (show p.headD 0=p[0]by cases p;cases hpos;rfl)
  clear hlc' hcap' hrow;generalize p[0]=x0 at *
  cases hx:(x0==63)
  ·have HO:=Za (show ZqV 63 p=p from if_neg (by rw[HHD.out];simpa using hx))
   have hx':(x0 != 63)=true:=by simp only[bne,hx];rfl
   clear HHD HDR;go_wp2_with fail
   refine(ZbO _ p _ HV2.out (by omega)).mono ?_
   rintro e w3 ⟨v3,rfl,h3,hn3⟩;have HI3:=Za h3;have HN3:=Za hn3;have HU3:=Za (HU2.out.on hn3);have HB3:=Za (HB2.out.on hn3);have HBT3:=Za (HBT2.out.then (But.nx hn3))
   have hfl:(flat p).length≤1000:=by have h1:=ZcV p;omega
   have HPF:Hid (∀c∈flat p,Pt c):=Za (fun c hc=>HP.out c (Xb.1 hc).1)
   have HQY:Hid (∀wz,Nx w3 wz→Calls Tryz.prog 185 #[v3,.string R.sch] wz fun e w'=>∃r:BA,e=.returned (.string r)∧tl r=encoded (flat p) (tl (ZhD (Ze (tl R.sch))))∧Nx wz w'):=Za (fun wz hz=>Zdd v3 _ R.sch wz (HI3.out.on hz) (by omega) HPF.out)
   have HEL:=Za (Za2 (flat p) (tl (ZhD (Ze (tl R.sch)))));clear h3 hn3 a0 a1;obtain⟨a0,a1⟩:=HU3.out.cells;have c0:=HB3.out.cells.1
   try simp only at c0
   go_upto_region 8 with fail
   go_cut [1]from 35 (fun x wx=>∃t:BA,x=v3∧tl t=encoded (flat p) (tl (ZhD (Ze (tl R.sch))))∧RB wx rb { R with hq:=true,q:=t }∧But rb w wx)
   case first=>
    go_region_with (go_at_call 185;refine(HQY.out _ (by first|exact Nx.rfl.drew|exact Nx.rfl|exact Nx.rfl.drew.drew)).mono ?_;rintro e w4 ⟨t,rfl,ht,hn4⟩;have HT:=Za ht;have HN4:=Za (show Nx w3 w4 from Nx.then (show Nx w3 _ by first|exact Nx.rfl.drew|exact Nx.rfl|exact Nx.rfl.drew.drew) hn4);have HB4:=Za (HB3.out.on HN4.out);obtain⟨a0',a1'⟩:=(HU3.out.on HN4.out).cells;have fS:=HB4.out.free 10;have cS:=HB4.out.cells.2.2.2.2.2.2.2.2.2.2.1;clear ht hn4)
    all_goals go_wp2_with fail
    all_goals go_meet
    all_goals exact⟨_,rfl,HT.out,HB4.out.s10 _,(HBT3.out.then (But.nx HN4.out)).set 10 _⟩
   case rest=>
    obtain⟨t,rfl,ht,hB5,hbt5⟩:=hcut;have HT:=Za ht;have HB5:=Za hB5;have HBT5:=Za hbt5;clear ht hB5 hbt5 a0 a1 c0;have HU5:=Za (HU.out.but HBT5.out HNE.out)
    have HR5:Hid (RIs wc { R with hq:=true,q:=t } (Zcd u p) bs):=Za { HR.out.kp (HBT5.out.kp HB.out)with eq:=by rw[HE.out,HO.out,←HT.out,←HR.out.eq];rfl }
    have hts:t.size≤90000:=by rw[←tl_length,HT.out];have:=HEL.out;omega
    go_wp2_with fail
    refine(Ze6 ub rb v0 _ _ bs wc HU5.out HB5.out HR5.out hts).mono ?_
    rintro e w6 ⟨rfl,hx,hbt⟩;have HX:=Za hx;have HBT6:=Za hbt;clear hx hbt;go_wp2;obtain⟨v',ps,k1,k2,k3⟩:=HX.out;exact bodyPost_end (results_none rfl _ _ _) rfl ⟨rfl,⟨_,v',ps,k1,HB5.out.but HBT6.out (Ne.symm HNE.out),HR5.out.kpU (HBT6.out.kpU HU5.out),k2,k3⟩,(Two.r HBT5.out).then (Two.l HBT6.out)⟩
  ·have HO:=Za (show ZqV 63 p=p.drop 1 from if_pos (by rw[HHD.out];simpa using hx))
   have hx':(x0 != 63)=false:=by simp only[bne,hx];rfl
   clear HHD
   have hcase:(cap=1∧IntsAt w2 (.slice (some ⟨b,off,none⟩) (p.length-1) 0) (p.drop 1))∨(¬cap=1∧IntsAt w2 (.slice (some ⟨b,off+1,none⟩) (p.length-1) (cap-1)) (p.drop 1)):=by
    rcases HDR.out with⟨g,hd⟩|⟨g,hd⟩
    ·exact Or.inl ⟨g,by rw[show p.length-1=0 by omega];exact hd⟩
    ·exact Or.inr ⟨g,hd⟩
   clear HDR;rcases hcase with⟨hck1,hd⟩|⟨hck1,hd⟩
   ·have HD3:=Za hd
    clear hd;go_wp2_with fail
    refine(ZbO _ (p.drop 1) _ HD3.out (by rw[Xa]at *;omega)).mono ?_
    rintro e w3 ⟨v3,rfl,h3,hn3⟩;have HI3:=Za h3;have HN3:=Za hn3;have HU3:=Za (HU2.out.on hn3);have HB3:=Za (HB2.out.on hn3);have HBT3:=Za (HBT2.out.then (But.nx hn3))
    have hfl:(flat (p.drop 1)).length≤1000:=by have h1:=ZcV (p.drop 1);rw[Xa]at *;omega
    have HPF:Hid (∀c∈flat (p.drop 1),Pt c):=Za (fun c hc=>HP.out c (Xc (Xb.1 hc).1))
    have HQY:Hid (∀wz,Nx w3 wz→Calls Tryz.prog 185 #[v3,.string R.sch] wz fun e w'=>∃r:BA,e=.returned (.string r)∧tl r=encoded (flat (p.drop 1)) (tl (ZhD (Ze (tl R.sch))))∧Nx wz w'):=Za (fun wz hz=>Zdd v3 _ R.sch wz (HI3.out.on hz) (by omega) HPF.out)
    have HEL:=Za (Za2 (flat (p.drop 1)) (tl (ZhD (Ze (tl R.sch)))));clear h3 hn3 a0 a1;obtain⟨a0,a1⟩:=HU3.out.cells;have c0:=HB3.out.cells.1
    try simp only at c0
    go_upto_region 8 with fail
    go_cut [1]from 35 (fun x wx=>∃t:BA,x=v3∧tl t=encoded (flat (p.drop 1)) (tl (ZhD (Ze (tl R.sch))))∧RB wx rb { R with hq:=true,q:=t }∧But rb w wx)
    case first=>
     go_region_with (go_at_call 185;refine(HQY.out _ (by first|exact Nx.rfl.drew|exact Nx.rfl|exact Nx.rfl.drew.drew)).mono ?_;rintro e w4 ⟨t,rfl,ht,hn4⟩;have HT:=Za ht;have HN4:=Za (show Nx w3 w4 from Nx.then (show Nx w3 _ by first|exact Nx.rfl.drew|exact Nx.rfl|exact Nx.rfl.drew.drew) hn4);have HB4:=Za (HB3.out.on HN4.out);obtain⟨a0',a1'⟩:=(HU3.out.on HN4.out).cells;have fS:=HB4.out.free 10;have cS:=HB4.out.cells.2.2.2.2.2.2.2.2.2.2.1;clear ht hn4)
     all_goals go_wp2_with fail
     all_goals go_meet
     all_goals exact⟨_,rfl,HT.out,HB4.out.s10 _,(HBT3.out.then (But.nx HN4.out)).set 10 _⟩
    case rest=>
     obtain⟨t,rfl,ht,hB5,hbt5⟩:=hcut;have HT:=Za ht;have HB5:=Za hB5;have HBT5:=Za hbt5;clear ht hB5 hbt5 a0 a1 c0;have HU5:=Za (HU.out.but HBT5.out HNE.out)
     have HR5:Hid (RIs wc { R with hq:=true,q:=t } (Zcd u p) bs):=Za { HR.out.kp (HBT5.out.kp HB.out)with eq:=by rw[HE.out,HO.out,←HT.out,←HR.out.eq];rfl }
     have hts:t.size≤90000:=by rw[←tl_length,HT.out];have:=HEL.out;omega
     go_wp2_with fail
     refine(Ze6 ub rb v0 _ _ bs wc HU5.out HB5.out HR5.out hts).mono ?_
     rintro e w6 ⟨rfl,hx,hbt⟩;have HX:=Za hx;have HBT6:=Za hbt;clear hx hbt;go_wp2;obtain⟨v',ps,k1,k2,k3⟩:=HX.out;exact bodyPost_end (results_none rfl _ _ _) rfl ⟨rfl,⟨_,v',ps,k1,HB5.out.but HBT6.out (Ne.symm HNE.out),HR5.out.kpU (HBT6.out.kpU HU5.out),k2,k3⟩,(Two.r HBT5.out).then (Two.l HBT6.out)⟩
   ·have HD3:=Za hd
    clear hd;go_wp2_with fail
    refine(ZbO _ (p.drop 1) _ HD3.out (by rw[Xa]at *;omega)).mono ?_
    rintro e w3 ⟨v3,rfl,h3,hn3⟩;have HI3:=Za h3;have HN3:=Za hn3;have HU3:=Za (HU2.out.on hn3);have HB3:=Za (HB2.out.on hn3);have HBT3:=Za (HBT2.out.then (But.nx hn3))
    have hfl:(flat (p.drop 1)).length≤1000:=by have h1:=ZcV (p.drop 1);rw[Xa]at *;omega
    have HPF:Hid (∀c∈flat (p.drop 1),Pt c):=Za (fun c hc=>HP.out c (Xc (Xb.1 hc).1))
    have HQY:Hid (∀wz,Nx w3 wz→Calls Tryz.prog 185 #[v3,.string R.sch] wz fun e w'=>∃r:BA,e=.returned (.string r)∧tl r=encoded (flat (p.drop 1)) (tl (ZhD (Ze (tl R.sch))))∧Nx wz w'):=Za (fun wz hz=>Zdd v3 _ R.sch wz (HI3.out.on hz) (by omega) HPF.out)
    have HEL:=Za (Za2 (flat (p.drop 1)) (tl (ZhD (Ze (tl R.sch)))));clear h3 hn3 a0 a1;obtain⟨a0,a1⟩:=HU3.out.cells;have c0:=HB3.out.cells.1
    try simp only at c0
    go_upto_region 8 with fail
    go_cut [1]from 35 (fun x wx=>∃t:BA,x=v3∧tl t=encoded (flat (p.drop 1)) (tl (ZhD (Ze (tl R.sch))))∧RB wx rb { R with hq:=true,q:=t }∧But rb w wx)
    case first=>
     go_region_with (go_at_call 185;refine(HQY.out _ (by first|exact Nx.rfl.drew|exact Nx.rfl|exact Nx.rfl.drew.drew)).mono ?_;rintro e w4 ⟨t,rfl,ht,hn4⟩;have HT:=Za ht;have HN4:=Za (show Nx w3 w4 from Nx.then (show Nx w3 _ by first|exact Nx.rfl.drew|exact Nx.rfl|exact Nx.rfl.drew.drew) hn4);have HB4:=Za (HB3.out.on HN4.out);obtain⟨a0',a1'⟩:=(HU3.out.on HN4.out).cells;have fS:=HB4.out.free 10;have cS:=HB4.out.cells.2.2.2.2.2.2.2.2.2.2.1;clear ht hn4)
     all_goals go_wp2_with fail
     all_goals go_meet
     all_goals exact⟨_,rfl,HT.out,HB4.out.s10 _,(HBT3.out.then (But.nx HN4.out)).set 10 _⟩
    case rest=>
     obtain⟨t,rfl,ht,hB5,hbt5⟩:=hcut;have HT:=Za ht;have HB5:=Za hB5;have HBT5:=Za hbt5;clear ht hB5 hbt5 a0 a1 c0;have HU5:=Za (HU.out.but HBT5.out HNE.out)
     have HR5:Hid (RIs wc { R with hq:=true,q:=t } (Zcd u p) bs):=Za { HR.out.kp (HBT5.out.kp HB.out)with eq:=by rw[HE.out,HO.out,←HT.out,←HR.out.eq];rfl }
     have hts:t.size≤90000:=by rw[←tl_length,HT.out];have:=HEL.out;omega
     go_wp2_with fail
     refine(Ze6 ub rb v0 _ _ bs wc HU5.out HB5.out HR5.out hts).mono ?_
     rintro e w6 ⟨rfl,hx,hbt⟩;have HX:=Za hx;have HBT6:=Za hbt;clear hx hbt;go_wp2;obtain⟨v',ps,k1,k2,k3⟩:=HX.out;exact bodyPost_end (results_none rfl _ _ _) rfl ⟨rfl,⟨_,v',ps,k1,HB5.out.but HBT6.out (Ne.symm HNE.out),HR5.out.kpU (HBT6.out.kpU HU5.out),k2,k3⟩,(Two.r HBT5.out).then (Two.l HBT6.out)⟩
theorem Zty(ub rb:Nat)(v0:Value)(R:RR)(u:RU)(bs:LA)(v:Value)(p:LI)(w:World)(hu:URB w ub rb v0)(h:RB w rb R)(hr:RIs w R u bs)(hl:R.bl.size≤300000)(hv:IntsAt w v p)(hpl:p.length≤1000)(hp:∀c∈p,Pt c):Calls Tryz.prog 136 #[.pointer (some ⟨ub,0,none⟩),v] w fun e w'=>e=.returned (.tuple #[])∧(∃R',RB w' rb R'∧RIs w' R' (Zi5 u p) bs)∧But rb w w':=by
 have HU:=Za hu;have HB:=Za h;have HR:=Za hr;have HL:=Za hl;have HP:=Za hp;have HNE:=Za (hu.ne h);have fB:=h.free 11;have cB:=h.cells.2.2.2.2.2.2.2.2.2.2.2.1;obtain⟨a0,a1⟩:=hu.cells;rcases Xe p.length with h0|hpos
 ·obtain rfl:=Xd h0
  have HE:=Za (show Zi5 u []=Zez { u with hf:=false,fr:=[] }from if_pos rfl)
  obtain⟨ao,cap,rfl,-⟩:=hv;simp only[Xf];clear hu h hr hl hp h0 hpl
  go_enter Tryz.func136,Tryz.ntmps136
  go_upto_region 1 with fail;have HB1:=Za (HB.out.s11 false);have HBT1:Hid (But rb w (w.setCell ⟨rb,11,none⟩ (.bool false))):=Za ((But.refl rb w).set 11 _);have HU1:=Za (HU.out.but HBT1.out HNE.out);clear a0 a1 fB cB;generalize w.setCell ⟨rb,11,none⟩ (.bool false)=w1 at *;obtain⟨a0,a1⟩:=HU1.out.cells;have fS:=HB1.out.free 12;have cS:=HB1.out.cells.2.2.2.2.2.2.2.2.2.2.2.2;go_upto_region 2 with fail;have HB2:=Za (HB1.out.s12 ⟨#[]⟩);have HBT2:Hid (But rb w (w1.setCell ⟨rb,12,none⟩ (.string ⟨#[]⟩))):=Za (HBT1.out.set 12 _);have HU2:=Za (HU.out.but HBT2.out HNE.out);clear a0 a1 fS cS HU1 HB1 HBT1;generalize w1.setCell ⟨rb,12,none⟩ (.string ⟨#[]⟩)=w2 at *
  have HR2:Hid (RIs w2 { R with hf:=false,fr:=⟨#[]⟩ } { u with hf:=false,fr:=[] } bs):=Za { HR.out.kp (HBT2.out.kp HB.out)with eq:=by rw[←HR.out.eq];rfl }
  obtain⟨a0,a1⟩:=HU2.out.cells;clear a0 a1;go_wp2_with fail
  refine(Zmv ub rb _ _ _ bs w2 HU2.out HB2.out HR2.out HL.out).mono ?_
  rintro e w4 ⟨rfl,hx,hbt⟩;have HX:=Za hx;have HBT4:=Za hbt;clear hx hbt;go_wp2;obtain⟨R',k1,k2⟩:=HX.out
  exact bodyPost_ret (results_none rfl _ _ _) rfl ⟨rfl,⟨R',k1,by rw[HE.out];exact k2⟩,HBT2.out.then HBT4.out⟩
 ·have HE:=Za (show Zi5 u p={ u with hf:=true,fr:=encoded (flat (ZqV 35 p)) Zca }from(if_neg (fun e=>by rw[e]at hpos;exact absurd hpos (by decide))).trans (by first|rfl|rw[hr.usch]))
  obtain⟨b,off,cap,rfl,hlc,hcap,-⟩:=hv.open_ hpos;have HV:=Za hv;unfold maxLen at hcap
  have hgt:decide ((0:Int)<(p.length:Int))=true:=decide_eq_true (by omega)
  clear hu h hr hl hp hv
  go_enter Tryz.func136,Tryz.ntmps136
  go_upto_region 1 with fail;clear hgt;have HB1:=Za (HB.out.s11 true);have HBT1:Hid (But rb w (w.setCell ⟨rb,11,none⟩ (.bool true))):=Za ((But.refl rb w).set 11 _);have HU1:=Za (HU.out.but HBT1.out HNE.out);clear a0 a1 fB cB;generalize w.setCell ⟨rb,11,none⟩ (.bool true)=w1 at *;obtain⟨a0,a1⟩:=HU1.out.cells;have fS:=HB1.out.free 12;have cS:=HB1.out.cells.2.2.2.2.2.2.2.2.2.2.2.2;go_upto_region 2 with fail;have HB2:=Za (HB1.out.s12 ⟨#[]⟩);have HBT2:Hid (But rb w (w1.setCell ⟨rb,12,none⟩ (.string ⟨#[]⟩))):=Za (HBT1.out.set 12 _);have HU2:=Za (HU.out.but HBT2.out HNE.out);clear a0 a1 fS cS HU1 HB1 HBT1;generalize w1.setCell ⟨rb,12,none⟩ (.string ⟨#[]⟩)=w2 at *
  have HR2:Hid (RIs w2 { R with hf:=true,fr:=⟨#[]⟩ } { u with hf:=true,fr:=[] } bs):=Za { HR.out.kp (HBT2.out.kp HB.out)with eq:=by rw[←HR.out.eq];rfl }
  obtain⟨a0,a1⟩:=HU2.out.cells
  have HV2:=Za (HV.out.kp (HBT2.out.kp HB.out) (by decide))
  obtain⟨b',off',cap',hve,hlc',hcap',hrow⟩:=HV2.out.open_ hpos;simp only[Value.slice.injEq,Option.some.injEq,Addr.mk.injEq,and_true,true_and]at hve;obtain⟨⟨rfl,rfl⟩,rfl⟩:=hve
  have HDR:=Za (ZbB hrow hlc' hcap' 1 (by omega))
  have hck:=hrow.cell hpos;simp only[Xg]at hck
  have HHD:=Za (show p.headD 0=p[0]by cases p;cases hpos;rfl)
  clear hlc' hcap' hrow;generalize p[0]=x0 at *
  cases hx:(x0==35)
  ·have HO:=Za (show ZqV 35 p=p from if_neg (by rw[HHD.out];simpa using hx))
   have hx':(x0 != 35)=true:=by simp only[bne,hx];rfl
   clear HHD HDR;go_wp2_with fail
   refine(ZbO _ p _ HV2.out (by omega)).mono ?_
   rintro e w3 ⟨v3,rfl,h3,hn3⟩;have HI3:=Za h3;have HN3:=Za hn3;have HU3:=Za (HU2.out.on hn3);have HB3:=Za (HB2.out.on hn3);have HBT3:=Za (HBT2.out.then (But.nx hn3))
   have hfl:(flat p).length≤1000:=by have h1:=ZcV p;omega
   have HPF:Hid (∀c∈flat p,Pt c):=Za (fun c hc=>HP.out c (Xb.1 hc).1)
   have HQY:Hid (∀wz,Nx w3 wz→Calls Tryz.prog 130 #[v3,.string ⟨#[32,34,60,62,96]⟩] wz fun e w'=>∃r:BA,e=.returned (.string r)∧tl r=encoded (flat p) Zca∧Nx wz w'):=Za (fun wz hz=>ZO v3 _ ⟨#[32,34,60,62,96]⟩ wz (HI3.out.on hz) (Zf (by decide)) (by omega) HPF.out)
   have HEL:=Za (Za2 (flat p) Zca);clear h3 hn3 a0 a1;obtain⟨a0,a1⟩:=HU3.out.cells;have c0:=HB3.out.cells.1
   try simp only at c0
   go_upto_region 7 with fail
   go_region_with (go_at_call 130;refine(HQY.out _ (by first|exact Nx.rfl.drew|exact Nx.rfl|exact Nx.rfl.drew.drew)).mono ?_;rintro e w4 ⟨t,rfl,ht,hn4⟩;have HT:=Za ht;have HN4:=Za (show Nx w3 w4 from Nx.then (show Nx w3 _ by first|exact Nx.rfl.drew|exact Nx.rfl|exact Nx.rfl.drew.drew) hn4);have HB4:=Za (HB3.out.on HN4.out);obtain⟨a0',a1'⟩:=(HU3.out.on HN4.out).cells;have fS:=HB4.out.free 12;have cS:=HB4.out.cells.2.2.2.2.2.2.2.2.2.2.2.2;clear ht hn4)
   all_goals have HBT5:=Za (((HBT3.out.then (But.nx HN4.out)).set 12 (.string t)))
   all_goals have HB5:=Za (HB4.out.s12 t)
   all_goals have HR5:=Za (show RIs _ { R with hf:=true,fr:=t } (Zi5 u p) bs from { HR.out.kp (HBT5.out.kp HB.out)with eq:=by rw[HE.out,HO.out,←HT.out,←HR.out.eq];rfl })
   all_goals go_wp2
   all_goals first
    | exact bodyPost_end (results_none rfl _ _ _) rfl ⟨rfl,⟨_,HB5.out,HR5.out⟩,HBT5.out⟩
    | exact bodyPost_end (results_none rfl _ _ _) rfl ⟨rfl,⟨_,HB5.out.on Nx.rfl.drew,HR5.out.on Nx.rfl.drew⟩,HBT5.out.then (But.nx Nx.rfl.drew)⟩
  ·have HO:=Za (show ZqV 35 p=p.drop 1 from if_pos (by rw[HHD.out];simpa using hx))
   have hx':(x0 != 35)=false:=by simp only[bne,hx];rfl
   clear HHD
   have hcase:(cap=1∧IntsAt w2 (.slice (some ⟨b,off,none⟩) (p.length-1) 0) (p.drop 1))∨(¬cap=1∧IntsAt w2 (.slice (some ⟨b,off+1,none⟩) (p.length-1) (cap-1)) (p.drop 1)):=by
    rcases HDR.out with⟨g,hd⟩|⟨g,hd⟩
    ·exact Or.inl ⟨g,by rw[show p.length-1=0 by omega];exact hd⟩
    ·exact Or.inr ⟨g,hd⟩
   clear HDR;rcases hcase with⟨hck1,hd⟩|⟨hck1,hd⟩
   ·have HD3:=Za hd
    clear hd;go_wp2_with fail
    refine(ZbO _ (p.drop 1) _ HD3.out (by rw[Xa]at *;omega)).mono ?_
    rintro e w3 ⟨v3,rfl,h3,hn3⟩;have HI3:=Za h3;have HN3:=Za hn3;have HU3:=Za (HU2.out.on hn3);have HB3:=Za (HB2.out.on hn3);have HBT3:=Za (HBT2.out.then (But.nx hn3))
    have hfl:(flat (p.drop 1)).length≤1000:=by have h1:=ZcV (p.drop 1);rw[Xa]at *;omega
    have HPF:Hid (∀c∈flat (p.drop 1),Pt c):=Za (fun c hc=>HP.out c (Xc (Xb.1 hc).1))
    have HQY:Hid (∀wz,Nx w3 wz→Calls Tryz.prog 130 #[v3,.string ⟨#[32,34,60,62,96]⟩] wz fun e w'=>∃r:BA,e=.returned (.string r)∧tl r=encoded (flat (p.drop 1)) Zca∧Nx wz w'):=Za (fun wz hz=>ZO v3 _ ⟨#[32,34,60,62,96]⟩ wz (HI3.out.on hz) (Zf (by decide)) (by omega) HPF.out)
    have HEL:=Za (Za2 (flat (p.drop 1)) Zca);clear h3 hn3 a0 a1;obtain⟨a0,a1⟩:=HU3.out.cells;have c0:=HB3.out.cells.1
    try simp only at c0
    go_upto_region 7 with fail
    go_region_with (go_at_call 130;refine(HQY.out _ (by first|exact Nx.rfl.drew|exact Nx.rfl|exact Nx.rfl.drew.drew)).mono ?_;rintro e w4 ⟨t,rfl,ht,hn4⟩;have HT:=Za ht;have HN4:=Za (show Nx w3 w4 from Nx.then (show Nx w3 _ by first|exact Nx.rfl.drew|exact Nx.rfl|exact Nx.rfl.drew.drew) hn4);have HB4:=Za (HB3.out.on HN4.out);obtain⟨a0',a1'⟩:=(HU3.out.on HN4.out).cells;have fS:=HB4.out.free 12;have cS:=HB4.out.cells.2.2.2.2.2.2.2.2.2.2.2.2;clear ht hn4)
    all_goals have HBT5:=Za (((HBT3.out.then (But.nx HN4.out)).set 12 (.string t)))
    all_goals have HB5:=Za (HB4.out.s12 t)
    all_goals have HR5:=Za (show RIs _ { R with hf:=true,fr:=t } (Zi5 u p) bs from { HR.out.kp (HBT5.out.kp HB.out)with eq:=by rw[HE.out,HO.out,←HT.out,←HR.out.eq];rfl })
    all_goals go_wp2
    all_goals first
     | exact bodyPost_end (results_none rfl _ _ _) rfl ⟨rfl,⟨_,HB5.out,HR5.out⟩,HBT5.out⟩
     | exact bodyPost_end (results_none rfl _ _ _) rfl ⟨rfl,⟨_,HB5.out.on Nx.rfl.drew,HR5.out.on Nx.rfl.drew⟩,HBT5.out.then (But.nx Nx.rfl.drew)⟩
   ·have HD3:=Za hd
    clear hd;go_wp2_with fail
    refine(ZbO _ (p.drop 1) _ HD3.out (by rw[Xa]at *;omega)).mono ?_
    rintro e w3 ⟨v3,rfl,h3,hn3⟩;have HI3:=Za h3;have HN3:=Za hn3;have HU3:=Za (HU2.out.on hn3);have HB3:=Za (HB2.out.on hn3);have HBT3:=Za (HBT2.out.then (But.nx hn3))
    have hfl:(flat (p.drop 1)).length≤1000:=by have h1:=ZcV (p.drop 1);rw[Xa]at *;omega
    have HPF:Hid (∀c∈flat (p.drop 1),Pt c):=Za (fun c hc=>HP.out c (Xc (Xb.1 hc).1))
    have HQY:Hid (∀wz,Nx w3 wz→Calls Tryz.prog 130 #[v3,.string ⟨#[32,34,60,62,96]⟩] wz fun e w'=>∃r:BA,e=.returned (.string r)∧tl r=encoded (flat (p.drop 1)) Zca∧Nx wz w'):=Za (fun wz hz=>ZO v3 _ ⟨#[32,34,60,62,96]⟩ wz (HI3.out.on hz) (Zf (by decide)) (by omega) HPF.out)
    have HEL:=Za (Za2 (flat (p.drop 1)) Zca);clear h3 hn3 a0 a1;obtain⟨a0,a1⟩:=HU3.out.cells;have c0:=HB3.out.cells.1
    try simp only at c0
    go_upto_region 7 with fail
    go_region_with (go_at_call 130;refine(HQY.out _ (by first|exact Nx.rfl.drew|exact Nx.rfl|exact Nx.rfl.drew.drew)).mono ?_;rintro e w4 ⟨t,rfl,ht,hn4⟩;have HT:=Za ht;have HN4:=Za (show Nx w3 w4 from Nx.then (show Nx w3 _ by first|exact Nx.rfl.drew|exact Nx.rfl|exact Nx.rfl.drew.drew) hn4);have HB4:=Za (HB3.out.on HN4.out);obtain⟨a0',a1'⟩:=(HU3.out.on HN4.out).cells;have fS:=HB4.out.free 12;have cS:=HB4.out.cells.2.2.2.2.2.2.2.2.2.2.2.2;clear ht hn4)
    all_goals have HBT5:=Za (((HBT3.out.then (But.nx HN4.out)).set 12 (.string t)))
    all_goals have HB5:=Za (HB4.out.s12 t)
    all_goals have HR5:=Za (show RIs _ { R with hf:=true,fr:=t } (Zi5 u p) bs from { HR.out.kp (HBT5.out.kp HB.out)with eq:=by rw[HE.out,HO.out,←HT.out,←HR.out.eq];rfl })
    all_goals go_wp2
    all_goals first
     | exact bodyPost_end (results_none rfl _ _ _) rfl ⟨rfl,⟨_,HB5.out,HR5.out⟩,HBT5.out⟩
     | exact bodyPost_end (results_none rfl _ _ _) rfl ⟨rfl,⟨_,HB5.out.on Nx.rfl.drew,HR5.out.on Nx.rfl.drew⟩,HBT5.out.then (But.nx Nx.rfl.drew)⟩
theorem Zxz(ub rb:Nat)(v0:Value)(R:RR)(m:RU)(bs:LA)(ps:List Pq)(s:BA)(w:World)(hu:URB w ub rb v0)(h:RB w rb R)(hr:RIs w R m bs)(hpl:PlAt w v0 ps)(hs:s.size≤160)(hbl:R.bl.size≤300000):Calls Tryz.prog 77 #[.pointer (some ⟨ub,0,none⟩),.int .i64 9,.string s] w fun e w'=>ZxE e w w' ub rb (Zmm m 9 (tl s)) (ZbS m 9 (tl s) (ps.map tl2)):=by
 have HU:=Za hu;have HB:=Za h;have HR:=Za hr;have HPL:=Za hpl;have HBA:=Za hr.bare;have HBL:=Za hbl;have a0:=hu.cells.1;clear hu h hr hpl hbl
 go_enter Tryz.func77,Tryz.ntmps77
 go_wp2_with fail
 refine(ZcN s _ (by unfold maxLen;omega)).mono ?_
 rintro e w' ⟨rfl,rfl⟩
 rw[decide_eq_false (show ¬160<s.size by omega)]
 go_wp2_with fail
 refine(ZaC s _ (by omega)).mono ?_
 rintro e w1 ⟨pv,rfl,h1,hn1⟩;have HPV:=Za h1;have HN1:=Za hn1;have hlen:=ZaD (tl s);rw[tl_length]at hlen;obtain⟨c0,c1,c2,c3,c4,c5,c6,c7,c8,c9,c10,c11,c12⟩:=(HB.out.on hn1).cells;clear h1 hn1 a0;go_upto_region 6 with fail
 go_cut [10]from 11 (fun b wx=>∃c:Bool,b=.bool c∧(c=true↔Zhz m)∧wx=w1)
 case first=>
  by_cases e1:R.htx.size=0
  ·have e1':=Zl e1
   have HC:=Za (HBA.out.2 (Or.inl (Zi4 e1)));clear e1;go_wp2_with fail
   go_meet
   case rel=>exact⟨true,rfl,⟨fun _=>HC.out,fun _=>rfl⟩,rfl⟩
  ·have e1':=Zh e1
   by_cases e2:tl R.sch=Zx
   ·have e2':=eqB (s:=R.sch) (l:=[102,105,108,101]) e2
    have HC:=Za (HBA.out.2 (Or.inr e2));clear e1 e2;go_wp2_with fail
    go_meet
    case rel=>exact⟨true,rfl,⟨fun _=>HC.out,fun _=>rfl⟩,rfl⟩
   ·have e2':=neB (s:=R.sch) (l:=[102,105,108,101]) e2
    have HC:=Za (show ¬Zhz m from fun g=>by
     rcases HBA.out.1 g with g|g
     ·exact ZiK e1 g
     ·exact e2 g)
    clear e1 e2;go_wp2_with fail
    go_meet
    case rel=>exact⟨false,rfl,⟨fun g=>(by cases g),fun g=>absurd g HC.out⟩,rfl⟩
 case rest=>
  obtain⟨c,rfl,hc,rfl⟩:=hcut;clear HBA c0 c1 c2 c3 c4 c5 c6 c7 c8 c9 c10 c11 c12;have HC:=Za hc;clear hc;have HE:=Za (show Zmm m 9 (tl s)=(Zcd m (Zj (tl s)),0)from rfl);have HY:=Za (show ZbS m 9 (tl s) (ps.map tl2)=Zf0 (Zcd m (Zj (tl s)))from rfl);clear HC;go_wp2_with fail
  refine(Zn0 ub rb v0 R m bs _ (Zj (tl s)) _ (HU.out.on HN1.out) (HB.out.on HN1.out) (HR.out.on HN1.out) HBL.out HPV.out (by omega) (Zcz _)).mono ?_
  rintro e w3 ⟨rfl,hx,htw⟩;have HX:=Za hx;have HTW:=Za htw;clear hx htw;go_wp2;go_ret;rw[HE.out,HY.out];obtain⟨R',v',qs,k1,k2,k3,k4,k5⟩:=HX.out;exact⟨rfl,⟨rb,R',bs,v',qs,k1,k2,k3,k4,k5,Or.inl rfl⟩,(Two.nx HN1.out).then HTW.out⟩
theorem ZwY(ub rb:Nat)(v0:Value)(R:RR)(m:RU)(bs:LA)(ps:List Pq)(s:BA)(w:World)(hu:URB w ub rb v0)(h:RB w rb R)(hr:RIs w R m bs)(hpl:PlAt w v0 ps)(hs:s.size≤160)(hbl:R.bl.size≤300000):Calls Tryz.prog 77 #[.pointer (some ⟨ub,0,none⟩),.int .i64 10,.string s] w fun e w'=>ZxE e w w' ub rb (Zmm m 10 (tl s)) (ZbS m 10 (tl s) (ps.map tl2)):=by
 have HU:=Za hu;have HB:=Za h;have HR:=Za hr;have HPL:=Za hpl;have HBA:=Za hr.bare;have HBL:=Za hbl;have a0:=hu.cells.1;clear hu h hr hpl hbl
 go_enter Tryz.func77,Tryz.ntmps77
 go_wp2_with fail
 refine(ZcN s _ (by unfold maxLen;omega)).mono ?_
 rintro e w' ⟨rfl,rfl⟩
 rw[decide_eq_false (show ¬160<s.size by omega)]
 go_wp2_with fail
 refine(ZaC s _ (by omega)).mono ?_
 rintro e w1 ⟨pv,rfl,h1,hn1⟩;have HPV:=Za h1;have HN1:=Za hn1;have hlen:=ZaD (tl s);rw[tl_length]at hlen;obtain⟨c0,c1,c2,c3,c4,c5,c6,c7,c8,c9,c10,c11,c12⟩:=(HB.out.on hn1).cells;clear h1 hn1 a0;go_upto_region 6 with fail
 go_cut [10]from 11 (fun b wx=>∃c:Bool,b=.bool c∧(c=true↔Zhz m)∧wx=w1)
 case first=>
  by_cases e1:R.htx.size=0
  ·have e1':=Zl e1
   have HC:=Za (HBA.out.2 (Or.inl (Zi4 e1)));clear e1;go_wp2_with fail
   go_meet
   case rel=>exact⟨true,rfl,⟨fun _=>HC.out,fun _=>rfl⟩,rfl⟩
  ·have e1':=Zh e1
   by_cases e2:tl R.sch=Zx
   ·have e2':=eqB (s:=R.sch) (l:=[102,105,108,101]) e2
    have HC:=Za (HBA.out.2 (Or.inr e2));clear e1 e2;go_wp2_with fail
    go_meet
    case rel=>exact⟨true,rfl,⟨fun _=>HC.out,fun _=>rfl⟩,rfl⟩
   ·have e2':=neB (s:=R.sch) (l:=[102,105,108,101]) e2
    have HC:=Za (show ¬Zhz m from fun g=>by
     rcases HBA.out.1 g with g|g
     ·exact ZiK e1 g
     ·exact e2 g)
    clear e1 e2;go_wp2_with fail
    go_meet
    case rel=>exact⟨false,rfl,⟨fun g=>(by cases g),fun g=>absurd g HC.out⟩,rfl⟩
 case rest=>
  obtain⟨c,rfl,hc,rfl⟩:=hcut;clear HBA c0 c1 c2 c3 c4 c5 c6 c7 c8 c9 c10 c11 c12;have HC:=Za hc;clear hc;have HE:=Za (show Zmm m 10 (tl s)=(Zi5 m (Zj (tl s)),0)from rfl);have HY:=Za (show ZbS m 10 (tl s) (ps.map tl2)=ps.map tl2 from rfl);clear HC;go_wp2_with fail
  refine(Zty ub rb v0 R m bs _ (Zj (tl s)) _ (HU.out.on HN1.out) (HB.out.on HN1.out) (HR.out.on HN1.out) HBL.out HPV.out (by omega) (Zcz _)).mono ?_
  rintro e w3 ⟨rfl,hx,hbt⟩;have HX:=Za hx;have HBT:=Za hbt;clear hx hbt;go_wp2;go_ret;rw[HE.out,HY.out];obtain⟨R',k1,k2⟩:=HX.out;have hB1:=HB.out.on HN1.out
  exact⟨rfl,⟨rb,R',bs,v0,ps,(HU.out.on HN1.out).but HBT.out ((HU.out.on HN1.out).ne hB1),k1,k2,(HPL.out.on HN1.out).kp (HBT.out.kp hB1) (by decide),rfl,Or.inl rfl⟩,(Two.nx HN1.out).then (Two.r HBT.out)⟩
end Go.Proofs.YtchkhibgbnhjpabGreatDoor
