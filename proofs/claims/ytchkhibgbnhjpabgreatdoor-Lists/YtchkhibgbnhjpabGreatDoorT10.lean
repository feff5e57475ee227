import Derived.Test.YtchkhibgbnhjpabGreatDoorT06
import Derived.Test.YtchkhibgbnhjpabGreatDoorT07
open Array renaming getElem?_eq_some_iff→Xa,getElem?_modify→Xo
open Bool renaming false_eq_true→Xf
open List renaming length_map→Xb,getD_eq_getElem?_getD→Xc,getElem?_eq_getElem→Xd,getElem?_map→Xg,append_nil→Xh,take_succ_eq_append_getElem→Xk,eq_nil_of_length_eq_zero→Xm,getElem?_take→Xp,filter_append→Xq,map_append→Xr
open Nat renaming le_trans→Xi,le_refl→Xj,add_zero→Xl
open Or renaming inl→Xe,inr→Xn
open Go.Value renaming string→J,bool→C,int→I
open Go.IntKind renaming i64→X
open Go.Ending renaming returned→Y
open Go.Obj renaming cells→O
namespace Go.Proofs.YtchkhibgbnhjpabGreatDoor
open Tryz
open Go.RowKit
set_option maxHeartbeats 16000000
set_option maxRecDepth 8000
variable [Fl]
set_option linter.all false
theorem ZLE(rb:Nat)(R:RR)(u:RU)(bs:LA)(w:World)(h:RB w rb R)(hr:RIs w R u bs)(hl:RL R)(hu:R.user.size=0)(hp:R.pass.size=0):Calls prog 113 #[.pointer (some ⟨rb,0,none⟩)] w fun e w'=>∃t:BA,e=Y (J t)/\tl t=ZC1 u/\Nx w w':=by
 have HB:=A h;have HR:=A hr;have HL:=A hl
 have HD:=A (show ZC1 u=tl R.sch++[58]++ZAT u++ZA1 u++(if R.hq=true then [63]++tl R.q else [])++(if R.hf=true then [35]++tl R.fr else [])by rw[<-hr.eq];rfl)
 have HW:=A (show ZAT u=if R.his=true then [47,47]++ZB7 u++ZA5 u else if 1<bs.length/\(bs.map tl).getD 0 []=[]then [47,46]else []by rw[<-Xb (f:=tl),<-hr.eq];rfl)
 have HU:=A (show ZB7 u=if tl R.user=[]/\tl R.pass=[]then []else if tl R.pass=[]then tl R.user++[64]else tl R.user++[58]++tl R.pass++[64]by rw[<-hr.eq];rfl)
 have ls:=hr.lsch;have l1:=hl.user;have l2:=hl.pass;have l3:=hl.htx;have l5:=hl.q;have l6:=hl.fr;have l7:=hl.bl;have l8:=hl.port;obtain⟨c0,c1,c2,c3,c4,c5,c6,c7,c8,c9,c10,c11,c12⟩:=h.cells;have hu':=Zo hu;have hp':=Zo hp;have HE1:=A (ZGF hu);have HE2:=A (ZGF hp);have hsg:=hr.seg';clear h hr hl hu hp
 go_enter func113,ntmps113
 go_upto_if 19 with fail
 go_cut [3]from 8 (fun s wx=>∃who:BA,s=J who/\tl who=ZB7 u/\who.size<=600002/\Nx w wx/\RB wx rb R/\RIs wx R u bs)
 case first=>
  go_wp2
  go_meet
  case rel=>exact⟨⟨#[]⟩,rfl,by rw[HU.o,ifP ⟨HE1.o,HE2.o⟩];rfl,by decide,Nx.rfl,HB.o,HR.o⟩
 case rest=>
  obtain⟨who,rfl,hwho,hwl,hnc,hbc,hrc⟩:=hcut;have HWH:=A hwho;have HN:=A hnc;have HB1:=A hbc;have HR1:=A hrc;clear hwho hnc hbc hrc c0 c1 c2 c3 c4 c5 c6 c7 c8 c9 c10 c11 c12 hu' hp' hsg;obtain⟨w1,hw1⟩:∃w1,w1=wc:=⟨_,rfl⟩;subst hw1;have hsg:=HR1.o.seg';obtain⟨c0,c1,c2,c3,c4,c5,c6,c7,c8,c9,c10,c11,c12⟩:=HB1.o.cells
  go_upto_if 45 with fail
  go_cut [4,5]from 8 (fun s _ wx=>∃t:BA,s=J t/\tl t=ZAT u/\t.size<=2000000/\Nx w wx)
  case first=>
   generalize R.his=his at *
   cases his
   .have HW1:=A (HW.o.trans (ifN (by decide)))
    clear HW;rcases hsg with⟨h1,h2,h3,rfl⟩|⟨b,off,h1,h2,h3,h4,hrow⟩
    focus
     rw[h1,h2,h3]at c6
     have HW2:=A (HW1.o.trans (ifN (by simp)))
     clear HW1
    rotate_left
    focus
     rw[h1,h2]at c6;unfold maxLen at h4
     by_cases hlt:1<bs.length
     focus
      have hck:=hrow.cell (show 0<bs.length by omega)
      rw[Xl]at hck
      have HG:=A (show(bs.map tl).getD 0 []=tl bs[0]by rw[Xc,Xg,Xd (by omega)];rfl)
      generalize bs[0]=p at *
      by_cases hz:p.size=0
      .have hz':=Zo hz
       have HW2:=A (HW1.o.trans (ifP ⟨hlt,by rw[HG.o];exact Zz hz⟩))
       clear HW1 hz;go_wp2
       go_meet
       case rel=>exact⟨⟨#[47,46]⟩,rfl,HW2.o.symm,by decide,HN.o⟩
      focus
       have hz':=Zj hz
       have HW2:=A (HW1.o.trans (ifN (fun g=>hz (by rw[HG.o]at g;rw[<-Za,g.2];rfl))))
       clear HW1 hz
     rotate_left
     focus
      have HW2:=A (HW1.o.trans (ifN (fun g=>hlt g.1)))
      clear HW1
    all_goals
     go_wp2
     go_meet
     case rel=>exact⟨⟨#[]⟩,rfl,HW2.o.symm,by decide,HN.o⟩
   .have HW1:=A (HW.o.trans (ifP rfl))
    clear HW hsg;go_wp2_with fail
    refine(ZAt rb R u bs _ HB1.o HR1.o l3 l8).mono ?_
    rintro e w2 ⟨t,rfl,ht,htl,hn⟩;have HT:=A ht;have HN2:=A (HN.o.then hn);clear ht hn;go_wp2
    go_meet
    case rel=>exact⟨(⟨#[47,47]⟩:BA)++who++t,rfl,by rw[HW1.o,Zd,Zd,HWH.o,HT.o];rfl,by rw[Zk,Zk];show 2+who.size+t.size<=_;omega,HN2.o⟩
  case rest=>
   obtain⟨wh,rfl,hwh,hwhl,hnc⟩:=hcut;have HWT:=A hwh;have HN2:=A hnc;clear hwh hnc hsg c0 c1 c2 c3 c4 c5 c6 c7 c8 c9 c10 c11 c12;obtain⟨w2,hw2⟩:∃w2,w2=wc:=⟨_,rfl⟩;subst hw2;go_wp2_with fail
   refine(ZBj rb R u bs _ (HB.o.on HN2.o) (HR.o.on HN2.o) l7).mono ?_
   rintro e w3 ⟨pt,rfl,hpt,hptl,hn⟩;have HPT:=A hpt;have HN3:=A (HN2.o.then hn);clear hpt hn;obtain⟨c0,c1,c2,c3,c4,c5,c6,c7,c8,c9,c10,c11,c12⟩:=(HB.o.on HN3.o).cells;have HB':=HB;have HR':=HR;clear HB HR HB1 HR1;obtain⟨sch,user,pass,his,htx,port,po,pn,pc,op,bl,hq,q,hf,fr⟩:=R;simp only at *
   cases hq
   all_goals cases hf
   all_goals go_wp2
   all_goals go_ret
   all_goals exact⟨_,rfl,by rw[HD.o];simp only[if_true,Xf,if_false,Zd,HWT.o,HPT.o,Xh];simp[tl],HN3.o⟩
theorem ZLF(rb:Nat)(R:RR)(u:RU)(bs:LA)(w:World)(h:RB w rb R)(hr:RIs w R u bs)(hl:RL R)(hu:R.user.size=0)(hp:¬R.pass.size=0):Calls prog 113 #[.pointer (some ⟨rb,0,none⟩)] w fun e w'=>∃t:BA,e=Y (J t)/\tl t=ZC1 u/\Nx w w':=by
 have HB:=A h;have HR:=A hr;have HL:=A hl
 have HD:=A (show ZC1 u=tl R.sch++[58]++ZAT u++ZA1 u++(if R.hq=true then [63]++tl R.q else [])++(if R.hf=true then [35]++tl R.fr else [])by rw[<-hr.eq];rfl)
 have HW:=A (show ZAT u=if R.his=true then [47,47]++ZB7 u++ZA5 u else if 1<bs.length/\(bs.map tl).getD 0 []=[]then [47,46]else []by rw[<-Xb (f:=tl),<-hr.eq];rfl)
 have HU:=A (show ZB7 u=if tl R.user=[]/\tl R.pass=[]then []else if tl R.pass=[]then tl R.user++[64]else tl R.user++[58]++tl R.pass++[64]by rw[<-hr.eq];rfl)
 have ls:=hr.lsch;have l1:=hl.user;have l2:=hl.pass;have l3:=hl.htx;have l5:=hl.q;have l6:=hl.fr;have l7:=hl.bl;have l8:=hl.port;obtain⟨c0,c1,c2,c3,c4,c5,c6,c7,c8,c9,c10,c11,c12⟩:=h.cells;have hu':=Zo hu;have hp':=Zj hp;have HE1:=A (ZGF hu);have HE2:=A (ZdF hp);have hsg:=hr.seg';clear h hr hl hu hp
 go_enter func113,ntmps113
 go_upto_if 19 with fail
 go_cut [3]from 8 (fun s wx=>∃who:BA,s=J who/\tl who=ZB7 u/\who.size<=600002/\Nx w wx/\RB wx rb R/\RIs wx R u bs)
 case first=>
  go_upto_region 5 with fail
  all_goals try exact absurd (by assumption:(!R.pass.toList.isEmpty)=false) (by rw[hp'];decide)
  go_region
  go_wp2
  go_meet
  case rel=>exact⟨R.user++(⟨#[58]⟩:BA)++R.pass++(⟨#[64]⟩:BA),rfl,by rw[HU.o,ifN (fun g=>HE2.o g.2),ifN HE2.o,Zd,Zd,Zd];rfl,by rw[Zk,Zk,Zk];show R.user.size+1+R.pass.size+1<=_;omega,Nx.rfl.drew,HB.o.on Nx.rfl.drew,HR.o.on Nx.rfl.drew⟩
 case rest=>
  obtain⟨who,rfl,hwho,hwl,hnc,hbc,hrc⟩:=hcut;have HWH:=A hwho;have HN:=A hnc;have HB1:=A hbc;have HR1:=A hrc;clear hwho hnc hbc hrc c0 c1 c2 c3 c4 c5 c6 c7 c8 c9 c10 c11 c12 hu' hp' hsg;obtain⟨w1,hw1⟩:∃w1,w1=wc:=⟨_,rfl⟩;subst hw1;have hsg:=HR1.o.seg';obtain⟨c0,c1,c2,c3,c4,c5,c6,c7,c8,c9,c10,c11,c12⟩:=HB1.o.cells
  go_upto_if 45 with fail
  go_cut [4,5]from 8 (fun s _ wx=>∃t:BA,s=J t/\tl t=ZAT u/\t.size<=2000000/\Nx w wx)
  case first=>
   generalize R.his=his at *
   cases his
   .have HW1:=A (HW.o.trans (ifN (by decide)))
    clear HW;rcases hsg with⟨h1,h2,h3,rfl⟩|⟨b,off,h1,h2,h3,h4,hrow⟩
    focus
     rw[h1,h2,h3]at c6
     have HW2:=A (HW1.o.trans (ifN (by simp)))
     clear HW1
    rotate_left
    focus
     rw[h1,h2]at c6;unfold maxLen at h4
     by_cases hlt:1<bs.length
     focus
      have hck:=hrow.cell (show 0<bs.length by omega)
      rw[Xl]at hck
      have HG:=A (show(bs.map tl).getD 0 []=tl bs[0]by rw[Xc,Xg,Xd (by omega)];rfl)
      generalize bs[0]=p at *
      by_cases hz:p.size=0
      .have hz':=Zo hz
       have HW2:=A (HW1.o.trans (ifP ⟨hlt,by rw[HG.o];exact Zz hz⟩))
       clear HW1 hz;go_wp2
       go_meet
       case rel=>exact⟨⟨#[47,46]⟩,rfl,HW2.o.symm,by decide,HN.o⟩
      focus
       have hz':=Zj hz
       have HW2:=A (HW1.o.trans (ifN (fun g=>hz (by rw[HG.o]at g;rw[<-Za,g.2];rfl))))
       clear HW1 hz
     rotate_left
     focus
      have HW2:=A (HW1.o.trans (ifN (fun g=>hlt g.1)))
      clear HW1
    all_goals
     go_wp2
     go_meet
     case rel=>exact⟨⟨#[]⟩,rfl,HW2.o.symm,by decide,HN.o⟩
   .have HW1:=A (HW.o.trans (ifP rfl))
    clear HW hsg;go_wp2_with fail
    refine(ZAt rb R u bs _ HB1.o HR1.o l3 l8).mono ?_
    rintro e w2 ⟨t,rfl,ht,htl,hn⟩;have HT:=A ht;have HN2:=A (HN.o.then hn);clear ht hn;go_wp2
    go_meet
    case rel=>exact⟨(⟨#[47,47]⟩:BA)++who++t,rfl,by rw[HW1.o,Zd,Zd,HWH.o,HT.o];rfl,by rw[Zk,Zk];show 2+who.size+t.size<=_;omega,HN2.o⟩
  case rest=>
   obtain⟨wh,rfl,hwh,hwhl,hnc⟩:=hcut;have HWT:=A hwh;have HN2:=A hnc;clear hwh hnc hsg c0 c1 c2 c3 c4 c5 c6 c7 c8 c9 c10 c11 c12;obtain⟨w2,hw2⟩:∃w2,w2=wc:=⟨_,rfl⟩;subst hw2;go_wp2_with fail
   refine(ZBj rb R u bs _ (HB.o.on HN2.o) (HR.o.on HN2.o) l7).mono ?_
   rintro e w3 ⟨pt,rfl,hpt,hptl,hn⟩;have HPT:=A hpt;have HN3:=A (HN2.o.then hn);clear hpt hn;obtain⟨c0,c1,c2,c3,c4,c5,c6,c7,c8,c9,c10,c11,c12⟩:=(HB.o.on HN3.o).cells;have HB':=HB;have HR':=HR;clear HB HR HB1 HR1;obtain⟨sch,user,pass,his,htx,port,po,pn,pc,op,bl,hq,q,hf,fr⟩:=R;simp only at *
   cases hq
   all_goals cases hf
   all_goals go_wp2
   all_goals go_ret
   all_goals exact⟨_,rfl,by rw[HD.o];simp only[if_true,Xf,if_false,Zd,HWT.o,HPT.o,Xh];simp[tl],HN3.o⟩
theorem ZLG(rb:Nat)(R:RR)(u:RU)(bs:LA)(w:World)(h:RB w rb R)(hr:RIs w R u bs)(hl:RL R)(hu:¬R.user.size=0)(hp:R.pass.size=0):Calls prog 113 #[.pointer (some ⟨rb,0,none⟩)] w fun e w'=>∃t:BA,e=Y (J t)/\tl t=ZC1 u/\Nx w w':=by
 have HB:=A h;have HR:=A hr;have HL:=A hl
 have HD:=A (show ZC1 u=tl R.sch++[58]++ZAT u++ZA1 u++(if R.hq=true then [63]++tl R.q else [])++(if R.hf=true then [35]++tl R.fr else [])by rw[<-hr.eq];rfl)
 have HW:=A (show ZAT u=if R.his=true then [47,47]++ZB7 u++ZA5 u else if 1<bs.length/\(bs.map tl).getD 0 []=[]then [47,46]else []by rw[<-Xb (f:=tl),<-hr.eq];rfl)
 have HU:=A (show ZB7 u=if tl R.user=[]/\tl R.pass=[]then []else if tl R.pass=[]then tl R.user++[64]else tl R.user++[58]++tl R.pass++[64]by rw[<-hr.eq];rfl)
 have ls:=hr.lsch;have l1:=hl.user;have l2:=hl.pass;have l3:=hl.htx;have l5:=hl.q;have l6:=hl.fr;have l7:=hl.bl;have l8:=hl.port;obtain⟨c0,c1,c2,c3,c4,c5,c6,c7,c8,c9,c10,c11,c12⟩:=h.cells;have hu':=Zj hu;have hp':=Zo hp;have HE1:=A (ZdF hu);have HE2:=A (ZGF hp);have hsg:=hr.seg';clear h hr hl hu hp
 go_enter func113,ntmps113
 go_upto_if 19 with fail
 go_cut [3]from 8 (fun s wx=>∃who:BA,s=J who/\tl who=ZB7 u/\who.size<=600002/\Nx w wx/\RB wx rb R/\RIs wx R u bs)
 case first=>
  go_wp2
  all_goals try exact absurd (by assumption:(!R.pass.toList.isEmpty)=true) (by rw[hp'];decide)
  go_meet
  case rel=>exact⟨R.user++(⟨#[64]⟩:BA),rfl,by rw[HU.o,ifN (fun g=>HE1.o g.1),ifP HE2.o,Zd];rfl,by rw[Zk];show R.user.size+1<=_;omega,Nx.rfl,HB.o,HR.o⟩
 case rest=>
  obtain⟨who,rfl,hwho,hwl,hnc,hbc,hrc⟩:=hcut;have HWH:=A hwho;have HN:=A hnc;have HB1:=A hbc;have HR1:=A hrc;clear hwho hnc hbc hrc c0 c1 c2 c3 c4 c5 c6 c7 c8 c9 c10 c11 c12 hu' hp' hsg;obtain⟨w1,hw1⟩:∃w1,w1=wc:=⟨_,rfl⟩;subst hw1;have hsg:=HR1.o.seg';obtain⟨c0,c1,c2,c3,c4,c5,c6,c7,c8,c9,c10,c11,c12⟩:=HB1.o.cells
  go_upto_if 45 with fail
  go_cut [4,5]from 8 (fun s _ wx=>∃t:BA,s=J t/\tl t=ZAT u/\t.size<=2000000/\Nx w wx)
  case first=>
   generalize R.his=his at *
   cases his
   .have HW1:=A (HW.o.trans (ifN (by decide)))
    clear HW;rcases hsg with⟨h1,h2,h3,rfl⟩|⟨b,off,h1,h2,h3,h4,hrow⟩
    focus
     rw[h1,h2,h3]at c6
     have HW2:=A (HW1.o.trans (ifN (by simp)))
     clear HW1
    rotate_left
    focus
     rw[h1,h2]at c6;unfold maxLen at h4
     by_cases hlt:1<bs.length
     focus
      have hck:=hrow.cell (show 0<bs.length by omega)
      rw[Xl]at hck
      have HG:=A (show(bs.map tl).getD 0 []=tl bs[0]by rw[Xc,Xg,Xd (by omega)];rfl)
      generalize bs[0]=p at *
      by_cases hz:p.size=0
      .have hz':=Zo hz
       have HW2:=A (HW1.o.trans (ifP ⟨hlt,by rw[HG.o];exact Zz hz⟩))
       clear HW1 hz;go_wp2
       go_meet
       case rel=>exact⟨⟨#[47,46]⟩,rfl,HW2.o.symm,by decide,HN.o⟩
      focus
       have hz':=Zj hz
       have HW2:=A (HW1.o.trans (ifN (fun g=>hz (by rw[HG.o]at g;rw[<-Za,g.2];rfl))))
       clear HW1 hz
     rotate_left
     focus
      have HW2:=A (HW1.o.trans (ifN (fun g=>hlt g.1)))
      clear HW1
    all_goals
     go_wp2
     go_meet
     case rel=>exact⟨⟨#[]⟩,rfl,HW2.o.symm,by decide,HN.o⟩
   .have HW1:=A (HW.o.trans (ifP rfl))
    clear HW hsg;go_wp2_with fail
    refine(ZAt rb R u bs _ HB1.o HR1.o l3 l8).mono ?_
    rintro e w2 ⟨t,rfl,ht,htl,hn⟩;have HT:=A ht;have HN2:=A (HN.o.then hn);clear ht hn;go_wp2
    go_meet
    case rel=>exact⟨(⟨#[47,47]⟩:BA)++who++t,rfl,by rw[HW1.o,Zd,Zd,HWH.o,HT.o];rfl,by rw[Zk,Zk];show 2+who.size+t.size<=_;omega,HN2.o⟩
  case rest=>
   obtain⟨wh,rfl,hwh,hwhl,hnc⟩:=hcut;have HWT:=A hwh;have HN2:=A hnc;clear hwh hnc hsg c0 c1 c2 c3 c4 c5 c6 c7 c8 c9 c10 c11 c12;obtain⟨w2,hw2⟩:∃w2,w2=wc:=⟨_,rfl⟩;subst hw2;go_wp2_with fail
   refine(ZBj rb R u bs _ (HB.o.on HN2.o) (HR.o.on HN2.o) l7).mono ?_
   rintro e w3 ⟨pt,rfl,hpt,hptl,hn⟩;have HPT:=A hpt;have HN3:=A (HN2.o.then hn);clear hpt hn;obtain⟨c0,c1,c2,c3,c4,c5,c6,c7,c8,c9,c10,c11,c12⟩:=(HB.o.on HN3.o).cells;have HB':=HB;have HR':=HR;clear HB HR HB1 HR1;obtain⟨sch,user,pass,his,htx,port,po,pn,pc,op,bl,hq,q,hf,fr⟩:=R;simp only at *
   cases hq
   all_goals cases hf
   all_goals go_wp2
   all_goals go_ret
   all_goals exact⟨_,rfl,by rw[HD.o];simp only[if_true,Xf,if_false,Zd,HWT.o,HPT.o,Xh];simp[tl],HN3.o⟩
theorem ZLH(rb:Nat)(R:RR)(u:RU)(bs:LA)(w:World)(h:RB w rb R)(hr:RIs w R u bs)(hl:RL R)(hu:¬R.user.size=0)(hp:¬R.pass.size=0):Calls prog 113 #[.pointer (some ⟨rb,0,none⟩)] w fun e w'=>∃t:BA,e=Y (J t)/\tl t=ZC1 u/\Nx w w':=by
 have HB:=A h;have HR:=A hr;have HL:=A hl
 have HD:=A (show ZC1 u=tl R.sch++[58]++ZAT u++ZA1 u++(if R.hq=true then [63]++tl R.q else [])++(if R.hf=true then [35]++tl R.fr else [])by rw[<-hr.eq];rfl)
 have HW:=A (show ZAT u=if R.his=true then [47,47]++ZB7 u++ZA5 u else if 1<bs.length/\(bs.map tl).getD 0 []=[]then [47,46]else []by rw[<-Xb (f:=tl),<-hr.eq];rfl)
 have HU:=A (show ZB7 u=if tl R.user=[]/\tl R.pass=[]then []else if tl R.pass=[]then tl R.user++[64]else tl R.user++[58]++tl R.pass++[64]by rw[<-hr.eq];rfl)
 have ls:=hr.lsch;have l1:=hl.user;have l2:=hl.pass;have l3:=hl.htx;have l5:=hl.q;have l6:=hl.fr;have l7:=hl.bl;have l8:=hl.port;obtain⟨c0,c1,c2,c3,c4,c5,c6,c7,c8,c9,c10,c11,c12⟩:=h.cells;have hu':=Zj hu;have hp':=Zj hp;have HE1:=A (ZdF hu);have HE2:=A (ZdF hp);have hsg:=hr.seg';clear h hr hl hu hp
 go_enter func113,ntmps113
 go_upto_if 19 with fail
 go_cut [3]from 8 (fun s wx=>∃who:BA,s=J who/\tl who=ZB7 u/\who.size<=600002/\Nx w wx/\RB wx rb R/\RIs wx R u bs)
 case first=>
  go_upto_region 5 with fail
  all_goals try exact absurd (by assumption:(!R.pass.toList.isEmpty)=false) (by rw[hp'];decide)
  go_region
  go_wp2
  go_meet
  case rel=>exact⟨R.user++(⟨#[58]⟩:BA)++R.pass++(⟨#[64]⟩:BA),rfl,by rw[HU.o,ifN (fun g=>HE2.o g.2),ifN HE2.o,Zd,Zd,Zd];rfl,by rw[Zk,Zk,Zk];show R.user.size+1+R.pass.size+1<=_;omega,Nx.rfl.drew,HB.o.on Nx.rfl.drew,HR.o.on Nx.rfl.drew⟩
 case rest=>
  obtain⟨who,rfl,hwho,hwl,hnc,hbc,hrc⟩:=hcut;have HWH:=A hwho;have HN:=A hnc;have HB1:=A hbc;have HR1:=A hrc;clear hwho hnc hbc hrc c0 c1 c2 c3 c4 c5 c6 c7 c8 c9 c10 c11 c12 hu' hp' hsg;obtain⟨w1,hw1⟩:∃w1,w1=wc:=⟨_,rfl⟩;subst hw1;have hsg:=HR1.o.seg';obtain⟨c0,c1,c2,c3,c4,c5,c6,c7,c8,c9,c10,c11,c12⟩:=HB1.o.cells
  go_upto_if 45 with fail
  go_cut [4,5]from 8 (fun s _ wx=>∃t:BA,s=J t/\tl t=ZAT u/\t.size<=2000000/\Nx w wx)
  case first=>
   generalize R.his=his at *
   cases his
   .have HW1:=A (HW.o.trans (ifN (by decide)))
    clear HW;rcases hsg with⟨h1,h2,h3,rfl⟩|⟨b,off,h1,h2,h3,h4,hrow⟩
    focus
     rw[h1,h2,h3]at c6
     have HW2:=A (HW1.o.trans (ifN (by simp)))
     clear HW1
    rotate_left
    focus
     rw[h1,h2]at c6;unfold maxLen at h4
     by_cases hlt:1<bs.length
     focus
      have hck:=hrow.cell (show 0<bs.length by omega)
      rw[Xl]at hck
      have HG:=A (show(bs.map tl).getD 0 []=tl bs[0]by rw[Xc,Xg,Xd (by omega)];rfl)
      generalize bs[0]=p at *
      by_cases hz:p.size=0
      .have hz':=Zo hz
       have HW2:=A (HW1.o.trans (ifP ⟨hlt,by rw[HG.o];exact Zz hz⟩))
       clear HW1 hz;go_wp2
       go_meet
       case rel=>exact⟨⟨#[47,46]⟩,rfl,HW2.o.symm,by decide,HN.o⟩
      focus
       have hz':=Zj hz
       have HW2:=A (HW1.o.trans (ifN (fun g=>hz (by rw[HG.o]at g;rw[<-Za,g.2];rfl))))
       clear HW1 hz
     rotate_left
     focus
      have HW2:=A (HW1.o.trans (ifN (fun g=>hlt g.1)))
      clear HW1
    all_goals
     go_wp2
     go_meet
     case rel=>exact⟨⟨#[]⟩,rfl,HW2.o.symm,by decide,HN.o⟩
   .have HW1:=A (HW.o.trans (ifP rfl))
    clear HW hsg;go_wp2_with fail
    refine(ZAt rb R u bs _ HB1.o HR1.o l3 l8).mono ?_
    rintro e w2 ⟨t,rfl,ht,htl,hn⟩;have HT:=A ht;have HN2:=A (HN.o.then hn);clear ht hn;go_wp2
    go_meet
    case rel=>exact⟨(⟨#[47,47]⟩:BA)++who++t,rfl,by rw[HW1.o,Zd,Zd,HWH.o,HT.o];rfl,by rw[Zk,Zk];show 2+who.size+t.size<=_;omega,HN2.o⟩
  case rest=>
   obtain⟨wh,rfl,hwh,hwhl,hnc⟩:=hcut;have HWT:=A hwh;have HN2:=A hnc;clear hwh hnc hsg c0 c1 c2 c3 c4 c5 c6 c7 c8 c9 c10 c11 c12;obtain⟨w2,hw2⟩:∃w2,w2=wc:=⟨_,rfl⟩;subst hw2;go_wp2_with fail
   refine(ZBj rb R u bs _ (HB.o.on HN2.o) (HR.o.on HN2.o) l7).mono ?_
   rintro e w3 ⟨pt,rfl,hpt,hptl,hn⟩;have HPT:=A hpt;have HN3:=A (HN2.o.then hn);clear hpt hn;obtain⟨c0,c1,c2,c3,c4,c5,c6,c7,c8,c9,c10,c11,c12⟩:=(HB.o.on HN3.o).cells;have HB':=HB;have HR':=HR;clear HB HR HB1 HR1;obtain⟨sch,user,pass,his,htx,port,po,pn,pc,op,bl,hq,q,hf,fr⟩:=R;simp only at *
   cases hq
   all_goals cases hf
   all_goals go_wp2
   all_goals go_ret
   all_goals exact⟨_,rfl,by rw[HD.o];simp only[if_true,Xf,if_false,Zd,HWT.o,HPT.o,Xh];simp[tl],HN3.o⟩
theorem ZKc(rb:Nat)(R:RR)(u:RU)(bs:LA)(w:World)(h:RB w rb R)(hr:RIs w R u bs)(hl:RL R):Calls prog 113 #[.pointer (some ⟨rb,0,none⟩)] w fun e w'=>∃t:BA,e=Y (J t)/\tl t=ZC1 u/\Nx w w':=by
 by_cases hu:R.user.size=0
 .by_cases hp:R.pass.size=0
  .exact ZLE rb R u bs w h hr hl hu hp
  .exact ZLF rb R u bs w h hr hl hu hp
 .by_cases hp:R.pass.size=0
  .exact ZLG rb R u bs w h hr hl hu hp
  .exact ZLH rb R u bs w h hr hl hu hp
theorem ZEk{s:BA}{l:LB}{n:Nat}(h:tl s=l)(hn:l.length<=n):s.size<=n:=by rw[<-Za,h];exact hn
theorem ZKd(rb:Nat)(R:RR)(u:RU)(bs:LA)(w:World)(h:RB w rb R)(hr:RIs w R u bs)(hl:RL R)(hsp:Zg u.sch=true)(hf:u.sch≠Zzu):Calls prog 114 #[.pointer (some ⟨rb,0,none⟩)] w fun e w'=>∃t:BA,e=Y (J t)/\tl t=Zz3 u/\Nx w w':=by
 have HB:=A h;have HR:=A hr
 have HE:=A (show Zz3 u=tl R.sch++[58,47,47]++ZA5 u by unfold Zz3 ZB8;rw[ifP ⟨hsp,hf⟩,hr.usch])
 have ls:=hr.lsch;have l3:=hl.htx;have l8:=hl.port;have c0:=h.cells.1
 have hfb:=neB (s:=R.sch) (l:=[102,105,108,101]) (by rw[hr.usch];exact hf)
 have hfb':=Zzc hfb
 have HSP:=A (show Zg (tl R.sch)=true by rw[hr.usch];exact hsp)
 clear h hr hl hf hsp
 go_enter func114,ntmps114
 go_wp2_with fail
 refine(ZO R.sch _).mono ?_
 rintro e w1 ⟨rfl,hn1⟩;rw[HSP.o];have HN1:=A hn1;have c01:=(HB.o.on hn1).cells.1;clear hn1 c0;go_wp2_with fail
 refine(ZAt rb R u bs _ (HB.o.on HN1.o) (HR.o.on HN1.o) l3 l8).mono ?_
 rintro e w2 ⟨t,rfl,ht,htl,hn2⟩;have HT:=A ht;have HN2:=A (HN1.o.then hn2);have c02:=(HB.o.on HN2.o).cells.1;clear ht hn2 c01;go_wp2;go_ret
 exact⟨_,rfl,by rw[HE.o,Zd,Zd,HT.o];rfl,HN2.o⟩
theorem ZKe(rb:Nat)(R:RR)(u:RU)(bs:LA)(w:World)(h:RB w rb R)(hr:RIs w R u bs)(hsp:¬(Zg u.sch=true/\u.sch≠Zzu))(hbl:u.sch≠ZIi):Calls prog 114 #[.pointer (some ⟨rb,0,none⟩)] w fun e w'=>∃t:BA,e=Y (J t)/\tl t=Zz3 u/\Nx w w':=by
 have HB:=A h
 have HE:=A (show Zz3 u=ZJK by unfold Zz3;rw[ifN hsp,ifN hbl])
 have c0:=h.cells.1
 have hcase:(Zg (tl R.sch)=false)∨(Zg (tl R.sch)=true/\(R.sch.toList == [102,105,108,101])=true):=by
  rw[hr.usch]
  cases hx:Zg u.sch
  .exact Xe rfl
  .right
   refine⟨rfl,eqB ?_⟩
   rw[hr.usch]
   exact Classical.byContradiction fun g=>hsp ⟨hx,g⟩
 have hbb:=neB (s:=R.sch) (l:=[98,108,111,98]) (by rw[hr.usch];exact hbl)
 clear h hr hsp hbl
 go_enter func114,ntmps114
 go_wp2_with fail
 refine(ZO R.sch _).mono ?_
 rintro e w1 ⟨rfl,hn1⟩;have HN1:=A hn1;have c01:=(HB.o.on hn1).cells.1;clear hn1 c0;rcases hcase with hx|⟨hx,hfb⟩
 .rw[hx]
  clear hx;go_wp2;go_ret
  exact⟨_,rfl,by rw[HE.o];rfl,HN1.o⟩
 .rw[hx]
  have hfb':=Zzd hfb;clear hx;go_wp2;go_ret
  exact⟨_,rfl,by rw[HE.o];rfl,HN1.o⟩
theorem ZKf(rb:Nat)(R:RR)(u:RU)(bs:LA)(w:World)(h:RB w rb R)(hr:RIs w R u bs)(hl:RL R)(hbl:u.sch=ZIi)(hpl:(ZA1 u).length<=20000)(hin:(parseR (ZA1 u) none).2=0->(parseR (ZA1 u) none).1.htx.length<=300000/\(parseR (ZA1 u) none).1.port<=65535):Calls prog 114 #[.pointer (some ⟨rb,0,none⟩)] w fun e w'=>∃t:BA,e=Y (J t)/\tl t=Zz3 u/\Nx w w':=by
 have HB:=A h;have HR:=A hr
 have HD:=A (show Zz3 u=ZDr (parseR (ZA1 u) none)by unfold Zz3;rw[ifN (by rw[hbl];decide),ifP hbl])
 have HIN:=A hin;have HPL:=A hpl;have l7:=hl.bl;have c0:=h.cells.1
 have HSP:=A (show Zg (tl R.sch)=false by rw[hr.usch,hbl];decide)
 have hbb:=eqB (s:=R.sch) (l:=[98,108,111,98]) (by rw[hr.usch];exact hbl)
 clear h hr hl hbl hpl hin
 go_enter func114,ntmps114
 go_wp2_with fail
 refine(ZO R.sch _).mono ?_
 rintro e w1 ⟨rfl,hn1⟩;rw[HSP.o];have HN1:=A hn1;have c01:=(HB.o.on hn1).cells.1;clear hn1 c0;go_wp2_with fail
 refine(ZBj rb R u bs _ (HB.o.on HN1.o) (HR.o.on HN1.o) l7).mono ?_
 rintro e w2 ⟨p,rfl,hp,hpsz,hn2⟩;have HP:=A hp;have HN2:=A (HN1.o.then hn2);have hp2:p.size<=20000:=ZEk hp HPL.o;clear hp hn2 c01 hpsz;go_wp2_with fail
 refine(ZBV p (.pointer none) none _ hp2 (Xe ⟨rfl,rfl,(HR.o.on HN2.o).fw⟩)).mono ?_
 rintro e w3 hx;rw[HP.o]at hx;generalize parseR (ZA1 u) none=x at *;obtain⟨v,err⟩:=x;simp only at HIN;rcases hx with⟨he,rfl,hn3⟩|⟨he,vb,V,vs,rfl,hB,hV,-,hn3⟩
 .have HE:=A (show Zz3 u=ZJK by rw[HD.o];unfold ZDr;rw[ifN (fun g=>he g.1)])
  have he1:(err==0)=false:=beq_eq_false_iff_ne.2 he;have HN3:=A (HN2.o.then hn3);clear he hn3 HIN HD;go_wp2;go_ret
  exact⟨_,rfl,by rw[HE.o];rfl,HN3.o⟩
 .simp only at he
  subst he;have HN3:=A (HN2.o.then hn3);have HVB:=A hB
  replace hV:RIs w3 V v vs:=hV
  have HVI:=A hV;obtain⟨g1,g2⟩:=HIN.o rfl
  have v3:V.htx.size<=300000:=ZEk (show tl V.htx=v.htx by rw[<-hV.eq];rfl) g1
  have v8:V.port<=65535:=by have:V.port=v.port:=by rw[<-hV.eq];rfl
                            rw[this];exact g2
  have vls:=hV.lsch;have d0:=hB.cells.1;have HVS:=A hV.usch;clear hn3 hB hV g1 g2 HIN
  by_cases hh:v.sch=ZMF
  focus
   have HE:=A (show Zz3 u=tl V.sch++[58,47,47]++ZA5 v by rw[HD.o];unfold ZDr ZB8;rw[ifP ⟨rfl,Xe hh⟩,HVS.o])
   have hb1:=eqB (s:=V.sch) (l:=[104,116,116,112]) (by rw[HVS.o];exact hh)
   clear HD hh
  rotate_left
  focus
   have hb1:=neB (s:=V.sch) (l:=[104,116,116,112]) (by rw[HVS.o];exact hh)
   by_cases hh2:v.sch=ZJJ
   focus
    have HE:=A (show Zz3 u=tl V.sch++[58,47,47]++ZA5 v by rw[HD.o];unfold ZDr ZB8;rw[ifP ⟨rfl,Xn hh2⟩,HVS.o])
    have hb2:=eqB (s:=V.sch) (l:=[104,116,116,112,115]) (by rw[HVS.o];exact hh2)
    clear HD hh hh2
   rotate_left
   .have HE:=A (show Zz3 u=ZJK by rw[HD.o];unfold ZDr;rw[ifN (by rintro⟨-,g|g⟩;exact hh g;exact hh2 g)])
    have hb2:=neB (s:=V.sch) (l:=[104,116,116,112,115]) (by rw[HVS.o];exact hh2)
    clear HD hh hh2;go_wp2;go_ret
    exact⟨_,rfl,by rw[HE.o];rfl,HN3.o⟩
  all_goals
   go_wp2_with fail
   refine(ZAt vb V v vs _ HVB.o HVI.o v3 v8).mono ?_
   rintro e w4 ⟨t,rfl,ht,htl,hn4⟩;have HT:=A ht;have HN4:=A (HN3.o.then hn4);have d04:=(HVB.o.on hn4).cells.1;clear ht hn4 d0;go_wp2;go_ret
   exact⟨_,rfl,by rw[HE.o,Zd,Zd,HT.o];rfl,HN4.o⟩
def ZKg(u:RU):Prop:=u.sch=ZIi->(ZA1 u).length<=20000/\((parseR (ZA1 u) none).2=0->(parseR (ZA1 u) none).1.htx.length<=300000/\(parseR (ZA1 u) none).1.port<=65535)
theorem ZGG(rb:Nat)(R:RR)(u:RU)(bs:LA)(w:World)(h:RB w rb R)(hr:RIs w R u bs)(hl:RL R)(hb:ZKg u):Calls prog 114 #[.pointer (some ⟨rb,0,none⟩)] w fun e w'=>∃t:BA,e=Y (J t)/\tl t=Zz3 u/\Nx w w':=by
 by_cases hsp:Zg u.sch=true/\u.sch≠Zzu
 .exact ZKd rb R u bs w h hr hl hsp.1 hsp.2
 .by_cases hbl:u.sch=ZIi
  .exact ZKf rb R u bs w h hr hl hbl (hb hbl).1 (hb hbl).2
  .exact ZKe rb R u bs w h hr hsp hbl
def URB(w:World)(ub rb:Nat)(v:Value):Prop:=w.heap[ub]?=some (O #[.pointer (some ⟨rb,0,none⟩),v] 88 (0,0))
theorem URB.on{w w':World}{ub rb:Nat}{v:Value}(h:URB w ub rb v)(hb:Nx w w'):URB w' ub rb v:=(hb.block ub (Xa.1 h).1).trans h
theorem URB.lt{w:World}{ub rb:Nat}{v:Value}(h:URB w ub rb v):ub<w.heap.size:=(Xa.1 h).1
theorem URB.cells{w:World}{ub rb:Nat}{v:Value}(h:URB w ub rb v):w.cell? ⟨ub,0,none⟩=some (.pointer (some ⟨rb,0,none⟩))/\w.cell? ⟨ub,1,none⟩=some v:=by
 unfold URB at h
 constructor<;>simp[World.cell?,h]
theorem URB.free{w:World}{ub rb:Nat}{v:Value}(h:URB w ub rb v)(i:Nat):w.frozen? ⟨ub,i,none⟩=false:=by
 unfold URB at h
 simp[World.frozen?,h]
theorem ZII(w:World)(R:RR):C11 (((w.alloc (O #[J ⟨#[]⟩,J ⟨#[]⟩,J ⟨#[]⟩,J ⟨#[]⟩,J ⟨#[]⟩,J ⟨#[]⟩,J ⟨#[]⟩,J ⟨#[]⟩,J ⟨#[]⟩,J ⟨#[]⟩,J ⟨#[]⟩] 66)).alloc (O #[J ⟨#[]⟩,J ⟨#[]⟩,J (R.sch++⟨#[58]⟩),J R.user,J R.pass,J ⟨#[]⟩,J R.htx,J ⟨#[]⟩,J ⟨#[]⟩,J ⟨#[]⟩,J ⟨#[]⟩] 66)).drew) w.heap.size (J ⟨#[]⟩) (J ⟨#[]⟩) (J ⟨#[]⟩) (J ⟨#[]⟩) (J ⟨#[]⟩) (J ⟨#[]⟩) (J ⟨#[]⟩) (J ⟨#[]⟩) (J ⟨#[]⟩) (J ⟨#[]⟩) (J ⟨#[]⟩)/\C11 (((w.alloc (O #[J ⟨#[]⟩,J ⟨#[]⟩,J ⟨#[]⟩,J ⟨#[]⟩,J ⟨#[]⟩,J ⟨#[]⟩,J ⟨#[]⟩,J ⟨#[]⟩,J ⟨#[]⟩,J ⟨#[]⟩,J ⟨#[]⟩] 66)).alloc (O #[J ⟨#[]⟩,J ⟨#[]⟩,J (R.sch++⟨#[58]⟩),J R.user,J R.pass,J ⟨#[]⟩,J R.htx,J ⟨#[]⟩,J ⟨#[]⟩,J ⟨#[]⟩,J ⟨#[]⟩] 66)).drew) (w.heap.size+1) (J ⟨#[]⟩) (J ⟨#[]⟩) (J (R.sch++⟨#[58]⟩)) (J R.user) (J R.pass) (J ⟨#[]⟩) (J R.htx) (J ⟨#[]⟩) (J ⟨#[]⟩) (J ⟨#[]⟩) (J ⟨#[]⟩)/\Nx w (((w.alloc (O #[J ⟨#[]⟩,J ⟨#[]⟩,J ⟨#[]⟩,J ⟨#[]⟩,J ⟨#[]⟩,J ⟨#[]⟩,J ⟨#[]⟩,J ⟨#[]⟩,J ⟨#[]⟩,J ⟨#[]⟩,J ⟨#[]⟩] 66)).alloc (O #[J ⟨#[]⟩,J ⟨#[]⟩,J (R.sch++⟨#[58]⟩),J R.user,J R.pass,J ⟨#[]⟩,J R.htx,J ⟨#[]⟩,J ⟨#[]⟩,J ⟨#[]⟩,J ⟨#[]⟩] 66)).drew):=by
 refine⟨C11.on (C11.on (heap_alloc_new w _) (Nx.rfl.alloc _)) Nx.rfl.drew,C11.on ?_ Nx.rfl.drew,((Nx.rfl.alloc _).alloc _).drew⟩
 have h:C11 ((w.alloc (O #[J ⟨#[]⟩,J ⟨#[]⟩,J ⟨#[]⟩,J ⟨#[]⟩,J ⟨#[]⟩,J ⟨#[]⟩,J ⟨#[]⟩,J ⟨#[]⟩,J ⟨#[]⟩,J ⟨#[]⟩,J ⟨#[]⟩] 66)).alloc (O #[J ⟨#[]⟩,J ⟨#[]⟩,J (R.sch++⟨#[58]⟩),J R.user,J R.pass,J ⟨#[]⟩,J R.htx,J ⟨#[]⟩,J ⟨#[]⟩,J ⟨#[]⟩,J ⟨#[]⟩] 66)) (w.alloc (O #[J ⟨#[]⟩,J ⟨#[]⟩,J ⟨#[]⟩,J ⟨#[]⟩,J ⟨#[]⟩,J ⟨#[]⟩,J ⟨#[]⟩,J ⟨#[]⟩,J ⟨#[]⟩,J ⟨#[]⟩,J ⟨#[]⟩] 66)).heap.size (J ⟨#[]⟩) (J ⟨#[]⟩) (J (R.sch++⟨#[58]⟩)) (J R.user) (J R.pass) (J ⟨#[]⟩) (J R.htx) (J ⟨#[]⟩) (J ⟨#[]⟩) (J ⟨#[]⟩) (J ⟨#[]⟩):=heap_alloc_new _ _
 rw[show(w.alloc (O #[J ⟨#[]⟩,J ⟨#[]⟩,J ⟨#[]⟩,J ⟨#[]⟩,J ⟨#[]⟩,J ⟨#[]⟩,J ⟨#[]⟩,J ⟨#[]⟩,J ⟨#[]⟩,J ⟨#[]⟩,J ⟨#[]⟩] 66)).heap.size=w.heap.size+1 by simp]at h
 exact h
def ZNz(e:Ending)(u:RU):Prop:=∃t0 t1 t2 t3 t4 t5 t6 t7 t8 t9 t10:ByteArray,e=Y (.agg #[J t0,J t1,J t2,J t3,J t4,J t5,J t6,J t7,J t8,J t9,J t10])/\tl t0=ZC1 u/\tl t1=Zz3 u/\tl t2=u.sch++[58]/\tl t3=u.user/\tl t4=u.pass/\tl t5=ZA5 u/\tl t6=u.htx/\tl t7=ZJL u/\tl t8=ZA1 u/\tl t9=ZIj 63 u.q/\tl t10=ZIj 35 u.fr
theorem ZCo(ub rb:Nat)(v:Value)(R:RR)(u:RU)(bs:LA)(w:World)(hu:URB w ub rb v)(h:RB w rb R)(hr:RIs w R u bs)(hl:RL R)(hb:ZKg u):Calls prog 52 #[.pointer (some ⟨ub,0,none⟩)] w fun e w'=>ZNz e u/\Nx w w':=by
 have HU:=A hu;have HB:=A h;have HR:=A hr;have HL:=A hl;have HBO:=A hb;have ls:=hr.lsch;have lh:=hl.htx;have lp:=hl.port;have lb:=hl.bl;have lq:=hl.q;have lf:=hl.fr
 have HM2:=A (show tl (R.sch++(⟨#[58]⟩:BA))=u.sch++[58]by rw[Zd,hr.usch];rfl)
 have HM3:=A (show tl R.user=u.user by rw[<-hr.eq];rfl)
 have HM4:=A (show tl R.pass=u.pass by rw[<-hr.eq];rfl)
 have HM6:=A (show tl R.htx=u.htx by rw[<-hr.eq];rfl)
 have HM7:=A (show ZJL u=if 0<=R.port then dec R.port.toNat else []by rw[<-hr.eq];rfl)
 have HM9:=A (show ZIj 63 u.q=if tl R.q=[]then []else 63::tl R.q by rw[<-hr.eq];rfl)
 have HM10:=A (show ZIj 35 u.fr=if tl R.fr=[]then []else 35::tl R.fr by rw[<-hr.eq];rfl)
 have a0:=(hu.on (Nx.rfl.alloc (O #[J ⟨#[]⟩,J ⟨#[]⟩,J ⟨#[]⟩,J ⟨#[]⟩,J ⟨#[]⟩,J ⟨#[]⟩,J ⟨#[]⟩,J ⟨#[]⟩,J ⟨#[]⟩,J ⟨#[]⟩,J ⟨#[]⟩] 66))).cells.1;obtain⟨c0,c1,c2,c3,c4,c5,c6,c7,c8,c9,c10,c11,c12⟩:=(h.on (Nx.rfl.alloc (O #[J ⟨#[]⟩,J ⟨#[]⟩,J ⟨#[]⟩,J ⟨#[]⟩,J ⟨#[]⟩,J ⟨#[]⟩,J ⟨#[]⟩,J ⟨#[]⟩,J ⟨#[]⟩,J ⟨#[]⟩,J ⟨#[]⟩] 66))).cells;obtain⟨d0,d1,d2,d3,d4,d5,d6,d7,d8,d9,d10,d11,d12⟩:=(h.on ((Nx.rfl.alloc (O #[J ⟨#[]⟩,J ⟨#[]⟩,J ⟨#[]⟩,J ⟨#[]⟩,J ⟨#[]⟩,J ⟨#[]⟩,J ⟨#[]⟩,J ⟨#[]⟩,J ⟨#[]⟩,J ⟨#[]⟩,J ⟨#[]⟩] 66)).alloc (O #[J ⟨#[]⟩,J ⟨#[]⟩,J ⟨#[]⟩,J ⟨#[]⟩,J ⟨#[]⟩,J ⟨#[]⟩,J ⟨#[]⟩,J ⟨#[]⟩,J ⟨#[]⟩,J ⟨#[]⟩,J ⟨#[]⟩] 66))).cells;clear hu h hr hl hb
 go_enter func52,ntmps52
 go_upto_region 2 with fail
 go_region
 go_upto_region 3 with fail;clear a0 c0 c1 c2 c3 c4 c5 c6 c7 c8 c9 c10 c11 c12 d0 d1 d2 d3 d4 d5 d6 d7 d8 d9 d10 d11 d12;obtain⟨hz,ha,hn⟩:=ZII w R;generalize ((w.alloc (O #[J ⟨#[]⟩,J ⟨#[]⟩,J ⟨#[]⟩,J ⟨#[]⟩,J ⟨#[]⟩,J ⟨#[]⟩,J ⟨#[]⟩,J ⟨#[]⟩,J ⟨#[]⟩,J ⟨#[]⟩,J ⟨#[]⟩] 66)).alloc (O #[J ⟨#[]⟩,J ⟨#[]⟩,J (R.sch++⟨#[58]⟩),J R.user,J R.pass,J ⟨#[]⟩,J R.htx,J ⟨#[]⟩,J ⟨#[]⟩,J ⟨#[]⟩,J ⟨#[]⟩] 66)).drew=w0 at *;have HZ0:=A hz;have HA0:=A ha;have HN0:=A hn;clear hz ha hn
 go_upto_region 4 with(go_at_call 113;refine(ZKc rb R u bs _ (HB.o.on HN0.o) (HR.o.on HN0.o) HL.o).mono ?_;rintro e w' ⟨t0,rfl,hti,hn⟩;have HT0:=A hti;have HA':=A (HA0.o.on hn);have HZ':=A (HZ0.o.on hn);have HN':=A (show Nx w w' from HN0.o.then hn);have fr:=HA'.o.free 0;obtain⟨b0,b1,b2,b3,b4,b5,b6,b7,b8,b9,b10⟩:=HA'.o.cells;clear hti hn HA0 HZ0 HN0)
 have HA1:=A (HA'.o.set0 (J t0))
 have HZ1:=A (HZ'.o.far (show w.heap.size+1≠w.heap.size by omega) 0 (J t0))
 have HN1:=A (show Nx w (w'.setCell ⟨w.heap.size+1,0,none⟩ (J t0))from HN'.o.setCell (show w.heap.size<=w.heap.size+1 by omega) _)
 clear fr b0 b1 b2 b3 b4 b5 b6 b7 b8 b9 b10 HA' HZ' HN';generalize w'.setCell ⟨w.heap.size+1,0,none⟩ (J t0)=w1 at *
 go_upto_region 5 with(go_at_call 114;refine(ZGG rb R u bs _ (HB.o.on HN1.o) (HR.o.on HN1.o) HL.o HBO.o).mono ?_;rintro e w' ⟨t1,rfl,hti,hn⟩;have HT1:=A hti;have HA':=A (HA1.o.on hn);have HZ':=A (HZ1.o.on hn);have HN':=A (show Nx w w' from HN1.o.then hn);have fr:=HA'.o.free 1;obtain⟨b0,b1,b2,b3,b4,b5,b6,b7,b8,b9,b10⟩:=HA'.o.cells;clear hti hn HA1 HZ1 HN1)
 have HA2:=A (HA'.o.set1 (J t1))
 have HZ2:=A (HZ'.o.far (show w.heap.size+1≠w.heap.size by omega) 1 (J t1))
 have HN2:=A (show Nx w (w'.setCell ⟨w.heap.size+1,1,none⟩ (J t1))from HN'.o.setCell (show w.heap.size<=w.heap.size+1 by omega) _)
 clear fr b0 b1 b2 b3 b4 b5 b6 b7 b8 b9 b10 HA' HZ' HN';generalize w'.setCell ⟨w.heap.size+1,1,none⟩ (J t1)=w2 at *
 go_upto_region 6 with(go_at_call 115;refine(ZAt rb R u bs _ (HB.o.on HN2.o) (HR.o.on HN2.o) lh lp).mono ?_;rintro e w' ⟨t5,rfl,hti,hs5,hn⟩;have HT5:=A hti;have HA':=A (HA2.o.on hn);have HZ':=A (HZ2.o.on hn);have HN':=A (show Nx w w' from HN2.o.then hn);have fr:=HA'.o.free 5;obtain⟨b0,b1,b2,b3,b4,b5,b6,b7,b8,b9,b10⟩:=HA'.o.cells;clear hti hn HA2 HZ2 HN2)
 have HA3:=A (HA'.o.set5 (J t5))
 have HZ3:=A (HZ'.o.far (show w.heap.size+1≠w.heap.size by omega) 5 (J t5))
 have HN3:=A (show Nx w (w'.setCell ⟨w.heap.size+1,5,none⟩ (J t5))from HN'.o.setCell (show w.heap.size<=w.heap.size+1 by omega) _)
 clear fr b0 b1 b2 b3 b4 b5 b6 b7 b8 b9 b10 HA' HZ' HN';generalize w'.setCell ⟨w.heap.size+1,5,none⟩ (J t5)=w3 at *
 go_upto_region 7 with(go_at_call 116;refine(ZBj rb R u bs _ (HB.o.on HN3.o) (HR.o.on HN3.o) lb).mono ?_;rintro e w' ⟨t8,rfl,hti,hs8,hn⟩;have HT8:=A hti;have HA':=A (HA3.o.on hn);have HZ':=A (HZ3.o.on hn);have HN':=A (show Nx w w' from HN3.o.then hn);have fr:=HA'.o.free 8;obtain⟨b0,b1,b2,b3,b4,b5,b6,b7,b8,b9,b10⟩:=HA'.o.cells;clear hti hn HA3 HZ3 HN3)
 have HA4:=A (HA'.o.set8 (J t8))
 have HZ4:=A (HZ'.o.far (show w.heap.size+1≠w.heap.size by omega) 8 (J t8))
 have HN4:=A (show Nx w (w'.setCell ⟨w.heap.size+1,8,none⟩ (J t8))from HN'.o.setCell (show w.heap.size<=w.heap.size+1 by omega) _)
 clear fr b0 b1 b2 b3 b4 b5 b6 b7 b8 b9 b10 HA' HZ' HN';generalize w'.setCell ⟨w.heap.size+1,8,none⟩ (J t8)=w4 at *;obtain⟨c0,c1,c2,c3,c4,c5,c6,c7,c8,c9,c10,c11,c12⟩:=(HB.o.on HN4.o).cells
 go_upto_if 44 with fail
 go_cut [5]from 44 (fun _ wx=>∃t:BA,tl t=ZJL u/\C11 wx (w.heap.size+1) (J t0) (J t1) (J (R.sch++⟨#[58]⟩)) (J R.user) (J R.pass) (J t5) (J R.htx) (J t) (J t8) (J ⟨#[]⟩) (J ⟨#[]⟩)/\C11 wx w.heap.size (J ⟨#[]⟩) (J ⟨#[]⟩) (J ⟨#[]⟩) (J ⟨#[]⟩) (J ⟨#[]⟩) (J ⟨#[]⟩) (J ⟨#[]⟩) (J ⟨#[]⟩) (J ⟨#[]⟩) (J ⟨#[]⟩) (J ⟨#[]⟩)/\Nx w wx)
 case first=>
  by_cases h0:0<=R.port
  .have HE:=A (HM7.o.trans (ifP h0))
   go_wp2_with fail
   refine(ZdE 65535 R.port _ h0 lp (by decide)).mono ?_
   rintro e w' ⟨t,rfl,hti,hn⟩;have HT:=A hti;have HA':=A (HA4.o.on hn);have HZ':=A (HZ4.o.on hn);have HN':=A (show Nx w w' from HN4.o.then hn);have fr:=HA'.o.free 7;obtain⟨b0,b1,b2,b3,b4,b5,b6,b7,b8,b9,b10⟩:=HA'.o.cells;clear hti hn c0 c1 c2 c3 c4 c5 c6 c7 c8 c9 c10 c11 c12;go_wp2
   go_meet
   case rel=>exact⟨t,by rw[HE.o,HT.o],HA'.o.set7 (J t),HZ'.o.far (show w.heap.size+1≠w.heap.size by omega) 7 (J t),HN'.o.setCell (show w.heap.size<=w.heap.size+1 by omega) _⟩
  .have HE:=A (HM7.o.trans (ifN h0))
   go_wp2
   go_meet
   case rel=>exact⟨⟨#[]⟩,by rw[HE.o];rfl,HA4.o,HZ4.o,HN4.o⟩
 case rest=>
 obtain⟨t7,ht,ha,hz,hn⟩:=hcut;have HT7:=A ht;have HA5:=A ha;have HZ5:=A hz;have HN5:=A hn;clear ht ha hz hn HA4 HZ4 HN4 c0 c1 c2 c3 c4 c5 c6 c7 c8 c9 c10 c11 c12;obtain⟨w5,hw⟩:∃w',w'=wc:=⟨_,rfl⟩;subst hw;obtain⟨c0,c1,c2,c3,c4,c5,c6,c7,c8,c9,c10,c11,c12⟩:=(HB.o.on HN5.o).cells
 go_upto_if 55 with fail
 go_cut [5]from 55 (fun _ wx=>∃t:BA,tl t=ZIj 63 u.q/\C11 wx (w.heap.size+1) (J t0) (J t1) (J (R.sch++⟨#[58]⟩)) (J R.user) (J R.pass) (J t5) (J R.htx) (J t7) (J t8) (J t) (J ⟨#[]⟩)/\C11 wx w.heap.size (J ⟨#[]⟩) (J ⟨#[]⟩) (J ⟨#[]⟩) (J ⟨#[]⟩) (J ⟨#[]⟩) (J ⟨#[]⟩) (J ⟨#[]⟩) (J ⟨#[]⟩) (J ⟨#[]⟩) (J ⟨#[]⟩) (J ⟨#[]⟩)/\Nx w wx)
 case first=>
  by_cases h0:R.q.size=0
  .have h0':=Zo h0
   have HE:=A (HM9.o.trans (ifP (ZGF h0)));clear h0;go_wp2
   all_goals try exact absurd (by assumption:(!R.q.toList.isEmpty)=true) (by rw[h0'];decide)
   go_meet
   case rel=>exact⟨⟨#[]⟩,by rw[HE.o];rfl,HA5.o,HZ5.o,HN5.o⟩
  .have h0':=Zj h0
   have HE:=A (HM9.o.trans (ifN (ZdF h0)));have fr:=HA5.o.free 9;obtain⟨b0,b1,b2,b3,b4,b5,b6,b7,b8,b9,b10⟩:=HA5.o.cells;clear h0;go_wp2
   all_goals try exact absurd (by assumption:(!R.q.toList.isEmpty)=false) (by rw[h0'];decide)
   go_meet
   case rel=>exact⟨(⟨#[63]⟩:BA)++R.q,by rw[HE.o,Zd];rfl,HA5.o.set9 _,HZ5.o.far (show w.heap.size+1≠w.heap.size by omega) 9 _,HN5.o.setCell (show w.heap.size<=w.heap.size+1 by omega) _⟩
 case rest=>
 obtain⟨t9,ht,ha,hz,hn⟩:=hcut;have HT9:=A ht;have HA6:=A ha;have HZ6:=A hz;have HN6:=A hn;clear ht ha hz hn HA5 HZ5 HN5 c0 c1 c2 c3 c4 c5 c6 c7 c8 c9 c10 c11 c12;obtain⟨w6,hw⟩:∃w',w'=wc:=⟨_,rfl⟩;subst hw;obtain⟨c0,c1,c2,c3,c4,c5,c6,c7,c8,c9,c10,c11,c12⟩:=(HB.o.on HN6.o).cells
 go_upto_if 66 with fail
 go_cut [5]from 66 (fun _ wx=>∃t:BA,tl t=ZIj 35 u.fr/\C11 wx (w.heap.size+1) (J t0) (J t1) (J (R.sch++⟨#[58]⟩)) (J R.user) (J R.pass) (J t5) (J R.htx) (J t7) (J t8) (J t9) (J t)/\C11 wx w.heap.size (J ⟨#[]⟩) (J ⟨#[]⟩) (J ⟨#[]⟩) (J ⟨#[]⟩) (J ⟨#[]⟩) (J ⟨#[]⟩) (J ⟨#[]⟩) (J ⟨#[]⟩) (J ⟨#[]⟩) (J ⟨#[]⟩) (J ⟨#[]⟩)/\Nx w wx)
 case first=>
  by_cases h0:R.fr.size=0
  .have h0':=Zo h0
   have HE:=A (HM10.o.trans (ifP (ZGF h0)));clear h0;go_wp2
   all_goals try exact absurd (by assumption:(!R.fr.toList.isEmpty)=true) (by rw[h0'];decide)
   go_meet
   case rel=>exact⟨⟨#[]⟩,by rw[HE.o];rfl,HA6.o,HZ6.o,HN6.o⟩
  .have h0':=Zj h0
   have HE:=A (HM10.o.trans (ifN (ZdF h0)));have fr:=HA6.o.free 10;obtain⟨b0,b1,b2,b3,b4,b5,b6,b7,b8,b9,b10⟩:=HA6.o.cells;clear h0;go_wp2
   all_goals try exact absurd (by assumption:(!R.fr.toList.isEmpty)=false) (by rw[h0'];decide)
   go_meet
   case rel=>exact⟨(⟨#[35]⟩:BA)++R.fr,by rw[HE.o,Zd];rfl,HA6.o.set10 _,HZ6.o.far (show w.heap.size+1≠w.heap.size by omega) 10 _,HN6.o.setCell (show w.heap.size<=w.heap.size+1 by omega) _⟩
 case rest=>
 obtain⟨t10,ht,ha,hz,hn⟩:=hcut;have HT10:=A ht;have HA7:=A ha;have HZ7:=A hz;have HN7:=A hn;clear ht ha hz hn HA6 HZ6 HN6 c0 c1 c2 c3 c4 c5 c6 c7 c8 c9 c10 c11 c12;obtain⟨w7,hw⟩:∃w',w'=wc:=⟨_,rfl⟩;subst hw;obtain⟨b0,b1,b2,b3,b4,b5,b6,b7,b8,b9,b10⟩:=HA7.o.cells;obtain⟨z0,z1,z2,z3,z4,z5,z6,z7,z8,z9,z10⟩:=HZ7.o.cells;have zf0:=HZ7.o.free 0;have zf1:=HZ7.o.free 1;have zf2:=HZ7.o.free 2;have zf3:=HZ7.o.free 3;have zf4:=HZ7.o.free 4;have zf5:=HZ7.o.free 5;have zf6:=HZ7.o.free 6;have zf7:=HZ7.o.free 7;have zf8:=HZ7.o.free 8;have zf9:=HZ7.o.free 9;have zf10:=HZ7.o.free 10;go_wp2;exact ZNl (rb:=w.heap.size) results52 rfl (C11.put HZ7.o _ _ _ _ _ _ _ _ _ _ _) rfl ⟨⟨t0,t1,_,R.user,R.pass,t5,R.htx,t7,t8,t9,t10,rfl,HT0.o,HT1.o,HM2.o,HM3.o,HM4.o,HT5.o,HM6.o,HT7.o,HT8.o,HT9.o,HT10.o⟩,ZDF HN7.o (Xj _) _ _ _ _ _ _ _ _ _ _ _⟩
abbrev OwnP(w:World)(base:Nat)(v:Value)(ps:List Pq):Prop:=w.ownsRow base 113 2 v ps.length (cellsP ps)
theorem ZBk(a b:List Pq):cellsP (a++b)=cellsP a++cellsP b:=by simp[cellsP]
theorem ZBK{w:World}{b off:Nat}{x y:Value}(h0:w.cell? ⟨b,off,none⟩=some x)(h1:w.cell? ⟨b,off+1,none⟩=some y):∀(j:Nat) (u:Value),[x,y][j]?=some u->w.cell? ((⟨b,off,none⟩:Addr).add j)=some u:=by
 intro j u hu;rw[Addr.add_lit]
 match j,hu with
 | 0,hu=>simp at hu;subst hu;exact h0
 | 1,hu=>simp at hu;subst hu;exact h1
theorem ZLI{ops:Array Oper}{rest:List Oper}{o:Oper}{a:Act}{Q:Exit->Act->World->Prop}(w:World)(p:Pq)
  (hgd:o.guard=none) (s x:Operand) (ho:o.op=.call { callee:=.builtin .append,args:=#[s,x],argTypes:=#[68,68] })
  (base:Nat) (v:Value) (ps:List Pq) (hs:a.eval s=v) (hown:OwnP w base v ps) (ab ao c:Nat) (hx:a.eval x=.slice (some ⟨ab,ao,none⟩) 1 c)
  (h0:w.cell? ⟨ab,ao,none⟩=some (J p.1)) (h1:w.cell? ⟨ab,ao+1,none⟩=some (J p.2))
  (hn:ps.length<1000000000000) (hbase:base<=w.heap.size)
  (h:∀v' w',OwnP w' base v' (ps++[p])->Below base w w'->Kp 113 w w'->wpList prog ops Q rest (a.put o.dst v') w'):wpList prog ops Q (o::rest) a w:=by
 obtain⟨i,hi,hz0,hz1,hz2⟩:=info_parts ZAK
 refine wpList_append_own w hgd s x 68 ho base 113 i _ 2 32 underlying68 hi hz0 hz1 hz2 rfl (by decide) v ps.length _ hs hown ⟨ab,ao,none⟩ 1 c [J p.1,J p.2] hx rfl (ZBK h0 h1) (by simp[Value.oneCell']) (by unfold maxLen;omega) (by omega) hbase ?_
 intro v' w' q1 q2 _
 refine h v' w' ?_ ((Below.refl base w).grown q2 hbase (fun k hk=>(hown.lt k hk).1)) (ZhO hown q2)
 unfold OwnP;rw[List.length_append,ZBk];exact q1
theorem ZAD{ops:Array Oper}{rest:List Oper}{o:Oper}{a:Act}{Q:Exit->Act->World->Prop}(w:World)(p:Pq)
  (hgd:o.guard=none) (s x:Operand) (ho:o.op=.call { callee:=.builtin .append,args:=#[s,x],argTypes:=#[68,68] })
  (base:Nat) (v:Value) (ps:List Pq) (hs:a.eval s=v) (hown:OwnP w base v ps) (hx:a.eval x=.slice (some ⟨w.heap.size,0,none⟩) 1 1)
  (hn:ps.length<1000000000000) (hbase:base<=w.heap.size)
  (h:∀v' w',OwnP w' base v' (ps++[p])->Below base w w'->Kp 113 w w'->wpList prog ops Q rest (a.put o.dst v') w'):
  wpList prog ops Q (o::rest) a (w.alloc (.cells #[J p.1,J p.2] 113)):=
 ZLI _ p hgd s x ho base v ps hs (World.ownsRow.alloc hown _) w.heap.size 0 1 hx (by simp) (by simp) hn (by simp;omega)
  fun v' w' h1 h2 h3=>h v' w' h1 (((Below.refl base w).alloc hbase _).trans h2) ((Kp.rfl.alloc _).then h3)
theorem ZzC{w:World}{base:Nat}{v:Value}{ps:List Pq}(h:OwnP w base v ps):∃ao cp,v=.slice ao ps.length cp:=by
 obtain⟨-,⟨rfl,h3⟩|⟨g,cap,cur,rfl,-⟩⟩:=h
 .exact⟨none,0,by rw[h3]⟩
 .exact⟨_,_,rfl⟩
theorem OwnP.kp{w w':World}{base b2:Nat}{v:Value}{ps:List Pq}{e:TypeId}(h:OwnP w base v ps)(hb:Kp e w w')(he:113≠e)(h2:b2<=base):OwnP w' b2 v ps:=by
 obtain⟨h1,g|⟨g,cap,cur,rfl,h4,h5,h6⟩⟩:=h
 .exact⟨h1,Xe g⟩
 .exact⟨h1,Xn ⟨g,cap,cur,rfl,Xi h2 h4,hb.2 _ _ _ _ h5 he,h6⟩⟩
theorem OwnP.at{w:World}{base:Nat}{v:Value}{ps:List Pq}(h:OwnP w base v ps):PlAt w v ps:=by
 obtain⟨-,⟨rfl,h3⟩|⟨g,cap,cur,rfl,hb,hg,hnc,hcm,hcs,ht⟩⟩:=h
 .have:ps=[]:=Xm h3
  subst this;exact PlAt.nil w
 .refine⟨_,cap,rfl,hnc,hcm,nofun,fun a ha=>⟨g,0,(Option.some.inj ha).symm,cur,_,hg,fun i hi=>?_⟩⟩
  have h1:=ZAO ps i hi
  rw[<-ht,Xp,Xp,ifP (by omega),ifP (by omega)]at h1
  rw[Nat.zero_add]
  simpa using h1
theorem PartsAt.kp{w w':World}{v:Value}{ps:List LI}{e:TypeId}(h:PartsAt w v ps)(hb:Kp e w w')(h1:124≠e)(h2:3≠e):PartsAt w' v ps:=by obtain⟨vs,q1,q2⟩:=h;exact⟨vs,q1.kp hb h1,q2.kp hb h2⟩
def ZAX(ss:List (List Int))(k:Nat):List (List UInt8×List UInt8):=((ss.take k).filter fun a=>!a.isEmpty).map ZGp
theorem ZFJ(ss:List LI)(k:Nat)(h:k<ss.length)(he:ss[k]=[]):ZAX ss (k+1)=ZAX ss k:=by
 unfold ZAX;rw[Xk h,Xq,he]
 simp
theorem ZFK(ss:List LI)(k:Nat)(h:k<ss.length)(he:ss[k]≠[]):ZAX ss (k+1)=ZAX ss k++[ZGp ss[k]]:=by
 unfold ZAX;rw[Xk h,Xq,Xr]
 congr 1
 cases hx:ss[k]with
 | nil=>exact absurd hx he
 | cons a b=>rfl
theorem ZGH(ss:List LI)(k:Nat):(ZAX ss k).length<=k:=by
 unfold ZAX;rw[Xb]
 exact Xi (List.length_filter_le _ _) (by rw[List.length_take];omega)
theorem ZIJ(s:BA)(w:World)(hs:s.size<=90000):Calls prog 201 #[J s] w fun e w'=>∃v ps,e=Y v/\OwnP w' w.heap.size v ps/\ps.map tl2=ZCV (tl s)/\Nx w w':=by
 go_enter func201,ntmps201
 go_wp2_with fail
 refine(Zau s _ (by omega)).mono ?_
 rintro e w1 ⟨v1,rfl,h1,hn1⟩;have H1:=A h1;have HN1:=A hn1;have hpl:=Zaf (tl s);rw[Za]at hpl;clear h1 hn1;go_wp2_with fail
 refine(ZdV _ (Zl (tl s)) ⟨#[38]⟩ _ (Ze (by decide)) H1.o (by omega)).mono ?_
 rintro e w2 ⟨v2,rfl,h2,hn2⟩;rw[show tl (⟨#[38]⟩:BA)=[38]from rfl]at h2;have H2:=A h2;have HN2:=A (HN1.o.then hn2);obtain⟨hm1,hm2⟩:=ZzS (Zl (tl s)) [38]
 have HPP:=A (show ∀p∈parts (Zl (tl s)) [38],p.length<=90000/\∀c∈p,Pt c from fun p hp=>⟨by have:=(hm2 p hp).1;omega,fun c hc=>Zcy _ c ((hm2 p hp).2 c hc)⟩)
 have HPR:=A (show ZCV (tl s)=ZAX (parts (Zl (tl s)) [38]) (parts (Zl (tl s)) [38]).length by unfold ZCV ZAX;rw[List.take_of_length_le (Xj _)])
 have hpn:(parts (Zl (tl s)) [38]).length<=90001:=by omega
 clear h2 hn2 H1 HN1 hm1 hm2;generalize parts (Zl (tl s)) [38]=ss at *
 obtain⟨po,pc,hpe⟩:∃po pc,v2=.slice po ss.length pc:=by
  obtain⟨vs,⟨po,pc,h,-⟩,hf⟩:=H2.o
  exact⟨po,pc,by rw[h,hf.1]⟩
 subst hpe;go_wp2
 go_loopw [5,6] (fun o i wr=>∃(k:Nat) (ps:List Pq),k<=ss.length/\i=I X k/\OwnP wr w.heap.size o ps/\ps.map tl2=ZAX ss k/\PartsAt wr (.slice po ss.length pc) ss/\Nx w wr) (fun _ i _=>ss.length-(intOf i).toNat)
 case atStart=>exact⟨0,[],Nat.zero_le _,rfl,World.ownsRow_nil _ _ _ _,rfl,H2.o,HN2.o⟩
 case round=>
  obtain⟨k,ps,hk,rfl,hown,hE,hpa,hnx⟩:=hrel;have HO:=A hown;have HE:=A hE;have HPA:=A hpa;have HN:=A hnx
  have hpsl:ps.length<=k:=by have h:=congrArg List.length hE;rw[Xb]at h;rw[h];exact ZGH ss k
  clear hown hE hpa hnx H2 HN2
  by_cases hlt:k<ss.length
  .obtain⟨vs,hvs,hfa⟩:=HPA.o
   have hvl:vs.length=ss.length:=hfa.1
   obtain⟨pb,poff,pcap,hve,-,hcap,hrow⟩:=hvs.open_ (k:=k) (by omega)
   simp only[Value.slice.injEq]at hve;obtain⟨rfl,-,rfl⟩:=hve
   have hck:=hrow.cell (i:=k) (by omega)
   have hsk:=hfa.at_ hlt;simp only[id]at hck;generalize vs[k]=vk at *
   obtain⟨ko,kc,rfl⟩:∃ko kc,vk=.slice ko ss[k].length kc:=by obtain⟨ko,kc,h,-⟩:=hsk;exact⟨ko,kc,h⟩
   have HSK:=A hsk;obtain⟨hkl,hkp⟩:=HPP.o _ (List.getElem_mem hlt);have HKP:=A hkp;have HM:=A (ZFK ss k hlt);have HS:=A (ZFJ ss k hlt);unfold maxLen at hcap;clear hsk hkp hvs hfa hrow hvl
   by_cases h0:ss[k].length=0
   .have HE2:=A (HS.o (Xm h0))
    have h0':((ss[k].length:Int)==0)=true:=by rw[h0];rfl
    clear h0;go_wp2
    go_roundw
    exact⟨k+1,ps,by omega,by go_num,HO.o,by rw[HE2.o];exact HE.o,HPA.o,HN.o⟩
    simp[intOf];omega
   .have HE2:=A (HM.o (fun e=>h0 (by rw[e];rfl)))
    have h0':((ss[k].length:Int)==0)=false:=beq_eq_false_iff_ne.2 (by omega)
    clear h0;generalize ss[k]=sk at *;go_wp2_with fail
    refine(ZbY _ sk ⟨#[61]⟩ _ (Ze (by decide)) HSK.o).mono ?_
    rintro e w3 ⟨va,vb,rfl,ha,hb,hn3⟩;rw[show tl (⟨#[61]⟩:BA)=[61]from rfl]at *;have HA:=A ha;have HB:=A hb;have HN3:=A hn3
    have HPA1:=A (fun c (h:c∈(cut sk [61]).1)=>HKP.o c (Zy (Xe h)))
    have HPB1:=A (fun c (h:c∈(cut sk [61]).2.1)=>HKP.o c (Zy (Xn h)))
    have hcl:=(Zbc sk [61]).1;have HPD:=A (show ZGp sk=(ZDs (cut sk [61]).1,ZDs (cut sk [61]).2.1)from rfl);clear ha hb hn3;generalize cut sk [61]=cc at *;obtain⟨ca,cb,cf⟩:=cc;simp only at *;go_wp2_with fail
    refine(ZEj _ ca _ HA.o (by omega) HPA1.o).mono ?_
    rintro e w4 ⟨t1,rfl,ht1,hn4⟩;have HT1:=A ht1;have HN4:=A (HN3.o.then hn4);have HB4:=A (HB.o.on hn4);clear ht1 hn4;go_wp2_with fail
    refine(ZEj _ cb _ HB4.o (by omega) HPB1.o).mono ?_
    rintro e w5 ⟨t2,rfl,ht2,hn5⟩;have HT2:=A ht2;have HN5:=A (HN4.o.then hn5);have HNW:=A (HN.o.then (HN4.o.then hn5));have HO5:=A (Zbw HO.o HN5.o);have hz5:=HNW.o.size;clear ht2 hn5
    go_wp2_with (at_builtin;go_must (refine ZAD w5 (t1,t2) rfl _ _ rfl w.heap.size u5 ps rfl HO5.o rfl (by omega) hz5 ?_;intro v' w6 ho6 hb6 hk6;have HO6:=A ho6;clear ho6))
    go_roundw
    exact⟨k+1,ps++[(t1,t2)],by omega,by go_num,HO6.o,by rw[HE2.o,Xr,HE.o,HPD.o,<-HT1.o,<-HT2.o];rfl,(HPA.o.on HN5.o).kp hk6 (by decide) (by decide),HNW.o.trans hb6⟩
    simp[intOf];omega
  .have HF:=A (show ps.map tl2=ZCV (tl s)by rw[HE.o,HPR.o,show k=ss.length by omega])
   go_wp2;go_ret;exact⟨_,ps,rfl,HO.o,HF.o,HN.o⟩
theorem URB.s1{w:World}{ub rb:Nat}{v:Value}(h:URB w ub rb v)(x:Value):URB (w.setCell ⟨ub,1,none⟩ x) ub rb x:=by
 unfold URB at *;simp only[World.setCell,Xo,ifP,h]
 rfl
theorem URB.s0{w:World}{ub rb:Nat}{v:Value}(h:URB w ub rb v)(qb:Nat):URB (w.setCell ⟨ub,0,none⟩ (.pointer (some ⟨qb,0,none⟩))) ub qb v:=by
 unfold URB at *;simp only[World.setCell,Xo,ifP,h]
 rfl
theorem URB.but{w w':World}{ub rb qb:Nat}{v:Value}(h:URB w ub rb v)(hb:But qb w w')(hn:ub≠qb):URB w' ub rb v:=(hb.block ub (Xa.1 h).1 hn).trans h
theorem URB.ne{w:World}{ub rb:Nat}{v:Value}{b:Nat}{R:RR}(h:URB w ub rb v)(h2:RB w b R):ub≠b:=by
 rintro rfl;unfold URB at h;unfold RB at h2;rw[h]at h2;simp only[Option.some.injEq,Obj.cells.injEq]at h2
 exact absurd h2.2.1 (by decide)
theorem But.kpU{w w':World}{ub rb:Nat}{v:Value}(hb:But ub w w')(h:URB w ub rb v):Kp 88 w w':=by
 refine⟨hb.size,fun k cs e fz hk he=>?_⟩
 refine(hb.block k (Xa.1 hk).1 ?_).trans hk
 intro e';subst e';unfold URB at h;rw[hk]at h;simp only[Option.some.injEq,Obj.cells.injEq]at h;exact he h.2.1
theorem RIs.kpU{w w':World}{R:RR}{u:RU}{bs:LA}(h:RIs w R u bs)(hb:Kp 88 w w'):RIs w' R u bs:={ h with seg:=h.seg.kp hb (by decide),fw:=Xi h.fw hb.1 }
theorem PlAt.kp{w w':World}{v:Value}{ps:List Pq}{e:TypeId}(h:PlAt w v ps)(hb:Kp e w w')(he:113≠e):PlAt w' v ps:=by
 obtain⟨ao,cap,rfl,h1,h2,h3,h4⟩:=h
 refine⟨ao,cap,rfl,h1,h2,h3,fun a ha=>?_⟩
 obtain⟨b,off,rfl,cs,fz,hh,hc⟩:=h4 a ha;exact⟨b,off,rfl,cs,fz,hb.2 b cs _ fz hh he,hc⟩
theorem ZFR(ub rb:Nat)(v0:Value)(R:RR)(u:RU)(bs:LA)(w:World)(hu:URB w ub rb v0)(h:RB w rb R)(hr:RIs w R u bs)(hq:R.q.size<=90000):Calls prog 150 #[.pointer (some ⟨ub,0,none⟩)] w fun e w'=>e=Y (.tuple #[])/\(∃v ps,URB w' ub rb v/\PlAt w' v ps/\ps.map tl2=ZEL u/\OwnP w' w.heap.size v ps)/\But ub w w':=by
 have HUQ:=A (show u.hq=R.hq/\u.q=tl R.q by rw[<-hr.eq];exact⟨rfl,rfl⟩)
 have hne:=hu.ne h;obtain⟨a0,a1⟩:=hu.cells;have f1:=hu.free 1;have hU1:=hu.s1 (.slice none 0 0);have hbt1:But ub w (w.setCell ⟨ub,1,none⟩ (.slice none 0 0)):=(But.refl ub w).set 1 _;have hB1:=h.but hbt1 (Ne.symm hne);have HU1:=A hU1;have HBT1:=A hbt1;have HB1:=A hB1;clear hu h hr hU1 hbt1 hB1
 go_enter func150,ntmps150
 go_upto_region 1 with fail;clear a0 a1 f1;generalize (w.setCell ⟨ub,1,none⟩ (.slice none 0 0))=w1 at *;obtain⟨a0,a1⟩:=HU1.o.cells;obtain⟨c0,c1,c2,c3,c4,c5,c6,c7,c8,c9,c10,c11,c12⟩:=HB1.o.cells
 cases hh:R.hq
 .rw[hh]at c9
  have HE:=A (show ZEL u=[]by unfold ZEL;rw[HUQ.o.1,hh,ifN (by decide)])
  clear hh;go_wp2;exact bodyPost_end (results_none rfl _ _ _) rfl ⟨rfl,⟨_,[],HU1.o,PlAt.nil _,HE.o.symm,World.ownsRow_nil _ _ _ _⟩,HBT1.o⟩
 .rw[hh]at c9
  have HE:=A (show ZEL u=ZCV (tl R.q)by unfold ZEL;rw[HUQ.o.1,hh,ifP rfl,HUQ.o.2])
  clear hh;go_wp2_with fail
  refine(ZIJ R.q _ hq).mono ?_
  rintro e w2 ⟨v,ps,rfl,ho,hps,hn⟩;have HO:=A ho;have HPS:=A hps;have hU2:=HU1.o.on hn;have HU2:=A hU2;have HBT2:=A (HBT1.o.then (But.nx hn));obtain⟨ao,cp,rfl⟩:=ZzC ho;clear ho hps hn a0 a1 c0 c1 c2 c3 c4 c5 c6 c7 c8 c9 c10 c11 c12 hU2;obtain⟨a0,a1⟩:=HU2.o.cells;have f1:=HU2.o.free 1;go_wp2
  refine bodyPost_end (results_none rfl _ _ _) rfl ⟨rfl,⟨_,ps,HU2.o.s1 _,?_,(by rw[HPS.o,HE.o]),OwnP.kp HO.o (But.kpU ((But.refl ub w2).set 1 _) HU2.o) (by decide) HBT1.o.size⟩,HBT2.o.set 1 _⟩
  exact(OwnP.at HO.o).kp (But.kpU ((But.refl ub w2).set 1 _) HU2.o) (by decide)
theorem ZzH(s:BA)(w:World)(hs:s.size<=maxLen):Calls prog 101 #[J s] w fun e w'=>e=Y (C (decide (160<s.size)))/\w=w':=by
 unfold maxLen at hs
 go_enter func101,ntmps101
 go_wp2;go_ret
 exact⟨Zm (by rw[Bool.eq_iff_iff];simp;omega),rfl⟩
def ZNE(e:Ending)(w w':World)(x:RU×Int):Prop:=
 (x.2≠0/\e=Y (.tuple #[.pointer none,I X x.2])/\Nx w w')∨(x.2=0/\∃ub rb R bs v ps,e=Y (.tuple #[.pointer (some ⟨ub,0,none⟩),I X 0])/\URB w' ub rb v/\RB w' rb R/\RIs w' R x.1 bs/\PlAt w' v ps/\ps.map tl2=ZEL x.1/\w.heap.size<=ub/\w.heap.size<=rb/\Nx w w'/\OwnP w' w.heap.size v ps)
theorem ZKq(w:World)(rb:Nat):URB (w.alloc (O #[.pointer (some ⟨rb,0,none⟩),.slice none 0 0] 88)) w.heap.size rb (.slice none 0 0):=heap_alloc_new w _
theorem ZIN(s base:BA)(w:World)(hs:s.size<=maxLen)(hb:base.size<=maxLen)(hq:(ZDL (tl s) (tl base) false).2=0->(ZDL (tl s) (tl base) false).1.q.length<=90000)(hfl:Fl.n<=w.heap.size):Calls prog 96 #[J s,J base,C false] w fun e w'=>ZNE e w w' (ZDL (tl s) (tl base) false):=by
 have HQ:=A hq;clear hq
 go_enter func96,ntmps96
 go_wp2_with fail
 refine(ZzH s _ hs).mono ?_
 rintro e w' ⟨rfl,rfl⟩;go_wp2_with fail
 refine(ZzH base _ hb).mono ?_
 rintro e w' ⟨rfl,rfl⟩
 by_cases hl:160<s.size
 .have HE:=A (show ZDL (tl s) (tl base) false=(zeroR,1)from ifP (Xe (by rw[Za];exact hl)))
  rw[decide_eq_true hl];clear hl;generalize decide (160<base.size)=lb;go_wp2;go_ret2
  exact Xe ⟨by rw[HE.o];decide,by rw[HE.o];rfl,Nx.rfl⟩
 .have HE:=A (show ZDL (tl s) (tl base) false=parseR (tl s) none from(ifN (by rintro(g|g);rw[Za]at g;exact hl g;cases g.1)).trans (ifN (fun g=>g rfl)))
  rw[decide_eq_false hl]
  have hs2:s.size<=20000:=by omega
  clear hl;generalize decide (160<base.size)=lb;go_wp2_with fail
  refine(ZBV s (.pointer none) none _ hs2 (Xe ⟨rfl,rfl,hfl⟩)).mono ?_
  rintro e w1 hx
  have HQ2:Hid ((parseR (tl s) none).2=0->(parseR (tl s) none).1.q.length<=90000):=A (by have h:=HQ.o;rw[HE.o]at h;exact h)
  clear HQ;generalize parseR (tl s) none=x at *;obtain⟨y,err⟩:=x;simp only at HQ2;rcases hx with⟨he,rfl,hn⟩|⟨he,rb,R,bs,rfl,hB,hR,hrb,hn⟩
  .have he1:(err != 0)=true:=bne_iff_ne.2 he
   have HN:=A hn;have HER:=A he;clear he hn;go_wp2;go_ret2;rw[HE.o];exact Xe ⟨HER.o,rfl,HN.o⟩
  .simp only at he
   subst he;have HN:=A hn
   replace hR:RIs w1 R y bs:=hR
   have HB:=A hB;have HR:=A hR
   have hql:R.q.size<=90000:=ZAQ (show tl R.q=y.q by rw[<-hR.eq];rfl) (HQ2.o rfl)
   have HRB:=A hrb;clear hn hB hR hrb HQ2;go_upto_region 17 with fail;have HU2:=A (ZKq w1 rb);have HB2:=A (HB.o.on (Nx.rfl.alloc (O #[.pointer (some ⟨rb,0,none⟩),.slice none 0 0] 88)));have HR2:=A (HR.o.on (Nx.rfl.alloc (O #[.pointer (some ⟨rb,0,none⟩),.slice none 0 0] 88)));have HN2:=A (HN.o.alloc (O #[.pointer (some ⟨rb,0,none⟩),.slice none 0 0] 88));have HUB:=A HN.o.size;obtain⟨ub,hub⟩:∃ub,ub=w1.heap.size:=⟨_,rfl⟩;rw[<-hub]at HU2 HUB ⊢;generalize (w1.alloc (O #[.pointer (some ⟨rb,0,none⟩),.slice none 0 0] 88))=w2 at *;clear hub;go_wp2_with fail
   refine(ZFR ub rb _ R y bs _ HU2.o HB2.o HR2.o hql).mono ?_
   rintro e w3 ⟨rfl,⟨v,ps,hU3,hpl,hps,hvn⟩,hbt⟩;have HU3:=A hU3;have HPL:=A hpl;have HPS:=A hps
   have HVN:=A (OwnP.kp hvn (Kp.rfl (e:=88)) (by decide) HN2.o.size)
   have HB3:=A (HB2.o.but hbt (Ne.symm (HU2.o.ne HB2.o)));have HR3:=A (HR2.o.kpU (hbt.kpU HU2.o));have HN3:=A (show Nx w w3 from((But.nx HN2.o).then hbt).below HUB.o (Xj _));clear hU3 hpl hps hbt hvn;go_wp2;go_ret2;rw[HE.o];exact Xn ⟨rfl,ub,rb,R,bs,v,ps,rfl,HU3.o,HB3.o,HR3.o,HPL.o,HPS.o,HUB.o,HRB.o,HN3.o,HVN.o⟩
theorem ZIO(s base:BA)(w:World)(hs:s.size<=maxLen)(hb:base.size<=maxLen)(hq:(ZDL (tl s) (tl base) true).2=0->(ZDL (tl s) (tl base) true).1.q.length<=90000)(hzp:base.size<=160->(parseR (tl base) none).2=0->(parseR (tl base) none).1.path.length<=70000)(hfl:Fl.n<=w.heap.size):Calls prog 96 #[J s,J base,C true] w fun e w'=>ZNE e w w' (ZDL (tl s) (tl base) true):=by
 have HQ:=A hq;have HZP:=A hzp;clear hq hzp
 go_enter func96,ntmps96
 go_wp2_with fail
 refine(ZzH s _ hs).mono ?_
 rintro e w' ⟨rfl,rfl⟩;go_wp2_with fail
 refine(ZzH base _ hb).mono ?_
 rintro e w' ⟨rfl,rfl⟩
 by_cases hl:160<s.size
 focus
  have HE:=A (show ZDL (tl s) (tl base) true=(zeroR,1)from ifP (Xe (by rw[Za];exact hl)))
  rw[decide_eq_true hl];clear hl;generalize decide (160<base.size)=lb
 rotate_left
 focus
  by_cases hlb:160<base.size
  focus
   have HE:=A (show ZDL (tl s) (tl base) true=(zeroR,1)from ifP (Xn ⟨rfl,by rw[Za];exact hlb⟩))
   rw[decide_eq_true hlb,decide_eq_false hl];clear hl hlb
  rotate_left
  .have HD:=A (show ZDL (tl s) (tl base) true=if(ZA9 (tl base) true).2≠0 then(zeroR,(ZA9 (tl base) true).2)else parseR (tl s) (ZA9 (tl base) true).1 from ifN (by rintro(g|g);rw[Za]at g;exact hl g;rw[Za]at g;exact hlb g.2))
   have HG:=A (show ZA9 (tl base) true=if(parseR (tl base) none).2=2 then(none,4)else if(parseR (tl base) none).2≠0 then(none,(parseR (tl base) none).2)else(some (parseR (tl base) none).1,0)from rfl)
   rw[decide_eq_false hlb,decide_eq_false hl]
   have hs2:s.size<=20000:=by omega
   have hb2:base.size<=20000:=by omega
   have hb160:base.size<=160:=by omega
   clear hl hlb;go_wp2_with fail
   refine(ZBV base (.pointer none) none _ hb2 (Xe ⟨rfl,rfl,hfl⟩)).mono ?_
   rintro e w0 hx;generalize parseR (tl base) none=x at *;obtain⟨z,err⟩:=x;simp only at HG HZP;rcases hx with⟨he,rfl,hn⟩|⟨he,qb,Z,zs,rfl,hZ,hZR,-,hn⟩
   .have HN:=A hn
    simp only at he
    by_cases h2:err=2
    .have HE:=A (show ZDL (tl s) (tl base) true=(zeroR,4)by rw[HD.o,HG.o,ifP h2];rfl)
     have h2':(err==2)=true:=by rw[h2];rfl
     clear he hn h2 HD HG HQ HZP;go_wp2;go_ret2;rw[HE.o]
     exact Xe ⟨by decide,rfl,HN.o⟩
    .have HE:=A (show ZDL (tl s) (tl base) true=(zeroR,err)by rw[HD.o,HG.o,ifN h2,ifP he];exact ifP he)
     have h2':(err==2)=false:=beq_eq_false_iff_ne.2 h2;have he1:(err != 0)=true:=bne_iff_ne.2 he;have HER:=A he;clear he hn h2 HD HG HQ HZP;go_wp2;go_ret2;rw[HE.o];exact Xe ⟨HER.o,rfl,HN.o⟩
   .simp only at he
    subst he
    have HE:=A (show ZDL (tl s) (tl base) true=parseR (tl s) (some z)by rw[HD.o,HG.o];simp)
    replace hZR:RIs w0 Z z zs:=hZR
    have HZB:=A hZ;have HZR:=A hZR
    have hzl:zs.length<=70000:=by have h:=HZP.o hb160 rfl;have h2:z.path.length=zs.length:=by rw[<-hZR.eq];exact Xb ..
                                  omega
    have HN0:=A hn;clear hZ hZR hn HD HG HZP;go_wp2_with fail
    refine(ZBV s _ (some z) _ hs2 (Xn ⟨qb,Z,z,zs,rfl,rfl,HZB.o,HZR.o,hzl⟩)).mono ?_
    rintro e w1 hx
    have HQ2:Hid ((parseR (tl s) (some z)).2=0->(parseR (tl s) (some z)).1.q.length<=90000):=A (by have h:=HQ.o;rw[HE.o]at h;exact h)
    clear HQ;generalize parseR (tl s) (some z)=x at *;obtain⟨y,err⟩:=x;simp only at HQ2;rcases hx with⟨he,rfl,hn⟩|⟨he,rb,R,bs,rfl,hB,hR,hrb,hn⟩
    .have he1:(err != 0)=true:=bne_iff_ne.2 he
     have HN:=A (HN0.o.then hn);have HER:=A he;clear he hn;go_wp2;go_ret2;rw[HE.o];exact Xe ⟨HER.o,rfl,HN.o⟩
    .simp only at he
     subst he;have HN:=A (HN0.o.then hn)
     replace hR:RIs w1 R y bs:=hR
     have HB:=A hB;have HR:=A hR
     have hql:R.q.size<=90000:=ZAQ (show tl R.q=y.q by rw[<-hR.eq];rfl) (HQ2.o rfl)
     have HRB:=A (Xi HN0.o.size hrb);clear hn hB hR hrb HQ2;go_upto_region 17 with fail;have HU2:=A (ZKq w1 rb);have HB2:=A (HB.o.on (Nx.rfl.alloc (O #[.pointer (some ⟨rb,0,none⟩),.slice none 0 0] 88)));have HR2:=A (HR.o.on (Nx.rfl.alloc (O #[.pointer (some ⟨rb,0,none⟩),.slice none 0 0] 88)));have HN2:=A (HN.o.alloc (O #[.pointer (some ⟨rb,0,none⟩),.slice none 0 0] 88));have HUB:=A HN.o.size;obtain⟨ub,hub⟩:∃ub,ub=w1.heap.size:=⟨_,rfl⟩;rw[<-hub]at HU2 HUB ⊢;generalize (w1.alloc (O #[.pointer (some ⟨rb,0,none⟩),.slice none 0 0] 88))=w2 at *;clear hub;go_wp2_with fail
     refine(ZFR ub rb _ R y bs _ HU2.o HB2.o HR2.o hql).mono ?_
     rintro e w3 ⟨rfl,⟨v,ps,hU3,hpl,hps,hvn⟩,hbt⟩;have HU3:=A hU3;have HPL:=A hpl;have HPS:=A hps
     have HVN:=A (OwnP.kp hvn (Kp.rfl (e:=88)) (by decide) HN2.o.size)
     have HB3:=A (HB2.o.but hbt (Ne.symm (HU2.o.ne HB2.o)));have HR3:=A (HR2.o.kpU (hbt.kpU HU2.o));have HN3:=A (show Nx w w3 from((But.nx HN2.o).then hbt).below HUB.o (Xj _));clear hU3 hpl hps hbt hvn;go_wp2;go_ret2;rw[HE.o];exact Xn ⟨rfl,ub,rb,R,bs,v,ps,rfl,HU3.o,HB3.o,HR3.o,HPL.o,HPS.o,HUB.o,HRB.o,HN3.o,HVN.o⟩
 all_goals
  go_wp2;go_ret2
  exact Xe ⟨by rw[HE.o];decide,by rw[HE.o];rfl,Nx.rfl⟩
theorem ZLO(s base:BA)(based:Bool)(w:World)(hs:s.size<=maxLen)(hb:base.size<=maxLen)(hq:(ZDL (tl s) (tl base) based).2=0->(ZDL (tl s) (tl base) based).1.q.length<=90000)(hzp:base.size<=160->(parseR (tl base) none).2=0->(parseR (tl base) none).1.path.length<=70000)(hfl:Fl.n<=w.heap.size):Calls prog 96 #[J s,J base,C based] w fun e w'=>ZNE e w w' (ZDL (tl s) (tl base) based):=by
 cases based
 .exact ZIN s base w hs hb hq hfl
 .exact ZIO s base w hs hb hq hzp hfl
structure Two (ub rb:Nat) (w w':World):Prop where
 os:w'.os=w.os
 tape:w'.tape=w.tape
 output:w'.output=w.output
 size:w.heap.size<=w'.heap.size
 block:∀k,k<w.heap.size->k≠ub->k≠rb->w'.heap[k]?=w.heap[k]?
theorem Two.l{ub rb:Nat}{w w':World}(h:But ub w w'):Two ub rb w w':=⟨h.os,h.tape,h.output,h.size,fun k hk h1 _=>h.block k hk h1⟩
theorem Two.r{ub rb:Nat}{w w':World}(h:But rb w w'):Two ub rb w w':=⟨h.os,h.tape,h.output,h.size,fun k hk _ h1=>h.block k hk h1⟩
theorem Two.nx{ub rb:Nat}{w w':World}(h:Nx w w'):Two ub rb w w':=Two.l (But.nx h)
theorem Two.then{ub rb:Nat}{a b c:World}(h:Two ub rb a b)(k:Two ub rb b c):Two ub rb a c:=
 ⟨k.os.trans h.os,k.tape.trans h.tape,k.output.trans h.output,Xi h.size k.size,fun i hi h1 h2=>(k.block i (Nat.lt_of_lt_of_le hi h.size) h1 h2).trans (h.block i hi h1 h2)⟩
theorem HostC.on{w w':World}{hb:Nat}{is:Bool}{t:BA}(h:HostC w hb is t)(hn:Nx w w'):HostC w' hb is t:=(hn.block hb (Xa.1 h).1).trans h
theorem HostC.but{w w':World}{hb rb:Nat}{is:Bool}{t:BA}(h:HostC w hb is t)(hn:But rb w w')(hne:hb≠rb):HostC w' hb is t:=(hn.block hb (Xa.1 h).1 hne).trans h
theorem dropBlR_eq(l:LB):ZBr l=ZAi l:=rfl
def blN(w:World)(rb:Nat):Nat:=match w.cell? ⟨rb,8,none⟩with|some (J s)=>s.size|_=>0
theorem ZMl{w:World}{rb:Nat}{R:RR}(h:RB w rb R):blN w rb=R.bl.size:=by unfold blN;rw[h.cells.2.2.2.2.2.2.2.2.1]
theorem ZKr(ub rb:Nat)(v0:Value)(R:RR)(u:RU)(bs:LA)(w:World)(hu:URB w ub rb v0)(h:RB w rb R)(hr:RIs w R u bs)(hl:R.bl.size<=300000):Calls prog 112 #[.pointer (some ⟨ub,0,none⟩)] w fun e w'=>e=Y (.tuple #[])/\(∃R',RB w' rb R'/\RIs w' R' (ZDv u) bs)/\But rb w w':=by
 have HD:Hid (ZDv u=if R.op=true/\R.hq=false/\R.hf=false then { u with bl:=ZBr (tl R.bl) }else u):=A (by unfold ZDv;rw[<-hr.eq];rfl)
 have HU:=A hu;have HB:=A h;have HR:=A hr;have HNE:=A (hu.ne h);obtain⟨a0,a1⟩:=hu.cells;clear hr;obtain⟨sch,user,pass,his,htx,port,po,pn,pc,op,bl,hq,q,hf,fr⟩:=R
 try simp only at *
 obtain⟨-,-,-,-,-,-,-,c7,c8,c9,-,c11,-⟩:=h.cells
 try simp only at c7 c8 c9 c11
 cases op
 focus
  have HE:=A (HD.o.trans (ifN (by rintro⟨x,-⟩;cases x)))
 rotate_left
 focus
  cases hq
  rotate_left
  focus
   have HE:=A (HD.o.trans (ifN (by rintro⟨-,x,-⟩;cases x)))
  rotate_left
  focus
   cases hf
   rotate_left
   focus
    have HE:=A (HD.o.trans (ifN (by rintro⟨-,-,x⟩;cases x)))
   rotate_left
   .have HE:=A (HD.o.trans (ifP ⟨rfl,rfl,rfl⟩))
    clear HD hu h a0 a1 c7 c8 c9 c11
    go_enter func112,ntmps112
    go_wp2
    go_loopw [2] (fun _ wr=>∃b:BA,RB wr rb ⟨sch,user,pass,his,htx,port,po,pn,pc,true,b,false,q,false,fr⟩/\b.size<=300000/\ZBr (tl bl)=ZBr (tl b)/\But rb w wr) (fun _ wr=>blN wr rb)
    case atStart=>exact⟨bl,HB.o,hl,rfl,But.refl _ _⟩
    case round=>
     rename_i wr
     obtain⟨b,hB,hbl,hdr,hbt⟩:=hrel;have HB1:=A hB;have HBT:=A hbt;have HU1:=A (HU.o.but hbt HNE.o);have HDR:=A hdr;obtain⟨a0,a1⟩:=HU1.o.cells;obtain⟨-,-,-,-,-,-,-,c7,c8,c9,-,c11,-⟩:=hB.cells
     try simp only at c7 c8 c9 c11
     have f8:=hB.free 8;clear hB hbt hdr
     by_cases h0:0<b.size
     focus
      have hk1:b.size-1<b.size:=by omega
      have hz0:((b.size:Int)==0)=false:=beq_eq_false_iff_ne.2 (by omega)
      have hzb:¬b=ByteArray.empty:=fun e=>by rw[e]at h0;exact absurd h0 (by decide)
      have HT:=A (show tl b=(tl b).take (b.size-1)++[b[b.size-1]'hk1]by
       have:=Zt b (b.size-1) hk1
       rw[show b.size-1+1=b.size by omega,ZQ _ _ (Xj _)]at this
       exact this)
      have hb1:=bb (b[b.size-1]'hk1)
      cases hc:(((b[b.size-1]'hk1).toNat:Int)==32)
      focus
       have HF:=A (show ZBr (tl bl)=tl b by rw[HDR.o,dropBlR_eq,HT.o,ZDw (by simpa using hc)])
       have hc2:(((b[b.size-1]'hk1).toNat:Int) != 32)=true:=by simp only[bne,hc];rfl
      rotate_left
      .have HF:=A (show ZBr (tl bl)=ZBr (tl (b.extract 0 (b.size-1)))by rw[HDR.o,dropBlR_eq,HT.o,ZEc (by simpa using hc),dropBlR_eq,tl_extract];rfl)
       have hc2:(((b[b.size-1]'hk1).toNat:Int) != 32)=false:=by simp only[bne,hc];rfl
       have hez:=Zf4 b 0 (b.size-1);have HB2:=A (HB1.o.s8 (b.extract 0 (b.size-1)));go_wp2_with fail
       go_region
       all_goals go_wp2
       all_goals go_roundw
       case rel=>exact⟨_,HB2.o.on Nx.rfl.drew,by omega,HF.o,(HBT.o.set 8 _).then (But.nx Nx.rfl.drew)⟩
       case measure=>rw[ZMl (HB2.o.on Nx.rfl.drew),ZMl HB1.o];show(b.extract 0 (b.size-1)).size<b.size;rw[ByteArray.size_extract];omega
     rotate_left
     focus
      have HF:=A (show ZBr (tl bl)=tl b by
       have e:tl b=[]:=ZGF (by omega)
       rw[HDR.o,e];rfl)
      have hz0:((b.size:Int)==0)=true:=by rw[show b.size=0 by omega];rfl
     all_goals
      go_wp2
      exact bodyPost_ret (results_none rfl _ _ _) rfl ⟨rfl,⟨_,HB1.o,by rw[HE.o,HF.o];exact { HR.o.kp (HBT.o.kp HB.o)with eq:=by rw[<-HR.o.eq];rfl }⟩,HBT.o⟩
 all_goals
  clear HD;clear hu h
  go_enter func112,ntmps112
  go_wp2
  go_loopw [2] (fun _ wr=>wr=w) (fun _ _=>0)
  case atStart=>exact rfl
  case round=>
   obtain rfl:=hrel;go_wp2
   exact bodyPost_end (results_none rfl _ _ _) rfl ⟨rfl,⟨_,HB.o,by rw[HE.o];exact HR.o⟩,But.refl _ _⟩
end Go.Proofs.YtchkhibgbnhjpabGreatDoor
