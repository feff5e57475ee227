import Derived.Test.YtchkhibgbnhjpabGreatDoorB36
import Derived.Test.YtchkhibgbnhjpabGreatDoorB37
open Array renaming getElem?_eq_some_iff→Xh
open Bool renaming false_eq_true→Xc
open List renaming getD_eq_getElem?_getD→Xa,getElem?_eq_getElem→Xb,getElem?_map→Xd,length_map→Xe,append_nil→Xf
open Nat renaming add_zero→Xg
namespace Go.Proofs.YtchkhibgbnhjpabGreatDoor
open Go.RowKit
set_option maxHeartbeats 16000000
set_option maxRecDepth 8000
theorem Zve(rb:Nat)(R:RR)(u:RU)(bs:LA)(w:World)(h:RB w rb R)(hr:RIs w R u bs)(hl:RL R)(hu:R.user.size=0)(hp:R.pass.size=0):Calls Tryz.prog 113 #[.pointer (some ⟨rb,0,none⟩)] w fun e w'=>∃t:BA,e=.returned (.string t)∧tl t=Zhy u∧Nx w w':=by
 have HB:=Za h;have HR:=Za hr;have HL:=Za hl
 have HD:=Za (show Zhy u=tl R.sch++[58]++Zdn u++Zdu u++(if R.hq=true then [63]++tl R.q else [])++(if R.hf=true then [35]++tl R.fr else [])by rw[←hr.eq];rfl)
 have HW:=Za (show Zdn u=if R.his=true then [47,47]++ZfY u++ZdF u else if 1<bs.length∧(bs.map tl).getD 0 []=[]then [47,46]else []by rw[←Xe (f:=tl),←hr.eq];rfl)
 have HU:=Za (show ZfY u=if tl R.user=[]∧tl R.pass=[]then []else if tl R.pass=[]then tl R.user++[64]else tl R.user++[58]++tl R.pass++[64]by rw[←hr.eq];rfl)
 have ls:=hr.lsch;have l1:=hl.user;have l2:=hl.pass;have l3:=hl.htx;have l5:=hl.q;have l6:=hl.fr;have l7:=hl.bl;have l8:=hl.port;obtain⟨c0,c1,c2,c3,c4,c5,c6,c7,c8,c9,c10,c11,c12⟩:=h.cells;have hu':=Zl hu;have hp':=Zl hp;have HE1:=Za (Zi4 hu);have HE2:=Za (Zi4 hp);have hsg:=hr.seg';clear h hr hl hu hp
 go_enter Tryz.func113,Tryz.ntmps113
 go_upto_if 19 with fail
 go_cut [3]from 8 (fun s wx=>∃who:BA,s=.string who∧tl who=ZfY u∧who.size≤600002∧Nx w wx∧RB wx rb R∧RIs wx R u bs)
 case first=>
  go_wp2
  go_meet
  case rel=>exact⟨⟨#[]⟩,rfl,by rw[HU.out,if_pos ⟨HE1.out,HE2.out⟩];rfl,by decide,Nx.rfl,HB.out,HR.out⟩
 case rest=>
  obtain⟨who,rfl,hwho,hwl,hnc,hbc,hrc⟩:=hcut;have HWH:=Za hwho;have HN:=Za hnc;have HB1:=Za hbc;have HR1:=Za hrc;clear hwho hnc hbc hrc c0 c1 c2 c3 c4 c5 c6 c7 c8 c9 c10 c11 c12 hu' hp' hsg;obtain⟨w1,hw1⟩:∃w1,w1=wc:=⟨_,rfl⟩;subst hw1;have hsg:=HR1.out.seg';obtain⟨c0,c1,c2,c3,c4,c5,c6,c7,c8,c9,c10,c11,c12⟩:=HB1.out.cells
  go_upto_if 45 with fail
  go_cut [4,5]from 8 (fun s _ wx=>∃t:BA,s=.string t∧tl t=Zdn u∧t.size≤2000000∧Nx w wx)
  case first=>
   generalize R.his=his at *
   cases his
   ·have HW1:=Za (HW.out.trans (if_neg (by decide)))
    clear HW;rcases hsg with⟨h1,h2,h3,rfl⟩|⟨b,off,h1,h2,h3,h4,hrow⟩
    ·rw[h1,h2,h3]at c6
     have HW2:=Za (HW1.out.trans (if_neg (by simp)))
     clear HW1;go_wp2
     go_meet
     case rel=>exact⟨⟨#[]⟩,rfl,HW2.out.symm,by decide,HN.out⟩
    ·rw[h1,h2]at c6
     unfold maxLen at h4
     by_cases hlt:1<bs.length
     ·have hck:=hrow.cell (show 0<bs.length by omega)
      rw[Xg]at hck
      have HG:=Za (show(bs.map tl).getD 0 []=tl bs[0]by rw[Xa,Xd,Xb (by omega)];rfl)
      generalize bs[0]=p at *
      by_cases hz:p.size=0
      ·have hz':=Zl hz
       have HW2:=Za (HW1.out.trans (if_pos ⟨hlt,by rw[HG.out];exact Zw hz⟩))
       clear HW1 hz;go_wp2
       go_meet
       case rel=>exact⟨⟨#[47,46]⟩,rfl,HW2.out.symm,by decide,HN.out⟩
      ·have hz':=Zh hz
       have HW2:=Za (HW1.out.trans (if_neg (fun g=>hz (by rw[HG.out]at g;rw[←tl_length,g.2];rfl))))
       clear HW1 hz;go_wp2
       go_meet
       case rel=>exact⟨⟨#[]⟩,rfl,HW2.out.symm,by decide,HN.out⟩
     ·have HW2:=Za (HW1.out.trans (if_neg (fun g=>hlt g.1)))
      clear HW1;go_wp2
      go_meet
      case rel=>exact⟨⟨#[]⟩,rfl,HW2.out.symm,by decide,HN.out⟩
   ·have HW1:=Za (HW.out.trans (if_pos rfl))
    clear HW hsg;go_wp2_with fail
    refine(ZbW rb R u bs _ HB1.out HR1.out l3 l8).mono ?_
    rintro e w2 ⟨t,rfl,ht,htl,hn⟩;have HT:=Za ht;have HN2:=Za (HN.out.then hn);clear ht hn;go_wp2
    go_meet
    case rel=>exact⟨(⟨#[47,47]⟩:BA)++who++t,rfl,by rw[HW1.out,Zg,Zg,HWH.out,HT.out];rfl,by rw[Zi,Zi];show 2+who.size+t.size≤_;omega,HN2.out⟩
  case rest=>
   obtain⟨wh,rfl,hwh,hwhl,hnc⟩:=hcut;have HWT:=Za hwh;have HN2:=Za hnc;clear hwh hnc hsg c0 c1 c2 c3 c4 c5 c6 c7 c8 c9 c10 c11 c12;obtain⟨w2,hw2⟩:∃w2,w2=wc:=⟨_,rfl⟩;subst hw2;go_wp2_with fail
   refine(Zd7 rb R u bs _ (HB.out.on HN2.out) (HR.out.on HN2.out) l7).mono ?_
   rintro e w3 ⟨pt,rfl,hpt,hptl,hn⟩;have HPT:=Za hpt;have HN3:=Za (HN2.out.then hn);clear hpt hn;obtain⟨c0,c1,c2,c3,c4,c5,c6,c7,c8,c9,c10,c11,c12⟩:=(HB.out.on HN3.out).cells;have HB':=HB;have HR':=HR;clear HB HR HB1 HR1;obtain⟨sch,user,pass,his,htx,port,po,pn,pc,op,bl,hq,q,hf,fr⟩:=R;simp only at *
   cases hq
   all_goals cases hf
   all_goals go_wp2
   all_goals go_ret
   all_goals exact⟨_,rfl,by rw[HD.out];simp only[if_true,Xc,if_false,Zg,HWT.out,HPT.out,Xf];simp[tl],HN3.out⟩
theorem Zvf(rb:Nat)(R:RR)(u:RU)(bs:LA)(w:World)(h:RB w rb R)(hr:RIs w R u bs)(hl:RL R)(hu:R.user.size=0)(hp:¬R.pass.size=0):Calls Tryz.prog 113 #[.pointer (some ⟨rb,0,none⟩)] w fun e w'=>∃t:BA,e=.returned (.string t)∧tl t=Zhy u∧Nx w w':=by
 have HB:=Za h;have HR:=Za hr;have HL:=Za hl
 have HD:=Za (show Zhy u=tl R.sch++[58]++Zdn u++Zdu u++(if R.hq=true then [63]++tl R.q else [])++(if R.hf=true then [35]++tl R.fr else [])by rw[←hr.eq];rfl)
 have HW:=Za (show Zdn u=if R.his=true then [47,47]++ZfY u++ZdF u else if 1<bs.length∧(bs.map tl).getD 0 []=[]then [47,46]else []by rw[←Xe (f:=tl),←hr.eq];rfl)
 have HU:=Za (show ZfY u=if tl R.user=[]∧tl R.pass=[]then []else if tl R.pass=[]then tl R.user++[64]else tl R.user++[58]++tl R.pass++[64]by rw[←hr.eq];rfl)
 have ls:=hr.lsch;have l1:=hl.user;have l2:=hl.pass;have l3:=hl.htx;have l5:=hl.q;have l6:=hl.fr;have l7:=hl.bl;have l8:=hl.port;obtain⟨c0,c1,c2,c3,c4,c5,c6,c7,c8,c9,c10,c11,c12⟩:=h.cells;have hu':=Zl hu;have hp':=Zh hp;have HE1:=Za (Zi4 hu);have HE2:=Za (ZcO hp);have hsg:=hr.seg';clear h hr hl hu hp
 go_enter Tryz.func113,Tryz.ntmps113
 go_upto_if 19 with fail
 go_cut [3]from 8 (fun s wx=>∃who:BA,s=.string who∧tl who=ZfY u∧who.size≤600002∧Nx w wx∧RB wx rb R∧RIs wx R u bs)
 case first=>
  go_upto_region 5 with fail
  all_goals try exact absurd (by assumption:(!R.pass.toList.isEmpty)=false) (by rw[hp'];decide)
  go_region
  go_wp2
  go_meet
  case rel=>exact⟨R.user++(⟨#[58]⟩:BA)++R.pass++(⟨#[64]⟩:BA),rfl,by rw[HU.out,if_neg (fun g=>HE2.out g.2),if_neg HE2.out,Zg,Zg,Zg];rfl,by rw[Zi,Zi,Zi];show R.user.size+1+R.pass.size+1≤_;omega,Nx.rfl.drew,HB.out.on Nx.rfl.drew,HR.out.on Nx.rfl.drew⟩
 case rest=>
  obtain⟨who,rfl,hwho,hwl,hnc,hbc,hrc⟩:=hcut;have HWH:=Za hwho;have HN:=Za hnc;have HB1:=Za hbc;have HR1:=Za hrc;clear hwho hnc hbc hrc c0 c1 c2 c3 c4 c5 c6 c7 c8 c9 c10 c11 c12 hu' hp' hsg;obtain⟨w1,hw1⟩:∃w1,w1=wc:=⟨_,rfl⟩;subst hw1;have hsg:=HR1.out.seg';obtain⟨c0,c1,c2,c3,c4,c5,c6,c7,c8,c9,c10,c11,c12⟩:=HB1.out.cells
  go_upto_if 45 with fail
  go_cut [4,5]from 8 (fun s _ wx=>∃t:BA,s=.string t∧tl t=Zdn u∧t.size≤2000000∧Nx w wx)
  case first=>
   generalize R.his=his at *
   cases his
   ·have HW1:=Za (HW.out.trans (if_neg (by decide)))
    clear HW;rcases hsg with⟨h1,h2,h3,rfl⟩|⟨b,off,h1,h2,h3,h4,hrow⟩
    ·rw[h1,h2,h3]at c6
     have HW2:=Za (HW1.out.trans (if_neg (by simp)))
     clear HW1;go_wp2
     go_meet
     case rel=>exact⟨⟨#[]⟩,rfl,HW2.out.symm,by decide,HN.out⟩
    ·rw[h1,h2]at c6
     unfold maxLen at h4
     by_cases hlt:1<bs.length
     ·have hck:=hrow.cell (show 0<bs.length by omega)
      rw[Xg]at hck
      have HG:=Za (show(bs.map tl).getD 0 []=tl bs[0]by rw[Xa,Xd,Xb (by omega)];rfl)
      generalize bs[0]=p at *
      by_cases hz:p.size=0
      ·have hz':=Zl hz
       have HW2:=Za (HW1.out.trans (if_pos ⟨hlt,by rw[HG.out];exact Zw hz⟩))
       clear HW1 hz;go_wp2
       go_meet
       case rel=>exact⟨⟨#[47,46]⟩,rfl,HW2.out.symm,by decide,HN.out⟩
      ·have hz':=Zh hz
       have HW2:=Za (HW1.out.trans (if_neg (fun g=>hz (by rw[HG.out]at g;rw[←tl_length,g.2];rfl))))
       clear HW1 hz;go_wp2
       go_meet
       case rel=>exact⟨⟨#[]⟩,rfl,HW2.out.symm,by decide,HN.out⟩
     ·have HW2:=Za (HW1.out.trans (if_neg (fun g=>hlt g.1)))
      clear HW1;go_wp2
      go_meet
      case rel=>exact⟨⟨#[]⟩,rfl,HW2.out.symm,by decide,HN.out⟩
   ·have HW1:=Za (HW.out.trans (if_pos rfl))
    clear HW hsg;go_wp2_with fail
    refine(ZbW rb R u bs _ HB1.out HR1.out l3 l8).mono ?_
    rintro e w2 ⟨t,rfl,ht,htl,hn⟩;have HT:=Za ht;have HN2:=Za (HN.out.then hn);clear ht hn;go_wp2
    go_meet
    case rel=>exact⟨(⟨#[47,47]⟩:BA)++who++t,rfl,by rw[HW1.out,Zg,Zg,HWH.out,HT.out];rfl,by rw[Zi,Zi];show 2+who.size+t.size≤_;omega,HN2.out⟩
  case rest=>
   obtain⟨wh,rfl,hwh,hwhl,hnc⟩:=hcut;have HWT:=Za hwh;have HN2:=Za hnc;clear hwh hnc hsg c0 c1 c2 c3 c4 c5 c6 c7 c8 c9 c10 c11 c12;obtain⟨w2,hw2⟩:∃w2,w2=wc:=⟨_,rfl⟩;subst hw2;go_wp2_with fail
   refine(Zd7 rb R u bs _ (HB.out.on HN2.out) (HR.out.on HN2.out) l7).mono ?_
   rintro e w3 ⟨pt,rfl,hpt,hptl,hn⟩;have HPT:=Za hpt;have HN3:=Za (HN2.out.then hn);clear hpt hn;obtain⟨c0,c1,c2,c3,c4,c5,c6,c7,c8,c9,c10,c11,c12⟩:=(HB.out.on HN3.out).cells;have HB':=HB;have HR':=HR;clear HB HR HB1 HR1;obtain⟨sch,user,pass,his,htx,port,po,pn,pc,op,bl,hq,q,hf,fr⟩:=R;simp only at *
   cases hq
   all_goals cases hf
   all_goals go_wp2
   all_goals go_ret
   all_goals exact⟨_,rfl,by rw[HD.out];simp only[if_true,Xc,if_false,Zg,HWT.out,HPT.out,Xf];simp[tl],HN3.out⟩
theorem Zvg(rb:Nat)(R:RR)(u:RU)(bs:LA)(w:World)(h:RB w rb R)(hr:RIs w R u bs)(hl:RL R)(hu:¬R.user.size=0)(hp:R.pass.size=0):Calls Tryz.prog 113 #[.pointer (some ⟨rb,0,none⟩)] w fun e w'=>∃t:BA,e=.returned (.string t)∧tl t=Zhy u∧Nx w w':=by
 have HB:=Za h;have HR:=Za hr;have HL:=Za hl
 have HD:=Za (show Zhy u=tl R.sch++[58]++Zdn u++Zdu u++(if R.hq=true then [63]++tl R.q else [])++(if R.hf=true then [35]++tl R.fr else [])by rw[←hr.eq];rfl)
 have HW:=Za (show Zdn u=if R.his=true then [47,47]++ZfY u++ZdF u else if 1<bs.length∧(bs.map tl).getD 0 []=[]then [47,46]else []by rw[←Xe (f:=tl),←hr.eq];rfl)
 have HU:=Za (show ZfY u=if tl R.user=[]∧tl R.pass=[]then []else if tl R.pass=[]then tl R.user++[64]else tl R.user++[58]++tl R.pass++[64]by rw[←hr.eq];rfl)
 have ls:=hr.lsch;have l1:=hl.user;have l2:=hl.pass;have l3:=hl.htx;have l5:=hl.q;have l6:=hl.fr;have l7:=hl.bl;have l8:=hl.port;obtain⟨c0,c1,c2,c3,c4,c5,c6,c7,c8,c9,c10,c11,c12⟩:=h.cells;have hu':=Zh hu;have hp':=Zl hp;have HE1:=Za (ZcO hu);have HE2:=Za (Zi4 hp);have hsg:=hr.seg';clear h hr hl hu hp
 go_enter Tryz.func113,Tryz.ntmps113
 go_upto_if 19 with fail
 go_cut [3]from 8 (fun s wx=>∃who:BA,s=.string who∧tl who=ZfY u∧who.size≤600002∧Nx w wx∧RB wx rb R∧RIs wx R u bs)
 case first=>
  go_wp2
  all_goals try exact absurd (by assumption:(!R.pass.toList.isEmpty)=true) (by rw[hp'];decide)
  go_meet
  case rel=>exact⟨R.user++(⟨#[64]⟩:BA),rfl,by rw[HU.out,if_neg (fun g=>HE1.out g.1),if_pos HE2.out,Zg];rfl,by rw[Zi];show R.user.size+1≤_;omega,Nx.rfl,HB.out,HR.out⟩
 case rest=>
  obtain⟨who,rfl,hwho,hwl,hnc,hbc,hrc⟩:=hcut;have HWH:=Za hwho;have HN:=Za hnc;have HB1:=Za hbc;have HR1:=Za hrc;clear hwho hnc hbc hrc c0 c1 c2 c3 c4 c5 c6 c7 c8 c9 c10 c11 c12 hu' hp' hsg;obtain⟨w1,hw1⟩:∃w1,w1=wc:=⟨_,rfl⟩;subst hw1;have hsg:=HR1.out.seg';obtain⟨c0,c1,c2,c3,c4,c5,c6,c7,c8,c9,c10,c11,c12⟩:=HB1.out.cells
  go_upto_if 45 with fail
  go_cut [4,5]from 8 (fun s _ wx=>∃t:BA,s=.string t∧tl t=Zdn u∧t.size≤2000000∧Nx w wx)
  case first=>
   generalize R.his=his at *
   cases his
   ·have HW1:=Za (HW.out.trans (if_neg (by decide)))
    clear HW;rcases hsg with⟨h1,h2,h3,rfl⟩|⟨b,off,h1,h2,h3,h4,hrow⟩
    ·rw[h1,h2,h3]at c6
     have HW2:=Za (HW1.out.trans (if_neg (by simp)))
     clear HW1;go_wp2
     go_meet
     case rel=>exact⟨⟨#[]⟩,rfl,HW2.out.symm,by decide,HN.out⟩
    ·rw[h1,h2]at c6
     unfold maxLen at h4
     by_cases hlt:1<bs.length
     ·have hck:=hrow.cell (show 0<bs.length by omega)
      rw[Xg]at hck
      have HG:=Za (show(bs.map tl).getD 0 []=tl bs[0]by rw[Xa,Xd,Xb (by omega)];rfl)
      generalize bs[0]=p at *
      by_cases hz:p.size=0
      ·have hz':=Zl hz
       have HW2:=Za (HW1.out.trans (if_pos ⟨hlt,by rw[HG.out];exact Zw hz⟩))
       clear HW1 hz;go_wp2
       go_meet
       case rel=>exact⟨⟨#[47,46]⟩,rfl,HW2.out.symm,by decide,HN.out⟩
      ·have hz':=Zh hz
       have HW2:=Za (HW1.out.trans (if_neg (fun g=>hz (by rw[HG.out]at g;rw[←tl_length,g.2];rfl))))
       clear HW1 hz;go_wp2
       go_meet
       case rel=>exact⟨⟨#[]⟩,rfl,HW2.out.symm,by decide,HN.out⟩
     ·have HW2:=Za (HW1.out.trans (if_neg (fun g=>hlt g.1)))
      clear HW1;go_wp2
      go_meet
      case rel=>exact⟨⟨#[]⟩,rfl,HW2.out.symm,by decide,HN.out⟩
   ·have HW1:=Za (HW.out.trans (if_pos rfl))
    clear HW hsg;go_wp2_with fail
    refine(ZbW rb R u bs _ HB1.out HR1.out l3 l8).mono ?_
    rintro e w2 ⟨t,rfl,ht,htl,hn⟩;have HT:=Za ht;have HN2:=Za (HN.out.then hn);clear ht hn;go_wp2
    go_meet
    case rel=>exact⟨(⟨#[47,47]⟩:BA)++who++t,rfl,by rw[HW1.out,Zg,Zg,HWH.out,HT.out];rfl,by rw[Zi,Zi];show 2+who.size+t.size≤_;omega,HN2.out⟩
  case rest=>
   obtain⟨wh,rfl,hwh,hwhl,hnc⟩:=hcut;have HWT:=Za hwh;have HN2:=Za hnc;clear hwh hnc hsg c0 c1 c2 c3 c4 c5 c6 c7 c8 c9 c10 c11 c12;obtain⟨w2,hw2⟩:∃w2,w2=wc:=⟨_,rfl⟩;subst hw2;go_wp2_with fail
   refine(Zd7 rb R u bs _ (HB.out.on HN2.out) (HR.out.on HN2.out) l7).mono ?_
   rintro e w3 ⟨pt,rfl,hpt,hptl,hn⟩;have HPT:=Za hpt;have HN3:=Za (HN2.out.then hn);clear hpt hn;obtain⟨c0,c1,c2,c3,c4,c5,c6,c7,c8,c9,c10,c11,c12⟩:=(HB.out.on HN3.out).cells;have HB':=HB;have HR':=HR;clear HB HR HB1 HR1;obtain⟨sch,user,pass,his,htx,port,po,pn,pc,op,bl,hq,q,hf,fr⟩:=R;simp only at *
   cases hq
   all_goals cases hf
   all_goals go_wp2
   all_goals go_ret
   all_goals exact⟨_,rfl,by rw[HD.out];simp only[if_true,Xc,if_false,Zg,HWT.out,HPT.out,Xf];simp[tl],HN3.out⟩
theorem Zvh(rb:Nat)(R:RR)(u:RU)(bs:LA)(w:World)(h:RB w rb R)(hr:RIs w R u bs)(hl:RL R)(hu:¬R.user.size=0)(hp:¬R.pass.size=0):Calls Tryz.prog 113 #[.pointer (some ⟨rb,0,none⟩)] w fun e w'=>∃t:BA,e=.returned (.string t)∧tl t=Zhy u∧Nx w w':=by
 have HB:=Za h;have HR:=Za hr;have HL:=Za hl
 have HD:=Za (show Zhy u=tl R.sch++[58]++Zdn u++Zdu u++(if R.hq=true then [63]++tl R.q else [])++(if R.hf=true then [35]++tl R.fr else [])by rw[←hr.eq];rfl)
 have HW:=Za (show Zdn u=if R.his=true then [47,47]++ZfY u++ZdF u else if 1<bs.length∧(bs.map tl).getD 0 []=[]then [47,46]else []by rw[←Xe (f:=tl),←hr.eq];rfl)
 have HU:=Za (show ZfY u=if tl R.user=[]∧tl R.pass=[]then []else if tl R.pass=[]then tl R.user++[64]else tl R.user++[58]++tl R.pass++[64]by rw[←hr.eq];rfl)
 have ls:=hr.lsch;have l1:=hl.user;have l2:=hl.pass;have l3:=hl.htx;have l5:=hl.q;have l6:=hl.fr;have l7:=hl.bl;have l8:=hl.port;obtain⟨c0,c1,c2,c3,c4,c5,c6,c7,c8,c9,c10,c11,c12⟩:=h.cells;have hu':=Zh hu;have hp':=Zh hp;have HE1:=Za (ZcO hu);have HE2:=Za (ZcO hp);have hsg:=hr.seg';clear h hr hl hu hp
 go_enter Tryz.func113,Tryz.ntmps113
 go_upto_if 19 with fail
 go_cut [3]from 8 (fun s wx=>∃who:BA,s=.string who∧tl who=ZfY u∧who.size≤600002∧Nx w wx∧RB wx rb R∧RIs wx R u bs)
 case first=>
  go_upto_region 5 with fail
  all_goals try exact absurd (by assumption:(!R.pass.toList.isEmpty)=false) (by rw[hp'];decide)
  go_region
  go_wp2
  go_meet
  case rel=>exact⟨R.user++(⟨#[58]⟩:BA)++R.pass++(⟨#[64]⟩:BA),rfl,by rw[HU.out,if_neg (fun g=>HE2.out g.2),if_neg HE2.out,Zg,Zg,Zg];rfl,by rw[Zi,Zi,Zi];show R.user.size+1+R.pass.size+1≤_;omega,Nx.rfl.drew,HB.out.on Nx.rfl.drew,HR.out.on Nx.rfl.drew⟩
 case rest=>
  obtain⟨who,rfl,hwho,hwl,hnc,hbc,hrc⟩:=hcut;have HWH:=Za hwho;have HN:=Za hnc;have HB1:=Za hbc;have HR1:=Za hrc;clear hwho hnc hbc hrc c0 c1 c2 c3 c4 c5 c6 c7 c8 c9 c10 c11 c12 hu' hp' hsg;obtain⟨w1,hw1⟩:∃w1,w1=wc:=⟨_,rfl⟩;subst hw1;have hsg:=HR1.out.seg';obtain⟨c0,c1,c2,c3,c4,c5,c6,c7,c8,c9,c10,c11,c12⟩:=HB1.out.cells
  go_upto_if 45 with fail
  go_cut [4,5]from 8 (fun s _ wx=>∃t:BA,s=.string t∧tl t=Zdn u∧t.size≤2000000∧Nx w wx)
  case first=>
   generalize R.his=his at *
   cases his
   ·have HW1:=Za (HW.out.trans (if_neg (by decide)))
    clear HW;rcases hsg with⟨h1,h2,h3,rfl⟩|⟨b,off,h1,h2,h3,h4,hrow⟩
    ·rw[h1,h2,h3]at c6
     have HW2:=Za (HW1.out.trans (if_neg (by simp)))
     clear HW1;go_wp2
     go_meet
     case rel=>exact⟨⟨#[]⟩,rfl,HW2.out.symm,by decide,HN.out⟩
    ·rw[h1,h2]at c6
     unfold maxLen at h4
     by_cases hlt:1<bs.length
     ·have hck:=hrow.cell (show 0<bs.length by omega)
      rw[Xg]at hck
      have HG:=Za (show(bs.map tl).getD 0 []=tl bs[0]by rw[Xa,Xd,Xb (by omega)];rfl)
      generalize bs[0]=p at *
      by_cases hz:p.size=0
      ·have hz':=Zl hz
       have HW2:=Za (HW1.out.trans (if_pos ⟨hlt,by rw[HG.out];exact Zw hz⟩))
       clear HW1 hz;go_wp2
       go_meet
       case rel=>exact⟨⟨#[47,46]⟩,rfl,HW2.out.symm,by decide,HN.out⟩
      ·have hz':=Zh hz
       have HW2:=Za (HW1.out.trans (if_neg (fun g=>hz (by rw[HG.out]at g;rw[←tl_length,g.2];rfl))))
       clear HW1 hz;go_wp2
       go_meet
       case rel=>exact⟨⟨#[]⟩,rfl,HW2.out.symm,by decide,HN.out⟩
     ·have HW2:=Za (HW1.out.trans (if_neg (fun g=>hlt g.1)))
      clear HW1;go_wp2
      go_meet
      case rel=>exact⟨⟨#[]⟩,rfl,HW2.out.symm,by decide,HN.out⟩
   ·have HW1:=Za (HW.out.trans (if_pos rfl))
    clear HW hsg;go_wp2_with fail
    refine(ZbW rb R u bs _ HB1.out HR1.out l3 l8).mono ?_
    rintro e w2 ⟨t,rfl,ht,htl,hn⟩;have HT:=Za ht;have HN2:=Za (HN.out.then hn);clear ht hn;go_wp2
    go_meet
    case rel=>exact⟨(⟨#[47,47]⟩:BA)++who++t,rfl,by rw[HW1.out,Zg,Zg,HWH.out,HT.out];rfl,by rw[Zi,Zi];show 2+who.size+t.size≤_;omega,HN2.out⟩
  case rest=>
   obtain⟨wh,rfl,hwh,hwhl,hnc⟩:=hcut;have HWT:=Za hwh;have HN2:=Za hnc;clear hwh hnc hsg c0 c1 c2 c3 c4 c5 c6 c7 c8 c9 c10 c11 c12;obtain⟨w2,hw2⟩:∃w2,w2=wc:=⟨_,rfl⟩;subst hw2;go_wp2_with fail
   refine(Zd7 rb R u bs _ (HB.out.on HN2.out) (HR.out.on HN2.out) l7).mono ?_
   rintro e w3 ⟨pt,rfl,hpt,hptl,hn⟩;have HPT:=Za hpt;have HN3:=Za (HN2.out.then hn);clear hpt hn;obtain⟨c0,c1,c2,c3,c4,c5,c6,c7,c8,c9,c10,c11,c12⟩:=(HB.out.on HN3.out).cells;have HB':=HB;have HR':=HR;clear HB HR HB1 HR1;obtain⟨sch,user,pass,his,htx,port,po,pn,pc,op,bl,hq,q,hf,fr⟩:=R;simp only at *
   cases hq
   all_goals cases hf
   all_goals go_wp2
   all_goals go_ret
   all_goals exact⟨_,rfl,by rw[HD.out];simp only[if_true,Xc,if_false,Zg,HWT.out,HPT.out,Xf];simp[tl],HN3.out⟩
theorem Ztb(rb:Nat)(R:RR)(u:RU)(bs:LA)(w:World)(h:RB w rb R)(hr:RIs w R u bs)(hl:RL R):Calls Tryz.prog 113 #[.pointer (some ⟨rb,0,none⟩)] w fun e w'=>∃t:BA,e=.returned (.string t)∧tl t=Zhy u∧Nx w w':=by
 by_cases hu:R.user.size=0
 ·by_cases hp:R.pass.size=0
  ·exact Zve rb R u bs w h hr hl hu hp
  ·exact Zvf rb R u bs w h hr hl hu hp
 ·by_cases hp:R.pass.size=0
  ·exact Zvg rb R u bs w h hr hl hu hp
  ·exact Zvh rb R u bs w h hr hl hu hp
theorem ZjV{s:BA}{l:LB}{n:Nat}(h:tl s=l)(hn:l.length≤n):s.size≤n:=by rw[←tl_length,h];exact hn
theorem Ztc(rb:Nat)(R:RR)(u:RU)(bs:LA)(w:World)(h:RB w rb R)(hr:RIs w R u bs)(hl:RL R)(hsp:Ze u.sch=true)(hf:u.sch≠Zx):Calls Tryz.prog 114 #[.pointer (some ⟨rb,0,none⟩)] w fun e w'=>∃t:BA,e=.returned (.string t)∧tl t=Zbr u∧Nx w w':=by
 have HB:=Za h;have HR:=Za hr
 have HE:=Za (show Zbr u=tl R.sch++[58,47,47]++ZdF u by unfold Zbr ZfZ;rw[if_pos ⟨hsp,hf⟩,hr.usch])
 have ls:=hr.lsch;have l3:=hl.htx;have l8:=hl.port;have c0:=h.cells.1
 have hfb:=neB (s:=R.sch) (l:=[102,105,108,101]) (by rw[hr.usch];exact hf)
 have hfb':=Zx2 hfb
 have HSP:=Za (show Ze (tl R.sch)=true by rw[hr.usch];exact hsp)
 clear h hr hl hf hsp
 go_enter Tryz.func114,Tryz.ntmps114
 go_wp2_with fail
 refine(ZG R.sch _).mono ?_
 rintro e w1 ⟨rfl,hn1⟩;rw[HSP.out];have HN1:=Za hn1;have c01:=(HB.out.on hn1).cells.1;clear hn1 c0;go_wp2_with fail
 refine(ZbW rb R u bs _ (HB.out.on HN1.out) (HR.out.on HN1.out) l3 l8).mono ?_
 rintro e w2 ⟨t,rfl,ht,htl,hn2⟩;have HT:=Za ht;have HN2:=Za (HN1.out.then hn2);have c02:=(HB.out.on HN2.out).cells.1;clear ht hn2 c01;go_wp2;go_ret
 exact⟨_,rfl,by rw[HE.out,Zg,Zg,HT.out];rfl,HN2.out⟩
theorem Ztd(rb:Nat)(R:RR)(u:RU)(bs:LA)(w:World)(h:RB w rb R)(hr:RIs w R u bs)(hsp:¬(Ze u.sch=true∧u.sch≠Zx))(hbl:u.sch≠Zqn):Calls Tryz.prog 114 #[.pointer (some ⟨rb,0,none⟩)] w fun e w'=>∃t:BA,e=.returned (.string t)∧tl t=Zbr u∧Nx w w':=by
 have HB:=Za h
 have HE:=Za (show Zbr u=ZsU by unfold Zbr;rw[if_neg hsp,if_neg hbl])
 have c0:=h.cells.1
 have hcase:(Ze (tl R.sch)=false)∨(Ze (tl R.sch)=true∧(R.sch.toList == [102,105,108,101])=true):=by
  rw[hr.usch]
  cases hx:Ze u.sch
  ·exact Or.inl rfl
  ·right
   refine⟨rfl,eqB ?_⟩
   rw[hr.usch]
   exact Classical.byContradiction fun g=>hsp ⟨hx,g⟩
 have hbb:=neB (s:=R.sch) (l:=[98,108,111,98]) (by rw[hr.usch];exact hbl)
 clear h hr hsp hbl
 go_enter Tryz.func114,Tryz.ntmps114
 go_wp2_with fail
 refine(ZG R.sch _).mono ?_
 rintro e w1 ⟨rfl,hn1⟩;have HN1:=Za hn1;have c01:=(HB.out.on hn1).cells.1;clear hn1 c0;rcases hcase with hx|⟨hx,hfb⟩
 ·rw[hx]
  clear hx;go_wp2;go_ret
  exact⟨_,rfl,by rw[HE.out];rfl,HN1.out⟩
 ·rw[hx]
  have hfb':=Zx3 hfb;clear hx;go_wp2;go_ret
  exact⟨_,rfl,by rw[HE.out];rfl,HN1.out⟩
theorem Zte(rb:Nat)(R:RR)(u:RU)(bs:LA)(w:World)(h:RB w rb R)(hr:RIs w R u bs)(hl:RL R)(hbl:u.sch=Zqn)(hpl:(Zdu u).length≤20000)(hin:(parseR (Zdu u) none).2=0→(parseR (Zdu u) none).1.htx.length≤300000∧(parseR (Zdu u) none).1.port≤65535):Calls Tryz.prog 114 #[.pointer (some ⟨rb,0,none⟩)] w fun e w'=>∃t:BA,e=.returned (.string t)∧tl t=Zbr u∧Nx w w':=by
 have HB:=Za h;have HR:=Za hr
 have HD:=Za (show Zbr u=ZiE (parseR (Zdu u) none)by unfold Zbr;rw[if_neg (by rw[hbl];decide),if_pos hbl])
 have HIN:=Za hin;have HPL:=Za hpl;have l7:=hl.bl;have c0:=h.cells.1
 have HSP:=Za (show Ze (tl R.sch)=false by rw[hr.usch,hbl];decide)
 have hbb:=eqB (s:=R.sch) (l:=[98,108,111,98]) (by rw[hr.usch];exact hbl)
 clear h hr hl hbl hpl hin
 go_enter Tryz.func114,Tryz.ntmps114
 go_wp2_with fail
 refine(ZG R.sch _).mono ?_
 rintro e w1 ⟨rfl,hn1⟩;rw[HSP.out];have HN1:=Za hn1;have c01:=(HB.out.on hn1).cells.1;clear hn1 c0;go_wp2_with fail
 refine(Zd7 rb R u bs _ (HB.out.on HN1.out) (HR.out.on HN1.out) l7).mono ?_
 rintro e w2 ⟨p,rfl,hp,hpsz,hn2⟩;have HP:=Za hp;have HN2:=Za (HN1.out.then hn2);have hp2:p.size≤20000:=ZjV hp HPL.out;clear hp hn2 c01 hpsz;go_wp2_with fail
 refine(Zfw p (.pointer none) none _ hp2 (Or.inl ⟨rfl,rfl⟩)).mono ?_
 rintro e w3 hx;rw[HP.out]at hx;generalize parseR (Zdu u) none=x at *;obtain⟨v,err⟩:=x;simp only at HIN;rcases hx with⟨he,rfl,hn3⟩|⟨he,vb,V,vs,rfl,hB,hV,-,hn3⟩
 ·have HE:=Za (show Zbr u=ZsU by rw[HD.out];unfold ZiE;rw[if_neg (fun g=>he g.1)])
  have he1:(err==0)=false:=beq_eq_false_iff_ne.2 he;have HN3:=Za (HN2.out.then hn3);clear he hn3 HIN HD;go_wp2;go_ret
  exact⟨_,rfl,by rw[HE.out];rfl,HN3.out⟩
 ·simp only at he
  subst he;have HN3:=Za (HN2.out.then hn3);have HVB:=Za hB
  replace hV:RIs w3 V v vs:=hV
  have HVI:=Za hV;obtain⟨g1,g2⟩:=HIN.out rfl
  have v3:V.htx.size≤300000:=ZjV (show tl V.htx=v.htx by rw[←hV.eq];rfl) g1
  have v8:V.port≤65535:=by have:V.port=v.port:=by rw[←hV.eq];rfl
                           rw[this];exact g2
  have vls:=hV.lsch;have d0:=hB.cells.1;have HVS:=Za hV.usch;clear hn3 hB hV g1 g2 HIN
  by_cases hh:v.sch=ZwK
  ·have HE:=Za (show Zbr u=tl V.sch++[58,47,47]++ZdF v by rw[HD.out];unfold ZiE ZfZ;rw[if_pos ⟨rfl,Or.inl hh⟩,HVS.out])
   have hb1:=eqB (s:=V.sch) (l:=[104,116,116,112]) (by rw[HVS.out];exact hh)
   clear HD hh;go_wp2_with fail
   refine(ZbW vb V v vs _ HVB.out HVI.out v3 v8).mono ?_
   rintro e w4 ⟨t,rfl,ht,htl,hn4⟩;have HT:=Za ht;have HN4:=Za (HN3.out.then hn4);have d04:=(HVB.out.on hn4).cells.1;clear ht hn4 d0;go_wp2;go_ret
   exact⟨_,rfl,by rw[HE.out,Zg,Zg,HT.out];rfl,HN4.out⟩
  ·have hb1:=neB (s:=V.sch) (l:=[104,116,116,112]) (by rw[HVS.out];exact hh)
   by_cases hh2:v.sch=ZsT
   ·have HE:=Za (show Zbr u=tl V.sch++[58,47,47]++ZdF v by rw[HD.out];unfold ZiE ZfZ;rw[if_pos ⟨rfl,Or.inr hh2⟩,HVS.out])
    have hb2:=eqB (s:=V.sch) (l:=[104,116,116,112,115]) (by rw[HVS.out];exact hh2)
    clear HD hh hh2;go_wp2_with fail
    refine(ZbW vb V v vs _ HVB.out HVI.out v3 v8).mono ?_
    rintro e w4 ⟨t,rfl,ht,htl,hn4⟩;have HT:=Za ht;have HN4:=Za (HN3.out.then hn4);have d04:=(HVB.out.on hn4).cells.1;clear ht hn4 d0;go_wp2;go_ret
    exact⟨_,rfl,by rw[HE.out,Zg,Zg,HT.out];rfl,HN4.out⟩
   ·have HE:=Za (show Zbr u=ZsU by rw[HD.out];unfold ZiE;rw[if_neg (by rintro⟨-,g|g⟩;exact hh g;exact hh2 g)])
    have hb2:=neB (s:=V.sch) (l:=[104,116,116,112,115]) (by rw[HVS.out];exact hh2)
    clear HD hh hh2;go_wp2;go_ret
    exact⟨_,rfl,by rw[HE.out];rfl,HN3.out⟩
def Ztf(u:RU):Prop:=u.sch=Zqn→(Zdu u).length≤20000∧((parseR (Zdu u) none).2=0→(parseR (Zdu u) none).1.htx.length≤300000∧(parseR (Zdu u) none).1.port≤65535)
theorem ZnL(rb:Nat)(R:RR)(u:RU)(bs:LA)(w:World)(h:RB w rb R)(hr:RIs w R u bs)(hl:RL R)(hb:Ztf u):Calls Tryz.prog 114 #[.pointer (some ⟨rb,0,none⟩)] w fun e w'=>∃t:BA,e=.returned (.string t)∧tl t=Zbr u∧Nx w w':=by
 by_cases hsp:Ze u.sch=true∧u.sch≠Zx
 ·exact Ztc rb R u bs w h hr hl hsp.1 hsp.2
 ·by_cases hbl:u.sch=Zqn
  ·exact Zte rb R u bs w h hr hl hbl (hb hbl).1 (hb hbl).2
  ·exact Ztd rb R u bs w h hr hsp hbl
def URB(w:World)(ub rb:Nat)(v:Value):Prop:=w.heap[ub]?=some (Obj.cells #[.pointer (some ⟨rb,0,none⟩),v] 88 (0,0))
theorem URB.on{w w':World}{ub rb:Nat}{v:Value}(h:URB w ub rb v)(hb:Nx w w'):URB w' ub rb v:=(hb.block ub (Xh.1 h).1).trans h
theorem URB.lt{w:World}{ub rb:Nat}{v:Value}(h:URB w ub rb v):ub<w.heap.size:=(Xh.1 h).1
theorem URB.cells{w:World}{ub rb:Nat}{v:Value}(h:URB w ub rb v):w.cell? ⟨ub,0,none⟩=some (.pointer (some ⟨rb,0,none⟩))∧w.cell? ⟨ub,1,none⟩=some v:=by
 unfold URB at h
 constructor<;>simp[World.cell?,h]
theorem URB.free{w:World}{ub rb:Nat}{v:Value}(h:URB w ub rb v)(i:Nat):w.frozen? ⟨ub,i,none⟩=false:=by
 unfold URB at h
 simp[World.frozen?,h]
theorem ZqB(w:World)(R:RR):C11 (((w.alloc (Obj.cells #[.string ⟨#[]⟩,.string ⟨#[]⟩,.string ⟨#[]⟩,.string ⟨#[]⟩,.string ⟨#[]⟩,.string ⟨#[]⟩,.string ⟨#[]⟩,.string ⟨#[]⟩,.string ⟨#[]⟩,.string ⟨#[]⟩,.string ⟨#[]⟩] 66)).alloc (Obj.cells #[.string ⟨#[]⟩,.string ⟨#[]⟩,.string (R.sch++⟨#[58]⟩),.string R.user,.string R.pass,.string ⟨#[]⟩,.string R.htx,.string ⟨#[]⟩,.string ⟨#[]⟩,.string ⟨#[]⟩,.string ⟨#[]⟩] 66)).drew) w.heap.size (.string ⟨#[]⟩) (.string ⟨#[]⟩) (.string ⟨#[]⟩) (.string ⟨#[]⟩) (.string ⟨#[]⟩) (.string ⟨#[]⟩) (.string ⟨#[]⟩) (.string ⟨#[]⟩) (.string ⟨#[]⟩) (.string ⟨#[]⟩) (.string ⟨#[]⟩)∧C11 (((w.alloc (Obj.cells #[.string ⟨#[]⟩,.string ⟨#[]⟩,.string ⟨#[]⟩,.string ⟨#[]⟩,.string ⟨#[]⟩,.string ⟨#[]⟩,.string ⟨#[]⟩,.string ⟨#[]⟩,.string ⟨#[]⟩,.string ⟨#[]⟩,.string ⟨#[]⟩] 66)).alloc (Obj.cells #[.string ⟨#[]⟩,.string ⟨#[]⟩,.string (R.sch++⟨#[58]⟩),.string R.user,.string R.pass,.string ⟨#[]⟩,.string R.htx,.string ⟨#[]⟩,.string ⟨#[]⟩,.string ⟨#[]⟩,.string ⟨#[]⟩] 66)).drew) (w.heap.size+1) (.string ⟨#[]⟩) (.string ⟨#[]⟩) (.string (R.sch++⟨#[58]⟩)) (.string R.user) (.string R.pass) (.string ⟨#[]⟩) (.string R.htx) (.string ⟨#[]⟩) (.string ⟨#[]⟩) (.string ⟨#[]⟩) (.string ⟨#[]⟩)∧Nx w (((w.alloc (Obj.cells #[.string ⟨#[]⟩,.string ⟨#[]⟩,.string ⟨#[]⟩,.string ⟨#[]⟩,.string ⟨#[]⟩,.string ⟨#[]⟩,.string ⟨#[]⟩,.string ⟨#[]⟩,.string ⟨#[]⟩,.string ⟨#[]⟩,.string ⟨#[]⟩] 66)).alloc (Obj.cells #[.string ⟨#[]⟩,.string ⟨#[]⟩,.string (R.sch++⟨#[58]⟩),.string R.user,.string R.pass,.string ⟨#[]⟩,.string R.htx,.string ⟨#[]⟩,.string ⟨#[]⟩,.string ⟨#[]⟩,.string ⟨#[]⟩] 66)).drew):=by
 refine⟨C11.on (C11.on (heap_alloc_new w _) (Nx.rfl.alloc _)) Nx.rfl.drew,C11.on ?_ Nx.rfl.drew,((Nx.rfl.alloc _).alloc _).drew⟩
 have h:C11 ((w.alloc (Obj.cells #[.string ⟨#[]⟩,.string ⟨#[]⟩,.string ⟨#[]⟩,.string ⟨#[]⟩,.string ⟨#[]⟩,.string ⟨#[]⟩,.string ⟨#[]⟩,.string ⟨#[]⟩,.string ⟨#[]⟩,.string ⟨#[]⟩,.string ⟨#[]⟩] 66)).alloc (Obj.cells #[.string ⟨#[]⟩,.string ⟨#[]⟩,.string (R.sch++⟨#[58]⟩),.string R.user,.string R.pass,.string ⟨#[]⟩,.string R.htx,.string ⟨#[]⟩,.string ⟨#[]⟩,.string ⟨#[]⟩,.string ⟨#[]⟩] 66)) (w.alloc (Obj.cells #[.string ⟨#[]⟩,.string ⟨#[]⟩,.string ⟨#[]⟩,.string ⟨#[]⟩,.string ⟨#[]⟩,.string ⟨#[]⟩,.string ⟨#[]⟩,.string ⟨#[]⟩,.string ⟨#[]⟩,.string ⟨#[]⟩,.string ⟨#[]⟩] 66)).heap.size (.string ⟨#[]⟩) (.string ⟨#[]⟩) (.string (R.sch++⟨#[58]⟩)) (.string R.user) (.string R.pass) (.string ⟨#[]⟩) (.string R.htx) (.string ⟨#[]⟩) (.string ⟨#[]⟩) (.string ⟨#[]⟩) (.string ⟨#[]⟩):=heap_alloc_new _ _
 rw[show(w.alloc (Obj.cells #[.string ⟨#[]⟩,.string ⟨#[]⟩,.string ⟨#[]⟩,.string ⟨#[]⟩,.string ⟨#[]⟩,.string ⟨#[]⟩,.string ⟨#[]⟩,.string ⟨#[]⟩,.string ⟨#[]⟩,.string ⟨#[]⟩,.string ⟨#[]⟩] 66)).heap.size=w.heap.size+1 by simp]at h
 exact h
def ZxU(e:Ending)(u:RU):Prop:=∃t0 t1 t2 t3 t4 t5 t6 t7 t8 t9 t10:ByteArray,e=.returned (.agg #[.string t0,.string t1,.string t2,.string t3,.string t4,.string t5,.string t6,.string t7,.string t8,.string t9,.string t10])∧tl t0=Zhy u∧tl t1=Zbr u∧tl t2=u.sch++[58]∧tl t3=u.user∧tl t4=u.pass∧tl t5=ZdF u∧tl t6=u.htx∧tl t7=ZsV u∧tl t8=Zdu u∧tl t9=Zqo 63 u.q∧tl t10=Zqo 35 u.fr
theorem Zvi(ub rb:Nat)(v:Value)(R:RR)(u:RU)(bs:LA)(w:World)(hu:URB w ub rb v)(h:RB w rb R)(hr:RIs w R u bs)(hl:RL R)(hb:Ztf u):Calls Tryz.prog 52 #[.pointer (some ⟨ub,0,none⟩)] w fun e w'=>ZxU e u∧Nx w w':=by
 have HU:=Za hu;have HB:=Za h;have HR:=Za hr;have HL:=Za hl;have HBO:=Za hb;have ls:=hr.lsch;have lh:=hl.htx;have lp:=hl.port;have lb:=hl.bl;have lq:=hl.q;have lf:=hl.fr
 have HM2:=Za (show tl (R.sch++(⟨#[58]⟩:BA))=u.sch++[58]by rw[Zg,hr.usch];rfl)
 have HM3:=Za (show tl R.user=u.user by rw[←hr.eq];rfl)
 have HM4:=Za (show tl R.pass=u.pass by rw[←hr.eq];rfl)
 have HM6:=Za (show tl R.htx=u.htx by rw[←hr.eq];rfl)
 have HM7:=Za (show ZsV u=if 0≤R.port then dec R.port.toNat else []by rw[←hr.eq];rfl)
 have HM9:=Za (show Zqo 63 u.q=if tl R.q=[]then []else 63::tl R.q by rw[←hr.eq];rfl)
 have HM10:=Za (show Zqo 35 u.fr=if tl R.fr=[]then []else 35::tl R.fr by rw[←hr.eq];rfl)
 have a0:=(hu.on (Nx.rfl.alloc (Obj.cells #[.string ⟨#[]⟩,.string ⟨#[]⟩,.string ⟨#[]⟩,.string ⟨#[]⟩,.string ⟨#[]⟩,.string ⟨#[]⟩,.string ⟨#[]⟩,.string ⟨#[]⟩,.string ⟨#[]⟩,.string ⟨#[]⟩,.string ⟨#[]⟩] 66))).cells.1;obtain⟨c0,c1,c2,c3,c4,c5,c6,c7,c8,c9,c10,c11,c12⟩:=(h.on (Nx.rfl.alloc (Obj.cells #[.string ⟨#[]⟩,.string ⟨#[]⟩,.string ⟨#[]⟩,.string ⟨#[]⟩,.string ⟨#[]⟩,.string ⟨#[]⟩,.string ⟨#[]⟩,.string ⟨#[]⟩,.string ⟨#[]⟩,.string ⟨#[]⟩,.string ⟨#[]⟩] 66))).cells;obtain⟨d0,d1,d2,d3,d4,d5,d6,d7,d8,d9,d10,d11,d12⟩:=(h.on ((Nx.rfl.alloc (Obj.cells #[.string ⟨#[]⟩,.string ⟨#[]⟩,.string ⟨#[]⟩,.string ⟨#[]⟩,.string ⟨#[]⟩,.string ⟨#[]⟩,.string ⟨#[]⟩,.string ⟨#[]⟩,.string ⟨#[]⟩,.string ⟨#[]⟩,.string ⟨#[]⟩] 66)).alloc (Obj.cells #[.string ⟨#[]⟩,.string ⟨#[]⟩,.string ⟨#[]⟩,.string ⟨#[]⟩,.string ⟨#[]⟩,.string ⟨#[]⟩,.string ⟨#[]⟩,.string ⟨#[]⟩,.string ⟨#[]⟩,.string ⟨#[]⟩,.string ⟨#[]⟩] 66))).cells;clear hu h hr hl hb
 go_enter Tryz.func52,Tryz.ntmps52
 go_upto_region 2 with fail
 go_region
 go_upto_region 3 with fail;clear a0 c0 c1 c2 c3 c4 c5 c6 c7 c8 c9 c10 c11 c12 d0 d1 d2 d3 d4 d5 d6 d7 d8 d9 d10 d11 d12;obtain⟨hz,ha,hn⟩:=ZqB w R;generalize ((w.alloc (Obj.cells #[.string ⟨#[]⟩,.string ⟨#[]⟩,.string ⟨#[]⟩,.string ⟨#[]⟩,.string ⟨#[]⟩,.string ⟨#[]⟩,.string ⟨#[]⟩,.string ⟨#[]⟩,.string ⟨#[]⟩,.string ⟨#[]⟩,.string ⟨#[]⟩] 66)).alloc (Obj.cells #[.string ⟨#[]⟩,.string ⟨#[]⟩,.string (R.sch++⟨#[58]⟩),.string R.user,.string R.pass,.string ⟨#[]⟩,.string R.htx,.string ⟨#[]⟩,.string ⟨#[]⟩,.string ⟨#[]⟩,.string ⟨#[]⟩] 66)).drew=w0 at *;have HZ0:=Za hz;have HA0:=Za ha;have HN0:=Za hn;clear hz ha hn
 go_upto_region 4 with(go_at_call 113;refine(Ztb rb R u bs _ (HB.out.on HN0.out) (HR.out.on HN0.out) HL.out).mono ?_;rintro e w' ⟨t0,rfl,hti,hn⟩;have HT0:=Za hti;have HA':=Za (HA0.out.on hn);have HZ':=Za (HZ0.out.on hn);have HN':=Za (show Nx w w' from HN0.out.then hn);have fr:=HA'.out.free 0;obtain⟨b0,b1,b2,b3,b4,b5,b6,b7,b8,b9,b10⟩:=HA'.out.cells;clear hti hn HA0 HZ0 HN0)
 have HA1:=Za (HA'.out.set0 (.string t0))
 have HZ1:=Za (HZ'.out.far (show w.heap.size+1≠w.heap.size by omega) 0 (.string t0))
 have HN1:=Za (show Nx w (w'.setCell ⟨w.heap.size+1,0,none⟩ (.string t0))from HN'.out.setCell (show w.heap.size≤w.heap.size+1 by omega) _)
 clear fr b0 b1 b2 b3 b4 b5 b6 b7 b8 b9 b10 HA' HZ' HN';generalize w'.setCell ⟨w.heap.size+1,0,none⟩ (.string t0)=w1 at *
 go_upto_region 5 with(go_at_call 114;refine(ZnL rb R u bs _ (HB.out.on HN1.out) (HR.out.on HN1.out) HL.out HBO.out).mono ?_;rintro e w' ⟨t1,rfl,hti,hn⟩;have HT1:=Za hti;have HA':=Za (HA1.out.on hn);have HZ':=Za (HZ1.out.on hn);have HN':=Za (show Nx w w' from HN1.out.then hn);have fr:=HA'.out.free 1;obtain⟨b0,b1,b2,b3,b4,b5,b6,b7,b8,b9,b10⟩:=HA'.out.cells;clear hti hn HA1 HZ1 HN1)
 have HA2:=Za (HA'.out.set1 (.string t1))
 have HZ2:=Za (HZ'.out.far (show w.heap.size+1≠w.heap.size by omega) 1 (.string t1))
 have HN2:=Za (show Nx w (w'.setCell ⟨w.heap.size+1,1,none⟩ (.string t1))from HN'.out.setCell (show w.heap.size≤w.heap.size+1 by omega) _)
 clear fr b0 b1 b2 b3 b4 b5 b6 b7 b8 b9 b10 HA' HZ' HN';generalize w'.setCell ⟨w.heap.size+1,1,none⟩ (.string t1)=w2 at *
 go_upto_region 6 with(go_at_call 115;refine(ZbW rb R u bs _ (HB.out.on HN2.out) (HR.out.on HN2.out) lh lp).mono ?_;rintro e w' ⟨t5,rfl,hti,hs5,hn⟩;have HT5:=Za hti;have HA':=Za (HA2.out.on hn);have HZ':=Za (HZ2.out.on hn);have HN':=Za (show Nx w w' from HN2.out.then hn);have fr:=HA'.out.free 5;obtain⟨b0,b1,b2,b3,b4,b5,b6,b7,b8,b9,b10⟩:=HA'.out.cells;clear hti hn HA2 HZ2 HN2)
 have HA3:=Za (HA'.out.set5 (.string t5))
 have HZ3:=Za (HZ'.out.far (show w.heap.size+1≠w.heap.size by omega) 5 (.string t5))
 have HN3:=Za (show Nx w (w'.setCell ⟨w.heap.size+1,5,none⟩ (.string t5))from HN'.out.setCell (show w.heap.size≤w.heap.size+1 by omega) _)
 clear fr b0 b1 b2 b3 b4 b5 b6 b7 b8 b9 b10 HA' HZ' HN';generalize w'.setCell ⟨w.heap.size+1,5,none⟩ (.string t5)=w3 at *
 go_upto_region 7 with(go_at_call 116;refine(Zd7 rb R u bs _ (HB.out.on HN3.out) (HR.out.on HN3.out) lb).mono ?_;rintro e w' ⟨t8,rfl,hti,hs8,hn⟩;have HT8:=Za hti;have HA':=Za (HA3.out.on hn);have HZ':=Za (HZ3.out.on hn);have HN':=Za (show Nx w w' from HN3.out.then hn);have fr:=HA'.out.free 8;obtain⟨b0,b1,b2,b3,b4,b5,b6,b7,b8,b9,b10⟩:=HA'.out.cells;clear hti hn HA3 HZ3 HN3)
 have HA4:=Za (HA'.out.set8 (.string t8))
 have HZ4:=Za (HZ'.out.far (show w.heap.size+1≠w.heap.size by omega) 8 (.string t8))
 have HN4:=Za (show Nx w (w'.setCell ⟨w.heap.size+1,8,none⟩ (.string t8))from HN'.out.setCell (show w.heap.size≤w.heap.size+1 by omega) _)
 clear fr b0 b1 b2 b3 b4 b5 b6 b7 b8 b9 b10 HA' HZ' HN';generalize w'.setCell ⟨w.heap.size+1,8,none⟩ (.string t8)=w4 at *;obtain⟨c0,c1,c2,c3,c4,c5,c6,c7,c8,c9,c10,c11,c12⟩:=(HB.out.on HN4.out).cells
 go_upto_if 44 with fail
 go_cut [5]from 44 (fun _ wx=>∃t:BA,tl t=ZsV u∧C11 wx (w.heap.size+1) (.string t0) (.string t1) (.string (R.sch++⟨#[58]⟩)) (.string R.user) (.string R.pass) (.string t5) (.string R.htx) (.string t) (.string t8) (.string ⟨#[]⟩) (.string ⟨#[]⟩)∧C11 wx w.heap.size (.string ⟨#[]⟩) (.string ⟨#[]⟩) (.string ⟨#[]⟩) (.string ⟨#[]⟩) (.string ⟨#[]⟩) (.string ⟨#[]⟩) (.string ⟨#[]⟩) (.string ⟨#[]⟩) (.string ⟨#[]⟩) (.string ⟨#[]⟩) (.string ⟨#[]⟩)∧Nx w wx)
 case first=>
  by_cases h0:0≤R.port
  ·have HE:=Za (HM7.out.trans (if_pos h0))
   go_wp2_with fail
   refine(Zb3 65535 R.port _ h0 lp (by decide)).mono ?_
   rintro e w' ⟨t,rfl,hti,hn⟩;have HT:=Za hti;have HA':=Za (HA4.out.on hn);have HZ':=Za (HZ4.out.on hn);have HN':=Za (show Nx w w' from HN4.out.then hn);have fr:=HA'.out.free 7;obtain⟨b0,b1,b2,b3,b4,b5,b6,b7,b8,b9,b10⟩:=HA'.out.cells;clear hti hn c0 c1 c2 c3 c4 c5 c6 c7 c8 c9 c10 c11 c12;go_wp2
   go_meet
   case rel=>exact⟨t,by rw[HE.out,HT.out],HA'.out.set7 (.string t),HZ'.out.far (show w.heap.size+1≠w.heap.size by omega) 7 (.string t),HN'.out.setCell (show w.heap.size≤w.heap.size+1 by omega) _⟩
  ·have HE:=Za (HM7.out.trans (if_neg h0))
   go_wp2
   go_meet
   case rel=>exact⟨⟨#[]⟩,by rw[HE.out];rfl,HA4.out,HZ4.out,HN4.out⟩
 case rest=>
 obtain⟨t7,ht,ha,hz,hn⟩:=hcut;have HT7:=Za ht;have HA5:=Za ha;have HZ5:=Za hz;have HN5:=Za hn;clear ht ha hz hn HA4 HZ4 HN4 c0 c1 c2 c3 c4 c5 c6 c7 c8 c9 c10 c11 c12;obtain⟨w5,hw⟩:∃w',w'=wc:=⟨_,rfl⟩;subst hw;obtain⟨c0,c1,c2,c3,c4,c5,c6,c7,c8,c9,c10,c11,c12⟩:=(HB.out.on HN5.out).cells
 go_upto_if 55 with fail
 go_cut [5]from 55 (fun _ wx=>∃t:BA,tl t=Zqo 63 u.q∧C11 wx (w.heap.size+1) (.string t0) (.string t1) (.string (R.sch++⟨#[58]⟩)) (.string R.user) (.string R.pass) (.string t5) (.string R.htx) (.string t7) (.string t8) (.string t) (.string ⟨#[]⟩)∧C11 wx w.heap.size (.string ⟨#[]⟩) (.string ⟨#[]⟩) (.string ⟨#[]⟩) (.string ⟨#[]⟩) (.string ⟨#[]⟩) (.string ⟨#[]⟩) (.string ⟨#[]⟩) (.string ⟨#[]⟩) (.string ⟨#[]⟩) (.string ⟨#[]⟩) (.string ⟨#[]⟩)∧Nx w wx)
 case first=>
  by_cases h0:R.q.size=0
  ·have h0':=Zl h0
   have HE:=Za (HM9.out.trans (if_pos (Zi4 h0)));clear h0;go_wp2
   all_goals try exact absurd (by assumption:(!R.q.toList.isEmpty)=true) (by rw[h0'];decide)
   go_meet
   case rel=>exact⟨⟨#[]⟩,by rw[HE.out];rfl,HA5.out,HZ5.out,HN5.out⟩
  ·have h0':=Zh h0
   have HE:=Za (HM9.out.trans (if_neg (ZcO h0)));have fr:=HA5.out.free 9;obtain⟨b0,b1,b2,b3,b4,b5,b6,b7,b8,b9,b10⟩:=HA5.out.cells;clear h0;go_wp2
   all_goals try exact absurd (by assumption:(!R.q.toList.isEmpty)=false) (by rw[h0'];decide)
   go_meet
   case rel=>exact⟨(⟨#[63]⟩:BA)++R.q,by rw[HE.out,Zg];rfl,HA5.out.set9 _,HZ5.out.far (show w.heap.size+1≠w.heap.size by omega) 9 _,HN5.out.setCell (show w.heap.size≤w.heap.size+1 by omega) _⟩
 case rest=>
 obtain⟨t9,ht,ha,hz,hn⟩:=hcut;have HT9:=Za ht;have HA6:=Za ha;have HZ6:=Za hz;have HN6:=Za hn;clear ht ha hz hn HA5 HZ5 HN5 c0 c1 c2 c3 c4 c5 c6 c7 c8 c9 c10 c11 c12;obtain⟨w6,hw⟩:∃w',w'=wc:=⟨_,rfl⟩;subst hw;obtain⟨c0,c1,c2,c3,c4,c5,c6,c7,c8,c9,c10,c11,c12⟩:=(HB.out.on HN6.out).cells
 go_upto_if 66 with fail
 go_cut [5]from 66 (fun _ wx=>∃t:BA,tl t=Zqo 35 u.fr∧C11 wx (w.heap.size+1) (.string t0) (.string t1) (.string (R.sch++⟨#[58]⟩)) (.string R.user) (.string R.pass) (.string t5) (.string R.htx) (.string t7) (.string t8) (.string t9) (.string t)∧C11 wx w.heap.size (.string ⟨#[]⟩) (.string ⟨#[]⟩) (.string ⟨#[]⟩) (.string ⟨#[]⟩) (.string ⟨#[]⟩) (.string ⟨#[]⟩) (.string ⟨#[]⟩) (.string ⟨#[]⟩) (.string ⟨#[]⟩) (.string ⟨#[]⟩) (.string ⟨#[]⟩)∧Nx w wx)
 case first=>
  by_cases h0:R.fr.size=0
  ·have h0':=Zl h0
   have HE:=Za (HM10.out.trans (if_pos (Zi4 h0)));clear h0;go_wp2
   all_goals try exact absurd (by assumption:(!R.fr.toList.isEmpty)=true) (by rw[h0'];decide)
   go_meet
   case rel=>exact⟨⟨#[]⟩,by rw[HE.out];rfl,HA6.out,HZ6.out,HN6.out⟩
  ·have h0':=Zh h0
   have HE:=Za (HM10.out.trans (if_neg (ZcO h0)));have fr:=HA6.out.free 10;obtain⟨b0,b1,b2,b3,b4,b5,b6,b7,b8,b9,b10⟩:=HA6.out.cells;clear h0;go_wp2
   all_goals try exact absurd (by assumption:(!R.fr.toList.isEmpty)=false) (by rw[h0'];decide)
   go_meet
   case rel=>exact⟨(⟨#[35]⟩:BA)++R.fr,by rw[HE.out,Zg];rfl,HA6.out.set10 _,HZ6.out.far (show w.heap.size+1≠w.heap.size by omega) 10 _,HN6.out.setCell (show w.heap.size≤w.heap.size+1 by omega) _⟩
 case rest=>
 obtain⟨t10,ht,ha,hz,hn⟩:=hcut;have HT10:=Za ht;have HA7:=Za ha;have HZ7:=Za hz;have HN7:=Za hn;clear ht ha hz hn HA6 HZ6 HN6 c0 c1 c2 c3 c4 c5 c6 c7 c8 c9 c10 c11 c12;obtain⟨w7,hw⟩:∃w',w'=wc:=⟨_,rfl⟩;subst hw;obtain⟨b0,b1,b2,b3,b4,b5,b6,b7,b8,b9,b10⟩:=HA7.out.cells;obtain⟨z0,z1,z2,z3,z4,z5,z6,z7,z8,z9,z10⟩:=HZ7.out.cells;have zf0:=HZ7.out.free 0;have zf1:=HZ7.out.free 1;have zf2:=HZ7.out.free 2;have zf3:=HZ7.out.free 3;have zf4:=HZ7.out.free 4;have zf5:=HZ7.out.free 5;have zf6:=HZ7.out.free 6;have zf7:=HZ7.out.free 7;have zf8:=HZ7.out.free 8;have zf9:=HZ7.out.free 9;have zf10:=HZ7.out.free 10;go_wp2;exact Zxu (rb:=w.heap.size) Tryz.results52 rfl (C11.put HZ7.out _ _ _ _ _ _ _ _ _ _ _) rfl ⟨⟨t0,t1,_,R.user,R.pass,t5,R.htx,t7,t8,t9,t10,rfl,HT0.out,HT1.out,HM2.out,HM3.out,HM4.out,HT5.out,HM6.out,HT7.out,HT8.out,HT9.out,HT10.out⟩,ZiI HN7.out (Nat.le_refl _) _ _ _ _ _ _ _ _ _ _ _⟩
end Go.Proofs.YtchkhibgbnhjpabGreatDoor
