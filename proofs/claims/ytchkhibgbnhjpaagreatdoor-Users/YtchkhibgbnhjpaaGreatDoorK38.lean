import Derived.Test.YtchkhibgbnhjpaaGreatDoorK37
import Derived.Deep.Cut
namespace Go.Proofs.YtchkhibgbnhjpaaGreatDoor
open Go.RowKit
structure RL (R:RR):Prop where
 user:R.user.size≤300000
 pass:R.pass.size≤300000
 htx:R.htx.size≤300000
 port:R.port≤65535
 bl:R.bl.size≤300000
 q:R.q.size≤300000
 fr:R.fr.size≤300000
set_option maxHeartbeats 2000000 in
theorem ZbF (rb:Nat) (R:RR) (u:RU) (bs:List ByteArray) (w:World) (h:RB w rb R) (hr:RIs w R u bs) (hl:R.htx.size≤300000) (hp:R.port≤65535):
  Calls Tryz.prog 78 #[.pointer (some ⟨rb,0,none⟩)] w fun e w'=>∃ t:ByteArray,e=.returned (.string t)∧tl t=Zdd u∧t.size≤400000∧Nx w w':=by
 have HD:=Za (show Zdd u=if 0≤R.port then tl R.htx++[58]++dec R.port.toNat else tl R.htx by rw [← hr.eq];rfl)
 obtain ⟨-,-,-,-,c4,c5,-⟩:=h.cells
 clear h hr
 by_cases h0:0≤R.port
 ·have HE:=Za (HD.out.trans (if_pos h0))
  clear HD
  have hdl:=ZbL R.port.toNat
  go_enter Tryz.func78,Tryz.ntmps78
  go_wp2_with fail
  refine (ZbM 65535 R.port _ h0 hp (by decide)).mono ?_
  rintro e w1 ⟨r,rfl,hrr,hn⟩
  have HR:=Za hrr
  have hrs:r.size≤65536:=by rw [← tl_length,hrr];omega
  have HN:=Za hn
  clear hrr hn c4 c5
  go_wp2
  go_ret
  refine ⟨_,rfl,?_,?_,HN.out⟩
  ·rw [HE.out,Ze,Ze,HR.out];rfl
  ·rw [Zh,Zh];show R.htx.size + 1 + r.size≤400000;omega
 ·have HE:=Za (HD.out.trans (if_neg h0))
  clear HD
  go_enter Tryz.func78,Tryz.ntmps78
  go_wp2
  go_ret
  exact ⟨_,rfl,HE.out.symm,by omega,Nx.rfl⟩
set_option maxHeartbeats 4000000 in
theorem ZdF (rb:Nat) (R:RR) (u:RU) (bs:List ByteArray) (w:World) (h:RB w rb R) (hr:RIs w R u bs) (hl:R.bl.size≤300000):
  Calls Tryz.prog 79 #[.pointer (some ⟨rb,0,none⟩)] w fun e w'=>∃ t:ByteArray,e=.returned (.string t)∧tl t=Zc4 u∧t.size≤200000000000∧Nx w w':=by
 have HD:=Za (show Zc4 u=tl R.bl++ZcS (bs.map tl) by rw [← hr.eq];rfl)
 have hls:=hr.lsegs
 have HLS:=Za hr.lseg
 have hsg:=hr.seg'
 obtain ⟨-,-,-,-,-,-,c6,-,c8,-⟩:=h.cells
 clear h hr
 rcases hsg with ⟨h1,h2,h3,rfl⟩ | ⟨b,off,h1,h2,h3,h4,hrow⟩
 ·rw [h1,h2,h3] at c6
  go_enter Tryz.func79,Tryz.ntmps79
  go_wp2
  go_loop [3,4] (fun t i=>t=.string R.bl∧i=.int .i64 0) (fun _ _=>0)
  case atStart=>exact ⟨rfl,rfl⟩
  case round=>
   obtain ⟨rfl,rfl⟩:=hrel
   go_wp2
   go_ret
   exact ⟨_,rfl,by rw [HD.out];simp [ZcS],by omega,Nx.rfl⟩
 ·rw [h1,h2] at c6
  unfold maxLen at h4
  go_enter Tryz.func79,Tryz.ntmps79
  go_wp2
  go_loop [3,4] (fun t i=>∃ (k:Nat) (txt:ByteArray),k≤bs.length∧t=.string txt∧i=.int .i64 k∧tl txt=tl R.bl++ZcS ((bs.take k).map tl)∧txt.size≤300000 + 1000001 * k) (fun _ i=>bs.length - (intOf i).toNat)
  case atStart=>exact ⟨0,R.bl,Nat.zero_le _,rfl,rfl,by simp [ZcS],by omega⟩
  case round=>
   obtain ⟨k,txt,hk,rfl,rfl,hE,hsz⟩:=hrel
   have HT:=Za hE
   clear hE
   by_cases hlt:k < bs.length
   ·have hck:=hrow.cell hlt
    have hbz:=HLS.out _ (List.getElem_mem hlt)
    have HS:=Za (show (bs.take (k + 1)).map tl=(bs.take k).map tl++[tl bs[k]] by rw [List.take_succ_eq_append_getElem hlt,List.map_append];rfl)
    generalize bs[k]=p at *
    go_wp2
    go_round
    case rel=>exact ⟨k + 1,txt++(⟨#[47]⟩:ByteArray)++p,by omega,rfl,by go_num,by rw [HS.out,joinSl_snoc,Ze,Ze,HT.out];simp [tl],by rw [Zh,Zh];show txt.size + 1 + p.size≤_;omega⟩
    case measure=>simp [intOf];omega
   ·have HF:=Za (show tl txt=Zc4 u by rw [HT.out,HD.out,List.take_of_length_le (by omega)])
    have hz2:txt.size≤200000000000:=by
     have:1000001 * k≤1000001 * 100000:=Nat.mul_le_mul_left _ (by omega)
     omega
    go_wp2
    go_ret
    exact ⟨txt,rfl,HF.out,hz2,Nx.rfl⟩
set_option maxRecDepth 8000 in
set_option maxHeartbeats 8000000 in
theorem ZtF (rb:Nat) (R:RR) (u:RU) (bs:List ByteArray) (w:World) (h:RB w rb R) (hr:RIs w R u bs) (hl:RL R) (hu:R.user.size=0) (hp:R.pass.size=0):
  Calls Tryz.prog 76 #[.pointer (some ⟨rb,0,none⟩)] w fun e w'=>∃ t:ByteArray,e=.returned (.string t)∧tl t=Zg0 u∧Nx w w':=by
 have HB:=Za h
 have HR:=Za hr
 have HL:=Za hl
 have HD:=Za (show Zg0 u=tl R.sch++[58]++ZcY u++Zc4 u++(if R.hq=true then [63]++tl R.q else [])++(if R.hf=true then [35]++tl R.fr else []) by rw [← hr.eq];rfl)
 have HW:=Za (show ZcY u=if R.his=true then [47,47]++Zfq u++Zdd u else if 1 < bs.length∧(bs.map tl).getD 0 []=[] then [47,46] else [] by rw [← List.length_map (f:=tl),← hr.eq];rfl)
 have HU:=Za (show Zfq u=if tl R.user=[]∧tl R.pass=[] then [] else if tl R.pass=[] then tl R.user++[64] else tl R.user++[58]++tl R.pass++[64] by rw [← hr.eq];rfl)
 have ls:=hr.lsch
 have l1:=hl.user
 have l2:=hl.pass
 have l3:=hl.htx
 have l5:=hl.q
 have l6:=hl.fr
 have l7:=hl.bl
 have l8:=hl.port
 obtain ⟨c0,c1,c2,c3,c4,c5,c6,c7,c8,c9,c10,c11,c12⟩:=h.cells
 have hu':=Zo hu
 have hp':=Zo hp
 have HE1:=Za (Zpl hu)
 have HE2:=Za (Zpl hp)
 have hsg:=hr.seg'
 clear h hr hl hu hp
 go_enter Tryz.func76,Tryz.ntmps76
 go_upto_if 19 with fail
 go_cut [3] from 8 (fun s wx=>∃ who:ByteArray,s=.string who∧tl who=Zfq u∧who.size≤600002∧Nx w wx∧RB wx rb R∧RIs wx R u bs)
 case first=>
  go_wp2
  go_meet
  case rel=>exact ⟨⟨#[]⟩,rfl,by rw [HU.out,if_pos ⟨HE1.out,HE2.out⟩];rfl,by decide,Nx.rfl,HB.out,HR.out⟩
 case rest=>
  obtain ⟨who,rfl,hwho,hwl,hnc,hbc,hrc⟩:=hcut
  have HWH:=Za hwho
  have HN:=Za hnc
  have HB1:=Za hbc
  have HR1:=Za hrc
  clear hwho hnc hbc hrc c0 c1 c2 c3 c4 c5 c6 c7 c8 c9 c10 c11 c12 hu' hp' hsg
  obtain ⟨w1,hw1⟩:∃ w1,w1=wc:=⟨_,rfl⟩
  subst hw1
  have hsg:=HR1.out.seg'
  obtain ⟨c0,c1,c2,c3,c4,c5,c6,c7,c8,c9,c10,c11,c12⟩:=HB1.out.cells
  go_upto_if 45 with fail
  go_cut [4,5] from 8 (fun s _ wx=>∃ t:ByteArray,s=.string t∧tl t=ZcY u∧t.size≤2000000∧Nx w wx)
  case first=>
   generalize R.his=his at *
   cases his
   ·have HW1:=Za (HW.out.trans (if_neg (by decide)))
    clear HW
    rcases hsg with ⟨h1,h2,h3,rfl⟩ | ⟨b,off,h1,h2,h3,h4,hrow⟩
    ·rw [h1,h2,h3] at c6
     have HW2:=Za (HW1.out.trans (if_neg (by simp)))
     clear HW1
     go_wp2
     go_meet
     case rel=>exact ⟨⟨#[]⟩,rfl,HW2.out.symm,by decide,HN.out⟩
    ·rw [h1,h2] at c6
     unfold maxLen at h4
     by_cases hlt:1 < bs.length
     ·have hck:=hrow.cell (show 0 < bs.length by omega)
      rw [Nat.add_zero] at hck
      have HG:=Za (show (bs.map tl).getD 0 []=tl bs[0] by rw [List.getD_eq_getElem?_getD,List.getElem?_map,List.getElem?_eq_getElem (by omega)];rfl)
      generalize bs[0]=p at *
      by_cases hz:p.size=0
      ·have hz':=Zo hz
       have HW2:=Za (HW1.out.trans (if_pos ⟨hlt,by rw [HG.out];exact ZB hz⟩))
       clear HW1 hz
       go_wp2
       go_meet
       case rel=>exact ⟨⟨#[47,46]⟩,rfl,HW2.out.symm,by decide,HN.out⟩
      ·have hz':=Zi hz
       have HW2:=Za (HW1.out.trans (if_neg (fun g=>hz (by rw [HG.out] at g;rw [← tl_length,g.2];rfl))))
       clear HW1 hz
       go_wp2
       go_meet
       case rel=>exact ⟨⟨#[]⟩,rfl,HW2.out.symm,by decide,HN.out⟩
     ·have HW2:=Za (HW1.out.trans (if_neg (fun g=>hlt g.1)))
      clear HW1
      go_wp2
      go_meet
      case rel=>exact ⟨⟨#[]⟩,rfl,HW2.out.symm,by decide,HN.out⟩
   ·have HW1:=Za (HW.out.trans (if_pos rfl))
    clear HW hsg
    go_wp2_with fail
    refine (ZbF rb R u bs _ HB1.out HR1.out l3 l8).mono ?_
    rintro e w2 ⟨t,rfl,ht,htl,hn⟩
    have HT:=Za ht
    have HN2:=Za (HN.out.then hn)
    clear ht hn
    go_wp2
    go_meet
    case rel=>exact ⟨(⟨#[47,47]⟩:ByteArray)++who++t,rfl,by rw [HW1.out,Ze,Ze,HWH.out,HT.out];rfl,by rw [Zh,Zh];show 2 + who.size + t.size≤_;omega,HN2.out⟩
  case rest=>
   obtain ⟨wh,rfl,hwh,hwhl,hnc⟩:=hcut
   have HWT:=Za hwh
   have HN2:=Za hnc
   clear hwh hnc hsg c0 c1 c2 c3 c4 c5 c6 c7 c8 c9 c10 c11 c12
   obtain ⟨w2,hw2⟩:∃ w2,w2=wc:=⟨_,rfl⟩
   subst hw2
   go_wp2_with fail
   refine (ZdF rb R u bs _ (HB.out.on HN2.out) (HR.out.on HN2.out) l7).mono ?_
   rintro e w3 ⟨pt,rfl,hpt,hptl,hn⟩
   have HPT:=Za hpt
   have HN3:=Za (HN2.out.then hn)
   clear hpt hn
   obtain ⟨c0,c1,c2,c3,c4,c5,c6,c7,c8,c9,c10,c11,c12⟩:=(HB.out.on HN3.out).cells
   have HB':=HB
   have HR':=HR
   clear HB HR HB1 HR1
   obtain ⟨sch,user,pass,his,htx,port,po,pn,pc,op,bl,hq,q,hf,fr⟩:=R
   simp only at *
   cases hq
   all_goals cases hf
   all_goals go_wp2
   all_goals go_ret
   all_goals exact ⟨_,rfl,by rw [HD.out];simp only [if_true,Bool.false_eq_true,if_false,Ze,HWT.out,HPT.out,List.append_nil];simp [tl],HN3.out⟩
set_option maxRecDepth 8000 in
set_option maxHeartbeats 8000000 in
theorem ZtG (rb:Nat) (R:RR) (u:RU) (bs:List ByteArray) (w:World) (h:RB w rb R) (hr:RIs w R u bs) (hl:RL R) (hu:R.user.size=0) (hp:¬ R.pass.size=0):
  Calls Tryz.prog 76 #[.pointer (some ⟨rb,0,none⟩)] w fun e w'=>∃ t:ByteArray,e=.returned (.string t)∧tl t=Zg0 u∧Nx w w':=by
 have HB:=Za h
 have HR:=Za hr
 have HL:=Za hl
 have HD:=Za (show Zg0 u=tl R.sch++[58]++ZcY u++Zc4 u++(if R.hq=true then [63]++tl R.q else [])++(if R.hf=true then [35]++tl R.fr else []) by rw [← hr.eq];rfl)
 have HW:=Za (show ZcY u=if R.his=true then [47,47]++Zfq u++Zdd u else if 1 < bs.length∧(bs.map tl).getD 0 []=[] then [47,46] else [] by rw [← List.length_map (f:=tl),← hr.eq];rfl)
 have HU:=Za (show Zfq u=if tl R.user=[]∧tl R.pass=[] then [] else if tl R.pass=[] then tl R.user++[64] else tl R.user++[58]++tl R.pass++[64] by rw [← hr.eq];rfl)
 have ls:=hr.lsch
 have l1:=hl.user
 have l2:=hl.pass
 have l3:=hl.htx
 have l5:=hl.q
 have l6:=hl.fr
 have l7:=hl.bl
 have l8:=hl.port
 obtain ⟨c0,c1,c2,c3,c4,c5,c6,c7,c8,c9,c10,c11,c12⟩:=h.cells
 have hu':=Zo hu
 have hp':=Zi hp
 have HE1:=Za (Zpl hu)
 have HE2:=Za (Zdf hp)
 have hsg:=hr.seg'
 clear h hr hl hu hp
 go_enter Tryz.func76,Tryz.ntmps76
 go_upto_if 19 with fail
 go_cut [3] from 8 (fun s wx=>∃ who:ByteArray,s=.string who∧tl who=Zfq u∧who.size≤600002∧Nx w wx∧RB wx rb R∧RIs wx R u bs)
 case first=>
  go_upto_region 5 with fail
  all_goals try exact absurd (by assumption:(!R.pass.toList.isEmpty)=false) (by rw [hp'];decide)
  go_region
  go_wp2
  go_meet
  case rel=>exact ⟨R.user++(⟨#[58]⟩:ByteArray)++R.pass++(⟨#[64]⟩:ByteArray),rfl,by rw [HU.out,if_neg (fun g=>HE2.out g.2),if_neg HE2.out,Ze,Ze,Ze];rfl,by rw [Zh,Zh,Zh];show R.user.size + 1 + R.pass.size + 1≤_;omega,Nx.rfl.drew,HB.out.on Nx.rfl.drew,HR.out.on Nx.rfl.drew⟩
 case rest=>
  obtain ⟨who,rfl,hwho,hwl,hnc,hbc,hrc⟩:=hcut
  have HWH:=Za hwho
  have HN:=Za hnc
  have HB1:=Za hbc
  have HR1:=Za hrc
  clear hwho hnc hbc hrc c0 c1 c2 c3 c4 c5 c6 c7 c8 c9 c10 c11 c12 hu' hp' hsg
  obtain ⟨w1,hw1⟩:∃ w1,w1=wc:=⟨_,rfl⟩
  subst hw1
  have hsg:=HR1.out.seg'
  obtain ⟨c0,c1,c2,c3,c4,c5,c6,c7,c8,c9,c10,c11,c12⟩:=HB1.out.cells
  go_upto_if 45 with fail
  go_cut [4,5] from 8 (fun s _ wx=>∃ t:ByteArray,s=.string t∧tl t=ZcY u∧t.size≤2000000∧Nx w wx)
  case first=>
   generalize R.his=his at *
   cases his
   ·have HW1:=Za (HW.out.trans (if_neg (by decide)))
    clear HW
    rcases hsg with ⟨h1,h2,h3,rfl⟩ | ⟨b,off,h1,h2,h3,h4,hrow⟩
    ·rw [h1,h2,h3] at c6
     have HW2:=Za (HW1.out.trans (if_neg (by simp)))
     clear HW1
     go_wp2
     go_meet
     case rel=>exact ⟨⟨#[]⟩,rfl,HW2.out.symm,by decide,HN.out⟩
    ·rw [h1,h2] at c6
     unfold maxLen at h4
     by_cases hlt:1 < bs.length
     ·have hck:=hrow.cell (show 0 < bs.length by omega)
      rw [Nat.add_zero] at hck
      have HG:=Za (show (bs.map tl).getD 0 []=tl bs[0] by rw [List.getD_eq_getElem?_getD,List.getElem?_map,List.getElem?_eq_getElem (by omega)];rfl)
      generalize bs[0]=p at *
      by_cases hz:p.size=0
      ·have hz':=Zo hz
       have HW2:=Za (HW1.out.trans (if_pos ⟨hlt,by rw [HG.out];exact ZB hz⟩))
       clear HW1 hz
       go_wp2
       go_meet
       case rel=>exact ⟨⟨#[47,46]⟩,rfl,HW2.out.symm,by decide,HN.out⟩
      ·have hz':=Zi hz
       have HW2:=Za (HW1.out.trans (if_neg (fun g=>hz (by rw [HG.out] at g;rw [← tl_length,g.2];rfl))))
       clear HW1 hz
       go_wp2
       go_meet
       case rel=>exact ⟨⟨#[]⟩,rfl,HW2.out.symm,by decide,HN.out⟩
     ·have HW2:=Za (HW1.out.trans (if_neg (fun g=>hlt g.1)))
      clear HW1
      go_wp2
      go_meet
      case rel=>exact ⟨⟨#[]⟩,rfl,HW2.out.symm,by decide,HN.out⟩
   ·have HW1:=Za (HW.out.trans (if_pos rfl))
    clear HW hsg
    go_wp2_with fail
    refine (ZbF rb R u bs _ HB1.out HR1.out l3 l8).mono ?_
    rintro e w2 ⟨t,rfl,ht,htl,hn⟩
    have HT:=Za ht
    have HN2:=Za (HN.out.then hn)
    clear ht hn
    go_wp2
    go_meet
    case rel=>exact ⟨(⟨#[47,47]⟩:ByteArray)++who++t,rfl,by rw [HW1.out,Ze,Ze,HWH.out,HT.out];rfl,by rw [Zh,Zh];show 2 + who.size + t.size≤_;omega,HN2.out⟩
  case rest=>
   obtain ⟨wh,rfl,hwh,hwhl,hnc⟩:=hcut
   have HWT:=Za hwh
   have HN2:=Za hnc
   clear hwh hnc hsg c0 c1 c2 c3 c4 c5 c6 c7 c8 c9 c10 c11 c12
   obtain ⟨w2,hw2⟩:∃ w2,w2=wc:=⟨_,rfl⟩
   subst hw2
   go_wp2_with fail
   refine (ZdF rb R u bs _ (HB.out.on HN2.out) (HR.out.on HN2.out) l7).mono ?_
   rintro e w3 ⟨pt,rfl,hpt,hptl,hn⟩
   have HPT:=Za hpt
   have HN3:=Za (HN2.out.then hn)
   clear hpt hn
   obtain ⟨c0,c1,c2,c3,c4,c5,c6,c7,c8,c9,c10,c11,c12⟩:=(HB.out.on HN3.out).cells
   have HB':=HB
   have HR':=HR
   clear HB HR HB1 HR1
   obtain ⟨sch,user,pass,his,htx,port,po,pn,pc,op,bl,hq,q,hf,fr⟩:=R
   simp only at *
   cases hq
   all_goals cases hf
   all_goals go_wp2
   all_goals go_ret
   all_goals exact ⟨_,rfl,by rw [HD.out];simp only [if_true,Bool.false_eq_true,if_false,Ze,HWT.out,HPT.out,List.append_nil];simp [tl],HN3.out⟩
set_option maxRecDepth 8000 in
set_option maxHeartbeats 8000000 in
theorem ZtH (rb:Nat) (R:RR) (u:RU) (bs:List ByteArray) (w:World) (h:RB w rb R) (hr:RIs w R u bs) (hl:RL R) (hu:¬ R.user.size=0) (hp:R.pass.size=0):
  Calls Tryz.prog 76 #[.pointer (some ⟨rb,0,none⟩)] w fun e w'=>∃ t:ByteArray,e=.returned (.string t)∧tl t=Zg0 u∧Nx w w':=by
 have HB:=Za h
 have HR:=Za hr
 have HL:=Za hl
 have HD:=Za (show Zg0 u=tl R.sch++[58]++ZcY u++Zc4 u++(if R.hq=true then [63]++tl R.q else [])++(if R.hf=true then [35]++tl R.fr else []) by rw [← hr.eq];rfl)
 have HW:=Za (show ZcY u=if R.his=true then [47,47]++Zfq u++Zdd u else if 1 < bs.length∧(bs.map tl).getD 0 []=[] then [47,46] else [] by rw [← List.length_map (f:=tl),← hr.eq];rfl)
 have HU:=Za (show Zfq u=if tl R.user=[]∧tl R.pass=[] then [] else if tl R.pass=[] then tl R.user++[64] else tl R.user++[58]++tl R.pass++[64] by rw [← hr.eq];rfl)
 have ls:=hr.lsch
 have l1:=hl.user
 have l2:=hl.pass
 have l3:=hl.htx
 have l5:=hl.q
 have l6:=hl.fr
 have l7:=hl.bl
 have l8:=hl.port
 obtain ⟨c0,c1,c2,c3,c4,c5,c6,c7,c8,c9,c10,c11,c12⟩:=h.cells
 have hu':=Zi hu
 have hp':=Zo hp
 have HE1:=Za (Zdf hu)
 have HE2:=Za (Zpl hp)
 have hsg:=hr.seg'
 clear h hr hl hu hp
 go_enter Tryz.func76,Tryz.ntmps76
 go_upto_if 19 with fail
 go_cut [3] from 8 (fun s wx=>∃ who:ByteArray,s=.string who∧tl who=Zfq u∧who.size≤600002∧Nx w wx∧RB wx rb R∧RIs wx R u bs)
 case first=>
  go_wp2
  all_goals try exact absurd (by assumption:(!R.pass.toList.isEmpty)=true) (by rw [hp'];decide)
  go_meet
  case rel=>exact ⟨R.user++(⟨#[64]⟩:ByteArray),rfl,by rw [HU.out,if_neg (fun g=>HE1.out g.1),if_pos HE2.out,Ze];rfl,by rw [Zh];show R.user.size + 1≤_;omega,Nx.rfl,HB.out,HR.out⟩
 case rest=>
  obtain ⟨who,rfl,hwho,hwl,hnc,hbc,hrc⟩:=hcut
  have HWH:=Za hwho
  have HN:=Za hnc
  have HB1:=Za hbc
  have HR1:=Za hrc
  clear hwho hnc hbc hrc c0 c1 c2 c3 c4 c5 c6 c7 c8 c9 c10 c11 c12 hu' hp' hsg
  obtain ⟨w1,hw1⟩:∃ w1,w1=wc:=⟨_,rfl⟩
  subst hw1
  have hsg:=HR1.out.seg'
  obtain ⟨c0,c1,c2,c3,c4,c5,c6,c7,c8,c9,c10,c11,c12⟩:=HB1.out.cells
  go_upto_if 45 with fail
  go_cut [4,5] from 8 (fun s _ wx=>∃ t:ByteArray,s=.string t∧tl t=ZcY u∧t.size≤2000000∧Nx w wx)
  case first=>
   generalize R.his=his at *
   cases his
   ·have HW1:=Za (HW.out.trans (if_neg (by decide)))
    clear HW
    rcases hsg with ⟨h1,h2,h3,rfl⟩ | ⟨b,off,h1,h2,h3,h4,hrow⟩
    ·rw [h1,h2,h3] at c6
     have HW2:=Za (HW1.out.trans (if_neg (by simp)))
     clear HW1
     go_wp2
     go_meet
     case rel=>exact ⟨⟨#[]⟩,rfl,HW2.out.symm,by decide,HN.out⟩
    ·rw [h1,h2] at c6
     unfold maxLen at h4
     by_cases hlt:1 < bs.length
     ·have hck:=hrow.cell (show 0 < bs.length by omega)
      rw [Nat.add_zero] at hck
      have HG:=Za (show (bs.map tl).getD 0 []=tl bs[0] by rw [List.getD_eq_getElem?_getD,List.getElem?_map,List.getElem?_eq_getElem (by omega)];rfl)
      generalize bs[0]=p at *
      by_cases hz:p.size=0
      ·have hz':=Zo hz
       have HW2:=Za (HW1.out.trans (if_pos ⟨hlt,by rw [HG.out];exact ZB hz⟩))
       clear HW1 hz
       go_wp2
       go_meet
       case rel=>exact ⟨⟨#[47,46]⟩,rfl,HW2.out.symm,by decide,HN.out⟩
      ·have hz':=Zi hz
       have HW2:=Za (HW1.out.trans (if_neg (fun g=>hz (by rw [HG.out] at g;rw [← tl_length,g.2];rfl))))
       clear HW1 hz
       go_wp2
       go_meet
       case rel=>exact ⟨⟨#[]⟩,rfl,HW2.out.symm,by decide,HN.out⟩
     ·have HW2:=Za (HW1.out.trans (if_neg (fun g=>hlt g.1)))
      clear HW1
      go_wp2
      go_meet
      case rel=>exact ⟨⟨#[]⟩,rfl,HW2.out.symm,by decide,HN.out⟩
   ·have HW1:=Za (HW.out.trans (if_pos rfl))
    clear HW hsg
    go_wp2_with fail
    refine (ZbF rb R u bs _ HB1.out HR1.out l3 l8).mono ?_
    rintro e w2 ⟨t,rfl,ht,htl,hn⟩
    have HT:=Za ht
    have HN2:=Za (HN.out.then hn)
    clear ht hn
    go_wp2
    go_meet
    case rel=>exact ⟨(⟨#[47,47]⟩:ByteArray)++who++t,rfl,by rw [HW1.out,Ze,Ze,HWH.out,HT.out];rfl,by rw [Zh,Zh];show 2 + who.size + t.size≤_;omega,HN2.out⟩
  case rest=>
   obtain ⟨wh,rfl,hwh,hwhl,hnc⟩:=hcut
   have HWT:=Za hwh
   have HN2:=Za hnc
   clear hwh hnc hsg c0 c1 c2 c3 c4 c5 c6 c7 c8 c9 c10 c11 c12
   obtain ⟨w2,hw2⟩:∃ w2,w2=wc:=⟨_,rfl⟩
   subst hw2
   go_wp2_with fail
   refine (ZdF rb R u bs _ (HB.out.on HN2.out) (HR.out.on HN2.out) l7).mono ?_
   rintro e w3 ⟨pt,rfl,hpt,hptl,hn⟩
   have HPT:=Za hpt
   have HN3:=Za (HN2.out.then hn)
   clear hpt hn
   obtain ⟨c0,c1,c2,c3,c4,c5,c6,c7,c8,c9,c10,c11,c12⟩:=(HB.out.on HN3.out).cells
   have HB':=HB
   have HR':=HR
   clear HB HR HB1 HR1
   obtain ⟨sch,user,pass,his,htx,port,po,pn,pc,op,bl,hq,q,hf,fr⟩:=R
   simp only at *
   cases hq
   all_goals cases hf
   all_goals go_wp2
   all_goals go_ret
   all_goals exact ⟨_,rfl,by rw [HD.out];simp only [if_true,Bool.false_eq_true,if_false,Ze,HWT.out,HPT.out,List.append_nil];simp [tl],HN3.out⟩
set_option maxRecDepth 8000 in
set_option maxHeartbeats 8000000 in
theorem ZtI (rb:Nat) (R:RR) (u:RU) (bs:List ByteArray) (w:World) (h:RB w rb R) (hr:RIs w R u bs) (hl:RL R) (hu:¬ R.user.size=0) (hp:¬ R.pass.size=0):
  Calls Tryz.prog 76 #[.pointer (some ⟨rb,0,none⟩)] w fun e w'=>∃ t:ByteArray,e=.returned (.string t)∧tl t=Zg0 u∧Nx w w':=by
 have HB:=Za h
 have HR:=Za hr
 have HL:=Za hl
 have HD:=Za (show Zg0 u=tl R.sch++[58]++ZcY u++Zc4 u++(if R.hq=true then [63]++tl R.q else [])++(if R.hf=true then [35]++tl R.fr else []) by rw [← hr.eq];rfl)
 have HW:=Za (show ZcY u=if R.his=true then [47,47]++Zfq u++Zdd u else if 1 < bs.length∧(bs.map tl).getD 0 []=[] then [47,46] else [] by rw [← List.length_map (f:=tl),← hr.eq];rfl)
 have HU:=Za (show Zfq u=if tl R.user=[]∧tl R.pass=[] then [] else if tl R.pass=[] then tl R.user++[64] else tl R.user++[58]++tl R.pass++[64] by rw [← hr.eq];rfl)
 have ls:=hr.lsch
 have l1:=hl.user
 have l2:=hl.pass
 have l3:=hl.htx
 have l5:=hl.q
 have l6:=hl.fr
 have l7:=hl.bl
 have l8:=hl.port
 obtain ⟨c0,c1,c2,c3,c4,c5,c6,c7,c8,c9,c10,c11,c12⟩:=h.cells
 have hu':=Zi hu
 have hp':=Zi hp
 have HE1:=Za (Zdf hu)
 have HE2:=Za (Zdf hp)
 have hsg:=hr.seg'
 clear h hr hl hu hp
 go_enter Tryz.func76,Tryz.ntmps76
 go_upto_if 19 with fail
 go_cut [3] from 8 (fun s wx=>∃ who:ByteArray,s=.string who∧tl who=Zfq u∧who.size≤600002∧Nx w wx∧RB wx rb R∧RIs wx R u bs)
 case first=>
  go_upto_region 5 with fail
  all_goals try exact absurd (by assumption:(!R.pass.toList.isEmpty)=false) (by rw [hp'];decide)
  go_region
  go_wp2
  go_meet
  case rel=>exact ⟨R.user++(⟨#[58]⟩:ByteArray)++R.pass++(⟨#[64]⟩:ByteArray),rfl,by rw [HU.out,if_neg (fun g=>HE2.out g.2),if_neg HE2.out,Ze,Ze,Ze];rfl,by rw [Zh,Zh,Zh];show R.user.size + 1 + R.pass.size + 1≤_;omega,Nx.rfl.drew,HB.out.on Nx.rfl.drew,HR.out.on Nx.rfl.drew⟩
 case rest=>
  obtain ⟨who,rfl,hwho,hwl,hnc,hbc,hrc⟩:=hcut
  have HWH:=Za hwho
  have HN:=Za hnc
  have HB1:=Za hbc
  have HR1:=Za hrc
  clear hwho hnc hbc hrc c0 c1 c2 c3 c4 c5 c6 c7 c8 c9 c10 c11 c12 hu' hp' hsg
  obtain ⟨w1,hw1⟩:∃ w1,w1=wc:=⟨_,rfl⟩
  subst hw1
  have hsg:=HR1.out.seg'
  obtain ⟨c0,c1,c2,c3,c4,c5,c6,c7,c8,c9,c10,c11,c12⟩:=HB1.out.cells
  go_upto_if 45 with fail
  go_cut [4,5] from 8 (fun s _ wx=>∃ t:ByteArray,s=.string t∧tl t=ZcY u∧t.size≤2000000∧Nx w wx)
  case first=>
   generalize R.his=his at *
   cases his
   ·have HW1:=Za (HW.out.trans (if_neg (by decide)))
    clear HW
    rcases hsg with ⟨h1,h2,h3,rfl⟩ | ⟨b,off,h1,h2,h3,h4,hrow⟩
    ·rw [h1,h2,h3] at c6
     have HW2:=Za (HW1.out.trans (if_neg (by simp)))
     clear HW1
     go_wp2
     go_meet
     case rel=>exact ⟨⟨#[]⟩,rfl,HW2.out.symm,by decide,HN.out⟩
    ·rw [h1,h2] at c6
     unfold maxLen at h4
     by_cases hlt:1 < bs.length
     ·have hck:=hrow.cell (show 0 < bs.length by omega)
      rw [Nat.add_zero] at hck
      have HG:=Za (show (bs.map tl).getD 0 []=tl bs[0] by rw [List.getD_eq_getElem?_getD,List.getElem?_map,List.getElem?_eq_getElem (by omega)];rfl)
      generalize bs[0]=p at *
      by_cases hz:p.size=0
      ·have hz':=Zo hz
       have HW2:=Za (HW1.out.trans (if_pos ⟨hlt,by rw [HG.out];exact ZB hz⟩))
       clear HW1 hz
       go_wp2
       go_meet
       case rel=>exact ⟨⟨#[47,46]⟩,rfl,HW2.out.symm,by decide,HN.out⟩
      ·have hz':=Zi hz
       have HW2:=Za (HW1.out.trans (if_neg (fun g=>hz (by rw [HG.out] at g;rw [← tl_length,g.2];rfl))))
       clear HW1 hz
       go_wp2
       go_meet
       case rel=>exact ⟨⟨#[]⟩,rfl,HW2.out.symm,by decide,HN.out⟩
     ·have HW2:=Za (HW1.out.trans (if_neg (fun g=>hlt g.1)))
      clear HW1
      go_wp2
      go_meet
      case rel=>exact ⟨⟨#[]⟩,rfl,HW2.out.symm,by decide,HN.out⟩
   ·have HW1:=Za (HW.out.trans (if_pos rfl))
    clear HW hsg
    go_wp2_with fail
    refine (ZbF rb R u bs _ HB1.out HR1.out l3 l8).mono ?_
    rintro e w2 ⟨t,rfl,ht,htl,hn⟩
    have HT:=Za ht
    have HN2:=Za (HN.out.then hn)
    clear ht hn
    go_wp2
    go_meet
    case rel=>exact ⟨(⟨#[47,47]⟩:ByteArray)++who++t,rfl,by rw [HW1.out,Ze,Ze,HWH.out,HT.out];rfl,by rw [Zh,Zh];show 2 + who.size + t.size≤_;omega,HN2.out⟩
  case rest=>
   obtain ⟨wh,rfl,hwh,hwhl,hnc⟩:=hcut
   have HWT:=Za hwh
   have HN2:=Za hnc
   clear hwh hnc hsg c0 c1 c2 c3 c4 c5 c6 c7 c8 c9 c10 c11 c12
   obtain ⟨w2,hw2⟩:∃ w2,w2=wc:=⟨_,rfl⟩
   subst hw2
   go_wp2_with fail
   refine (ZdF rb R u bs _ (HB.out.on HN2.out) (HR.out.on HN2.out) l7).mono ?_
   rintro e w3 ⟨pt,rfl,hpt,hptl,hn⟩
   have HPT:=Za hpt
   have HN3:=Za (HN2.out.then hn)
   clear hpt hn
   obtain ⟨c0,c1,c2,c3,c4,c5,c6,c7,c8,c9,c10,c11,c12⟩:=(HB.out.on HN3.out).cells
   have HB':=HB
   have HR':=HR
   clear HB HR HB1 HR1
   obtain ⟨sch,user,pass,his,htx,port,po,pn,pc,op,bl,hq,q,hf,fr⟩:=R
   simp only at *
   cases hq
   all_goals cases hf
   all_goals go_wp2
   all_goals go_ret
   all_goals exact ⟨_,rfl,by rw [HD.out];simp only [if_true,Bool.false_eq_true,if_false,Ze,HWT.out,HPT.out,List.append_nil];simp [tl],HN3.out⟩
theorem ZrO (rb:Nat) (R:RR) (u:RU) (bs:List ByteArray) (w:World) (h:RB w rb R) (hr:RIs w R u bs) (hl:RL R):
  Calls Tryz.prog 76 #[.pointer (some ⟨rb,0,none⟩)] w fun e w'=>∃ t:ByteArray,e=.returned (.string t)∧tl t=Zg0 u∧Nx w w':=by
 by_cases hu:R.user.size=0
 ·by_cases hp:R.pass.size=0
  ·exact ZtF rb R u bs w h hr hl hu hp
  ·exact ZtG rb R u bs w h hr hl hu hp
 ·by_cases hp:R.pass.size=0
  ·exact ZtH rb R u bs w h hr hl hu hp
  ·exact ZtI rb R u bs w h hr hl hu hp
theorem Zjb {s:ByteArray} {l:List UInt8} {n:Nat} (h:tl s=l) (hn:l.length≤n):s.size≤n:=by rw [← tl_length,h];exact hn
set_option maxRecDepth 8000 in
set_option maxHeartbeats 8000000 in
theorem ZrP (rb:Nat) (R:RR) (u:RU) (bs:List ByteArray) (w:World) (h:RB w rb R) (hr:RIs w R u bs) (hl:RL R) (hsp:Zg u.sch=true) (hf:u.sch≠ZD):
  Calls Tryz.prog 77 #[.pointer (some ⟨rb,0,none⟩)] w fun e w'=>∃ t:ByteArray,e=.returned (.string t)∧tl t=Zbg u∧Nx w w':=by
 have HB:=Za h
 have HR:=Za hr
 have HE:=Za (show Zbg u=tl R.sch++[58,47,47]++Zdd u by unfold Zbg Zfr;rw [if_pos ⟨hsp,hf⟩,hr.usch])
 have ls:=hr.lsch
 have l3:=hl.htx
 have l8:=hl.port
 have c0:=h.cells.1
 have hfb:=neB (s:=R.sch) (l:=[102,105,108,101]) (by rw [hr.usch];exact hf)
 have hfb':=Zv4 hfb
 have HSP:=Za (show Zg (tl R.sch)=true by rw [hr.usch];exact hsp)
 clear h hr hl hf hsp
 go_enter Tryz.func77,Tryz.ntmps77
 go_wp2_with fail
 refine (ZH R.sch _).mono ?_
 rintro e w1 ⟨rfl,hn1⟩
 rw [HSP.out]
 have HN1:=Za hn1
 have c01:=(HB.out.on hn1).cells.1
 clear hn1 c0
 go_wp2_with fail
 refine (ZbF rb R u bs _ (HB.out.on HN1.out) (HR.out.on HN1.out) l3 l8).mono ?_
 rintro e w2 ⟨t,rfl,ht,htl,hn2⟩
 have HT:=Za ht
 have HN2:=Za (HN1.out.then hn2)
 have c02:=(HB.out.on HN2.out).cells.1
 clear ht hn2 c01
 go_wp2
 go_ret
 exact ⟨_,rfl,by rw [HE.out,Ze,Ze,HT.out];rfl,HN2.out⟩
set_option maxRecDepth 8000 in
set_option maxHeartbeats 8000000 in
theorem ZrQ (rb:Nat) (R:RR) (u:RU) (bs:List ByteArray) (w:World) (h:RB w rb R) (hr:RIs w R u bs) (hsp:¬ (Zg u.sch=true∧u.sch≠ZD)) (hbl:u.sch≠Zo7):
  Calls Tryz.prog 77 #[.pointer (some ⟨rb,0,none⟩)] w fun e w'=>∃ t:ByteArray,e=.returned (.string t)∧tl t=Zbg u∧Nx w w':=by
 have HB:=Za h
 have HE:=Za (show Zbg u=Zrw by unfold Zbg;rw [if_neg hsp,if_neg hbl])
 have c0:=h.cells.1
 have hcase:(Zg (tl R.sch)=false)∨(Zg (tl R.sch)=true∧(R.sch.toList == [102,105,108,101])=true):=by
  rw [hr.usch]
  cases hx:Zg u.sch
  ·exact Or.inl rfl
  ·right
   refine ⟨rfl,eqB ?_⟩
   rw [hr.usch]
   exact Classical.byContradiction fun g=>hsp ⟨hx,g⟩
 have hbb:=neB (s:=R.sch) (l:=[98,108,111,98]) (by rw [hr.usch];exact hbl)
 clear h hr hsp hbl
 go_enter Tryz.func77,Tryz.ntmps77
 go_wp2_with fail
 refine (ZH R.sch _).mono ?_
 rintro e w1 ⟨rfl,hn1⟩
 have HN1:=Za hn1
 have c01:=(HB.out.on hn1).cells.1
 clear hn1 c0
 rcases hcase with hx | ⟨hx,hfb⟩
 ·rw [hx]
  clear hx
  go_wp2
  go_ret
  exact ⟨_,rfl,by rw [HE.out];rfl,HN1.out⟩
 ·rw [hx]
  have hfb':=Zv5 hfb
  clear hx
  go_wp2
  go_ret
  exact ⟨_,rfl,by rw [HE.out];rfl,HN1.out⟩
set_option maxRecDepth 8000 in
set_option maxHeartbeats 8000000 in
theorem ZrR (rb:Nat) (R:RR) (u:RU) (bs:List ByteArray) (w:World) (h:RB w rb R) (hr:RIs w R u bs) (hl:RL R) (hbl:u.sch=Zo7) (hpl:(Zc4 u).length≤20000) (hin:(parseR (Zc4 u) none).2=0→(parseR (Zc4 u) none).1.htx.length≤300000∧(parseR (Zc4 u) none).1.port≤65535):
  Calls Tryz.prog 77 #[.pointer (some ⟨rb,0,none⟩)] w fun e w'=>∃ t:ByteArray,e=.returned (.string t)∧tl t=Zbg u∧Nx w w':=by
 have HB:=Za h
 have HR:=Za hr
 have HD:=Za (show Zbg u=Zh8 (parseR (Zc4 u) none) by unfold Zbg;rw [if_neg (by rw [hbl];decide),if_pos hbl])
 have HIN:=Za hin
 have HPL:=Za hpl
 have l7:=hl.bl
 have c0:=h.cells.1
 have HSP:=Za (show Zg (tl R.sch)=false by rw [hr.usch,hbl];decide)
 have hbb:=eqB (s:=R.sch) (l:=[98,108,111,98]) (by rw [hr.usch];exact hbl)
 clear h hr hl hbl hpl hin
 go_enter Tryz.func77,Tryz.ntmps77
 go_wp2_with fail
 refine (ZH R.sch _).mono ?_
 rintro e w1 ⟨rfl,hn1⟩
 rw [HSP.out]
 have HN1:=Za hn1
 have c01:=(HB.out.on hn1).cells.1
 clear hn1 c0
 go_wp2_with fail
 refine (ZdF rb R u bs _ (HB.out.on HN1.out) (HR.out.on HN1.out) l7).mono ?_
 rintro e w2 ⟨p,rfl,hp,hpsz,hn2⟩
 have HP:=Za hp
 have HN2:=Za (HN1.out.then hn2)
 have hp2:p.size≤20000:=Zjb hp HPL.out
 clear hp hn2 c01 hpsz
 go_wp2_with fail
 refine (ZeW p (.pointer none) none _ hp2 (Or.inl ⟨rfl,rfl⟩)).mono ?_
 rintro e w3 hx
 rw [HP.out] at hx
 generalize parseR (Zc4 u) none=x at *
 obtain ⟨v,err⟩:=x
 simp only at HIN
 rcases hx with ⟨he,rfl,hn3⟩ | ⟨he,vb,V,vs,rfl,hB,hV,-,hn3⟩
 ·have HE:=Za (show Zbg u=Zrw by rw [HD.out];unfold Zh8;rw [if_neg (fun g=>he g.1)])
  have he1:(err == 0)=false:=beq_eq_false_iff_ne.2 he
  have HN3:=Za (HN2.out.then hn3)
  clear he hn3 HIN HD
  go_wp2
  go_ret
  exact ⟨_,rfl,by rw [HE.out];rfl,HN3.out⟩
 ·simp only at he
  subst he
  have HN3:=Za (HN2.out.then hn3)
  have HVB:=Za hB
  replace hV:RIs w3 V v vs:=hV
  have HVI:=Za hV
  obtain ⟨g1,g2⟩:=HIN.out rfl
  have v3:V.htx.size≤300000:=Zjb (show tl V.htx=v.htx by rw [← hV.eq];rfl) g1
  have v8:V.port≤65535:=by have:V.port=v.port:=by rw [← hV.eq];rfl
                           rw [this];exact g2
  have vls:=hV.lsch
  have d0:=hB.cells.1
  have HVS:=Za hV.usch
  clear hn3 hB hV g1 g2 HIN
  by_cases hh:v.sch=Zu1
  ·have HE:=Za (show Zbg u=tl V.sch++[58,47,47]++Zdd v by rw [HD.out];unfold Zh8 Zfr;rw [if_pos ⟨rfl,Or.inl hh⟩,HVS.out])
   have hb1:=eqB (s:=V.sch) (l:=[104,116,116,112]) (by rw [HVS.out];exact hh)
   clear HD hh
   go_wp2_with fail
   refine (ZbF vb V v vs _ HVB.out HVI.out v3 v8).mono ?_
   rintro e w4 ⟨t,rfl,ht,htl,hn4⟩
   have HT:=Za ht
   have HN4:=Za (HN3.out.then hn4)
   have d04:=(HVB.out.on hn4).cells.1
   clear ht hn4 d0
   go_wp2
   go_ret
   exact ⟨_,rfl,by rw [HE.out,Ze,Ze,HT.out];rfl,HN4.out⟩
  ·have hb1:=neB (s:=V.sch) (l:=[104,116,116,112]) (by rw [HVS.out];exact hh)
   by_cases hh2:v.sch=Zrv
   ·have HE:=Za (show Zbg u=tl V.sch++[58,47,47]++Zdd v by rw [HD.out];unfold Zh8 Zfr;rw [if_pos ⟨rfl,Or.inr hh2⟩,HVS.out])
    have hb2:=eqB (s:=V.sch) (l:=[104,116,116,112,115]) (by rw [HVS.out];exact hh2)
    clear HD hh hh2
    go_wp2_with fail
    refine (ZbF vb V v vs _ HVB.out HVI.out v3 v8).mono ?_
    rintro e w4 ⟨t,rfl,ht,htl,hn4⟩
    have HT:=Za ht
    have HN4:=Za (HN3.out.then hn4)
    have d04:=(HVB.out.on hn4).cells.1
    clear ht hn4 d0
    go_wp2
    go_ret
    exact ⟨_,rfl,by rw [HE.out,Ze,Ze,HT.out];rfl,HN4.out⟩
   ·have HE:=Za (show Zbg u=Zrw by rw [HD.out];unfold Zh8;rw [if_neg (by rintro ⟨-,g | g⟩;exact hh g;exact hh2 g)])
    have hb2:=neB (s:=V.sch) (l:=[104,116,116,112,115]) (by rw [HVS.out];exact hh2)
    clear HD hh hh2
    go_wp2
    go_ret
    exact ⟨_,rfl,by rw [HE.out];rfl,HN3.out⟩
def ZrS (u:RU):Prop:=u.sch=Zo7→(Zc4 u).length≤20000∧((parseR (Zc4 u) none).2=0→(parseR (Zc4 u) none).1.htx.length≤300000∧(parseR (Zc4 u) none).1.port≤65535)
theorem ZmH (rb:Nat) (R:RR) (u:RU) (bs:List ByteArray) (w:World) (h:RB w rb R) (hr:RIs w R u bs) (hl:RL R) (hb:ZrS u):
  Calls Tryz.prog 77 #[.pointer (some ⟨rb,0,none⟩)] w fun e w'=>∃ t:ByteArray,e=.returned (.string t)∧tl t=Zbg u∧Nx w w':=by
 by_cases hsp:Zg u.sch=true∧u.sch≠ZD
 ·exact ZrP rb R u bs w h hr hl hsp.1 hsp.2
 ·by_cases hbl:u.sch=Zo7
  ·exact ZrR rb R u bs w h hr hl hbl (hb hbl).1 (hb hbl).2
  ·exact ZrQ rb R u bs w h hr hsp hbl
end Go.Proofs.YtchkhibgbnhjpaaGreatDoor
