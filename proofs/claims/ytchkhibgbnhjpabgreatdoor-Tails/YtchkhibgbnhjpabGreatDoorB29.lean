import Derived.Test.YtchkhibgbnhjpabGreatDoorB28
open List renaming length_drop→Xa,eq_nil_of_length_eq_zero→Xc,length_map→Xd,length_nil→Xe,mem_of_mem_drop→Xh,mem_singleton→Xi,getElem_mem→Xj
open Nat renaming le_refl→Xb,eq_zero_or_pos→Xf,add_zero→Xg
namespace Go.Proofs.YtchkhibgbnhjpabGreatDoor
open Go.RowKit
set_option maxHeartbeats 8000000
set_option maxRecDepth 8000
theorem ZoV(cs:LA)(h:0<cs.length):(cs.map tl).headD []=tl cs[0]:=by cases cs with|nil=>simp at h|cons=>rfl
theorem Zss(rb qb:Nat)(R Q:RR)(u base:RU)(bs cs:LA)(v:Value)(l:LI)(w:World)(h:RB w rb R)(hr:RIs w R u bs)(hq:RB w qb Q)(hqr:RIs w Q base cs)(hne:qb≠rb)(hf:tl Q.sch=Zx)(hv:IntsAt w v l)(hl:l.length≤20000)(hcl:cs.length≤70000)(hp:∀c∈l,Pt c):Calls Tryz.prog 232 #[.pointer (some ⟨rb,0,none⟩),v,.pointer (some ⟨qb,0,none⟩)] w fun e w'=>Znq e w w' rb (Zbq u l (some base)):=by
 have HBP:=Za (show base.path=cs.map tl by rw[←hqr.eq];rfl)
 have HD:=Za (show Zbq u l (some base)=if(Zn l 0 Zx&&Zn l 1 Zx)=true then Zdm { u with his:=true,htx:=[] } (l.drop 2)else if Zn l 0 Zx=true then({ u with his:=base.his,htx:=base.htx,path:=walked u.sch (if driven (l.drop 1)=false∧base.path≠[]∧drive (base.path.headD [])=true then [base.path.headD []]else []) (l.drop 1) },0)
  else if l=[]then(ZgR { u with his:=base.his,htx:=base.htx } base,0)
  else({ u with his:=base.his,htx:=base.htx,path:=walked u.sch (if driven l=true then []else ZaR u.sch base.path) l },0)from rfl)
 have HQ:=Za hq;have HQR:=Za hqr;have hfb:=eqB (s:=Q.sch) hf;simp only[Zx]at hfb;have q0:=hq.cells.1;have HBI:=Za hr;have HV:=Za hv;have HP:=Za hp;obtain⟨c0,c1,c2,c3,c4,c5,c6,c7,c8,c9,c10,c11,c12⟩:=h.cells;have f3:=h.free 3;have f4:=h.free 4;obtain⟨hB1,hR1⟩:=RIs.setHost h hr true ⟨#[]⟩;have HB0:=Za h;have HB1:=Za hB1
 have HR1:=Za (show RIs _ _ { u with his:=true,htx:=[] } bs from hR1)
 have HBT1:=Za (show But rb w ((w.setCell ⟨rb,3,none⟩ (.bool true)).setCell ⟨rb,4,none⟩ (.string ⟨#[]⟩))from((But.refl rb w).set 3 _).set 4 _);have HK1:=Za (HBT1.out.kp h)
 have HV1:=Za (hv.kp HK1.out (by decide))
 clear h hr hp hB1 hR1;have HQ1:=Za (HQ.out.but HBT1.out hne);have HQR1:=Za (HQR.out.kp HK1.out);clear hq hqr hf;obtain⟨vo,vcap,hve,-⟩:=hv;subst hve
 go_enter Tryz.func232,Tryz.ntmps232
 go_upto_region 3 with fail;clear q0;clear c0 c1 c2 c3 c4 c5 c6 c7 c8 c9 c10 c11 c12 f3 f4;generalize ((w.setCell ⟨rb,3,none⟩ (.bool true)).setCell ⟨rb,4,none⟩ (.string ⟨#[]⟩))=w1 at *;go_wp2_with fail
 refine(ZaF _ l 0 ⟨#[102,105,108,101]⟩ _ HV1.out).mono ?_
 rintro e w2 ⟨rfl,hn2⟩;rw[show tl (⟨#[102,105,108,101]⟩:BA)=Zx from rfl];have HN2:=Za hn2;clear hn2;go_wp2_with fail
 refine(ZaF _ l 1 ⟨#[102,105,108,101]⟩ _ (HV1.out.on HN2.out)).mono ?_
 rintro e w3 ⟨rfl,hn3⟩;rw[show tl (⟨#[102,105,108,101]⟩:BA)=Zx from rfl];have HN3:=Za (HN2.out.then hn3);have HB3:=Za (HB1.out.on HN3.out);have HR3:=Za (HR1.out.on HN3.out);have HV3:=Za (HV1.out.on HN3.out);have HBT3:=Za (HBT1.out.then (But.nx HN3.out));clear hn3 HN2 HB1 HR1 HV1 HBT1
 have HL0:=Za (fun(x:Zn l 0 Zx=true)=>ZbU x)
 have HL1:=Za (fun(x:Zn l 1 Zx=true)=>ZbU x)
 have HQ3:=Za (HQ1.out.on HN3.out);have HQR3:=Za (HQR1.out.on HN3.out);clear HQ1 HQR1
 cases h0:Zn l 0 Zx
 ·have HD1:=Za (HD.out.trans ((if_neg (by simp[h0])).trans (if_neg (by simp[h0]))))
  clear HD h0
  cases h1:Zn l 1 Zx
  all_goals clear h1
  all_goals
   rcases Xf l.length with hz|hpos
   ·have HE:=Za (HD1.out.trans (if_pos (Xc hz)))
    have hz':((l.length:Int)==0)=true:=by rw[hz];rfl
    clear HD1 hz;obtain⟨c0,c1,c2,c3,c4,c5,c6,c7,c8,c9,c10,c11,c12⟩:=HB3.out.cells;obtain⟨d0,d1,d2,d3,d4,d5,d6,d7,d8,d9,d10,d11,d12⟩:=HQ3.out.cells;have f3:=HB3.out.free 3;have f4:=HB3.out.free 4;have d4':(w3.setCell ⟨rb,3,none⟩ (.bool Q.his)).cell? ⟨qb,4,none⟩=some (.string Q.htx):=(HQ3.out.but ((But.refl rb w3).set 3 (.bool Q.his)) hne).cells.2.2.2.2.1;go_upto_region 27 with fail;obtain⟨hB5,hR5⟩:=RIs.setHost HB3.out HR3.out Q.his Q.htx;have hbt5:But rb w3 ((w3.setCell ⟨rb,3,none⟩ (.bool Q.his)).setCell ⟨rb,4,none⟩ (.string Q.htx)):=((But.refl rb w3).set 3 _).set 4 _;have HB5:=Za hB5
    have HR5:=Za (show RIs _ _ { u with his:=base.his,htx:=base.htx } bs by rw[←HQR.out.eq];exact hR5)
    have HBT5:=Za (HBT3.out.then hbt5);have hkp5:=hbt5.kp HB3.out;have HQ5:=Za (HQ3.out.but hbt5 hne);have HQR5:=Za (HQR3.out.kp hkp5);clear c0 c1 c2 c3 c4 c5 c6 c7 c8 c9 c10 c11 c12 d0 d1 d2 d3 d4 d5 d6 d7 d8 d9 d10 d11 d12 f3 f4 d4' hbt5 hkp5 hB5 hR5;generalize ((w3.setCell ⟨rb,3,none⟩ (.bool Q.his)).setCell ⟨rb,4,none⟩ (.string Q.htx))=w5 at *;go_wp2_with fail
    refine(ZlZ rb qb _ Q _ base bs cs _ HB5.out HR5.out HQ5.out HQR5.out hne).mono ?_
    rintro e w6 ⟨rfl,⟨R6,hB6,hR6⟩,hbt6⟩;have HB6:=Za hB6;have HR6:=Za hR6;have HBT6:=Za (HBT5.out.then hbt6);clear hB6 hR6 hbt6;go_wp2;go_ret
    exact⟨by rw[HE.out];rfl,⟨_,cs,HB6.out,by rw[HE.out];exact HR6.out⟩,HBT6.out⟩
   ·have HE0:=Za (HD1.out.trans (if_neg (fun e=>by rw[e]at hpos;simp at hpos)))
    have hz':((l.length:Int)==0)=false:=beq_eq_false_iff_ne.2 (by omega)
    clear HD1 hpos;obtain⟨c0,c1,c2,c3,c4,c5,c6,c7,c8,c9,c10,c11,c12⟩:=HB3.out.cells;obtain⟨d0,d1,d2,d3,d4,d5,d6,d7,d8,d9,d10,d11,d12⟩:=HQ3.out.cells;have f3:=HB3.out.free 3;have f4:=HB3.out.free 4;have d4':(w3.setCell ⟨rb,3,none⟩ (.bool Q.his)).cell? ⟨qb,4,none⟩=some (.string Q.htx):=(HQ3.out.but ((But.refl rb w3).set 3 (.bool Q.his)) hne).cells.2.2.2.2.1;go_upto_region 6 with fail;obtain⟨hB5,hR5⟩:=RIs.setHost HB3.out HR3.out Q.his Q.htx;have hbt5:But rb w3 ((w3.setCell ⟨rb,3,none⟩ (.bool Q.his)).setCell ⟨rb,4,none⟩ (.string Q.htx)):=((But.refl rb w3).set 3 _).set 4 _;have HB5:=Za hB5
    have HR5:=Za (show RIs _ _ { u with his:=base.his,htx:=base.htx } bs by rw[←HQR.out.eq];exact hR5)
    have HBT5:=Za (HBT3.out.then hbt5);have hkp5:=hbt5.kp HB3.out;have HQ5:=Za (HQ3.out.but hbt5 hne);have HQR5:=Za (HQR3.out.kp hkp5)
    have HV5:=Za (HV3.out.kp hkp5 (by decide))
    clear c0 c1 c2 c3 c4 c5 c6 c7 c8 c9 c10 c11 c12 d0 d1 d2 d3 d4 d5 d6 d7 d8 d9 d10 d11 d12 f3 f4 d4' hbt5 hkp5 hB5 hR5;generalize ((w3.setCell ⟨rb,3,none⟩ (.bool Q.his)).setCell ⟨rb,4,none⟩ (.string Q.htx))=w5 at *;have e6:=HQ5.out.cells.2.2.2.2.2.2.1;go_wp2_with fail
    refine(Zep rb R.sch _ cs _ HB5.out.cells.1 HQR5.out.seg HQR5.out.lseg (by omega)).mono ?_
    rintro e w6 ⟨v6,rfl,ho6,hn6⟩;have HO6:=Za ho6;have HB6:=Za (HB5.out.on hn6);have HR6:=Za (HR5.out.on hn6);have HV6:=Za (HV5.out.on hn6);have HBT6:=Za (HBT5.out.then (But.nx hn6));have hw56:=hn6.size;have HN56:=Za hn6;clear ho6 hn6 e6;go_wp2_with fail
    refine(Zco _ l _ HV6.out).mono ?_
    rintro e w7 ⟨rfl,hn7⟩;have HN57:=Za (HN56.out.then hn7);have HB7:=Za (HB6.out.on hn7);have HR7:=Za (HR6.out.on hn7);have HV7:=Za (HV6.out.on hn7);have HO7:=Za (ZbG HO6.out hn7);have HBT7:=Za (HBT6.out.then (But.nx hn7));have hw7:w5.heap.size≤w7.heap.size:=HN57.out.size;clear hn7 HO6 HB6 HR6 HV6 HBT6;have HSM:=Za (Zcn (tl R.sch) cs)
    have hsl:(shorter (tl R.sch) cs).length≤70000:=by
     have:=congrArg List.length HSM.out;rw[Xd]at this;rw[this];unfold ZaR
     split
     ·rw[Xd];exact hcl
     ·rw[List.length_dropLast,Xd];omega
    have HSS:=Za (show ∀x∈shorter (tl R.sch) cs,x.size≤1000000 from fun x hx=>HQR.out.lseg x (by
     unfold shorter at hx
     split at hx
     ·exact hx
     ·exact(List.dropLast_sublist cs).subset hx))
    have hus:tl R.sch=u.sch:=HBI.out.usch;have HUS:=Za hus;clear hus
    cases hdv:driven l
    ·have HE:=Za (show Zbq u l (some base)=({ u with his:=base.his,htx:=base.htx,path:=walked u.sch (ZaR u.sch base.path) l },0)by rw[HE0.out,hdv,if_neg (by decide)])
     clear HE0 hdv;go_wp2_with fail
     refine(Zs rb R.sch v6 (shorter (tl R.sch) cs) _ l w5.heap.size _ HB7.out.sch hw7 HO7.out HSS.out (by omega) HV7.out (by omega) HP.out).mono ?_
     rintro e w8 ⟨v',bs',rfl,ho,hwe,hbl,hbs,hbel,-⟩;have hnx:Nx w5 w8:=HN57.out.trans hbel
     obtain⟨ao9,n9,cp9,rfl,hB9,hR9⟩:=RIs.setPath (HB5.out.on hnx) (HR5.out.on hnx) (Zp ho) (by first|(simp only[Xe]at hbl;omega)|omega) hbs
     have HB9:=Za hB9;have HR9:=Za hR9
     have HWE:=Za (show bs'.map tl=walked u.sch (ZaR u.sch base.path) l by rw[hwe,HR5.out.usch];rw[Zcn,HBP.out])
     have HBT9:=Za (show But rb w (w8.setCell ⟨rb,6,none⟩ (.slice ao9 n9 cp9))from(HBT5.out.then (But.nx hnx)).set 6 _);obtain⟨-,-,-,-,-,-,k6,-⟩:=(HB5.out.on hnx).cells;have f6:=(HB5.out.on hnx).free 6;clear ho hwe hbl hbs hbel hnx hB9 hR9;go_wp2;go_ret
     exact⟨by rw[HE.out];rfl,⟨_,bs',HB9.out,by rw[HE.out];have h:=HR9.out;rw[HWE.out]at h;exact h⟩,HBT9.out⟩
    ·have HE:=Za (show Zbq u l (some base)=({ u with his:=base.his,htx:=base.htx,path:=walked u.sch [] l },0)by rw[HE0.out,hdv,if_pos rfl])
     clear HE0 hdv;go_wp2_with fail
     refine(Zs rb R.sch (.slice none 0 0) [] _ l w7.heap.size _ HB7.out.sch (Xb _) (ZL _ _) (by simp) (by simp) HV7.out (by omega) HP.out).mono ?_
     rintro e w8 ⟨v',bs',rfl,ho,hwe,hbl,hbs,hbel,-⟩;have hnx:Nx w7 w8:=hbel
     obtain⟨ao9,n9,cp9,rfl,hB9,hR9⟩:=RIs.setPath (HB7.out.on hnx) (HR7.out.on hnx) (Zp ho) (by first|(simp only[Xe]at hbl;omega)|omega) hbs
     have HB9:=Za hB9;have HR9:=Za hR9
     have HWE:=Za (show bs'.map tl=walked u.sch [] l by rw[hwe,HR7.out.usch];rfl)
     have HBT9:=Za (show But rb w (w8.setCell ⟨rb,6,none⟩ (.slice ao9 n9 cp9))from(HBT7.out.then (But.nx hnx)).set 6 _);obtain⟨-,-,-,-,-,-,k6,-⟩:=(HB7.out.on hnx).cells;have f6:=(HB7.out.on hnx).free 6;clear ho hwe hbl hbs hbel hnx hB9 hR9;go_wp2;go_ret
     exact⟨by rw[HE.out];rfl,⟨_,bs',HB9.out,by rw[HE.out];have h:=HR9.out;rw[HWE.out]at h;exact h⟩,HBT9.out⟩
 ·cases h1:Zn l 1 Zx
  ·have HD1:=Za (HD.out.trans ((if_neg (by simp[h0,h1])).trans (if_pos h0)))
   have hl1:0<l.length:=HL0.out h0;obtain⟨b,off,cap,he,hlc,hcap,hrow⟩:=HV3.out.open_ hl1;simp only[Value.slice.injEq]at he;obtain⟨rfl,-,rfl⟩:=he
   have HPD:=Za (fun c (hc:c∈l.drop 1)=>HP.out c (Xh hc))
   have hsd:=ZbB hrow hlc hcap 1 (by omega)
   unfold maxLen at hcap;clear HD h0 h1 hrow HV3;rcases hsd with⟨hc1,hdr⟩|⟨hc1,hdr⟩
   ·subst hc1
    have HDR:=Za hdr;clear hdr;go_wp2_with fail
    refine(Zco _ (l.drop 1) _ HDR.out).mono ?_
    rintro e w4 ⟨rfl,hn4⟩;have HB4:=Za (HB3.out.on hn4);have HR4:=Za (HR3.out.on hn4);have HDR4:=Za (HDR.out.on hn4);have HBT4:=Za (HBT3.out.then (But.nx hn4));have HQ4:=Za (HQ3.out.on hn4);have HQR4:=Za (HQR3.out.on hn4);clear hn4 HB3 HR3 HDR HBT3 HQ3 HQR3;obtain⟨c0,c1,c2,c3,c4,c5,c6,c7,c8,c9,c10,c11,c12⟩:=HB4.out.cells;obtain⟨d0,d1,d2,d3,d4,d5,d6,d7,d8,d9,d10,d11,d12⟩:=HQ4.out.cells;have f3:=HB4.out.free 3;have f4:=HB4.out.free 4;have d4':(w4.setCell ⟨rb,3,none⟩ (.bool Q.his)).cell? ⟨qb,4,none⟩=some (.string Q.htx):=(HQ4.out.but ((But.refl rb w4).set 3 (.bool Q.his)) hne).cells.2.2.2.2.1;generalize hdv:driven (l.drop 1)=dv at *;have HDV:=Za hdv;clear hdv;go_upto_region 18 with fail;obtain⟨hB5,hR5⟩:=RIs.setHost HB4.out HR4.out Q.his Q.htx;have hbt5:But rb w4 ((w4.setCell ⟨rb,3,none⟩ (.bool Q.his)).setCell ⟨rb,4,none⟩ (.string Q.htx)):=((But.refl rb w4).set 3 _).set 4 _;have HB5:=Za hB5
    have HR5:=Za (show RIs _ _ { u with his:=base.his,htx:=base.htx } bs by rw[←HQR.out.eq];exact hR5)
    have HBT5:=Za (HBT4.out.then hbt5);have hkp5:=hbt5.kp HB4.out;have HQ5:=Za (HQ4.out.but hbt5 hne);have HQR5:=Za (HQR4.out.kp hkp5)
    have HDR5:=Za (HDR4.out.kp hkp5 (by decide))
    clear c0 c1 c2 c3 c4 c5 c6 c7 c8 c9 c10 c11 c12 d0 d1 d2 d3 d4 d5 d6 d7 d8 d9 d10 d11 d12 f3 f4 d4' hbt5 hkp5 hB5 hR5;generalize ((w4.setCell ⟨rb,3,none⟩ (.bool Q.his)).setCell ⟨rb,4,none⟩ (.string Q.htx))=w5 at *;have e6:=HQ5.out.cells.2.2.2.2.2.2.1
    cases dv
    ·have HD2:=Za (show Zbq u l (some base)=({ u with his:=base.his,htx:=base.htx,path:=walked u.sch (if base.path≠[]∧drive (base.path.headD [])=true then [base.path.headD []]else []) (l.drop 1) },0)by rw[HD1.out];simp)
     clear HD1;rcases HQR5.out.seg' with⟨e1,e2,e3,e4⟩|⟨b2,off2,e1,e2,hlc2,hcap2,hrow2⟩
     ·rw[e1,e2,e3]at e6
      have HE:=Za (show Zbq u l (some base)=({ u with his:=base.his,htx:=base.htx,path:=walked u.sch [] (l.drop 1) },0)by rw[HD2.out,if_neg (fun x=>x.1 (by rw[HBP.out,e4];rfl))])
      clear e1 e2 e3 HD2;go_wp2_with fail
      refine(Zs rb R.sch (.slice none 0 0) [] _ (l.drop 1) w5.heap.size _ HB5.out.sch (Xb _) (ZL _ _) (by simp) (by simp) HDR5.out (by rw[Xa];omega) HPD.out).mono ?_
      rintro e w6 ⟨v',bs',rfl,ho,hwe,hbl,hbs,hbel,-⟩;have hnx:Nx w5 w6:=hbel
      obtain⟨ao9,n9,cp9,rfl,hB9,hR9⟩:=RIs.setPath (HB5.out.on hnx) (HR5.out.on hnx) (Zp ho) (by simp at hbl;omega) hbs
      have HB9:=Za hB9;have HR9:=Za hR9
      have HWE:=Za (show bs'.map tl=walked u.sch [] (l.drop 1)by rw[hwe,HR5.out.usch];rfl)
      have HBT9:=Za (show But rb w (w6.setCell ⟨rb,6,none⟩ (.slice ao9 n9 cp9))from(HBT5.out.then (But.nx hnx)).set 6 _);obtain⟨-,-,-,-,-,-,k6,-⟩:=(HB5.out.on hnx).cells;have f6:=(HB5.out.on hnx).free 6;clear ho hwe hbl hbs hbel hnx hB9 hR9;go_wp2;go_ret
      exact⟨by rw[HE.out];rfl,⟨_,bs',HB9.out,by rw[HE.out];have h:=HR9.out;rw[HWE.out]at h;exact h⟩,HBT9.out⟩
     ·rw[e1,e2]at e6
      clear e1 e2;unfold maxLen at hcap2;rcases Xf cs.length with hz|hpos
      ·have hz':((cs.length:Int) > 0)↔False:=by rw[hz];simp
       have hz2:decide (0<(cs.length:Int))=false:=by rw[hz];rfl
       have hz3:¬(0<(cs.length:Int)):=by omega
       have HE:=Za (show Zbq u l (some base)=({ u with his:=base.his,htx:=base.htx,path:=walked u.sch [] (l.drop 1) },0)by rw[HD2.out,if_neg (fun x=>x.1 (by rw[HBP.out,Xc hz];rfl))])
       clear HD2 hrow2 hz hz';go_wp2_with fail
       refine(Zs rb R.sch (.slice none 0 0) [] _ (l.drop 1) w5.heap.size _ HB5.out.sch (Xb _) (ZL _ _) (by simp) (by simp) HDR5.out (by rw[Xa];omega) HPD.out).mono ?_
       rintro e w6 ⟨v',bs',rfl,ho,hwe,hbl,hbs,hbel,-⟩;have hnx:Nx w5 w6:=hbel
       obtain⟨ao9,n9,cp9,rfl,hB9,hR9⟩:=RIs.setPath (HB5.out.on hnx) (HR5.out.on hnx) (Zp ho) (by simp at hbl;omega) hbs
       have HB9:=Za hB9;have HR9:=Za hR9
       have HWE:=Za (show bs'.map tl=walked u.sch [] (l.drop 1)by rw[hwe,HR5.out.usch];rfl)
       have HBT9:=Za (show But rb w (w6.setCell ⟨rb,6,none⟩ (.slice ao9 n9 cp9))from(HBT5.out.then (But.nx hnx)).set 6 _);obtain⟨-,-,-,-,-,-,k6,-⟩:=(HB5.out.on hnx).cells;have f6:=(HB5.out.on hnx).free 6;clear ho hwe hbl hbs hbel hnx hB9 hR9;go_wp2;go_ret
       exact⟨by rw[HE.out];rfl,⟨_,bs',HB9.out,by rw[HE.out];have h:=HR9.out;rw[HWE.out]at h;exact h⟩,HBT9.out⟩
      ·have cc:=hrow2.cell hpos
       rw[Xg]at cc;have hsz0:cs[0].size≤1000000:=HQR5.out.lseg _ (Xj hpos);have HRW:=Za hrow2
       have HD3:=Za (show Zbq u l (some base)=({ u with his:=base.his,htx:=base.htx,path:=walked u.sch (if drive (tl cs[0])=true then [tl cs[0]]else []) (l.drop 1) },0)by
        rw[HD2.out,HBP.out,ZoV cs hpos]
        have hn0:cs.map tl≠[]:=fun e=>by have:=congrArg List.length e;rw[Xd,Xe]at this;omega
        simp[hn0])
       clear HD2 hrow2;go_wp2_with fail
       refine(Zfe cs[0] _ hsz0).mono ?_
       rintro e w6 ⟨rfl,hn6⟩;have HB6:=Za (HB5.out.on hn6);have HR6:=Za (HR5.out.on hn6);have HBT6:=Za (HBT5.out.then (But.nx hn6));have HDR6:=Za (HDR5.out.on hn6)
       have e7:w6.cell? ⟨qb,6,none⟩=some (.slice (some ⟨b2,off2,none⟩) cs.length Q.pc):=by have h:=(HQ5.out.on hn6).cells.2.2.2.2.2.2.1;have h0:=HQ5.out.cells.2.2.2.2.2.2.1;rw[h0]at e6;rw[h];exact e6
       have cc6:=(HRW.out.on hn6).cell hpos;rw[Xg]at cc6;clear hn6 cc e6 HB5 HR5 HBT5 HDR5
       cases hdr0:drive (tl cs[0])
       ·have HE:=Za (HD3.out.trans (by rw[hdr0,if_neg (by decide)]))
        clear HD3 hdr0;go_wp2_with fail
        refine(Zs rb R.sch (.slice none 0 0) [] _ (l.drop 1) w6.heap.size _ HB6.out.sch (Xb _) (ZL _ _) (by simp) (by simp) HDR6.out (by rw[Xa];omega) HPD.out).mono ?_
        rintro e w7 ⟨v',bs',rfl,ho,hwe,hbl,hbs,hbel,-⟩;have hnx:Nx w6 w7:=hbel
        obtain⟨ao9,n9,cp9,rfl,hB9,hR9⟩:=RIs.setPath (HB6.out.on hnx) (HR6.out.on hnx) (Zp ho) (by simp at hbl;omega) hbs
        have HB9:=Za hB9;have HR9:=Za hR9
        have HWE:=Za (show bs'.map tl=walked u.sch [] (l.drop 1)by rw[hwe,HR6.out.usch];rfl)
        have HBT9:=Za (show But rb w (w7.setCell ⟨rb,6,none⟩ (.slice ao9 n9 cp9))from(HBT6.out.then (But.nx hnx)).set 6 _);obtain⟨-,-,-,-,-,-,k6,-⟩:=(HB6.out.on hnx).cells;have f6:=(HB6.out.on hnx).free 6;clear ho hwe hbl hbs hbel hnx hB9 hR9;go_wp2;go_ret
        exact⟨by rw[HE.out];rfl,⟨_,bs',HB9.out,by rw[HE.out];have h:=HR9.out;rw[HWE.out]at h;exact h⟩,HBT9.out⟩
       ·have HE:=Za (HD3.out.trans (by rw[hdr0,if_pos rfl]))
        clear HD3 hdr0;go_wp2_with fail
        refine(Zs rb R.sch _ [cs[0]] _ (l.drop 1) w6.heap.size _ (HB6.out.on (Nx.rfl.alloc _)).sch (by simp) (Zkr w6 cs[0]) (by intro x hx;rw[Xi]at hx;subst hx;exact hsz0) (by simp) (HDR6.out.on (Nx.rfl.alloc _)) (by rw[Xa];omega) HPD.out).mono ?_
        rintro e w7 ⟨v',bs',rfl,ho,hwe,hbl,hbs,hbel,-⟩;have hnx:Nx w6 w7:=(show Nx w6 _ from Nx.rfl.alloc _).trans hbel
        obtain⟨ao9,n9,cp9,rfl,hB9,hR9⟩:=RIs.setPath (HB6.out.on hnx) (HR6.out.on hnx) (Zp ho) (by simp at hbl;omega) hbs
        have HB9:=Za hB9;have HR9:=Za hR9
        have HWE:=Za (show bs'.map tl=walked u.sch [tl cs[0]] (l.drop 1)by rw[hwe,HR6.out.usch];rfl)
        have HBT9:=Za (show But rb w (w7.setCell ⟨rb,6,none⟩ (.slice ao9 n9 cp9))from(HBT6.out.then (But.nx hnx)).set 6 _);obtain⟨-,-,-,-,-,-,k6,-⟩:=(HB6.out.on hnx).cells;have f6:=(HB6.out.on hnx).free 6;clear ho hwe hbl hbs hbel hnx hB9 hR9;go_wp2;go_ret
        exact⟨by rw[HE.out];rfl,⟨_,bs',HB9.out,by rw[HE.out];have h:=HR9.out;rw[HWE.out]at h;exact h⟩,HBT9.out⟩
    ·have HE:=Za (show Zbq u l (some base)=({ u with his:=base.his,htx:=base.htx,path:=walked u.sch [] (l.drop 1) },0)by rw[HD1.out];simp)
     clear HD1;go_wp2_with fail
     refine(Zs rb R.sch (.slice none 0 0) [] _ (l.drop 1) w5.heap.size _ HB5.out.sch (Xb _) (ZL _ _) (by simp) (by simp) HDR5.out (by rw[Xa];omega) HPD.out).mono ?_
     rintro e w6 ⟨v',bs',rfl,ho,hwe,hbl,hbs,hbel,-⟩;have hnx:Nx w5 w6:=hbel
     obtain⟨ao9,n9,cp9,rfl,hB9,hR9⟩:=RIs.setPath (HB5.out.on hnx) (HR5.out.on hnx) (Zp ho) (by simp at hbl;omega) hbs
     have HB9:=Za hB9;have HR9:=Za hR9
     have HWE:=Za (show bs'.map tl=walked u.sch [] (l.drop 1)by rw[hwe,HR5.out.usch];rfl)
     have HBT9:=Za (show But rb w (w6.setCell ⟨rb,6,none⟩ (.slice ao9 n9 cp9))from(HBT5.out.then (But.nx hnx)).set 6 _);obtain⟨-,-,-,-,-,-,k6,-⟩:=(HB5.out.on hnx).cells;have f6:=(HB5.out.on hnx).free 6;clear ho hwe hbl hbs hbel hnx hB9 hR9;go_wp2;go_ret
     exact⟨by rw[HE.out];rfl,⟨_,bs',HB9.out,by rw[HE.out];have h:=HR9.out;rw[HWE.out]at h;exact h⟩,HBT9.out⟩
   ·have HDR:=Za hdr
    clear hdr;go_wp2_with fail
    refine(Zco _ (l.drop 1) _ HDR.out).mono ?_
    rintro e w4 ⟨rfl,hn4⟩;have HB4:=Za (HB3.out.on hn4);have HR4:=Za (HR3.out.on hn4);have HDR4:=Za (HDR.out.on hn4);have HBT4:=Za (HBT3.out.then (But.nx hn4));have HQ4:=Za (HQ3.out.on hn4);have HQR4:=Za (HQR3.out.on hn4);clear hn4 HB3 HR3 HDR HBT3 HQ3 HQR3;obtain⟨c0,c1,c2,c3,c4,c5,c6,c7,c8,c9,c10,c11,c12⟩:=HB4.out.cells;obtain⟨d0,d1,d2,d3,d4,d5,d6,d7,d8,d9,d10,d11,d12⟩:=HQ4.out.cells;have f3:=HB4.out.free 3;have f4:=HB4.out.free 4;have d4':(w4.setCell ⟨rb,3,none⟩ (.bool Q.his)).cell? ⟨qb,4,none⟩=some (.string Q.htx):=(HQ4.out.but ((But.refl rb w4).set 3 (.bool Q.his)) hne).cells.2.2.2.2.1;generalize hdv:driven (l.drop 1)=dv at *;have HDV:=Za hdv;clear hdv;go_upto_region 18 with fail;obtain⟨hB5,hR5⟩:=RIs.setHost HB4.out HR4.out Q.his Q.htx;have hbt5:But rb w4 ((w4.setCell ⟨rb,3,none⟩ (.bool Q.his)).setCell ⟨rb,4,none⟩ (.string Q.htx)):=((But.refl rb w4).set 3 _).set 4 _;have HB5:=Za hB5
    have HR5:=Za (show RIs _ _ { u with his:=base.his,htx:=base.htx } bs by rw[←HQR.out.eq];exact hR5)
    have HBT5:=Za (HBT4.out.then hbt5);have hkp5:=hbt5.kp HB4.out;have HQ5:=Za (HQ4.out.but hbt5 hne);have HQR5:=Za (HQR4.out.kp hkp5)
    have HDR5:=Za (HDR4.out.kp hkp5 (by decide))
    clear c0 c1 c2 c3 c4 c5 c6 c7 c8 c9 c10 c11 c12 d0 d1 d2 d3 d4 d5 d6 d7 d8 d9 d10 d11 d12 f3 f4 d4' hbt5 hkp5 hB5 hR5;generalize ((w4.setCell ⟨rb,3,none⟩ (.bool Q.his)).setCell ⟨rb,4,none⟩ (.string Q.htx))=w5 at *;have e6:=HQ5.out.cells.2.2.2.2.2.2.1
    cases dv
    ·have HD2:=Za (show Zbq u l (some base)=({ u with his:=base.his,htx:=base.htx,path:=walked u.sch (if base.path≠[]∧drive (base.path.headD [])=true then [base.path.headD []]else []) (l.drop 1) },0)by rw[HD1.out];simp)
     clear HD1;rcases HQR5.out.seg' with⟨e1,e2,e3,e4⟩|⟨b2,off2,e1,e2,hlc2,hcap2,hrow2⟩
     ·rw[e1,e2,e3]at e6
      have HE:=Za (show Zbq u l (some base)=({ u with his:=base.his,htx:=base.htx,path:=walked u.sch [] (l.drop 1) },0)by rw[HD2.out,if_neg (fun x=>x.1 (by rw[HBP.out,e4];rfl))])
      clear e1 e2 e3 HD2;go_wp2_with fail
      refine(Zs rb R.sch (.slice none 0 0) [] _ (l.drop 1) w5.heap.size _ HB5.out.sch (Xb _) (ZL _ _) (by simp) (by simp) HDR5.out (by rw[Xa];omega) HPD.out).mono ?_
      rintro e w6 ⟨v',bs',rfl,ho,hwe,hbl,hbs,hbel,-⟩;have hnx:Nx w5 w6:=hbel
      obtain⟨ao9,n9,cp9,rfl,hB9,hR9⟩:=RIs.setPath (HB5.out.on hnx) (HR5.out.on hnx) (Zp ho) (by simp at hbl;omega) hbs
      have HB9:=Za hB9;have HR9:=Za hR9
      have HWE:=Za (show bs'.map tl=walked u.sch [] (l.drop 1)by rw[hwe,HR5.out.usch];rfl)
      have HBT9:=Za (show But rb w (w6.setCell ⟨rb,6,none⟩ (.slice ao9 n9 cp9))from(HBT5.out.then (But.nx hnx)).set 6 _);obtain⟨-,-,-,-,-,-,k6,-⟩:=(HB5.out.on hnx).cells;have f6:=(HB5.out.on hnx).free 6;clear ho hwe hbl hbs hbel hnx hB9 hR9;go_wp2;go_ret
      exact⟨by rw[HE.out];rfl,⟨_,bs',HB9.out,by rw[HE.out];have h:=HR9.out;rw[HWE.out]at h;exact h⟩,HBT9.out⟩
     ·rw[e1,e2]at e6
      clear e1 e2;unfold maxLen at hcap2;rcases Xf cs.length with hz|hpos
      ·have hz':((cs.length:Int) > 0)↔False:=by rw[hz];simp
       have hz2:decide (0<(cs.length:Int))=false:=by rw[hz];rfl
       have hz3:¬(0<(cs.length:Int)):=by omega
       have HE:=Za (show Zbq u l (some base)=({ u with his:=base.his,htx:=base.htx,path:=walked u.sch [] (l.drop 1) },0)by rw[HD2.out,if_neg (fun x=>x.1 (by rw[HBP.out,Xc hz];rfl))])
       clear HD2 hrow2 hz hz';go_wp2_with fail
       refine(Zs rb R.sch (.slice none 0 0) [] _ (l.drop 1) w5.heap.size _ HB5.out.sch (Xb _) (ZL _ _) (by simp) (by simp) HDR5.out (by rw[Xa];omega) HPD.out).mono ?_
       rintro e w6 ⟨v',bs',rfl,ho,hwe,hbl,hbs,hbel,-⟩;have hnx:Nx w5 w6:=hbel
       obtain⟨ao9,n9,cp9,rfl,hB9,hR9⟩:=RIs.setPath (HB5.out.on hnx) (HR5.out.on hnx) (Zp ho) (by simp at hbl;omega) hbs
       have HB9:=Za hB9;have HR9:=Za hR9
       have HWE:=Za (show bs'.map tl=walked u.sch [] (l.drop 1)by rw[hwe,HR5.out.usch];rfl)
       have HBT9:=Za (show But rb w (w6.setCell ⟨rb,6,none⟩ (.slice ao9 n9 cp9))from(HBT5.out.then (But.nx hnx)).set 6 _);obtain⟨-,-,-,-,-,-,k6,-⟩:=(HB5.out.on hnx).cells;have f6:=(HB5.out.on hnx).free 6;clear ho hwe hbl hbs hbel hnx hB9 hR9;go_wp2;go_ret
       exact⟨by rw[HE.out];rfl,⟨_,bs',HB9.out,by rw[HE.out];have h:=HR9.out;rw[HWE.out]at h;exact h⟩,HBT9.out⟩
      ·have cc:=hrow2.cell hpos
       rw[Xg]at cc;have hsz0:cs[0].size≤1000000:=HQR5.out.lseg _ (Xj hpos);have HRW:=Za hrow2
       have HD3:=Za (show Zbq u l (some base)=({ u with his:=base.his,htx:=base.htx,path:=walked u.sch (if drive (tl cs[0])=true then [tl cs[0]]else []) (l.drop 1) },0)by
        rw[HD2.out,HBP.out,ZoV cs hpos]
        have hn0:cs.map tl≠[]:=fun e=>by have:=congrArg List.length e;rw[Xd,Xe]at this;omega
        simp[hn0])
       clear HD2 hrow2;go_wp2_with fail
       refine(Zfe cs[0] _ hsz0).mono ?_
       rintro e w6 ⟨rfl,hn6⟩;have HB6:=Za (HB5.out.on hn6);have HR6:=Za (HR5.out.on hn6);have HBT6:=Za (HBT5.out.then (But.nx hn6));have HDR6:=Za (HDR5.out.on hn6)
       have e7:w6.cell? ⟨qb,6,none⟩=some (.slice (some ⟨b2,off2,none⟩) cs.length Q.pc):=by have h:=(HQ5.out.on hn6).cells.2.2.2.2.2.2.1;have h0:=HQ5.out.cells.2.2.2.2.2.2.1;rw[h0]at e6;rw[h];exact e6
       have cc6:=(HRW.out.on hn6).cell hpos;rw[Xg]at cc6;clear hn6 cc e6 HB5 HR5 HBT5 HDR5
       cases hdr0:drive (tl cs[0])
       ·have HE:=Za (HD3.out.trans (by rw[hdr0,if_neg (by decide)]))
        clear HD3 hdr0;go_wp2_with fail
        refine(Zs rb R.sch (.slice none 0 0) [] _ (l.drop 1) w6.heap.size _ HB6.out.sch (Xb _) (ZL _ _) (by simp) (by simp) HDR6.out (by rw[Xa];omega) HPD.out).mono ?_
        rintro e w7 ⟨v',bs',rfl,ho,hwe,hbl,hbs,hbel,-⟩;have hnx:Nx w6 w7:=hbel
        obtain⟨ao9,n9,cp9,rfl,hB9,hR9⟩:=RIs.setPath (HB6.out.on hnx) (HR6.out.on hnx) (Zp ho) (by simp at hbl;omega) hbs
        have HB9:=Za hB9;have HR9:=Za hR9
        have HWE:=Za (show bs'.map tl=walked u.sch [] (l.drop 1)by rw[hwe,HR6.out.usch];rfl)
        have HBT9:=Za (show But rb w (w7.setCell ⟨rb,6,none⟩ (.slice ao9 n9 cp9))from(HBT6.out.then (But.nx hnx)).set 6 _);obtain⟨-,-,-,-,-,-,k6,-⟩:=(HB6.out.on hnx).cells;have f6:=(HB6.out.on hnx).free 6;clear ho hwe hbl hbs hbel hnx hB9 hR9;go_wp2;go_ret
        exact⟨by rw[HE.out];rfl,⟨_,bs',HB9.out,by rw[HE.out];have h:=HR9.out;rw[HWE.out]at h;exact h⟩,HBT9.out⟩
       ·have HE:=Za (HD3.out.trans (by rw[hdr0,if_pos rfl]))
        clear HD3 hdr0;go_wp2_with fail
        refine(Zs rb R.sch _ [cs[0]] _ (l.drop 1) w6.heap.size _ (HB6.out.on (Nx.rfl.alloc _)).sch (by simp) (Zkr w6 cs[0]) (by intro x hx;rw[Xi]at hx;subst hx;exact hsz0) (by simp) (HDR6.out.on (Nx.rfl.alloc _)) (by rw[Xa];omega) HPD.out).mono ?_
        rintro e w7 ⟨v',bs',rfl,ho,hwe,hbl,hbs,hbel,-⟩;have hnx:Nx w6 w7:=(show Nx w6 _ from Nx.rfl.alloc _).trans hbel
        obtain⟨ao9,n9,cp9,rfl,hB9,hR9⟩:=RIs.setPath (HB6.out.on hnx) (HR6.out.on hnx) (Zp ho) (by simp at hbl;omega) hbs
        have HB9:=Za hB9;have HR9:=Za hR9
        have HWE:=Za (show bs'.map tl=walked u.sch [tl cs[0]] (l.drop 1)by rw[hwe,HR6.out.usch];rfl)
        have HBT9:=Za (show But rb w (w7.setCell ⟨rb,6,none⟩ (.slice ao9 n9 cp9))from(HBT6.out.then (But.nx hnx)).set 6 _);obtain⟨-,-,-,-,-,-,k6,-⟩:=(HB6.out.on hnx).cells;have f6:=(HB6.out.on hnx).free 6;clear ho hwe hbl hbs hbel hnx hB9 hR9;go_wp2;go_ret
        exact⟨by rw[HE.out];rfl,⟨_,bs',HB9.out,by rw[HE.out];have h:=HR9.out;rw[HWE.out]at h;exact h⟩,HBT9.out⟩
    ·have HE:=Za (show Zbq u l (some base)=({ u with his:=base.his,htx:=base.htx,path:=walked u.sch [] (l.drop 1) },0)by rw[HD1.out];simp)
     clear HD1;go_wp2_with fail
     refine(Zs rb R.sch (.slice none 0 0) [] _ (l.drop 1) w5.heap.size _ HB5.out.sch (Xb _) (ZL _ _) (by simp) (by simp) HDR5.out (by rw[Xa];omega) HPD.out).mono ?_
     rintro e w6 ⟨v',bs',rfl,ho,hwe,hbl,hbs,hbel,-⟩;have hnx:Nx w5 w6:=hbel
     obtain⟨ao9,n9,cp9,rfl,hB9,hR9⟩:=RIs.setPath (HB5.out.on hnx) (HR5.out.on hnx) (Zp ho) (by simp at hbl;omega) hbs
     have HB9:=Za hB9;have HR9:=Za hR9
     have HWE:=Za (show bs'.map tl=walked u.sch [] (l.drop 1)by rw[hwe,HR5.out.usch];rfl)
     have HBT9:=Za (show But rb w (w6.setCell ⟨rb,6,none⟩ (.slice ao9 n9 cp9))from(HBT5.out.then (But.nx hnx)).set 6 _);obtain⟨-,-,-,-,-,-,k6,-⟩:=(HB5.out.on hnx).cells;have f6:=(HB5.out.on hnx).free 6;clear ho hwe hbl hbs hbel hnx hB9 hR9;go_wp2;go_ret
     exact⟨by rw[HE.out];rfl,⟨_,bs',HB9.out,by rw[HE.out];have h:=HR9.out;rw[HWE.out]at h;exact h⟩,HBT9.out⟩
  ·have hl2:1<l.length:=HL1.out h1
   have HE:=Za (HD.out.trans (if_pos (by rw[h0,h1];rfl)))
   obtain⟨b,off,cap,he,hlc,hcap,hrow⟩:=HV3.out.open_ (k:=0) (by omega)
   simp only[Value.slice.injEq]at he;obtain⟨rfl,-,rfl⟩:=he
   have HPD:=Za (fun c (hc:c∈l.drop 2)=>HP.out c (Xh hc))
   have hsd:=ZbB hrow hlc hcap 2 (by omega)
   unfold maxLen at hcap;clear HD h0 h1 hrow HV3;rcases hsd with⟨hc1,hdr⟩|⟨hc1,hdr⟩
   ·subst hc1
    have HDR:=Za hdr;clear hdr;go_wp2_with fail
    refine(ZbA rb _ _ bs _ (l.drop 2) _ HB3.out HR3.out HDR.out (by rw[Xa];omega) HPD.out).mono ?_
    rintro e w4 ⟨rfl,hx,hbt⟩;have HX:=Za hx;have HBT4:=Za (HBT3.out.then hbt);clear hx hbt;go_wp2;go_ret
    exact⟨by rw[HE.out];rfl,by rw[HE.out];exact HX.out,HBT4.out⟩
   ·have HDR:=Za hdr
    clear hdr;go_wp2_with fail
    refine(ZbA rb _ _ bs _ (l.drop 2) _ HB3.out HR3.out HDR.out (by rw[Xa];omega) HPD.out).mono ?_
    rintro e w4 ⟨rfl,hx,hbt⟩;have HX:=Za hx;have HBT4:=Za (HBT3.out.then hbt);clear hx hbt;go_wp2;go_ret
    exact⟨by rw[HE.out];rfl,by rw[HE.out];exact HX.out,HBT4.out⟩
end Go.Proofs.YtchkhibgbnhjpabGreatDoor
