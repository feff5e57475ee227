import Derived.Test.YtchkhibgbnhjpabGreatDoorB29
open List renaming length_drop→Xa,mem_of_mem_drop→Xb,getElem_cons_zero→Xc,getElem_cons_succ→Xd,eq_nil_of_length_eq_zero→Xf,length_map→Xg
open Nat renaming add_zero→Xe,le_refl→Xh,eq_zero_or_pos→Xi
namespace Go.Proofs.YtchkhibgbnhjpabGreatDoor
open Go.RowKit
set_option maxHeartbeats 8000000
set_option maxRecDepth 8000
def BaseIs(w:World)(rb:Nat)(bv:Value)(ob:Option RU):Prop:=
 (ob=none∧bv=.pointer none)∨∃qb Q b cs,ob=some b∧bv=.pointer (some ⟨qb,0,none⟩)∧RB w qb Q∧RIs w Q b cs∧qb≠rb∧cs.length≤70000
def ZiZ(ob:Option RU):Option RU:=match ob with|some b=>if b.sch=Zx then some b else none|none=>none
theorem ZuG(rb:Nat)(R:RR)(u:RU)(bs:LA)(v bv:Value)(l:LI)(ob:Option RU)(w:World)(h:RB w rb R)(hr:RIs w R u bs)(hv:IntsAt w v l)(hl:l.length≤20000)(hp:∀c∈l,Pt c)(hb:BaseIs w rb bv ob):Calls Tryz.prog 232 #[.pointer (some ⟨rb,0,none⟩),v,bv] w fun e w'=>Znq e w w' rb (Zbq u l (ZiZ ob)):=by
 rcases hb with⟨rfl,rfl⟩|⟨qb,Q,b,cs,rfl,rfl,hq,hqr,hne,hcl⟩
 ·exact ZoU rb R u bs v _ l w h hr hv hl hp (Or.inl rfl)
 ·by_cases hf:b.sch=Zx
  ·rw[show ZiZ (some b)=some b from if_pos hf]
   exact Zss rb qb R Q u b bs cs v l w h hr hq hqr hne (by rw[hqr.usch];exact hf) hv hl hcl hp
  ·rw[show ZiZ (some b)=none from if_neg hf]
   exact ZoU rb R u bs v _ l w h hr hv hl hp (Or.inr ⟨qb,Q,rfl,hq,by rw[hqr.usch];exact hf⟩)
def Zl0(u b:RU):RU:={ u with user:=b.user,pass:=b.pass,his:=b.his,htx:=b.htx,port:=b.port }
def ZdB(u:RU)(l:List Int)(b:RU):RU×Int:=
 if(Zn l 0 u.sch&&Zn l 1 u.sch)=true then Zas u (l.drop 2)
 else if Zn l 0 u.sch=true then({ Zl0 u b with path:=walked u.sch [] (l.drop 1) },0)
 else if l=[]then(ZgR (Zl0 u b) b,0)else({ Zl0 u b with path:=walked u.sch (ZaR u.sch b.path) l },0)
theorem ZoW(rb:Nat)(R:RR)(u:RU)(bs:LA)(v bv:Value)(l:LI)(ob:Option RU)(w:World)(h:RB w rb R)(hr:RIs w R u bs)(hv:IntsAt w v l)(hl:l.length≤20000)(hp:∀c∈l,Pt c)(hb:BaseIs w rb bv ob)(hf:u.sch=Zx):Calls Tryz.prog 200 #[.pointer (some ⟨rb,0,none⟩),v,bv] w fun e w'=>Znq e w w' rb (Zbq u l (ZiZ ob)):=by
 have HF:=Za (ZuG rb R u bs v bv l ob w h hr hv hl hp hb)
 have hfb:=eqB (s:=R.sch) (l:=[102,105,108,101]) (by rw[hr.usch,hf];rfl)
 have c0:=h.cells.1;clear h hr hv hp hb hf
 go_enter Tryz.func200,Tryz.ntmps200
 go_wp2_with fail
 refine HF.out.mono ?_
 rintro e w1 ⟨rfl,hx,hbt⟩;have HX:=Za hx;have HBT:=Za hbt;clear hx hbt;go_wp2;go_ret;exact⟨rfl,HX.out,HBT.out⟩
theorem RIs.heir{w:World}{rb:Nat}{R Q:RR}{u b:RU}{bs cs:LA}(hB:RB w rb R)(hR:RIs w R u bs)(hQ:RIs w Q b cs):
  RB (((((w.setCell ⟨rb,1,none⟩ (.string Q.user)).setCell ⟨rb,2,none⟩ (.string Q.pass)).setCell ⟨rb,3,none⟩ (.bool Q.his)).setCell ⟨rb,4,none⟩ (.string Q.htx)).setCell ⟨rb,5,none⟩ (.int .i64 Q.port)) rb { R with user:=Q.user,pass:=Q.pass,his:=Q.his,htx:=Q.htx,port:=Q.port } ∧
  RIs (((((w.setCell ⟨rb,1,none⟩ (.string Q.user)).setCell ⟨rb,2,none⟩ (.string Q.pass)).setCell ⟨rb,3,none⟩ (.bool Q.his)).setCell ⟨rb,4,none⟩ (.string Q.htx)).setCell ⟨rb,5,none⟩ (.int .i64 Q.port)) { R with user:=Q.user,pass:=Q.pass,his:=Q.his,htx:=Q.htx,port:=Q.port } (Zl0 u b) bs ∧
  But rb w (((((w.setCell ⟨rb,1,none⟩ (.string Q.user)).setCell ⟨rb,2,none⟩ (.string Q.pass)).setCell ⟨rb,3,none⟩ (.bool Q.his)).setCell ⟨rb,4,none⟩ (.string Q.htx)).setCell ⟨rb,5,none⟩ (.int .i64 Q.port)):=by
 have hbt:But rb w (((((w.setCell ⟨rb,1,none⟩ (.string Q.user)).setCell ⟨rb,2,none⟩ (.string Q.pass)).setCell ⟨rb,3,none⟩ (.bool Q.his)).setCell ⟨rb,4,none⟩ (.string Q.htx)).setCell ⟨rb,5,none⟩ (.int .i64 Q.port)):=((((((But.refl rb w).set 1 _).set 2 _).set 3 _).set 4 _).set 5 _)
 refine⟨((((hB.s1 _).s2 _).s3 _).s4 _).s5 _,{ hR.kp (hbt.kp hB)with eq:=?_ },hbt⟩
 rw[←hR.eq,←hQ.eq]
 rfl
theorem Zl1(rb qb:Nat)(R Q:RR)(u b:RU)(bs cs:LA)(v:Value)(l:LI)(w:World)(h:RB w rb R)(hr:RIs w R u bs)(hq:RB w qb Q)(hqr:RIs w Q b cs)(hne:qb≠rb)(hf:u.sch≠Zx)(hv:IntsAt w v l)(hl:l.length≤20000)(hcl:cs.length≤70000)(hp:∀c∈l,Pt c):Calls Tryz.prog 200 #[.pointer (some ⟨rb,0,none⟩),v,.pointer (some ⟨qb,0,none⟩)] w fun e w'=>Znq e w w' rb (ZdB u l b):=by
 have HBP:=Za (show b.path=cs.map tl by rw[←hqr.eq];rfl)
 have HD:=Za (show ZdB u l b=if(Zn l 0 (tl R.sch)&&Zn l 1 (tl R.sch))=true then Zas u (l.drop 2)else if Zn l 0 (tl R.sch)=true then({ Zl0 u b with path:=walked u.sch [] (l.drop 1) },0)else if l=[]then(ZgR (Zl0 u b) b,0)else({ Zl0 u b with path:=walked u.sch (ZaR u.sch b.path) l },0)by rw[hr.usch];rfl)
 have HBI:=Za hr;have HB:=Za h;have HQ:=Za hq;have HQR:=Za hqr;have HP:=Za hp;have HV:=Za hv
 have hfb:=neB (s:=R.sch) (l:=[102,105,108,101]) (by rw[hr.usch];exact hf)
 have c0:=h.cells.1;clear h hr hq hqr hf hp;obtain⟨vo,vcap,hve,-⟩:=hv;subst hve
 go_enter Tryz.func200,Tryz.ntmps200
 go_wp2_with fail
 refine(ZaF _ l 0 R.sch _ HV.out).mono ?_
 rintro e w2 ⟨rfl,hn2⟩;have HN2:=Za hn2;have c02:=(HB.out.on hn2).cells.1;clear hn2 c0;go_wp2_with fail
 refine(ZaF _ l 1 R.sch _ (HV.out.on HN2.out)).mono ?_
 rintro e w3 ⟨rfl,hn3⟩;have HN3:=Za (HN2.out.then hn3);have HB3:=Za (HB.out.on HN3.out);have HR3:=Za (HBI.out.on HN3.out);have HV3:=Za (HV.out.on HN3.out);have HBT3:=Za (show But rb w w3 from But.nx HN3.out);have HQ3:=Za (HQ.out.on HN3.out);have HQR3:=Za (HQR.out.on HN3.out)
 have HL0:=Za (fun(x:Zn l 0 (tl R.sch)=true)=>ZbU x)
 have HL1:=Za (fun(x:Zn l 1 (tl R.sch)=true)=>ZbU x)
 clear hn3 HN2 c02
 cases h0:Zn l 0 (tl R.sch)
 ·have HD1:=Za (HD.out.trans ((if_neg (by simp[h0])).trans (if_neg (by simp[h0]))))
  clear HD h0
  cases h1:Zn l 1 (tl R.sch)
  all_goals clear h1
  all_goals
   obtain⟨c0,c1,c2,c3,c4,c5,c6,c7,c8,c9,c10,c11,c12⟩:=HB3.out.cells;obtain⟨d0,d1,d2,d3,d4,d5,d6,d7,d8,d9,d10,d11,d12⟩:=HQ3.out.cells;have f1:=HB3.out.free 1;have f2:=HB3.out.free 2;have f3:=HB3.out.free 3;have f4:=HB3.out.free 4;have f5:=HB3.out.free 5;have g2:(w3.setCell ⟨rb,1,none⟩ (.string Q.user)).cell? ⟨qb,2,none⟩=some (.string Q.pass):=(HQ3.out.but ((But.refl rb w3).set 1 (.string Q.user)) hne).cells.2.2.1;have g3:=(HQ3.out.but (((But.refl rb w3).set 1 (.string Q.user)).set 2 (.string Q.pass)) hne).cells.2.2.2.1;have g4:=(HQ3.out.but (((But.refl rb w3).set 1 (.string Q.user)).set 2 (.string Q.pass)) hne).cells.2.2.2.2.1;have g4':=(HQ3.out.but ((((But.refl rb w3).set 1 (.string Q.user)).set 2 (.string Q.pass)).set 3 (.bool Q.his)) hne).cells.2.2.2.2.1;have g5:=(HQ3.out.but (((((But.refl rb w3).set 1 (.string Q.user)).set 2 (.string Q.pass)).set 3 (.bool Q.his)).set 4 (.string Q.htx)) hne).cells.2.2.2.2.2.1;obtain⟨hB5,hR5,hbt5⟩:=RIs.heir HB3.out HR3.out HQR3.out;have hkp5:=hbt5.kp HB3.out;have HB5:=Za hB5;have HR5:=Za hR5;have HBT5:=Za (HBT3.out.then hbt5)
   have HV5:=Za (HV3.out.kp hkp5 (by decide))
   have HQ5:=Za (HQ3.out.but hbt5 hne);have HQR5:=Za (HQR3.out.kp hkp5);clear hB5 hR5 hbt5 hkp5;go_upto_region 13 with fail;clear c0 c1 c2 c3 c4 c5 c6 c7 c8 c9 c10 c11 c12 d0 d1 d2 d3 d4 d5 d6 d7 d8 d9 d10 d11 d12 f1 f2 f3 f4 f5 g2 g3 g4 g4' g5;generalize (((((w3.setCell ⟨rb,1,none⟩ (.string Q.user)).setCell ⟨rb,2,none⟩ (.string Q.pass)).setCell ⟨rb,3,none⟩ (.bool Q.his)).setCell ⟨rb,4,none⟩ (.string Q.htx)).setCell ⟨rb,5,none⟩ (.int .i64 Q.port))=w5 at *;rcases Xi l.length with hz|hpos
   ·have HE:=Za (HD1.out.trans (if_pos (Xf hz)))
    have hz':((l.length:Int)==0)=true:=by rw[hz];rfl
    clear HD1 hz;go_wp2_with fail
    refine(ZlZ rb qb _ Q _ b bs cs _ HB5.out HR5.out HQ5.out HQR5.out hne).mono ?_
    rintro e w6 ⟨rfl,⟨R6,hB6,hR6⟩,hbt6⟩;have HB6:=Za hB6;have HR6:=Za hR6;have HBT6:=Za (HBT5.out.then hbt6);clear hB6 hR6 hbt6;go_wp2;go_ret
    exact⟨by rw[HE.out];rfl,⟨_,cs,HB6.out,by rw[HE.out];exact HR6.out⟩,HBT6.out⟩
   ·have HE:=Za (HD1.out.trans (if_neg (fun e=>by rw[e]at hpos;simp at hpos)))
    have hz':((l.length:Int)==0)=false:=beq_eq_false_iff_ne.2 (by omega)
    clear HD1 hpos;have e6:=HQ5.out.cells.2.2.2.2.2.2.1;go_wp2_with fail
    refine(Zep rb R.sch _ cs _ HB5.out.cells.1 HQR5.out.seg HQR5.out.lseg (by omega)).mono ?_
    rintro e w7 ⟨v6,rfl,ho6,hn6⟩;have HN57:=Za hn6;have HB7:=Za (HB5.out.on hn6);have HV7:=Za (HV5.out.on hn6);have HO7:=Za ho6;have hw7:w5.heap.size≤w7.heap.size:=hn6.size;clear ho6 hn6 e6;have HSM:=Za (Zcn (tl R.sch) cs)
    have hsl:(shorter (tl R.sch) cs).length≤70000:=by
     have:=congrArg List.length HSM.out;rw[Xg]at this;rw[this];unfold ZaR
     split
     ·rw[Xg];exact hcl
     ·rw[List.length_dropLast,Xg];omega
    have HSS:=Za (show ∀x∈shorter (tl R.sch) cs,x.size≤1000000 from fun x hx=>HQR.out.lseg x (by
     unfold shorter at hx
     split at hx
     ·exact hx
     ·exact(List.dropLast_sublist cs).subset hx))
    go_wp2_with fail
    refine(Zs rb R.sch v6 (shorter (tl R.sch) cs) _ l w5.heap.size _ HB7.out.sch hw7 HO7.out HSS.out (by omega) HV7.out (by omega) HP.out).mono ?_
    rintro e w8 ⟨v',bs',rfl,ho,hwe,hbl,hbs,hbel,-⟩;have hnx:Nx w5 w8:=HN57.out.trans hbel
    obtain⟨ao9,n9,cp9,rfl,hB9,hR9⟩:=RIs.setPath (HB5.out.on hnx) (HR5.out.on hnx) (Zp ho) (by first|(simp only[List.length_nil]at hbl;omega)|omega) hbs
    have HB9:=Za hB9;have HR9:=Za hR9
    have HWE:=Za (show bs'.map tl=walked u.sch (ZaR u.sch b.path) l by rw[hwe,HR5.out.usch];rw[Zcn,HBP.out];rfl)
    have HBT9:=Za (show But rb w (w8.setCell ⟨rb,6,none⟩ (.slice ao9 n9 cp9))from(HBT5.out.then (But.nx hnx)).set 6 _);obtain⟨-,-,-,-,-,-,k6,-⟩:=(HB5.out.on hnx).cells;have f6:=(HB5.out.on hnx).free 6;clear ho hwe hbl hbs hbel hnx hB9 hR9;go_wp2;go_ret
    exact⟨by rw[HE.out];rfl,⟨_,bs',HB9.out,by rw[HE.out];have h:=HR9.out;rw[HWE.out]at h;exact h⟩,HBT9.out⟩
 ·cases h1:Zn l 1 (tl R.sch)
  ·have HE:=Za (HD.out.trans ((if_neg (by simp[h0,h1])).trans (if_pos h0)))
   have hl1:0<l.length:=HL0.out h0
   have HPD:=Za (fun c (hc:c∈l.drop 1)=>HP.out c (Xb hc))
   clear HD h0 h1;obtain⟨c0,c1,c2,c3,c4,c5,c6,c7,c8,c9,c10,c11,c12⟩:=HB3.out.cells;obtain⟨d0,d1,d2,d3,d4,d5,d6,d7,d8,d9,d10,d11,d12⟩:=HQ3.out.cells;have f1:=HB3.out.free 1;have f2:=HB3.out.free 2;have f3:=HB3.out.free 3;have f4:=HB3.out.free 4;have f5:=HB3.out.free 5;have g2:(w3.setCell ⟨rb,1,none⟩ (.string Q.user)).cell? ⟨qb,2,none⟩=some (.string Q.pass):=(HQ3.out.but ((But.refl rb w3).set 1 (.string Q.user)) hne).cells.2.2.1;have g3:=(HQ3.out.but (((But.refl rb w3).set 1 (.string Q.user)).set 2 (.string Q.pass)) hne).cells.2.2.2.1;have g4:=(HQ3.out.but (((But.refl rb w3).set 1 (.string Q.user)).set 2 (.string Q.pass)) hne).cells.2.2.2.2.1;have g4':=(HQ3.out.but ((((But.refl rb w3).set 1 (.string Q.user)).set 2 (.string Q.pass)).set 3 (.bool Q.his)) hne).cells.2.2.2.2.1;have g5:=(HQ3.out.but (((((But.refl rb w3).set 1 (.string Q.user)).set 2 (.string Q.pass)).set 3 (.bool Q.his)).set 4 (.string Q.htx)) hne).cells.2.2.2.2.2.1;obtain⟨hB5,hR5,hbt5⟩:=RIs.heir HB3.out HR3.out HQR3.out;have hkp5:=hbt5.kp HB3.out;have HB5:=Za hB5;have HR5:=Za hR5;have HBT5:=Za (HBT3.out.then hbt5)
   have HV5:=Za (HV3.out.kp hkp5 (by decide))
   have HQ5:=Za (HQ3.out.but hbt5 hne);have HQR5:=Za (HQR3.out.kp hkp5);clear hB5 hR5 hbt5 hkp5;go_upto_region 13 with fail;clear c0 c1 c2 c3 c4 c5 c6 c7 c8 c9 c10 c11 c12 d0 d1 d2 d3 d4 d5 d6 d7 d8 d9 d10 d11 d12 f1 f2 f3 f4 f5 g2 g3 g4 g4' g5;generalize (((((w3.setCell ⟨rb,1,none⟩ (.string Q.user)).setCell ⟨rb,2,none⟩ (.string Q.pass)).setCell ⟨rb,3,none⟩ (.bool Q.his)).setCell ⟨rb,4,none⟩ (.string Q.htx)).setCell ⟨rb,5,none⟩ (.int .i64 Q.port))=w5 at *;obtain⟨b1,off,cap,he,hlc,hcap,hrow⟩:=HV5.out.open_ hl1;simp only[Value.slice.injEq]at he;obtain⟨rfl,-,rfl⟩:=he
   have hsd:=ZbB hrow hlc hcap 1 (by omega)
   unfold maxLen at hcap;clear hrow;rcases hsd with⟨hc1,hdr⟩|⟨hc1,hdr⟩
   ·subst hc1
    have HDR5:=Za hdr;clear hdr;go_wp2_with fail
    refine(Zs rb R.sch (.slice none 0 0) [] _ (l.drop 1) w5.heap.size _ HB5.out.sch (Xh _) (ZL _ _) (by simp) (by simp) HDR5.out (by rw[Xa];omega) HPD.out).mono ?_
    rintro e w6 ⟨v',bs',rfl,ho,hwe,hbl,hbs,hbel,-⟩;have hnx:Nx w5 w6:=hbel
    obtain⟨ao9,n9,cp9,rfl,hB9,hR9⟩:=RIs.setPath (HB5.out.on hnx) (HR5.out.on hnx) (Zp ho) (by simp at hbl;omega) hbs
    have HB9:=Za hB9;have HR9:=Za hR9
    have HWE:=Za (show bs'.map tl=walked u.sch [] (l.drop 1)by rw[hwe,HR5.out.usch];rfl)
    have HBT9:=Za (show But rb w (w6.setCell ⟨rb,6,none⟩ (.slice ao9 n9 cp9))from(HBT5.out.then (But.nx hnx)).set 6 _);obtain⟨-,-,-,-,-,-,k6,-⟩:=(HB5.out.on hnx).cells;have f6:=(HB5.out.on hnx).free 6;clear ho hwe hbl hbs hbel hnx hB9 hR9;go_wp2;go_ret
    exact⟨by rw[HE.out];rfl,⟨_,bs',HB9.out,by rw[HE.out];have h:=HR9.out;rw[HWE.out]at h;exact h⟩,HBT9.out⟩
   ·have HDR5:=Za hdr
    clear hdr;go_wp2_with fail
    refine(Zs rb R.sch (.slice none 0 0) [] _ (l.drop 1) w5.heap.size _ HB5.out.sch (Xh _) (ZL _ _) (by simp) (by simp) HDR5.out (by rw[Xa];omega) HPD.out).mono ?_
    rintro e w6 ⟨v',bs',rfl,ho,hwe,hbl,hbs,hbel,-⟩;have hnx:Nx w5 w6:=hbel
    obtain⟨ao9,n9,cp9,rfl,hB9,hR9⟩:=RIs.setPath (HB5.out.on hnx) (HR5.out.on hnx) (Zp ho) (by simp at hbl;omega) hbs
    have HB9:=Za hB9;have HR9:=Za hR9
    have HWE:=Za (show bs'.map tl=walked u.sch [] (l.drop 1)by rw[hwe,HR5.out.usch];rfl)
    have HBT9:=Za (show But rb w (w6.setCell ⟨rb,6,none⟩ (.slice ao9 n9 cp9))from(HBT5.out.then (But.nx hnx)).set 6 _);obtain⟨-,-,-,-,-,-,k6,-⟩:=(HB5.out.on hnx).cells;have f6:=(HB5.out.on hnx).free 6;clear ho hwe hbl hbs hbel hnx hB9 hR9;go_wp2;go_ret
    exact⟨by rw[HE.out];rfl,⟨_,bs',HB9.out,by rw[HE.out];have h:=HR9.out;rw[HWE.out]at h;exact h⟩,HBT9.out⟩
  ·have hl2:1<l.length:=HL1.out h1
   have HE:=Za (HD.out.trans (if_pos (by rw[h0,h1];rfl)))
   obtain⟨b1,off,cap,he,hlc,hcap,hrow⟩:=HV3.out.open_ (k:=0) (by omega)
   simp only[Value.slice.injEq]at he;obtain⟨rfl,-,rfl⟩:=he
   have HPD:=Za (fun c (hc:c∈l.drop 2)=>HP.out c (Xb hc))
   have hsd:=ZbB hrow hlc hcap 2 (by omega)
   unfold maxLen at hcap;clear HD h0 h1 hrow HV3;rcases hsd with⟨hc1,hdr⟩|⟨hc1,hdr⟩
   ·subst hc1
    have HDR:=Za hdr;clear hdr;go_wp2_with fail
    refine(ZaV rb R u bs _ (l.drop 2) _ HB3.out HR3.out HDR.out (by rw[Xa];omega) HPD.out).mono ?_
    rintro e w4 ⟨rfl,hx,hbt⟩;have HX:=Za hx;have HBT4:=Za (HBT3.out.then hbt);clear hx hbt;go_wp2;go_ret
    exact⟨by rw[HE.out];rfl,by rw[HE.out];exact HX.out,HBT4.out⟩
   ·have HDR:=Za hdr
    clear hdr;go_wp2_with fail
    refine(ZaV rb R u bs _ (l.drop 2) _ HB3.out HR3.out HDR.out (by rw[Xa];omega) HPD.out).mono ?_
    rintro e w4 ⟨rfl,hx,hbt⟩;have HX:=Za hx;have HBT4:=Za (HBT3.out.then hbt);clear hx hbt;go_wp2;go_ret
    exact⟨by rw[HE.out];rfl,by rw[HE.out];exact HX.out,HBT4.out⟩
theorem Zyb{s t:BA}(h:tl s=tl t):(s.toList==t.toList)=true:=by rw[ByteArray.toList_eq,ByteArray.toList_eq];show(tl s==tl t)=true;rw[h];simp
theorem Zyc{s t:BA}(h:¬tl s=tl t):(s.toList==t.toList)=false:=by rw[ByteArray.toList_eq,ByteArray.toList_eq];show(tl s==tl t)=false;simpa using h
theorem BaseIs.on{w w':World}{rb:Nat}{bv:Value}{ob:Option RU}(h:BaseIs w rb bv ob)(hn:Nx w w'):BaseIs w' rb bv ob:=by
 rcases h with h|⟨qb,Q,b,cs,h1,h2,h3,h4,h5,h6⟩
 ·exact Or.inl h
 ·exact Or.inr ⟨qb,Q,b,cs,h1,h2,h3.on hn,h4.on hn,h5,h6⟩
def ZhK(l:List Int):Bool:=decide (1<l.length)&&l.headD 0==47&&(l.drop 1).headD 0==47
def Zwy(l:List Int):Bool:=decide (0<l.length)&&l.headD 0==47
def Zqa(u:RU)(ob:Option RU):Option RU:=match ob with|some b=>if b.sch=u.sch then some b else none|none=>none
def Zap(u:RU)(l:List Int)(ob:Option RU):RU×Int:=
 if u.sch=Zx then Zbq u l (ZiZ ob)
 else if Ze u.sch=true then
  (match (if ZhK l=true then none else Zqa u ob)with|some b=>ZdB u l b|none=>Zas u l)
 else if ZhK l=true then Zas u (l.drop 2)
 else if Zwy l=true then({ u with path:=walked u.sch [] (l.drop 1) },0)
 else({ u with op:=true,bl:=encoded l [] },0)
theorem ZuH(rb:Nat)(R:RR)(u:RU)(bs:LA)(v bv:Value)(l:LI)(ob:Option RU)(w:World)(h:RB w rb R)(hr:RIs w R u bs)(hv:IntsAt w v l)(hl:l.length≤20000)(hp:∀c∈l,Pt c)(hb:BaseIs w rb bv ob)(hf:u.sch=Zx)(sp:Bool)(hsp:Ze u.sch=sp):Calls Tryz.prog 199 #[.pointer (some ⟨rb,0,none⟩),v,bv] w fun e w'=>Znq e w w' rb (Zap u l ob):=by
 have HUS:=Za hr.usch;have HB:=Za h;have HR:=Za hr;have HV:=Za hv;have HP:=Za hp;have HBB:=Za hb;have c0:=h.cells.1
 have hfb:=eqB (s:=R.sch) (l:=[102,105,108,101]) (by rw[hr.usch,hf];rfl)
 have HE:=Za (show Zap u l ob=Zbq u l (ZiZ ob)from if_pos hf)
 have HRF:=Za (fun w' (hn:Nx w w') (hbb:BaseIs w' rb bv ob)=>ZoW rb R u bs v bv l ob w' (h.on hn) (hr.on hn) (hv.on hn) hl hp hbb hf)
 have HSU:=Za (show Ze (tl R.sch)=sp by rw[hr.usch];exact hsp)
 clear h hr hp hb hf hsp;obtain⟨ao,cap,hve,hlc,hcap,hnone,hsome⟩:=hv;subst hve;unfold maxLen at hcap
 go_enter Tryz.func199,Tryz.ntmps199
 go_wp2_with fail
 refine(ZG R.sch _).mono ?_
 rintro e w1 ⟨rfl,hn1⟩;have HN1:=Za hn1;clear hn1 c0;rw[HSU.out];go_upto_region 2 with fail
 go_cut [8]from 9 (fun x wx=>x=.bool (ZhK l)∧wx=w1)
 case first=>
  match l,hlc,hnone,hsome with
  | [],hlc,hnone,hsome=>
   go_wp2
   go_meet
   case rel=>exact⟨rfl,rfl⟩
  | [a],hlc,hnone,hsome=>
   clear hnone hsome;go_wp2
   go_meet
   case rel=>exact⟨rfl,rfl⟩
  | a::b::r,hlc,hnone,hsome=>
   obtain⟨ad,had⟩:=ZR (k:=0) (show 0<(a::b::r).length by simp) hnone
   subst had;obtain⟨ab,off,rfl,hrow⟩:=hsome ad rfl
   have k0:=((hrow.on HN1.out).cell (i:=0) (by simp))
   have k1:=((hrow.on HN1.out).cell (i:=1) (by simp))
   simp only[Xe,Xc,Xd]at k0 k1
   have HTW:=Za (show ZhK (a::b::r)=(a==47&&b==47)by simp[ZhK])
   clear hnone hsome hrow
   cases ha:(a==47)
   ·go_wp2
    go_meet
    case rel=>exact⟨by rw[HTW.out,ha];rfl,rfl⟩
   ·cases hb:(b==47)
    all_goals go_wp2
    all_goals go_meet
    all_goals exact⟨by rw[HTW.out,ha,hb];rfl,rfl⟩
 case rest=>
  obtain⟨rfl,rfl⟩:=hcut;obtain⟨w2,hw2⟩:∃w2,w2=wc:=⟨_,rfl⟩;subst hw2;have c0:=(HB.out.on HN1.out).cells.1;have HB1:=Za (HB.out.on HN1.out);have HR1:=Za (HR.out.on HN1.out);have HV1:=Za (HV.out.on HN1.out);have HBT1:=Za (show But rb w w2 from But.nx HN1.out);obtain⟨tw,htw⟩:∃tw,tw=ZhK l:=⟨_,rfl⟩;rw[←htw];clear htw hnone hsome;go_wp2_with fail
  refine(HRF.out _ HN1.out (HBB.out.on HN1.out)).mono ?_
  rintro e w4 ⟨rfl,hx,hbt⟩;have HX:=Za hx;have HBT4:=Za (HBT1.out.then hbt);clear hx hbt;go_wp2;go_ret
  exact⟨by rw[HE.out];rfl,by rw[HE.out];exact HX.out,HBT4.out⟩
theorem Zst(rb:Nat)(R:RR)(u:RU)(bs:LA)(v bv:Value)(l:LI)(ob:Option RU)(w:World)(h:RB w rb R)(hr:RIs w R u bs)(hv:IntsAt w v l)(hl:l.length≤20000)(hp:∀c∈l,Pt c)(hb:BaseIs w rb bv ob)(hf:u.sch≠Zx)(hsp:Ze u.sch=false):Calls Tryz.prog 199 #[.pointer (some ⟨rb,0,none⟩),v,bv] w fun e w'=>Znq e w w' rb (Zap u l ob):=by
 have HUS:=Za hr.usch;have HB:=Za h;have HR:=Za hr;have HV:=Za hv;have HP:=Za hp;have HBB:=Za hb;have c0:=h.cells.1
 have hfb:=neB (s:=R.sch) (l:=[102,105,108,101]) (by rw[hr.usch];exact hf)
 have HD:=Za (show Zap u l ob=if ZhK l=true then Zas u (l.drop 2)else if Zwy l=true then({ u with path:=walked u.sch [] (l.drop 1) },0)else({ u with op:=true,bl:=encoded l [] },0)by unfold Zap;rw[if_neg hf,if_neg (by rw[hsp];decide)])
 have HSU:=Za (show Ze (tl R.sch)=false by rw[hr.usch];exact hsp)
 clear h hr hp hb hf hsp;obtain⟨ao,cap,hve,hlc,hcap,hnone,hsome⟩:=hv;subst hve;unfold maxLen at hcap
 go_enter Tryz.func199,Tryz.ntmps199
 go_wp2_with fail
 refine(ZG R.sch _).mono ?_
 rintro e w1 ⟨rfl,hn1⟩;have HN1:=Za hn1;clear hn1 c0;rw[HSU.out];go_upto_region 2 with fail
 go_cut [8]from 9 (fun x wx=>x=.bool (ZhK l)∧wx=w1)
 case first=>
  match l,hlc,hnone,hsome with
  | [],hlc,hnone,hsome=>
   go_wp2
   go_meet
   case rel=>exact⟨rfl,rfl⟩
  | [a],hlc,hnone,hsome=>
   clear hnone hsome;go_wp2
   go_meet
   case rel=>exact⟨rfl,rfl⟩
  | a::b::r,hlc,hnone,hsome=>
   obtain⟨ad,had⟩:=ZR (k:=0) (show 0<(a::b::r).length by simp) hnone
   subst had;obtain⟨ab,off,rfl,hrow⟩:=hsome ad rfl
   have k0:=((hrow.on HN1.out).cell (i:=0) (by simp))
   have k1:=((hrow.on HN1.out).cell (i:=1) (by simp))
   simp only[Xe,Xc,Xd]at k0 k1
   have HTW:=Za (show ZhK (a::b::r)=(a==47&&b==47)by simp[ZhK])
   clear hnone hsome hrow
   cases ha:(a==47)
   ·go_wp2
    go_meet
    case rel=>exact⟨by rw[HTW.out,ha];rfl,rfl⟩
   ·cases hb:(b==47)
    all_goals go_wp2
    all_goals go_meet
    all_goals exact⟨by rw[HTW.out,ha,hb];rfl,rfl⟩
 case rest=>
  obtain⟨rfl,rfl⟩:=hcut;obtain⟨w2,hw2⟩:∃w2,w2=wc:=⟨_,rfl⟩;subst hw2;have c0:=(HB.out.on HN1.out).cells.1;have HB1:=Za (HB.out.on HN1.out);have HR1:=Za (HR.out.on HN1.out);have HV1:=Za (HV.out.on HN1.out);have HBT1:=Za (show But rb w w2 from But.nx HN1.out);obtain⟨tw,htw⟩:∃tw,tw=ZhK l:=⟨_,rfl⟩;rw[←htw];have HTW:=Za htw;clear htw HBB;go_upto_region 7 with fail
  cases tw
  ·have HD1:=Za (HD.out.trans (if_neg (by rw[←HTW.out];decide)))
   clear HD;have HB5:=Za (HB1.out.on (w':=w2.drew) Nx.rfl.drew);have HR5:=Za (HR1.out.on (w':=w2.drew) Nx.rfl.drew);have HV5:=Za (HV1.out.on (w':=w2.drew) Nx.rfl.drew);have HBT5:=Za (show But rb w w2.drew from HBT1.out.drew)
   go_region
   go_upto_region 13 with fail;generalize w2.drew=w5 at *;rcases Xi l.length with hz|hpos
   ·have ho:Zwy l=false:=by rw[Xf hz];rfl
    have hz2:decide (0<(l.length:Int))=false:=by rw[hz];rfl
    have hz3:¬(0<(l.length:Int)):=by omega
    clear hz hnone hsome
    have HE:=Za (HD1.out.trans (if_neg (by rw[ho];decide)))
    clear HD1 ho;obtain⟨k0,k1,k2,k3,k4,k5,k6,k7,k8,k9,k10,k11,k12⟩:=HB5.out.cells;have f7:=HB5.out.free 7;go_upto_region 4 with fail;have HB6:=Za (HB5.out.s7 true);have HBT6:=Za (show But rb w (w5.setCell ⟨rb,7,none⟩ (.bool true))from HBT5.out.set 7 _);have hkp:Kp 130 w5 (w5.setCell ⟨rb,7,none⟩ (.bool true)):=But.kp ((But.refl rb w5).set 7 _) HB5.out
    have HR6:=Za (show RIs (w5.setCell ⟨rb,7,none⟩ (.bool true)) { R with op:=true } { u with op:=true } bs from { HR5.out.kp hkp with eq:=by rw[←HR5.out.eq];rfl })
    have HV6:=Za (HV5.out.kp hkp (by decide))
    clear k0 k1 k2 k3 k4 k5 k6 k7 k8 k9 k10 k11 k12 f7 hkp;generalize (w5.setCell ⟨rb,7,none⟩ (.bool true))=w6 at *;go_wp2_with fail
    refine(ZO _ l ⟨#[]⟩ _ HV6.out (Zf (by decide)) (by omega) HP.out).mono ?_
    rintro e w7 ⟨t,rfl,ht,hn7⟩;have HT:=Za (show tl t=encoded l []from ht);have HB7:=Za (HB6.out.on hn7);have HR7:=Za (HR6.out.on hn7);have HBT7:=Za (HBT6.out.then (But.nx hn7));clear ht hn7;obtain⟨k0,k1,k2,k3,k4,k5,k6,k7,k8,k9,k10,k11,k12⟩:=HB7.out.cells;have f8:=HB7.out.free 8;have HB8:=Za (HB7.out.s8 t);have HBT8:=Za (show But rb w (w7.setCell ⟨rb,8,none⟩ (.string t))from HBT7.out.set 8 _);have hkp:Kp 130 w7 (w7.setCell ⟨rb,8,none⟩ (.string t)):=But.kp ((But.refl rb w7).set 8 _) HB7.out
    have HR8:=Za (show RIs (w7.setCell ⟨rb,8,none⟩ (.string t)) { R with op:=true,bl:=t } { u with op:=true,bl:=encoded l [] } bs from { HR7.out.kp hkp with eq:=by rw[←HT.out,←HR5.out.eq];rfl })
    clear hkp;go_wp2;go_ret
    exact⟨by rw[HE.out];rfl,⟨_,bs,HB8.out,by rw[HE.out];exact HR8.out⟩,HBT8.out⟩
   ·obtain⟨ab,off,cap',he,hlc',hcap',hrow⟩:=HV5.out.open_ hpos
    simp only[Value.slice.injEq]at he;obtain⟨rfl,-,rfl⟩:=he;have kk0:=hrow.cell (i:=0) hpos;rw[Xe]at kk0
    have hh:l.headD 0=l[0]:=by cases l with|nil=>simp at hpos|cons=>rfl
    have ho1:Zwy l=(l[0]==47):=by unfold Zwy;rw[hh,decide_eq_true hpos];rfl
    clear hh hnone hsome
    cases ho:Zwy l
    ·have ha:(l[0]==47)=false:=by rw[←ho1];exact ho
     clear hrow ho1
     have HE:=Za (HD1.out.trans (if_neg (by rw[ho];decide)))
     clear HD1 ho;obtain⟨k0,k1,k2,k3,k4,k5,k6,k7,k8,k9,k10,k11,k12⟩:=HB5.out.cells;have f7:=HB5.out.free 7;go_upto_region 4 with fail;have HB6:=Za (HB5.out.s7 true);have HBT6:=Za (show But rb w (w5.setCell ⟨rb,7,none⟩ (.bool true))from HBT5.out.set 7 _);have hkp:Kp 130 w5 (w5.setCell ⟨rb,7,none⟩ (.bool true)):=But.kp ((But.refl rb w5).set 7 _) HB5.out
     have HR6:=Za (show RIs (w5.setCell ⟨rb,7,none⟩ (.bool true)) { R with op:=true } { u with op:=true } bs from { HR5.out.kp hkp with eq:=by rw[←HR5.out.eq];rfl })
     have HV6:=Za (HV5.out.kp hkp (by decide))
     clear k0 k1 k2 k3 k4 k5 k6 k7 k8 k9 k10 k11 k12 f7 hkp;generalize (w5.setCell ⟨rb,7,none⟩ (.bool true))=w6 at *;go_wp2_with fail
     refine(ZO _ l ⟨#[]⟩ _ HV6.out (Zf (by decide)) (by omega) HP.out).mono ?_
     rintro e w7 ⟨t,rfl,ht,hn7⟩;have HT:=Za (show tl t=encoded l []from ht);have HB7:=Za (HB6.out.on hn7);have HR7:=Za (HR6.out.on hn7);have HBT7:=Za (HBT6.out.then (But.nx hn7));clear ht hn7;obtain⟨k0,k1,k2,k3,k4,k5,k6,k7,k8,k9,k10,k11,k12⟩:=HB7.out.cells;have f8:=HB7.out.free 8;have HB8:=Za (HB7.out.s8 t);have HBT8:=Za (show But rb w (w7.setCell ⟨rb,8,none⟩ (.string t))from HBT7.out.set 8 _);have hkp:Kp 130 w7 (w7.setCell ⟨rb,8,none⟩ (.string t)):=But.kp ((But.refl rb w7).set 8 _) HB7.out
     have HR8:=Za (show RIs (w7.setCell ⟨rb,8,none⟩ (.string t)) { R with op:=true,bl:=t } { u with op:=true,bl:=encoded l [] } bs from { HR7.out.kp hkp with eq:=by rw[←HT.out,←HR5.out.eq];rfl })
     clear hkp;go_wp2;go_ret
     exact⟨by rw[HE.out];rfl,⟨_,bs,HB8.out,by rw[HE.out];exact HR8.out⟩,HBT8.out⟩
    ·have ha:(l[0]==47)=true:=by rw[←ho1];exact ho
     have HE:=Za (HD1.out.trans (if_pos ho))
     have HPD:=Za (fun c (hc:c∈l.drop 1)=>HP.out c (Xb hc))
     have hsd:=ZbB hrow hlc' hcap' 1 (by omega)
     clear HD1 ho hrow ho1;rcases hsd with⟨hc1,hdr⟩|⟨hc1,hdr⟩
     ·subst hc1
      have HDR:=Za hdr;clear hdr;go_wp2_with fail
      refine(Zs rb R.sch (.slice none 0 0) [] _ (l.drop 1) w5.heap.size _ HB5.out.sch (Xh _) (ZL _ _) (by simp) (by simp) HDR.out (by rw[Xa];omega) HPD.out).mono ?_
      rintro e w6 ⟨v',bs',rfl,ho,hwe,hbl,hbs,hbel,-⟩;have hnx:Nx w5 w6:=hbel
      obtain⟨ao9,n9,cp9,rfl,hB9,hR9⟩:=RIs.setPath (HB5.out.on hnx) (HR5.out.on hnx) (Zp ho) (by simp at hbl;omega) hbs
      have HB9:=Za hB9;have HR9:=Za hR9
      have HWE:=Za (show bs'.map tl=walked u.sch [] (l.drop 1)by rw[hwe,HR5.out.usch];rfl)
      have HBT9:=Za (show But rb w (w6.setCell ⟨rb,6,none⟩ (.slice ao9 n9 cp9))from(HBT5.out.then (But.nx hnx)).set 6 _);obtain⟨-,-,-,-,-,-,k6,-⟩:=(HB5.out.on hnx).cells;have f6:=(HB5.out.on hnx).free 6;clear ho hwe hbl hbs hbel hnx hB9 hR9;go_wp2;go_ret
      exact⟨by rw[HE.out];rfl,⟨_,bs',HB9.out,by rw[HE.out];have h:=HR9.out;rw[HWE.out]at h;exact h⟩,HBT9.out⟩
     ·have HDR:=Za hdr
      clear hdr;go_wp2_with fail
      refine(Zs rb R.sch (.slice none 0 0) [] _ (l.drop 1) w5.heap.size _ HB5.out.sch (Xh _) (ZL _ _) (by simp) (by simp) HDR.out (by rw[Xa];omega) HPD.out).mono ?_
      rintro e w6 ⟨v',bs',rfl,ho,hwe,hbl,hbs,hbel,-⟩;have hnx:Nx w5 w6:=hbel
      obtain⟨ao9,n9,cp9,rfl,hB9,hR9⟩:=RIs.setPath (HB5.out.on hnx) (HR5.out.on hnx) (Zp ho) (by simp at hbl;omega) hbs
      have HB9:=Za hB9;have HR9:=Za hR9
      have HWE:=Za (show bs'.map tl=walked u.sch [] (l.drop 1)by rw[hwe,HR5.out.usch];rfl)
      have HBT9:=Za (show But rb w (w6.setCell ⟨rb,6,none⟩ (.slice ao9 n9 cp9))from(HBT5.out.then (But.nx hnx)).set 6 _);obtain⟨-,-,-,-,-,-,k6,-⟩:=(HB5.out.on hnx).cells;have f6:=(HB5.out.on hnx).free 6;clear ho hwe hbl hbs hbel hnx hB9 hR9;go_wp2;go_ret
      exact⟨by rw[HE.out];rfl,⟨_,bs',HB9.out,by rw[HE.out];have h:=HR9.out;rw[HWE.out]at h;exact h⟩,HBT9.out⟩
  ·have HE:=Za (HD.out.trans (if_pos HTW.out.symm))
   have hl2:1<l.length:=by
    have h:=HTW.out;unfold ZhK at h
    by_cases hh:1<l.length
    ·exact hh
    ·rw[decide_eq_false hh]at h;cases h
   obtain⟨b1,off,cap',he,hlc',hcap',hrow⟩:=HV1.out.open_ (k:=0) (by omega)
   simp only[Value.slice.injEq]at he;obtain⟨rfl,-,rfl⟩:=he
   have HPD:=Za (fun c (hc:c∈l.drop 2)=>HP.out c (Xb hc))
   have hsd:=ZbB hrow hlc' hcap' 2 (by omega)
   clear HD hrow hnone hsome;rcases hsd with⟨hc1,hdr⟩|⟨hc1,hdr⟩
   ·subst hc1
    have HDR:=Za hdr;clear hdr
    go_region
    go_wp2_with fail
    refine(ZaV rb R u bs _ (l.drop 2) _ (HB1.out.on Nx.rfl.drew) (HR1.out.on Nx.rfl.drew) (HDR.out.on Nx.rfl.drew) (by rw[Xa];omega) HPD.out).mono ?_
    rintro e w4 ⟨rfl,hx,hbt⟩;have HX:=Za hx;have HBT4:=Za (HBT1.out.then ((But.nx Nx.rfl.drew).then hbt));clear hx hbt;go_wp2;go_ret
    exact⟨by rw[HE.out];rfl,by rw[HE.out];exact HX.out,HBT4.out⟩
   ·have HDR:=Za hdr
    clear hdr
    go_region
    go_wp2_with fail
    refine(ZaV rb R u bs _ (l.drop 2) _ (HB1.out.on Nx.rfl.drew) (HR1.out.on Nx.rfl.drew) (HDR.out.on Nx.rfl.drew) (by rw[Xa];omega) HPD.out).mono ?_
    rintro e w4 ⟨rfl,hx,hbt⟩;have HX:=Za hx;have HBT4:=Za (HBT1.out.then ((But.nx Nx.rfl.drew).then hbt));clear hx hbt;go_wp2;go_ret
    exact⟨by rw[HE.out];rfl,by rw[HE.out];exact HX.out,HBT4.out⟩
theorem Znr(rb:Nat)(R:RR)(u:RU)(bs:LA)(v bv:Value)(l:LI)(ob:Option RU)(w:World)(h:RB w rb R)(hr:RIs w R u bs)(hv:IntsAt w v l)(hl:l.length≤20000)(hp:∀c∈l,Pt c)(hb:BaseIs w rb bv ob)(hf:u.sch≠Zx)(hsp:Ze u.sch=true):Calls Tryz.prog 199 #[.pointer (some ⟨rb,0,none⟩),v,bv] w fun e w'=>Znq e w w' rb (Zap u l ob):=by
 have HUS:=Za hr.usch;have HB:=Za h;have HR:=Za hr;have HV:=Za hv;have HP:=Za hp;have HBB:=Za hb;have c0:=h.cells.1
 have hfb:=neB (s:=R.sch) (l:=[102,105,108,101]) (by rw[hr.usch];exact hf)
 have HF:=Za hf
 have HD:=Za (show Zap u l ob=(match (if ZhK l=true then none else Zqa u ob)with|some b=>ZdB u l b|none=>Zas u l)by unfold Zap;rw[if_neg hf,if_pos hsp])
 have HSU:=Za (show Ze (tl R.sch)=true by rw[hr.usch];exact hsp)
 clear h hr hp hb hf hsp;obtain⟨ao,cap,hve,hlc,hcap,hnone,hsome⟩:=hv;subst hve;unfold maxLen at hcap
 go_enter Tryz.func199,Tryz.ntmps199
 go_wp2_with fail
 refine(ZG R.sch _).mono ?_
 rintro e w1 ⟨rfl,hn1⟩;have HN1:=Za hn1;clear hn1 c0;rw[HSU.out];go_upto_region 2 with fail
 go_cut [8]from 9 (fun x wx=>x=.bool (ZhK l)∧wx=w1)
 case first=>
  match l,hlc,hnone,hsome with
  | [],hlc,hnone,hsome=>
   go_wp2
   go_meet
   case rel=>exact⟨rfl,rfl⟩
  | [a],hlc,hnone,hsome=>
   clear hnone hsome;go_wp2
   go_meet
   case rel=>exact⟨rfl,rfl⟩
  | a::b::r,hlc,hnone,hsome=>
   obtain⟨ad,had⟩:=ZR (k:=0) (show 0<(a::b::r).length by simp) hnone
   subst had;obtain⟨ab,off,rfl,hrow⟩:=hsome ad rfl
   have k0:=((hrow.on HN1.out).cell (i:=0) (by simp))
   have k1:=((hrow.on HN1.out).cell (i:=1) (by simp))
   simp only[Xe,Xc,Xd]at k0 k1
   have HTW:=Za (show ZhK (a::b::r)=(a==47&&b==47)by simp[ZhK])
   clear hnone hsome hrow
   cases ha:(a==47)
   ·go_wp2
    go_meet
    case rel=>exact⟨by rw[HTW.out,ha];rfl,rfl⟩
   ·cases hb:(b==47)
    all_goals go_wp2
    all_goals go_meet
    all_goals exact⟨by rw[HTW.out,ha,hb];rfl,rfl⟩
 case rest=>
  obtain⟨rfl,rfl⟩:=hcut;obtain⟨w2,hw2⟩:∃w2,w2=wc:=⟨_,rfl⟩;subst hw2;have c0:=(HB.out.on HN1.out).cells.1;have HB1:=Za (HB.out.on HN1.out);have HR1:=Za (HR.out.on HN1.out);have HV1:=Za (HV.out.on HN1.out);have HBT1:=Za (show But rb w w2 from But.nx HN1.out);obtain⟨tw,htw⟩:∃tw,tw=ZhK l:=⟨_,rfl⟩;rw[←htw];have HTW:=Za htw;clear htw hnone hsome;go_upto_region 7 with fail;rcases HBB.out with⟨rfl,rfl⟩|⟨qb,Q,b,cs,rfl,rfl,hq,hqr,hne,hcl⟩
  ·have HE:=Za (show Zap u l none=Zas u l by rw[HD.out];cases ZhK l<;>rfl)
   clear HD HBB
   go_region
   go_wp2_with fail
   refine(ZaV rb R u bs _ l _ (HB1.out.on Nx.rfl.drew) (HR1.out.on Nx.rfl.drew) (HV1.out.on Nx.rfl.drew) hl HP.out).mono ?_
   rintro e w4 ⟨rfl,hx,hbt⟩;have HX:=Za hx;have HBT4:=Za (HBT1.out.then ((But.nx Nx.rfl.drew).then hbt));clear hx hbt;go_wp2;go_ret
   exact⟨by rw[HE.out];rfl,by rw[HE.out];exact HX.out,HBT4.out⟩
  ·have HQ:=Za (hq.on HN1.out)
   have HQR:=Za (hqr.on HN1.out);have q0:=(hq.on HN1.out).cells.1;have HQS:=Za hqr.usch;clear hq hqr HBB
   by_cases hss:b.sch=u.sch
   ·have hsb:=Zyb (s:=Q.sch) (t:=R.sch) (by rw[HQS.out,HUS.out,hss])
    cases tw
    ·have HE:=Za (show Zap u l (some b)=ZdB u l b by rw[HD.out,if_neg (by rw[←HTW.out];decide),show Zqa u (some b)=some b from if_pos hss])
     clear HD hss
     go_region
     go_wp2_with fail
     refine(Zl1 rb qb R Q u b bs cs _ l _ (HB1.out.on Nx.rfl.drew) (HR1.out.on Nx.rfl.drew) (HQ.out.on Nx.rfl.drew) (HQR.out.on Nx.rfl.drew) hne HF.out (HV1.out.on Nx.rfl.drew) hl hcl HP.out).mono ?_
     rintro e w4 ⟨rfl,hx,hbt⟩;have HX:=Za hx;have HBT4:=Za (HBT1.out.then ((But.nx Nx.rfl.drew).then hbt));clear hx hbt;go_wp2;go_ret
     exact⟨by rw[HE.out];rfl,by rw[HE.out];exact HX.out,HBT4.out⟩
    ·have HE:=Za (show Zap u l (some b)=Zas u l by rw[HD.out,if_pos HTW.out.symm])
     clear HD hss
     go_region
     go_wp2_with fail
     refine(ZaV rb R u bs _ l _ (HB1.out.on Nx.rfl.drew) (HR1.out.on Nx.rfl.drew) (HV1.out.on Nx.rfl.drew) hl HP.out).mono ?_
     rintro e w4 ⟨rfl,hx,hbt⟩;have HX:=Za hx;have HBT4:=Za (HBT1.out.then ((But.nx Nx.rfl.drew).then hbt));clear hx hbt;go_wp2;go_ret
     exact⟨by rw[HE.out];rfl,by rw[HE.out];exact HX.out,HBT4.out⟩
   ·have hsb:=Zyc (s:=Q.sch) (t:=R.sch) (by rw[HQS.out,HUS.out];exact hss)
    have HE:=Za (show Zap u l (some b)=Zas u l by rw[HD.out,show Zqa u (some b)=none from if_neg hss];cases ZhK l<;>rfl)
    clear HD hss
    go_region
    go_wp2_with fail
    refine(ZaV rb R u bs _ l _ (HB1.out.on Nx.rfl.drew) (HR1.out.on Nx.rfl.drew) (HV1.out.on Nx.rfl.drew) hl HP.out).mono ?_
    rintro e w4 ⟨rfl,hx,hbt⟩;have HX:=Za hx;have HBT4:=Za (HBT1.out.then ((But.nx Nx.rfl.drew).then hbt));clear hx hbt;go_wp2;go_ret
    exact⟨by rw[HE.out];rfl,by rw[HE.out];exact HX.out,HBT4.out⟩
theorem ZkB(rb:Nat)(R:RR)(u:RU)(bs:LA)(v bv:Value)(l:LI)(ob:Option RU)(w:World)(h:RB w rb R)(hr:RIs w R u bs)(hv:IntsAt w v l)(hl:l.length≤20000)(hp:∀c∈l,Pt c)(hb:BaseIs w rb bv ob):Calls Tryz.prog 199 #[.pointer (some ⟨rb,0,none⟩),v,bv] w fun e w'=>Znq e w w' rb (Zap u l ob):=by
 by_cases hf:u.sch=Zx
 ·exact ZuH rb R u bs v bv l ob w h hr hv hl hp hb hf _ rfl
 ·cases hsp:Ze u.sch
  ·exact Zst rb R u bs v bv l ob w h hr hv hl hp hb hf hsp
  ·exact Znr rb R u bs v bv l ob w h hr hv hl hp hb hf hsp
end Go.Proofs.YtchkhibgbnhjpabGreatDoor
