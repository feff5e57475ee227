import Derived.Test.YtchkhibgbnhjpabGreatDoorB49
open List renaming length_nil→Xa,eq_nil_of_length_eq_zero→Xc
open Nat renaming le_refl→Xb
namespace Go.Proofs.YtchkhibgbnhjpabGreatDoor
open Go.RowKit
set_option maxHeartbeats 8000000
set_option maxRecDepth 8000
theorem RIs.fields{w:World}{R:RR}{u:RU}{bs:LA}(h:RIs w R u bs):u.sch=tl R.sch∧u.user=tl R.user∧u.pass=tl R.pass∧u.his=R.his∧u.htx=tl R.htx∧u.port=R.port∧u.op=R.op:=by rw[←h.eq];exact⟨rfl,rfl,rfl,rfl,rfl,rfl,rfl⟩
theorem Zms{p:LI}{s:LB}(h:Zn p 0 s=true):0<p.length:=by
 rcases Nat.eq_zero_or_pos p.length with g|g
 ·rw[Xc g]at h
  exfalso
  revert h
  unfold Zn
  simp
 ·exact g
theorem ZqM(rb:Nat)(R:RR)(u:RU)(bs:LA)(v:Value)(p:LI)(w:World)(h:RB w rb R)(hr:RIs w R u bs)(hv:IntsAt w v p)(hl:p.length≤1000)(hp:∀c∈p,Pt c):Calls Tryz.prog 134 #[.pointer (some ⟨rb,0,none⟩),v] w fun e w'=>e=.returned (.tuple #[])∧(∃R' cs,RB w' rb R'∧RIs w' R' (Ze7 u p) cs)∧But rb w w':=by
 have HB:=Za h;have HR:=Za hr;have HF:=Za hr.fields;have HV:=Za hv;have HP:=Za hp;have c0:=h.cells.1
 have HD:=Za (show Ze7 u p=if Zn p 0 (tl R.sch)=true then { u with path:=walked u.sch [] (p.drop 1) }else if Ze (tl R.sch)=true∨p≠[]then { u with path:=walked u.sch [] p }else if R.his=true then { u with path:=[] }else { u with path:=[[]] }by
  unfold Ze7
  rw[hr.usch,show u.his=R.his from hr.fields.2.2.2.1])
 clear h hr hp
 go_enter Tryz.func134,Tryz.ntmps134
 go_wp2_with fail
 refine(ZG R.sch _).mono ?_
 rintro e w1 ⟨rfl,hn1⟩;have HN1:=Za hn1;have c01:=(HB.out.on hn1).cells.1;clear hn1 c0;generalize Ze (tl R.sch)=sp at *;go_wp2_with fail
 refine(ZaF _ p 0 R.sch _ (HV.out.on HN1.out)).mono ?_
 rintro e w2 ⟨rfl,hn2⟩;have HN2:=Za (HN1.out.then hn2);clear hn2 c01 HN1
 cases hsl:Zn p 0 (tl R.sch)
 ·have HD1:=Za (HD.out.trans (if_neg (by rw[hsl];decide)))
  clear HD hsl;obtain⟨ao,cap,hve,-⟩:=hv;subst hve;have HBT:Hid (But rb w (w2.setCell ⟨rb,6,none⟩ (.slice none 0 0))):=Za ((But.nx HN2.out).set 6 _)
  obtain⟨ao0,n0,cp0,hv0,hB3,hR3⟩:=RIs.setPath (HB.out.on HN2.out) (HR.out.on HN2.out) (SlAt.nil w2) (by simp) (by simp)
  simp only[Value.slice.injEq]at hv0;obtain⟨rfl,rfl,rfl⟩:=hv0;have HB3:=Za hB3;have HR3:=Za hR3;have HKP:=Za (HBT.out.kp HB.out);have hB2:=HB.out.on HN2.out;have f6:=hB2.free 6;obtain⟨-,-,-,-,-,-,k6,-⟩:=hB2.cells;clear hB3 hR3 hB2;go_upto_region 5 with fail;generalize w2.setCell ⟨rb,6,none⟩ (.slice none 0 0)=w3 at *;clear k6 f6;obtain⟨c0,c1,c2,c3,c4,c5,c6,c7,c8,c9,c10,c11,c12⟩:=HB3.out.cells
  have HV3:=Za (HV.out.kp HKP.out (by decide))
  by_cases hw:sp=true∨p≠[]
  ·have HE:=Za (HD1.out.trans (if_pos hw))
   have hcase:sp=true∨(sp=false∧(decide (0<(p.length:Int)))=true):=by
    cases sp
    ·right
     refine⟨rfl,decide_eq_true ?_⟩
     rcases hw with g|g
     ·cases g
     ·have:p.length≠0:=fun e=>g (Xc e)
      omega
    ·exact Or.inl rfl
   clear hw HD1;rcases hcase with rfl|⟨rfl,hpl⟩
   ·skip
    go_wp2_with fail
    refine(Zs rb R.sch (.slice none 0 0) [] _ p w3.heap.size _ HB3.out.sch (Xb _) (ZL _ _) (by simp) (by simp) HV3.out (by omega) HP.out).mono ?_
    rintro e w4 ⟨v',bs',rfl,ho,hwe,hbl,hbs,hbel,-⟩;have hnx:Nx w3 w4:=hbel
    have hll:bs'.length≤100000:=by have:=hl;simp only[Xa]at hbl;omega
    obtain⟨ao,n,cp,rfl,hB4,hR4⟩:=RIs.setPath (HB3.out.on hnx) (HR3.out.on hnx) (Zp ho) hll hbs;have HB4:=Za hB4;have HR4:=Za hR4
    have HWE:=Za (show bs'.map tl=walked u.sch [] p by rw[hwe,HF.out.1];rfl)
    have HBT4:=Za (show But rb w (w4.setCell ⟨rb,6,none⟩ (.slice ao n cp))from(HBT.out.then (But.nx hnx)).set 6 _);obtain⟨-,-,-,-,-,-,k6,-⟩:=(HB3.out.on hnx).cells;have f6:=(HB3.out.on hnx).free 6;clear ho hwe hbl hbs hbel hnx hB4 hR4 c0 c1 c2 c3 c4 c5 c6 c7 c8 c9 c10 c11 c12 hll;go_wp2
    exact bodyPost_end (results_none rfl _ _ _) rfl ⟨rfl,⟨_,bs',HB4.out,by rw[HE.out];have h:=HR4.out;rw[HWE.out]at h;exact h⟩,HBT4.out⟩
   ·have hpl':0<p.length:=by have:=of_decide_eq_true hpl;omega
    go_wp2_with fail
    refine(Zs rb R.sch (.slice none 0 0) [] _ p w3.heap.size _ HB3.out.sch (Xb _) (ZL _ _) (by simp) (by simp) HV3.out (by omega) HP.out).mono ?_
    rintro e w4 ⟨v',bs',rfl,ho,hwe,hbl,hbs,hbel,-⟩;have hnx:Nx w3 w4:=hbel
    have hll:bs'.length≤100000:=by have:=hl;simp only[Xa]at hbl;omega
    obtain⟨ao,n,cp,rfl,hB4,hR4⟩:=RIs.setPath (HB3.out.on hnx) (HR3.out.on hnx) (Zp ho) hll hbs;have HB4:=Za hB4;have HR4:=Za hR4
    have HWE:=Za (show bs'.map tl=walked u.sch [] p by rw[hwe,HF.out.1];rfl)
    have HBT4:=Za (show But rb w (w4.setCell ⟨rb,6,none⟩ (.slice ao n cp))from(HBT.out.then (But.nx hnx)).set 6 _);obtain⟨-,-,-,-,-,-,k6,-⟩:=(HB3.out.on hnx).cells;have f6:=(HB3.out.on hnx).free 6;clear ho hwe hbl hbs hbel hnx hB4 hR4 c0 c1 c2 c3 c4 c5 c6 c7 c8 c9 c10 c11 c12 hll;go_wp2
    exact bodyPost_end (results_none rfl _ _ _) rfl ⟨rfl,⟨_,bs',HB4.out,by rw[HE.out];have h:=HR4.out;rw[HWE.out]at h;exact h⟩,HBT4.out⟩
  ·have hsp:sp=false:=by cases sp;rfl;exact absurd (Or.inl rfl) hw
   have hp0:p=[]:=Classical.byContradiction fun g=>hw (Or.inr g)
   have HD2:=Za (HD1.out.trans (if_neg hw));subst hsp hp0;clear hw HD1;generalize hhs:R.his=his at *
   cases his
   ·have HE:=Za (HD2.out.trans (if_neg (by decide)))
    clear HD2 hhs;have f6:=HB3.out.free 6;go_upto_region 8 with fail;have HB5:=Za (HB3.out.on (Nx.rfl.alloc (Obj.cells #[.string ⟨#[]⟩] 9)));have HR5:=Za (HR3.out.on (Nx.rfl.alloc (Obj.cells #[.string ⟨#[]⟩] 9)))
    have HROW:=Za (Zi8 (e:=9) (f:=Value.string) w3 [⟨#[]⟩] #[.string ⟨#[]⟩] (by simp) rfl)
    have k6':=HB5.out.cells.2.2.2.2.2.2.1;have f6':=HB5.out.free 6;go_wp2
    obtain⟨ao,n,cp,hv1,hB6,hR6⟩:=RIs.setPath HB5.out HR5.out HROW.out (by simp) (by intro x hx;rw[List.mem_singleton]at hx;subst hx;decide)
    simp only[Value.slice.injEq]at hv1;obtain⟨rfl,rfl,rfl⟩:=hv1
    first
     | exact bodyPost_end (results_none rfl _ _ _) rfl ⟨rfl,⟨_,hB6,_,by rw[HE.out];exact hR6⟩,(HBT.out.then (But.nx (Nx.rfl.alloc _))).set 6 _⟩
     | exact bodyPost_end (results_none rfl _ _ _) rfl ⟨rfl,⟨_,_,hB6,by rw[HE.out];exact hR6⟩,(HBT.out.then (But.nx (Nx.rfl.alloc _))).set 6 _⟩
   ·have HE:=Za (HD2.out.trans (if_pos rfl))
    clear HD2 hhs;go_wp2
    first
     | exact bodyPost_end (results_none rfl _ _ _) rfl ⟨rfl,⟨_,HB3.out,_,by rw[HE.out];exact HR3.out⟩,HBT.out⟩
     | exact bodyPost_end (results_none rfl _ _ _) rfl ⟨rfl,⟨_,_,HB3.out,by rw[HE.out];exact HR3.out⟩,HBT.out⟩
 ·have HE:=Za (HD.out.trans (if_pos hsl))
  have hpos:=Zms hsl;clear HD hsl;obtain⟨b,off,cap,rfl,hlc,hcap,hrow⟩:=hv.open_ hpos
  have HDR:=Za (ZbB hrow hlc hcap 1 (by omega))
  unfold maxLen at hcap;clear hrow;have HBT:Hid (But rb w (w2.setCell ⟨rb,6,none⟩ (.slice none 0 0))):=Za ((But.nx HN2.out).set 6 _)
  obtain⟨ao0,n0,cp0,hv0,hB3,hR3⟩:=RIs.setPath (HB.out.on HN2.out) (HR.out.on HN2.out) (SlAt.nil w2) (by simp) (by simp)
  simp only[Value.slice.injEq]at hv0;obtain⟨rfl,rfl,rfl⟩:=hv0;have HB3:=Za hB3;have HR3:=Za hR3;have HKP:=Za (HBT.out.kp HB.out);have hB2:=HB.out.on HN2.out;have f6:=hB2.free 6;obtain⟨-,-,-,-,-,-,k6,-⟩:=hB2.cells;clear hB3 hR3 hB2
  have hcase:(cap=1∧IntsAt w (.slice (some ⟨b,off,none⟩) (p.length-1) 0) (p.drop 1))∨(¬cap=1∧IntsAt w (.slice (some ⟨b,off+1,none⟩) (p.length-1) (cap-1)) (p.drop 1)):=by
   rcases HDR.out with⟨g,hd⟩|⟨g,hd⟩
   ·exact Or.inl ⟨g,by rw[show p.length-1=0 by omega];exact hd⟩
   ·exact Or.inr ⟨g,hd⟩
  rcases hcase with⟨hck,hd⟩|⟨hck,hd⟩
  all_goals have HD3:=Za (hd.kp HKP.out (by decide))
  all_goals clear hd
  all_goals go_upto_region 5 with fail
  all_goals generalize w2.setCell ⟨rb,6,none⟩ (.slice none 0 0)=w3 at *
  all_goals clear k6 f6
  all_goals obtain⟨c0,c1,c2,c3,c4,c5,c6,c7,c8,c9,c10,c11,c12⟩:=HB3.out.cells
  all_goals clear hck
  all_goals have HPD:Hid (∀c∈p.drop 1,Pt c):=Za (fun c hc=>HP.out c (List.mem_of_mem_drop hc))
  all_goals have hld:(p.drop 1).length≤1000:=by rw[List.length_drop];omega
  all_goals cases sp
  ·skip
   go_wp2_with fail
   refine(Zs rb R.sch (.slice none 0 0) [] _ (p.drop 1) w3.heap.size _ HB3.out.sch (Xb _) (ZL _ _) (by simp) (by simp) HD3.out (by omega) HPD.out).mono ?_
   rintro e w4 ⟨v',bs',rfl,ho,hwe,hbl,hbs,hbel,-⟩;have hnx:Nx w3 w4:=hbel
   have hll:bs'.length≤100000:=by have:=hld;simp only[Xa]at hbl;omega
   obtain⟨ao,n,cp,rfl,hB4,hR4⟩:=RIs.setPath (HB3.out.on hnx) (HR3.out.on hnx) (Zp ho) hll hbs;have HB4:=Za hB4;have HR4:=Za hR4
   have HWE:=Za (show bs'.map tl=walked u.sch [] (p.drop 1)by rw[hwe,HF.out.1];rfl)
   have HBT4:=Za (show But rb w (w4.setCell ⟨rb,6,none⟩ (.slice ao n cp))from(HBT.out.then (But.nx hnx)).set 6 _);obtain⟨-,-,-,-,-,-,k6,-⟩:=(HB3.out.on hnx).cells;have f6:=(HB3.out.on hnx).free 6;clear ho hwe hbl hbs hbel hnx hB4 hR4 c0 c1 c2 c3 c4 c5 c6 c7 c8 c9 c10 c11 c12 hll;go_wp2
   exact bodyPost_end (results_none rfl _ _ _) rfl ⟨rfl,⟨_,bs',HB4.out,by rw[HE.out];have h:=HR4.out;rw[HWE.out]at h;exact h⟩,HBT4.out⟩
  ·skip
   go_wp2_with fail
   refine(Zs rb R.sch (.slice none 0 0) [] _ (p.drop 1) w3.heap.size _ HB3.out.sch (Xb _) (ZL _ _) (by simp) (by simp) HD3.out (by omega) HPD.out).mono ?_
   rintro e w4 ⟨v',bs',rfl,ho,hwe,hbl,hbs,hbel,-⟩;have hnx:Nx w3 w4:=hbel
   have hll:bs'.length≤100000:=by have:=hld;simp only[Xa]at hbl;omega
   obtain⟨ao,n,cp,rfl,hB4,hR4⟩:=RIs.setPath (HB3.out.on hnx) (HR3.out.on hnx) (Zp ho) hll hbs;have HB4:=Za hB4;have HR4:=Za hR4
   have HWE:=Za (show bs'.map tl=walked u.sch [] (p.drop 1)by rw[hwe,HF.out.1];rfl)
   have HBT4:=Za (show But rb w (w4.setCell ⟨rb,6,none⟩ (.slice ao n cp))from(HBT.out.then (But.nx hnx)).set 6 _);obtain⟨-,-,-,-,-,-,k6,-⟩:=(HB3.out.on hnx).cells;have f6:=(HB3.out.on hnx).free 6;clear ho hwe hbl hbs hbel hnx hB4 hR4 c0 c1 c2 c3 c4 c5 c6 c7 c8 c9 c10 c11 c12 hll;go_wp2
   exact bodyPost_end (results_none rfl _ _ _) rfl ⟨rfl,⟨_,bs',HB4.out,by rw[HE.out];have h:=HR4.out;rw[HWE.out]at h;exact h⟩,HBT4.out⟩
  ·skip
   go_wp2_with fail
   refine(Zs rb R.sch (.slice none 0 0) [] _ (p.drop 1) w3.heap.size _ HB3.out.sch (Xb _) (ZL _ _) (by simp) (by simp) HD3.out (by omega) HPD.out).mono ?_
   rintro e w4 ⟨v',bs',rfl,ho,hwe,hbl,hbs,hbel,-⟩;have hnx:Nx w3 w4:=hbel
   have hll:bs'.length≤100000:=by have:=hld;simp only[Xa]at hbl;omega
   obtain⟨ao,n,cp,rfl,hB4,hR4⟩:=RIs.setPath (HB3.out.on hnx) (HR3.out.on hnx) (Zp ho) hll hbs;have HB4:=Za hB4;have HR4:=Za hR4
   have HWE:=Za (show bs'.map tl=walked u.sch [] (p.drop 1)by rw[hwe,HF.out.1];rfl)
   have HBT4:=Za (show But rb w (w4.setCell ⟨rb,6,none⟩ (.slice ao n cp))from(HBT.out.then (But.nx hnx)).set 6 _);obtain⟨-,-,-,-,-,-,k6,-⟩:=(HB3.out.on hnx).cells;have f6:=(HB3.out.on hnx).free 6;clear ho hwe hbl hbs hbel hnx hB4 hR4 c0 c1 c2 c3 c4 c5 c6 c7 c8 c9 c10 c11 c12 hll;go_wp2
   exact bodyPost_end (results_none rfl _ _ _) rfl ⟨rfl,⟨_,bs',HB4.out,by rw[HE.out];have h:=HR4.out;rw[HWE.out]at h;exact h⟩,HBT4.out⟩
  ·skip
   go_wp2_with fail
   refine(Zs rb R.sch (.slice none 0 0) [] _ (p.drop 1) w3.heap.size _ HB3.out.sch (Xb _) (ZL _ _) (by simp) (by simp) HD3.out (by omega) HPD.out).mono ?_
   rintro e w4 ⟨v',bs',rfl,ho,hwe,hbl,hbs,hbel,-⟩;have hnx:Nx w3 w4:=hbel
   have hll:bs'.length≤100000:=by have:=hld;simp only[Xa]at hbl;omega
   obtain⟨ao,n,cp,rfl,hB4,hR4⟩:=RIs.setPath (HB3.out.on hnx) (HR3.out.on hnx) (Zp ho) hll hbs;have HB4:=Za hB4;have HR4:=Za hR4
   have HWE:=Za (show bs'.map tl=walked u.sch [] (p.drop 1)by rw[hwe,HF.out.1];rfl)
   have HBT4:=Za (show But rb w (w4.setCell ⟨rb,6,none⟩ (.slice ao n cp))from(HBT.out.then (But.nx hnx)).set 6 _);obtain⟨-,-,-,-,-,-,k6,-⟩:=(HB3.out.on hnx).cells;have f6:=(HB3.out.on hnx).free 6;clear ho hwe hbl hbs hbel hnx hB4 hR4 c0 c1 c2 c3 c4 c5 c6 c7 c8 c9 c10 c11 c12 hll;go_wp2
   exact bodyPost_end (results_none rfl _ _ _) rfl ⟨rfl,⟨_,bs',HB4.out,by rw[HE.out];have h:=HR4.out;rw[HWE.out]at h;exact h⟩,HBT4.out⟩
theorem Zxy(ub rb:Nat)(v0:Value)(R:RR)(m:RU)(bs:LA)(ps:List Pq)(s:BA)(w:World)(hu:URB w ub rb v0)(h:RB w rb R)(hr:RIs w R m bs)(hpl:PlAt w v0 ps)(hs:s.size≤160):Calls Tryz.prog 77 #[.pointer (some ⟨ub,0,none⟩),.int .i64 8,.string s] w fun e w'=>ZxE e w w' ub rb (Zmm m 8 (tl s)) (ZbS m 8 (tl s) (ps.map tl2)):=by
 have HU:=Za hu;have HB:=Za h;have HR:=Za hr;have HPL:=Za hpl;have HBA:=Za hr.bare;have a0:=hu.cells.1;clear hu h hr hpl
 go_enter Tryz.func77,Tryz.ntmps77
 go_wp2_with fail
 refine(ZcN s _ (by unfold maxLen;omega)).mono ?_
 rintro e w' ⟨rfl,rfl⟩
 rw[decide_eq_false (show ¬160<s.size by omega)]
 go_wp2_with fail
 refine(ZaC s _ (by omega)).mono ?_
 rintro e w1 ⟨pv,rfl,h1,hn1⟩;have HPV:=Za h1;have HN1:=Za hn1;have hlen:=ZaD (tl s);rw[tl_length]at hlen;obtain⟨c0,c1,c2,c3,c4,c5,c6,c7,c8,c9,c10,c11,c12⟩:=(HB.out.on hn1).cells;clear h1 hn1 a0;go_upto_region 6 with fail
 go_cut [10]from 11 (fun b wx=>∃c:Bool,b=.bool c∧(c=true↔Zhz m)∧wx=w1)
 case first=>
  by_cases e1:R.htx.size=0
  ·have e1':=Zl e1
   have HC:=Za (HBA.out.2 (Or.inl (Zi4 e1)));clear e1;go_wp2_with fail
   go_meet
   case rel=>exact⟨true,rfl,⟨fun _=>HC.out,fun _=>rfl⟩,rfl⟩
  ·have e1':=Zh e1
   by_cases e2:tl R.sch=Zx
   ·have e2':=eqB (s:=R.sch) (l:=[102,105,108,101]) e2
    have HC:=Za (HBA.out.2 (Or.inr e2));clear e1 e2;go_wp2_with fail
    go_meet
    case rel=>exact⟨true,rfl,⟨fun _=>HC.out,fun _=>rfl⟩,rfl⟩
   ·have e2':=neB (s:=R.sch) (l:=[102,105,108,101]) e2
    have HC:=Za (show ¬Zhz m from fun g=>by
     rcases HBA.out.1 g with g|g
     ·exact ZiK e1 g
     ·exact e2 g)
    clear e1 e2;go_wp2_with fail
    go_meet
    case rel=>exact⟨false,rfl,⟨fun g=>(by cases g),fun g=>absurd g HC.out⟩,rfl⟩
 case rest=>
  obtain⟨c,rfl,hc,rfl⟩:=hcut;clear HBA c0 c1 c2 c3 c4 c5 c6 c7 c8 c9 c10 c11 c12;have HC:=Za hc;clear hc
  have HE:=Za (show Zmm m 8 (tl s)=(if m.op=true then m else Ze7 m (flat (Zj (tl s))),0)from rfl)
  have HY:=Za (show ZbS m 8 (tl s) (ps.map tl2)=ps.map tl2 from rfl);have HB1:=Za (HB.out.on HN1.out);have HR1:=Za (HR.out.on HN1.out);have HOP:=Za HR.out.fields.2.2.2.2.2.2;have c7:=HB1.out.cells.2.2.2.2.2.2.2.1;clear HC;generalize hop:R.op=op at *
  cases op
  ·have HX:=Za (show Zmm m 8 (tl s)=(Ze7 m (flat (Zj (tl s))),0)by rw[HE.out,if_neg (by rw[HOP.out];decide)])
   have hfl:=ZcV (Zj (tl s));clear HE hop;go_wp2_with fail
   refine(ZbO _ (Zj (tl s)) _ HPV.out (by omega)).mono ?_
   rintro e w2 ⟨v2,rfl,h2,hn2⟩;have H2:=Za h2;have HN2:=Za (HN1.out.then hn2);have HB2:=Za (HB1.out.on hn2);have HR2:=Za (HR1.out.on hn2);clear h2 hn2 c7;go_wp2_with fail
   refine(ZqM rb R m bs _ (flat (Zj (tl s))) _ HB2.out HR2.out H2.out (by omega) (fun c hc=>Zcz _ c (List.mem_filter.1 hc).1)).mono ?_
   rintro e w3 ⟨rfl,hx,hbt⟩;have HRX:=Za hx;have HBT:=Za hbt;clear hx hbt;go_wp2;go_ret;rw[HX.out,HY.out];obtain⟨R',cs,k1,k2⟩:=HRX.out;have hkp:=HBT.out.kp HB2.out
   exact⟨rfl,⟨rb,R',cs,v0,ps,(HU.out.on HN2.out).but HBT.out ((HU.out.on HN2.out).ne HB2.out),k1,k2,(HPL.out.on HN2.out).kp hkp (by decide),rfl,Or.inl rfl⟩,Two.r ((But.nx HN2.out).then HBT.out)⟩
  ·have HX:=Za (show Zmm m 8 (tl s)=(m,0)by rw[HE.out,if_pos HOP.out])
   clear HE hop;go_wp2;go_ret;rw[HX.out,HY.out];exact⟨rfl,⟨rb,R,bs,v0,ps,HU.out.on HN1.out,HB1.out,HR1.out,HPL.out.on HN1.out,rfl,Or.inl rfl⟩,Two.nx HN1.out⟩
end Go.Proofs.YtchkhibgbnhjpabGreatDoor
