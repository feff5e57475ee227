import Derived.Test.YtchkhibgbnhjpabGreatDoorT04
open List renaming length_drop→Xa,mem_of_mem_drop→Xb,eq_nil_of_length_eq_zero→Xd,length_nil→Xe,length_map→Xf,getElem_cons_zero→Xi,getElem_cons_succ→Xj,dropLast_sublist→Xk,length_dropLast→Xl
open Nat renaming le_refl→Xc,add_zero→Xg,eq_zero_or_pos→Xh
open Go.Value renaming string→J,bool→C,int→I
open Go.IntKind renaming i64→X
namespace Go.Proofs.YtchkhibgbnhjpabGreatDoor
open Tryz
open Go.RowKit
set_option maxHeartbeats 8000000
set_option maxRecDepth 8000
variable [Fl]
set_option linter.all false
theorem ZAM{l:LI}{i:Nat}{s:LB}(h:Zq l i s=true):i<l.length:=by
 unfold Zq at h
 split at h
 .cases h
 .next hc=>exact(List.getElem?_eq_some_iff.1 hc).1
theorem ZA3{α:Type}{e:TypeId}{f:α->Value}{w:World}{b off cap:Nat}{l:List α}(hr:RowAt e f w b off l)(hlc:l.length<=cap)(hcap:cap<=maxLen)(k:Nat)(hk:k<=l.length):(cap=k/\SlAt e f w (.slice (some ⟨b,off,none⟩) 0 0) (l.drop k))∨(¬cap=k/\SlAt e f w (.slice (some ⟨b,off+k,none⟩) (l.length-k) (cap-k)) (l.drop k)):=by
 by_cases hc:cap=k
 .have h:=Zjm hr k 0 (by omega) (Nat.zero_le _)
  rw[show l.length-k=0 by omega]at h
  exact Or.inl ⟨hc,h⟩
 .exact Or.inr ⟨hc,Zfz hr hlc hcap k hk⟩
def ZAp(u:RU)(l:List Int)(base:Option RU):RU×Int:=
 if(Zq l 0 Zzu&&Zq l 1 Zzu)=true then ZAS { u with his:=true,htx:=[] } (l.drop 2)
 else match base with
 | none=>if Zq l 0 Zzu=true then({ u with his:=true,htx:=[],path:=walked u.sch [] (l.drop 1) },0)else({ u with his:=true,htx:=[],path:=walked u.sch [] l },0)
 | some b=>
  if Zq l 0 Zzu=true then({ u with his:=b.his,htx:=b.htx,path:=walked u.sch (if driven (l.drop 1)=false/\b.path≠[]/\drive (b.path.headD [])=true then [b.path.headD []]else []) (l.drop 1) },0)
  else if l=[]then(ZDl { u with his:=b.his,htx:=b.htx } b,0)
  else({ u with his:=b.his,htx:=b.htx,path:=walked u.sch (if driven l=true then []else ZzN u.sch b.path) l },0)
def ZNI(w:World)(bv:Value):Prop:=bv=.pointer none∨∃qb Q,bv=.pointer (some ⟨qb,0,none⟩)/\RB w qb Q/\tl Q.sch≠Zzu
theorem ZHo(rb:Nat)(R:RR)(u:RU)(bs:LA)(v bv:Value)(l:LI)(w:World)(h:RB w rb R)(hr:RIs w R u bs)(hv:IntsAt w v l)(hl:l.length<=20000)(hp:∀c∈l,Pt c)(hb:ZNI w bv):Calls prog 232 #[.pointer (some ⟨rb,0,none⟩),v,bv] w fun e w'=>ZGi e w w' rb (ZAp u l none):=by
 have HD:=A (show ZAp u l none=if(Zq l 0 Zzu&&Zq l 1 Zzu)=true then ZAS { u with his:=true,htx:=[] } (l.drop 2)else if Zq l 0 Zzu=true then({ u with his:=true,htx:=[],path:=walked u.sch [] (l.drop 1) },0)else({ u with his:=true,htx:=[],path:=walked u.sch [] l },0)from rfl)
 have HBI:=A hr;have HV:=A hv;have HP:=A hp;obtain⟨c0,c1,c2,c3,c4,c5,c6,c7,c8,c9,c10,c11,c12⟩:=h.cells;have f3:=h.free 3;have f4:=h.free 4;obtain⟨hB1,hR1⟩:=RIs.setHost h hr true ⟨#[]⟩;have HB0:=A h;have HB1:=A hB1
 have HR1:=A (show RIs _ _ { u with his:=true,htx:=[] } bs from hR1)
 have HBT1:=A (show But rb w ((w.setCell ⟨rb,3,none⟩ (C true)).setCell ⟨rb,4,none⟩ (J ⟨#[]⟩))from((But.refl rb w).set 3 _).set 4 _);have HK1:=A (HBT1.o.kp h)
 have HV1:=A (hv.kp HK1.o (by decide))
 clear h hr hp hB1 hR1;obtain⟨vo,vcap,hve,-⟩:=hv;subst hve
 have hb':bv=.pointer none∨∃qb Q,bv=.pointer (some ⟨qb,0,none⟩)/\w.cell? ⟨qb,0,none⟩=some (J Q)/\(Q.toList == [102,105,108,101])=false:=by
  rcases hb with hb|⟨qb,Q,hb,hq,hn⟩
  .exact Or.inl hb
  .exact Or.inr ⟨qb,Q.sch,hb,hq.cells.1,neB hn⟩
 clear hb;rcases hb' with rfl|⟨qb,Q,rfl,q0,hqn⟩
 all_goals go_enter func232,ntmps232
 all_goals go_upto_region 3 with fail
 rotate_left
 all_goals
  clear c0 c1 c2 c3 c4 c5 c6 c7 c8 c9 c10 c11 c12 f3 f4;generalize ((w.setCell ⟨rb,3,none⟩ (C true)).setCell ⟨rb,4,none⟩ (J ⟨#[]⟩))=w1 at *;go_wp2_with fail
  refine(Zbd _ l 0 ⟨#[102,105,108,101]⟩ _ HV1.o).mono ?_
  rintro e w2 ⟨rfl,hn2⟩;rw[show tl (⟨#[102,105,108,101]⟩:BA)=Zzu from rfl];have HN2:=A hn2;clear hn2;go_wp2_with fail
  refine(Zbd _ l 1 ⟨#[102,105,108,101]⟩ _ (HV1.o.on HN2.o)).mono ?_
  rintro e w3 ⟨rfl,hn3⟩;rw[show tl (⟨#[102,105,108,101]⟩:BA)=Zzu from rfl];have HN3:=A (HN2.o.then hn3);have HB3:=A (HB1.o.on HN3.o);have HR3:=A (HR1.o.on HN3.o);have HV3:=A (HV1.o.on HN3.o);have HBT3:=A (HBT1.o.then (But.nx HN3.o));clear hn3 HN2 HB1 HR1 HV1 HBT1
  have HL0:=A (fun(x:Zq l 0 Zzu=true)=>ZAM x)
  have HL1:=A (fun(x:Zq l 1 Zzu=true)=>ZAM x)
  cases h0:Zq l 0 Zzu
  .have HE:=A (HD.o.trans ((ifN (by simp[h0])).trans (ifN (by simp[h0]))))
   clear HD h0
   cases h1:Zq l 1 Zzu
   all_goals clear h1
   all_goals
    go_wp2_with fail
    refine(Zzw rb R.sch (.slice none 0 0) [] _ l w3.heap.size _ HB3.o.sch (Xc _) (ZzQ _ _) (by simp) (by simp) HV3.o (by omega) HP.o).mono ?_
    rintro e w4 ⟨v',bs',rfl,ho,hwe,hbl,hbs,hbel,-⟩;have hnx:Nx w3 w4:=hbel
    obtain⟨ao9,n9,cp9,rfl,hB9,hR9⟩:=RIs.setPath (HB3.o.on hnx) (HR3.o.on hnx) (Zaz ho HR3.o.fw) (by first|(simp only[Xe]at hbl;omega)|omega) hbs
    have HB9:=A hB9;have HR9:=A hR9
    have HWE:=A (show bs'.map tl=walked u.sch [] l by rw[hwe,HR3.o.usch];rfl)
    have HBT9:=A (show But rb w (w4.setCell ⟨rb,6,none⟩ (.slice ao9 n9 cp9))from(HBT3.o.then (But.nx hnx)).set 6 _);obtain⟨-,-,-,-,-,-,k6,-⟩:=(HB3.o.on hnx).cells;have f6:=(HB3.o.on hnx).free 6;clear ho hwe hbl hbs hbel hnx hB9 hR9;go_wp2;go_ret
    exact⟨by rw[HE.o];rfl,⟨_,bs',HB9.o,by rw[HE.o];have h:=HR9.o;rw[HWE.o]at h;exact h⟩,HBT9.o⟩
  .cases h1:Zq l 1 Zzu
   .have HE:=A (HD.o.trans ((ifN (by simp[h0,h1])).trans (ifP h0)))
    have hl1:0<l.length:=HL0.o h0;obtain⟨b,off,cap,he,hlc,hcap,hrow⟩:=HV3.o.open_ hl1;simp only[Value.slice.injEq]at he;obtain⟨rfl,-,rfl⟩:=he
    have HPD:=A (fun c (hc:c∈l.drop 1)=>HP.o c (Xb hc))
    have hsd:=ZA3 hrow hlc hcap 1 (by omega)
    unfold maxLen at hcap;clear HD h0 h1 hrow HV3;rcases hsd with⟨hc1,hdr⟩|⟨hc1,hdr⟩
    .subst hc1
     have HDR:=A hdr;clear hdr;go_wp2_with fail
     refine(ZBQ _ (l.drop 1) _ HDR.o).mono ?_
     rintro e w4 ⟨rfl,hn4⟩;have HB4:=A (HB3.o.on hn4);have HR4:=A (HR3.o.on hn4);have HDR4:=A (HDR.o.on hn4);have HBT4:=A (HBT3.o.then (But.nx hn4));clear hn4 HB3 HR3 HDR HBT3;generalize driven (l.drop 1)=dv at *;go_wp2_with fail
     refine(Zzw rb R.sch (.slice none 0 0) [] _ (l.drop 1) w4.heap.size _ HB4.o.sch (Xc _) (ZzQ _ _) (by simp) (by simp) HDR4.o (by rw[Xa];omega) HPD.o).mono ?_
     rintro e w5 ⟨v',bs',rfl,ho,hwe,hbl,hbs,hbel,-⟩;have hnx:Nx w4 w5:=hbel
     obtain⟨ao9,n9,cp9,rfl,hB9,hR9⟩:=RIs.setPath (HB4.o.on hnx) (HR4.o.on hnx) (Zaz ho HR4.o.fw) (by simp only[Xe,Xa]at hbl;omega) hbs
     have HB9:=A hB9;have HR9:=A hR9
     have HWE:=A (show bs'.map tl=walked u.sch [] (l.drop 1)by rw[hwe,HR4.o.usch];rfl)
     have HBT9:=A (show But rb w (w5.setCell ⟨rb,6,none⟩ (.slice ao9 n9 cp9))from(HBT4.o.then (But.nx hnx)).set 6 _);obtain⟨-,-,-,-,-,-,k6,-⟩:=(HB4.o.on hnx).cells;have f6:=(HB4.o.on hnx).free 6;clear ho hwe hbl hbs hbel hnx hB9 hR9;go_wp2;go_ret
     exact⟨by rw[HE.o];rfl,⟨_,bs',HB9.o,by rw[HE.o];have h:=HR9.o;rw[HWE.o]at h;exact h⟩,HBT9.o⟩
    .have HDR:=A hdr
     clear hdr;go_wp2_with fail
     refine(ZBQ _ (l.drop 1) _ HDR.o).mono ?_
     rintro e w4 ⟨rfl,hn4⟩;have HB4:=A (HB3.o.on hn4);have HR4:=A (HR3.o.on hn4);have HDR4:=A (HDR.o.on hn4);have HBT4:=A (HBT3.o.then (But.nx hn4));clear hn4 HB3 HR3 HDR HBT3;generalize driven (l.drop 1)=dv at *;go_wp2_with fail
     refine(Zzw rb R.sch (.slice none 0 0) [] _ (l.drop 1) w4.heap.size _ HB4.o.sch (Xc _) (ZzQ _ _) (by simp) (by simp) HDR4.o (by rw[Xa];omega) HPD.o).mono ?_
     rintro e w5 ⟨v',bs',rfl,ho,hwe,hbl,hbs,hbel,-⟩;have hnx:Nx w4 w5:=hbel
     obtain⟨ao9,n9,cp9,rfl,hB9,hR9⟩:=RIs.setPath (HB4.o.on hnx) (HR4.o.on hnx) (Zaz ho HR4.o.fw) (by simp only[Xe,Xa]at hbl;omega) hbs
     have HB9:=A hB9;have HR9:=A hR9
     have HWE:=A (show bs'.map tl=walked u.sch [] (l.drop 1)by rw[hwe,HR4.o.usch];rfl)
     have HBT9:=A (show But rb w (w5.setCell ⟨rb,6,none⟩ (.slice ao9 n9 cp9))from(HBT4.o.then (But.nx hnx)).set 6 _);obtain⟨-,-,-,-,-,-,k6,-⟩:=(HB4.o.on hnx).cells;have f6:=(HB4.o.on hnx).free 6;clear ho hwe hbl hbs hbel hnx hB9 hR9;go_wp2;go_ret
     exact⟨by rw[HE.o];rfl,⟨_,bs',HB9.o,by rw[HE.o];have h:=HR9.o;rw[HWE.o]at h;exact h⟩,HBT9.o⟩
   .have hl2:1<l.length:=HL1.o h1
    have HE:=A (HD.o.trans (ifP (by rw[h0,h1];rfl)))
    obtain⟨b,off,cap,he,hlc,hcap,hrow⟩:=HV3.o.open_ (k:=0) (by omega)
    simp only[Value.slice.injEq]at he;obtain⟨rfl,-,rfl⟩:=he
    have HPD:=A (fun c (hc:c∈l.drop 2)=>HP.o c (Xb hc))
    have hsd:=ZA3 hrow hlc hcap 2 (by omega)
    unfold maxLen at hcap;clear HD h0 h1 hrow HV3;rcases hsd with⟨hc1,hdr⟩|⟨hc1,hdr⟩
    .subst hc1
     have HDR:=A hdr;clear hdr;go_wp2_with fail
     refine(ZBp rb _ _ bs _ (l.drop 2) _ HB3.o HR3.o HDR.o (by rw[Xa];omega) HPD.o).mono ?_
     rintro e w4 ⟨rfl,hx,hbt⟩;have HX:=A hx;have HBT4:=A (HBT3.o.then hbt);clear hx hbt;go_wp2;go_ret
     exact⟨by rw[HE.o];rfl,by rw[HE.o];exact HX.o,HBT4.o⟩
    .have HDR:=A hdr
     clear hdr;go_wp2_with fail
     refine(ZBp rb _ _ bs _ (l.drop 2) _ HB3.o HR3.o HDR.o (by rw[Xa];omega) HPD.o).mono ?_
     rintro e w4 ⟨rfl,hx,hbt⟩;have HX:=A hx;have HBT4:=A (HBT3.o.then hbt);clear hx hbt;go_wp2;go_ret
     exact⟨by rw[HE.o];rfl,by rw[HE.o];exact HX.o,HBT4.o⟩
theorem ZLe(cs:LA)(h:0<cs.length):(cs.map tl).headD []=tl cs[0]:=by cases cs with|nil=>simp at h|cons=>rfl
theorem ZJy(rb qb:Nat)(R Q:RR)(u base:RU)(bs cs:LA)(v:Value)(l:LI)(w:World)(h:RB w rb R)(hr:RIs w R u bs)(hq:RB w qb Q)(hqr:RIs w Q base cs)(hne:qb≠rb)(hf:tl Q.sch=Zzu)(hv:IntsAt w v l)(hl:l.length<=20000)(hcl:cs.length<=70000)(hp:∀c∈l,Pt c):Calls prog 232 #[.pointer (some ⟨rb,0,none⟩),v,.pointer (some ⟨qb,0,none⟩)] w fun e w'=>ZGi e w w' rb (ZAp u l (some base)):=by
 have HBP:=A (show base.path=cs.map tl by rw[<-hqr.eq];rfl)
 have HD:=A (show ZAp u l (some base)=if(Zq l 0 Zzu&&Zq l 1 Zzu)=true then ZAS { u with his:=true,htx:=[] } (l.drop 2)else if Zq l 0 Zzu=true then({ u with his:=base.his,htx:=base.htx,path:=walked u.sch (if driven (l.drop 1)=false/\base.path≠[]/\drive (base.path.headD [])=true then [base.path.headD []]else []) (l.drop 1) },0)
  else if l=[]then(ZDl { u with his:=base.his,htx:=base.htx } base,0)
  else({ u with his:=base.his,htx:=base.htx,path:=walked u.sch (if driven l=true then []else ZzN u.sch base.path) l },0)from rfl)
 have HQ:=A hq;have HQR:=A hqr;have hfb:=eqB (s:=Q.sch) hf;simp only[Zzu]at hfb;have q0:=hq.cells.1;have HBI:=A hr;have HV:=A hv;have HP:=A hp;obtain⟨c0,c1,c2,c3,c4,c5,c6,c7,c8,c9,c10,c11,c12⟩:=h.cells;have f3:=h.free 3;have f4:=h.free 4;obtain⟨hB1,hR1⟩:=RIs.setHost h hr true ⟨#[]⟩;have HB0:=A h;have HB1:=A hB1
 have HR1:=A (show RIs _ _ { u with his:=true,htx:=[] } bs from hR1)
 have HBT1:=A (show But rb w ((w.setCell ⟨rb,3,none⟩ (C true)).setCell ⟨rb,4,none⟩ (J ⟨#[]⟩))from((But.refl rb w).set 3 _).set 4 _);have HK1:=A (HBT1.o.kp h)
 have HV1:=A (hv.kp HK1.o (by decide))
 clear h hr hp hB1 hR1;have HQ1:=A (HQ.o.but HBT1.o hne);have HQR1:=A (HQR.o.kp HK1.o);clear hq hqr hf;obtain⟨vo,vcap,hve,-⟩:=hv;subst hve
 go_enter func232,ntmps232
 go_upto_region 3 with fail;clear q0;clear c0 c1 c2 c3 c4 c5 c6 c7 c8 c9 c10 c11 c12 f3 f4;generalize ((w.setCell ⟨rb,3,none⟩ (C true)).setCell ⟨rb,4,none⟩ (J ⟨#[]⟩))=w1 at *;go_wp2_with fail
 refine(Zbd _ l 0 ⟨#[102,105,108,101]⟩ _ HV1.o).mono ?_
 rintro e w2 ⟨rfl,hn2⟩;rw[show tl (⟨#[102,105,108,101]⟩:BA)=Zzu from rfl];have HN2:=A hn2;clear hn2;go_wp2_with fail
 refine(Zbd _ l 1 ⟨#[102,105,108,101]⟩ _ (HV1.o.on HN2.o)).mono ?_
 rintro e w3 ⟨rfl,hn3⟩;rw[show tl (⟨#[102,105,108,101]⟩:BA)=Zzu from rfl];have HN3:=A (HN2.o.then hn3);have HB3:=A (HB1.o.on HN3.o);have HR3:=A (HR1.o.on HN3.o);have HV3:=A (HV1.o.on HN3.o);have HBT3:=A (HBT1.o.then (But.nx HN3.o));clear hn3 HN2 HB1 HR1 HV1 HBT1
 have HL0:=A (fun(x:Zq l 0 Zzu=true)=>ZAM x)
 have HL1:=A (fun(x:Zq l 1 Zzu=true)=>ZAM x)
 have HQ3:=A (HQ1.o.on HN3.o);have HQR3:=A (HQR1.o.on HN3.o);clear HQ1 HQR1
 cases h0:Zq l 0 Zzu
 .have HD1:=A (HD.o.trans ((ifN (by simp[h0])).trans (ifN (by simp[h0]))))
  clear HD h0
  cases h1:Zq l 1 Zzu
  all_goals clear h1
  all_goals
   rcases Xh l.length with hz|hpos
   .have HE:=A (HD1.o.trans (ifP (Xd hz)))
    have hz':((l.length:Int)==0)=true:=by rw[hz];rfl
    clear HD1 hz;obtain⟨c0,c1,c2,c3,c4,c5,c6,c7,c8,c9,c10,c11,c12⟩:=HB3.o.cells;obtain⟨d0,d1,d2,d3,d4,d5,d6,d7,d8,d9,d10,d11,d12⟩:=HQ3.o.cells;have f3:=HB3.o.free 3;have f4:=HB3.o.free 4;have d4':(w3.setCell ⟨rb,3,none⟩ (C Q.his)).cell? ⟨qb,4,none⟩=some (J Q.htx):=(HQ3.o.but ((But.refl rb w3).set 3 (C Q.his)) hne).cells.2.2.2.2.1;go_upto_region 27 with fail;obtain⟨hB5,hR5⟩:=RIs.setHost HB3.o HR3.o Q.his Q.htx;have hbt5:But rb w3 ((w3.setCell ⟨rb,3,none⟩ (C Q.his)).setCell ⟨rb,4,none⟩ (J Q.htx)):=((But.refl rb w3).set 3 _).set 4 _;have HB5:=A hB5
    have HR5:=A (show RIs _ _ { u with his:=base.his,htx:=base.htx } bs by rw[<-HQR.o.eq];exact hR5)
    have HBT5:=A (HBT3.o.then hbt5);have hkp5:=hbt5.kp HB3.o;have HQ5:=A (HQ3.o.but hbt5 hne);have HQR5:=A (HQR3.o.kp hkp5);clear c0 c1 c2 c3 c4 c5 c6 c7 c8 c9 c10 c11 c12 d0 d1 d2 d3 d4 d5 d6 d7 d8 d9 d10 d11 d12 f3 f4 d4' hbt5 hkp5 hB5 hR5;generalize ((w3.setCell ⟨rb,3,none⟩ (C Q.his)).setCell ⟨rb,4,none⟩ (J Q.htx))=w5 at *;go_wp2_with fail
    refine(ZFn rb qb _ Q _ base bs cs _ HB5.o HR5.o HQ5.o HQR5.o hne).mono ?_
    rintro e w6 ⟨rfl,⟨R6,hB6,hR6⟩,hbt6⟩;have HB6:=A hB6;have HR6:=A hR6;have HBT6:=A (HBT5.o.then hbt6);clear hB6 hR6 hbt6;go_wp2;go_ret
    exact⟨by rw[HE.o];rfl,⟨_,cs,HB6.o,by rw[HE.o];exact HR6.o⟩,HBT6.o⟩
   .have HE0:=A (HD1.o.trans (ifN (fun e=>by rw[e]at hpos;simp at hpos)))
    have hz':((l.length:Int)==0)=false:=beq_eq_false_iff_ne.2 (by omega)
    clear HD1 hpos;obtain⟨c0,c1,c2,c3,c4,c5,c6,c7,c8,c9,c10,c11,c12⟩:=HB3.o.cells;obtain⟨d0,d1,d2,d3,d4,d5,d6,d7,d8,d9,d10,d11,d12⟩:=HQ3.o.cells;have f3:=HB3.o.free 3;have f4:=HB3.o.free 4;have d4':(w3.setCell ⟨rb,3,none⟩ (C Q.his)).cell? ⟨qb,4,none⟩=some (J Q.htx):=(HQ3.o.but ((But.refl rb w3).set 3 (C Q.his)) hne).cells.2.2.2.2.1;go_upto_region 6 with fail;obtain⟨hB5,hR5⟩:=RIs.setHost HB3.o HR3.o Q.his Q.htx;have hbt5:But rb w3 ((w3.setCell ⟨rb,3,none⟩ (C Q.his)).setCell ⟨rb,4,none⟩ (J Q.htx)):=((But.refl rb w3).set 3 _).set 4 _;have HB5:=A hB5
    have HR5:=A (show RIs _ _ { u with his:=base.his,htx:=base.htx } bs by rw[<-HQR.o.eq];exact hR5)
    have HBT5:=A (HBT3.o.then hbt5);have hkp5:=hbt5.kp HB3.o;have HQ5:=A (HQ3.o.but hbt5 hne);have HQR5:=A (HQR3.o.kp hkp5)
    have HV5:=A (HV3.o.kp hkp5 (by decide))
    clear c0 c1 c2 c3 c4 c5 c6 c7 c8 c9 c10 c11 c12 d0 d1 d2 d3 d4 d5 d6 d7 d8 d9 d10 d11 d12 f3 f4 d4' hbt5 hkp5 hB5 hR5;generalize ((w3.setCell ⟨rb,3,none⟩ (C Q.his)).setCell ⟨rb,4,none⟩ (J Q.htx))=w5 at *;have e6:=HQ5.o.cells.2.2.2.2.2.2.1;go_wp2_with fail
    refine(ZBn rb R.sch _ cs _ HB5.o.cells.1 HQR5.o.seg.1 HQR5.o.lseg (by omega)).mono ?_
    rintro e w6 ⟨v6,rfl,ho6,hn6⟩;have HO6:=A ho6;have HB6:=A (HB5.o.on hn6);have HR6:=A (HR5.o.on hn6);have HV6:=A (HV5.o.on hn6);have HBT6:=A (HBT5.o.then (But.nx hn6));have hw56:=hn6.size;have HN56:=A hn6;clear ho6 hn6 e6;go_wp2_with fail
    refine(ZBQ _ l _ HV6.o).mono ?_
    rintro e w7 ⟨rfl,hn7⟩;have HN57:=A (HN56.o.then hn7);have HB7:=A (HB6.o.on hn7);have HR7:=A (HR6.o.on hn7);have HV7:=A (HV6.o.on hn7);have HO7:=A (Zbw HO6.o hn7);have HBT7:=A (HBT6.o.then (But.nx hn7));have hw7:w5.heap.size<=w7.heap.size:=HN57.o.size;clear hn7 HO6 HB6 HR6 HV6 HBT6;have HSM:=A (ZAq (tl R.sch) cs)
    have hsl:(shorter (tl R.sch) cs).length<=70000:=by
     have:=congrArg List.length HSM.o;rw[Xf]at this;rw[this];unfold ZzN
     split
     .rw[Xf];exact hcl
     .rw[Xl,Xf];omega
    have HSS:=A (show ∀x∈shorter (tl R.sch) cs,x.size<=1000000 from fun x hx=>HQR.o.lseg x (by
     unfold shorter at hx
     split at hx
     .exact hx
     .exact(Xk cs).subset hx))
    have hus:tl R.sch=u.sch:=HBI.o.usch;have HUS:=A hus;clear hus
    cases hdv:driven l
    .have HE:=A (show ZAp u l (some base)=({ u with his:=base.his,htx:=base.htx,path:=walked u.sch (ZzN u.sch base.path) l },0)by rw[HE0.o,hdv,ifN (by decide)])
     clear HE0 hdv;go_wp2_with fail
     refine(Zzw rb R.sch v6 (shorter (tl R.sch) cs) _ l w5.heap.size _ HB7.o.sch hw7 HO7.o HSS.o (by omega) HV7.o (by omega) HP.o).mono ?_
     rintro e w8 ⟨v',bs',rfl,ho,hwe,hbl,hbs,hbel,-⟩;have hnx:Nx w5 w8:=HN57.o.trans hbel
     obtain⟨ao9,n9,cp9,rfl,hB9,hR9⟩:=RIs.setPath (HB5.o.on hnx) (HR5.o.on hnx) (Zaz ho HR5.o.fw) (by first|(simp only[Xe]at hbl;omega)|omega) hbs
     have HB9:=A hB9;have HR9:=A hR9
     have HWE:=A (show bs'.map tl=walked u.sch (ZzN u.sch base.path) l by rw[hwe,HR5.o.usch];rw[ZAq,HBP.o])
     have HBT9:=A (show But rb w (w8.setCell ⟨rb,6,none⟩ (.slice ao9 n9 cp9))from(HBT5.o.then (But.nx hnx)).set 6 _);obtain⟨-,-,-,-,-,-,k6,-⟩:=(HB5.o.on hnx).cells;have f6:=(HB5.o.on hnx).free 6;clear ho hwe hbl hbs hbel hnx hB9 hR9;go_wp2;go_ret
     exact⟨by rw[HE.o];rfl,⟨_,bs',HB9.o,by rw[HE.o];have h:=HR9.o;rw[HWE.o]at h;exact h⟩,HBT9.o⟩
    .have HE:=A (show ZAp u l (some base)=({ u with his:=base.his,htx:=base.htx,path:=walked u.sch [] l },0)by rw[HE0.o,hdv,ifP rfl])
     clear HE0 hdv;go_wp2_with fail
     refine(Zzw rb R.sch (.slice none 0 0) [] _ l w7.heap.size _ HB7.o.sch (Xc _) (ZzQ _ _) (by simp) (by simp) HV7.o (by omega) HP.o).mono ?_
     rintro e w8 ⟨v',bs',rfl,ho,hwe,hbl,hbs,hbel,-⟩;have hnx:Nx w7 w8:=hbel
     obtain⟨ao9,n9,cp9,rfl,hB9,hR9⟩:=RIs.setPath (HB7.o.on hnx) (HR7.o.on hnx) (Zaz ho HR7.o.fw) (by first|(simp only[Xe]at hbl;omega)|omega) hbs
     have HB9:=A hB9;have HR9:=A hR9
     have HWE:=A (show bs'.map tl=walked u.sch [] l by rw[hwe,HR7.o.usch];rfl)
     have HBT9:=A (show But rb w (w8.setCell ⟨rb,6,none⟩ (.slice ao9 n9 cp9))from(HBT7.o.then (But.nx hnx)).set 6 _);obtain⟨-,-,-,-,-,-,k6,-⟩:=(HB7.o.on hnx).cells;have f6:=(HB7.o.on hnx).free 6;clear ho hwe hbl hbs hbel hnx hB9 hR9;go_wp2;go_ret
     exact⟨by rw[HE.o];rfl,⟨_,bs',HB9.o,by rw[HE.o];have h:=HR9.o;rw[HWE.o]at h;exact h⟩,HBT9.o⟩
 .cases h1:Zq l 1 Zzu
  .have HD1:=A (HD.o.trans ((ifN (by simp[h0,h1])).trans (ifP h0)))
   have hl1:0<l.length:=HL0.o h0;obtain⟨b,off,cap,he,hlc,hcap,hrow⟩:=HV3.o.open_ hl1;simp only[Value.slice.injEq]at he;obtain⟨rfl,-,rfl⟩:=he
   have HPD:=A (fun c (hc:c∈l.drop 1)=>HP.o c (Xb hc))
   have hsd:=ZA3 hrow hlc hcap 1 (by omega)
   unfold maxLen at hcap;clear HD h0 h1 hrow HV3;rcases hsd with⟨hc1,hdr⟩|⟨hc1,hdr⟩
   focus
    subst hc1
   rotate_left
   all_goals
    have HDR:=A hdr;clear hdr;go_wp2_with fail
    refine(ZBQ _ (l.drop 1) _ HDR.o).mono ?_
    rintro e w4 ⟨rfl,hn4⟩;have HB4:=A (HB3.o.on hn4);have HR4:=A (HR3.o.on hn4);have HDR4:=A (HDR.o.on hn4);have HBT4:=A (HBT3.o.then (But.nx hn4));have HQ4:=A (HQ3.o.on hn4);have HQR4:=A (HQR3.o.on hn4);clear hn4 HB3 HR3 HDR HBT3 HQ3 HQR3;obtain⟨c0,c1,c2,c3,c4,c5,c6,c7,c8,c9,c10,c11,c12⟩:=HB4.o.cells;obtain⟨d0,d1,d2,d3,d4,d5,d6,d7,d8,d9,d10,d11,d12⟩:=HQ4.o.cells;have f3:=HB4.o.free 3;have f4:=HB4.o.free 4;have d4':(w4.setCell ⟨rb,3,none⟩ (C Q.his)).cell? ⟨qb,4,none⟩=some (J Q.htx):=(HQ4.o.but ((But.refl rb w4).set 3 (C Q.his)) hne).cells.2.2.2.2.1;generalize hdv:driven (l.drop 1)=dv at *;have HDV:=A hdv;clear hdv;go_upto_region 18 with fail;obtain⟨hB5,hR5⟩:=RIs.setHost HB4.o HR4.o Q.his Q.htx;have hbt5:But rb w4 ((w4.setCell ⟨rb,3,none⟩ (C Q.his)).setCell ⟨rb,4,none⟩ (J Q.htx)):=((But.refl rb w4).set 3 _).set 4 _;have HB5:=A hB5
    have HR5:=A (show RIs _ _ { u with his:=base.his,htx:=base.htx } bs by rw[<-HQR.o.eq];exact hR5)
    have HBT5:=A (HBT4.o.then hbt5);have hkp5:=hbt5.kp HB4.o;have HQ5:=A (HQ4.o.but hbt5 hne);have HQR5:=A (HQR4.o.kp hkp5)
    have HDR5:=A (HDR4.o.kp hkp5 (by decide))
    clear c0 c1 c2 c3 c4 c5 c6 c7 c8 c9 c10 c11 c12 d0 d1 d2 d3 d4 d5 d6 d7 d8 d9 d10 d11 d12 f3 f4 d4' hbt5 hkp5 hB5 hR5;generalize ((w4.setCell ⟨rb,3,none⟩ (C Q.his)).setCell ⟨rb,4,none⟩ (J Q.htx))=w5 at *;have e6:=HQ5.o.cells.2.2.2.2.2.2.1
    cases dv
    .have HD2:=A (show ZAp u l (some base)=({ u with his:=base.his,htx:=base.htx,path:=walked u.sch (if base.path≠[]/\drive (base.path.headD [])=true then [base.path.headD []]else []) (l.drop 1) },0)by rw[HD1.o];simp)
     clear HD1;rcases HQR5.o.seg' with⟨e1,e2,e3,e4⟩|⟨b2,off2,e1,e2,hlc2,hcap2,hrow2⟩
     .rw[e1,e2,e3]at e6
      have HE:=A (show ZAp u l (some base)=({ u with his:=base.his,htx:=base.htx,path:=walked u.sch [] (l.drop 1) },0)by rw[HD2.o,ifN (fun x=>x.1 (by rw[HBP.o,e4];rfl))])
      clear e1 e2 e3 HD2;go_wp2_with fail
      refine(Zzw rb R.sch (.slice none 0 0) [] _ (l.drop 1) w5.heap.size _ HB5.o.sch (Xc _) (ZzQ _ _) (by simp) (by simp) HDR5.o (by rw[Xa];omega) HPD.o).mono ?_
      rintro e w6 ⟨v',bs',rfl,ho,hwe,hbl,hbs,hbel,-⟩;have hnx:Nx w5 w6:=hbel
      obtain⟨ao9,n9,cp9,rfl,hB9,hR9⟩:=RIs.setPath (HB5.o.on hnx) (HR5.o.on hnx) (Zaz ho HR5.o.fw) (by simp at hbl;omega) hbs
      have HB9:=A hB9;have HR9:=A hR9
      have HWE:=A (show bs'.map tl=walked u.sch [] (l.drop 1)by rw[hwe,HR5.o.usch];rfl)
      have HBT9:=A (show But rb w (w6.setCell ⟨rb,6,none⟩ (.slice ao9 n9 cp9))from(HBT5.o.then (But.nx hnx)).set 6 _);obtain⟨-,-,-,-,-,-,k6,-⟩:=(HB5.o.on hnx).cells;have f6:=(HB5.o.on hnx).free 6;clear ho hwe hbl hbs hbel hnx hB9 hR9;go_wp2;go_ret
      exact⟨by rw[HE.o];rfl,⟨_,bs',HB9.o,by rw[HE.o];have h:=HR9.o;rw[HWE.o]at h;exact h⟩,HBT9.o⟩
     .rw[e1,e2]at e6
      clear e1 e2;unfold maxLen at hcap2;rcases Xh cs.length with hz|hpos
      .have hz':((cs.length:Int) > 0)↔False:=by rw[hz];simp
       have hz2:decide (0<(cs.length:Int))=false:=by rw[hz];rfl
       have hz3:¬(0<(cs.length:Int)):=by omega
       have HE:=A (show ZAp u l (some base)=({ u with his:=base.his,htx:=base.htx,path:=walked u.sch [] (l.drop 1) },0)by rw[HD2.o,ifN (fun x=>x.1 (by rw[HBP.o,Xd hz];rfl))])
       clear HD2 hrow2 hz hz';go_wp2_with fail
       refine(Zzw rb R.sch (.slice none 0 0) [] _ (l.drop 1) w5.heap.size _ HB5.o.sch (Xc _) (ZzQ _ _) (by simp) (by simp) HDR5.o (by rw[Xa];omega) HPD.o).mono ?_
       rintro e w6 ⟨v',bs',rfl,ho,hwe,hbl,hbs,hbel,-⟩;have hnx:Nx w5 w6:=hbel
       obtain⟨ao9,n9,cp9,rfl,hB9,hR9⟩:=RIs.setPath (HB5.o.on hnx) (HR5.o.on hnx) (Zaz ho HR5.o.fw) (by simp at hbl;omega) hbs
       have HB9:=A hB9;have HR9:=A hR9
       have HWE:=A (show bs'.map tl=walked u.sch [] (l.drop 1)by rw[hwe,HR5.o.usch];rfl)
       have HBT9:=A (show But rb w (w6.setCell ⟨rb,6,none⟩ (.slice ao9 n9 cp9))from(HBT5.o.then (But.nx hnx)).set 6 _);obtain⟨-,-,-,-,-,-,k6,-⟩:=(HB5.o.on hnx).cells;have f6:=(HB5.o.on hnx).free 6;clear ho hwe hbl hbs hbel hnx hB9 hR9;go_wp2;go_ret
       exact⟨by rw[HE.o];rfl,⟨_,bs',HB9.o,by rw[HE.o];have h:=HR9.o;rw[HWE.o]at h;exact h⟩,HBT9.o⟩
      .have cc:=hrow2.cell hpos
       rw[Xg]at cc;have hsz0:cs[0].size<=1000000:=HQR5.o.lseg _ (List.getElem_mem hpos);have HRW:=A hrow2
       have HD3:=A (show ZAp u l (some base)=({ u with his:=base.his,htx:=base.htx,path:=walked u.sch (if drive (tl cs[0])=true then [tl cs[0]]else []) (l.drop 1) },0)by
        rw[HD2.o,HBP.o,ZLe cs hpos]
        have hn0:cs.map tl≠[]:=fun e=>by have:=congrArg List.length e;rw[Xf,Xe]at this;omega
        simp[hn0])
       clear HD2 hrow2;go_wp2_with fail
       refine(ZgQ cs[0] _ hsz0).mono ?_
       rintro e w6 ⟨rfl,hn6⟩;have HB6:=A (HB5.o.on hn6);have HR6:=A (HR5.o.on hn6);have HBT6:=A (HBT5.o.then (But.nx hn6));have HDR6:=A (HDR5.o.on hn6)
       have e7:w6.cell? ⟨qb,6,none⟩=some (.slice (some ⟨b2,off2,none⟩) cs.length Q.pc):=by have h:=(HQ5.o.on hn6).cells.2.2.2.2.2.2.1;have h0:=HQ5.o.cells.2.2.2.2.2.2.1;rw[h0]at e6;rw[h];exact e6
       have cc6:=(HRW.o.on hn6).cell hpos;rw[Xg]at cc6;clear hn6 cc e6 HB5 HR5 HBT5 HDR5
       cases hdr0:drive (tl cs[0])
       .have HE:=A (HD3.o.trans (by rw[hdr0,ifN (by decide)]))
        clear HD3 hdr0;go_wp2_with fail
        refine(Zzw rb R.sch (.slice none 0 0) [] _ (l.drop 1) w6.heap.size _ HB6.o.sch (Xc _) (ZzQ _ _) (by simp) (by simp) HDR6.o (by rw[Xa];omega) HPD.o).mono ?_
        rintro e w7 ⟨v',bs',rfl,ho,hwe,hbl,hbs,hbel,-⟩;have hnx:Nx w6 w7:=hbel
        obtain⟨ao9,n9,cp9,rfl,hB9,hR9⟩:=RIs.setPath (HB6.o.on hnx) (HR6.o.on hnx) (Zaz ho HR6.o.fw) (by simp at hbl;omega) hbs
        have HB9:=A hB9;have HR9:=A hR9
        have HWE:=A (show bs'.map tl=walked u.sch [] (l.drop 1)by rw[hwe,HR6.o.usch];rfl)
        have HBT9:=A (show But rb w (w7.setCell ⟨rb,6,none⟩ (.slice ao9 n9 cp9))from(HBT6.o.then (But.nx hnx)).set 6 _);obtain⟨-,-,-,-,-,-,k6,-⟩:=(HB6.o.on hnx).cells;have f6:=(HB6.o.on hnx).free 6;clear ho hwe hbl hbs hbel hnx hB9 hR9;go_wp2;go_ret
        exact⟨by rw[HE.o];rfl,⟨_,bs',HB9.o,by rw[HE.o];have h:=HR9.o;rw[HWE.o]at h;exact h⟩,HBT9.o⟩
       .have HE:=A (HD3.o.trans (by rw[hdr0,ifP rfl]))
        clear HD3 hdr0;go_wp2_with fail
        refine(Zzw rb R.sch _ [cs[0]] _ (l.drop 1) w6.heap.size _ (HB6.o.on (Nx.rfl.alloc _)).sch (by simp) (ZHc w6 cs[0]) (by intro x hx;rw[List.mem_singleton]at hx;subst hx;exact hsz0) (by simp) (HDR6.o.on (Nx.rfl.alloc _)) (by rw[Xa];omega) HPD.o).mono ?_
        rintro e w7 ⟨v',bs',rfl,ho,hwe,hbl,hbs,hbel,-⟩;have hnx:Nx w6 w7:=(show Nx w6 _ from Nx.rfl.alloc _).trans hbel
        obtain⟨ao9,n9,cp9,rfl,hB9,hR9⟩:=RIs.setPath (HB6.o.on hnx) (HR6.o.on hnx) (Zaz ho HR6.o.fw) (by simp at hbl;omega) hbs
        have HB9:=A hB9;have HR9:=A hR9
        have HWE:=A (show bs'.map tl=walked u.sch [tl cs[0]] (l.drop 1)by rw[hwe,HR6.o.usch];rfl)
        have HBT9:=A (show But rb w (w7.setCell ⟨rb,6,none⟩ (.slice ao9 n9 cp9))from(HBT6.o.then (But.nx hnx)).set 6 _);obtain⟨-,-,-,-,-,-,k6,-⟩:=(HB6.o.on hnx).cells;have f6:=(HB6.o.on hnx).free 6;clear ho hwe hbl hbs hbel hnx hB9 hR9;go_wp2;go_ret
        exact⟨by rw[HE.o];rfl,⟨_,bs',HB9.o,by rw[HE.o];have h:=HR9.o;rw[HWE.o]at h;exact h⟩,HBT9.o⟩
    .have HE:=A (show ZAp u l (some base)=({ u with his:=base.his,htx:=base.htx,path:=walked u.sch [] (l.drop 1) },0)by rw[HD1.o];simp)
     clear HD1;go_wp2_with fail
     refine(Zzw rb R.sch (.slice none 0 0) [] _ (l.drop 1) w5.heap.size _ HB5.o.sch (Xc _) (ZzQ _ _) (by simp) (by simp) HDR5.o (by rw[Xa];omega) HPD.o).mono ?_
     rintro e w6 ⟨v',bs',rfl,ho,hwe,hbl,hbs,hbel,-⟩;have hnx:Nx w5 w6:=hbel
     obtain⟨ao9,n9,cp9,rfl,hB9,hR9⟩:=RIs.setPath (HB5.o.on hnx) (HR5.o.on hnx) (Zaz ho HR5.o.fw) (by simp at hbl;omega) hbs
     have HB9:=A hB9;have HR9:=A hR9
     have HWE:=A (show bs'.map tl=walked u.sch [] (l.drop 1)by rw[hwe,HR5.o.usch];rfl)
     have HBT9:=A (show But rb w (w6.setCell ⟨rb,6,none⟩ (.slice ao9 n9 cp9))from(HBT5.o.then (But.nx hnx)).set 6 _);obtain⟨-,-,-,-,-,-,k6,-⟩:=(HB5.o.on hnx).cells;have f6:=(HB5.o.on hnx).free 6;clear ho hwe hbl hbs hbel hnx hB9 hR9;go_wp2;go_ret
     exact⟨by rw[HE.o];rfl,⟨_,bs',HB9.o,by rw[HE.o];have h:=HR9.o;rw[HWE.o]at h;exact h⟩,HBT9.o⟩
  .have hl2:1<l.length:=HL1.o h1
   have HE:=A (HD.o.trans (ifP (by rw[h0,h1];rfl)))
   obtain⟨b,off,cap,he,hlc,hcap,hrow⟩:=HV3.o.open_ (k:=0) (by omega)
   simp only[Value.slice.injEq]at he;obtain⟨rfl,-,rfl⟩:=he
   have HPD:=A (fun c (hc:c∈l.drop 2)=>HP.o c (Xb hc))
   have hsd:=ZA3 hrow hlc hcap 2 (by omega)
   unfold maxLen at hcap;clear HD h0 h1 hrow HV3;rcases hsd with⟨hc1,hdr⟩|⟨hc1,hdr⟩
   focus
    subst hc1
   rotate_left
   all_goals
    have HDR:=A hdr;clear hdr;go_wp2_with fail
    refine(ZBp rb _ _ bs _ (l.drop 2) _ HB3.o HR3.o HDR.o (by rw[Xa];omega) HPD.o).mono ?_
    rintro e w4 ⟨rfl,hx,hbt⟩;have HX:=A hx;have HBT4:=A (HBT3.o.then hbt);clear hx hbt;go_wp2;go_ret
    exact⟨by rw[HE.o];rfl,by rw[HE.o];exact HX.o,HBT4.o⟩
def BaseIs(w:World)(rb:Nat)(bv:Value)(ob:Option RU):Prop:=
 (ob=none/\bv=.pointer none)∨∃qb Q b cs,ob=some b/\bv=.pointer (some ⟨qb,0,none⟩)/\RB w qb Q/\RIs w Q b cs/\qb≠rb/\cs.length<=70000
def ZDO(ob:Option RU):Option RU:=match ob with|some b=>if b.sch=Zzu then some b else none|none=>none
theorem ZLf(rb:Nat)(R:RR)(u:RU)(bs:LA)(v bv:Value)(l:LI)(ob:Option RU)(w:World)(h:RB w rb R)(hr:RIs w R u bs)(hv:IntsAt w v l)(hl:l.length<=20000)(hp:∀c∈l,Pt c)(hb:BaseIs w rb bv ob):Calls prog 232 #[.pointer (some ⟨rb,0,none⟩),v,bv] w fun e w'=>ZGi e w w' rb (ZAp u l (ZDO ob)):=by
 rcases hb with⟨rfl,rfl⟩|⟨qb,Q,b,cs,rfl,rfl,hq,hqr,hne,hcl⟩
 .exact ZHo rb R u bs v _ l w h hr hv hl hp (Or.inl rfl)
 .by_cases hf:b.sch=Zzu
  .rw[show ZDO (some b)=some b from ifP hf]
   exact ZJy rb qb R Q u b bs cs v l w h hr hq hqr hne (by rw[hqr.usch];exact hf) hv hl hcl hp
  .rw[show ZDO (some b)=none from ifN hf]
   exact ZHo rb R u bs v _ l w h hr hv hl hp (Or.inr ⟨qb,Q,rfl,hq,by rw[hqr.usch];exact hf⟩)
def ZFo(u b:RU):RU:={ u with user:=b.user,pass:=b.pass,his:=b.his,htx:=b.htx,port:=b.port }
def ZA4(u:RU)(l:List Int)(b:RU):RU×Int:=
 if(Zq l 0 u.sch&&Zq l 1 u.sch)=true then ZzE u (l.drop 2)
 else if Zq l 0 u.sch=true then({ ZFo u b with path:=walked u.sch [] (l.drop 1) },0)
 else if l=[]then(ZDl (ZFo u b) b,0)else({ ZFo u b with path:=walked u.sch (ZzN u.sch b.path) l },0)
theorem ZHp(rb:Nat)(R:RR)(u:RU)(bs:LA)(v bv:Value)(l:LI)(ob:Option RU)(w:World)(h:RB w rb R)(hr:RIs w R u bs)(hv:IntsAt w v l)(hl:l.length<=20000)(hp:∀c∈l,Pt c)(hb:BaseIs w rb bv ob)(hf:u.sch=Zzu):Calls prog 200 #[.pointer (some ⟨rb,0,none⟩),v,bv] w fun e w'=>ZGi e w w' rb (ZAp u l (ZDO ob)):=by
 have HF:=A (ZLf rb R u bs v bv l ob w h hr hv hl hp hb)
 have hfb:=eqB (s:=R.sch) (l:=[102,105,108,101]) (by rw[hr.usch,hf];rfl)
 have c0:=h.cells.1;clear h hr hv hp hb hf
 go_enter func200,ntmps200
 go_wp2_with fail
 refine HF.o.mono ?_
 rintro e w1 ⟨rfl,hx,hbt⟩;have HX:=A hx;have HBT:=A hbt;clear hx hbt;go_wp2;go_ret;exact⟨rfl,HX.o,HBT.o⟩
theorem RIs.heir{w:World}{rb:Nat}{R Q:RR}{u b:RU}{bs cs:LA}(hB:RB w rb R)(hR:RIs w R u bs)(hQ:RIs w Q b cs):
  RB (((((w.setCell ⟨rb,1,none⟩ (J Q.user)).setCell ⟨rb,2,none⟩ (J Q.pass)).setCell ⟨rb,3,none⟩ (C Q.his)).setCell ⟨rb,4,none⟩ (J Q.htx)).setCell ⟨rb,5,none⟩ (I X Q.port)) rb { R with user:=Q.user,pass:=Q.pass,his:=Q.his,htx:=Q.htx,port:=Q.port } /\
  RIs (((((w.setCell ⟨rb,1,none⟩ (J Q.user)).setCell ⟨rb,2,none⟩ (J Q.pass)).setCell ⟨rb,3,none⟩ (C Q.his)).setCell ⟨rb,4,none⟩ (J Q.htx)).setCell ⟨rb,5,none⟩ (I X Q.port)) { R with user:=Q.user,pass:=Q.pass,his:=Q.his,htx:=Q.htx,port:=Q.port } (ZFo u b) bs /\
  But rb w (((((w.setCell ⟨rb,1,none⟩ (J Q.user)).setCell ⟨rb,2,none⟩ (J Q.pass)).setCell ⟨rb,3,none⟩ (C Q.his)).setCell ⟨rb,4,none⟩ (J Q.htx)).setCell ⟨rb,5,none⟩ (I X Q.port)):=by
 have hbt:But rb w (((((w.setCell ⟨rb,1,none⟩ (J Q.user)).setCell ⟨rb,2,none⟩ (J Q.pass)).setCell ⟨rb,3,none⟩ (C Q.his)).setCell ⟨rb,4,none⟩ (J Q.htx)).setCell ⟨rb,5,none⟩ (I X Q.port)):=((((((But.refl rb w).set 1 _).set 2 _).set 3 _).set 4 _).set 5 _)
 refine⟨((((hB.s1 _).s2 _).s3 _).s4 _).s5 _,{ hR.kp (hbt.kp hB)with eq:=?_ },hbt⟩
 rw[<-hR.eq,<-hQ.eq]
 rfl
theorem ZFp(rb qb:Nat)(R Q:RR)(u b:RU)(bs cs:LA)(v:Value)(l:LI)(w:World)(h:RB w rb R)(hr:RIs w R u bs)(hq:RB w qb Q)(hqr:RIs w Q b cs)(hne:qb≠rb)(hf:u.sch≠Zzu)(hv:IntsAt w v l)(hl:l.length<=20000)(hcl:cs.length<=70000)(hp:∀c∈l,Pt c):Calls prog 200 #[.pointer (some ⟨rb,0,none⟩),v,.pointer (some ⟨qb,0,none⟩)] w fun e w'=>ZGi e w w' rb (ZA4 u l b):=by
 have HBP:=A (show b.path=cs.map tl by rw[<-hqr.eq];rfl)
 have HD:=A (show ZA4 u l b=if(Zq l 0 (tl R.sch)&&Zq l 1 (tl R.sch))=true then ZzE u (l.drop 2)else if Zq l 0 (tl R.sch)=true then({ ZFo u b with path:=walked u.sch [] (l.drop 1) },0)else if l=[]then(ZDl (ZFo u b) b,0)else({ ZFo u b with path:=walked u.sch (ZzN u.sch b.path) l },0)by rw[hr.usch];rfl)
 have HBI:=A hr;have HB:=A h;have HQ:=A hq;have HQR:=A hqr;have HP:=A hp;have HV:=A hv
 have hfb:=neB (s:=R.sch) (l:=[102,105,108,101]) (by rw[hr.usch];exact hf)
 have c0:=h.cells.1;clear h hr hq hqr hf hp;obtain⟨vo,vcap,hve,-⟩:=hv;subst hve
 go_enter func200,ntmps200
 go_wp2_with fail
 refine(Zbd _ l 0 R.sch _ HV.o).mono ?_
 rintro e w2 ⟨rfl,hn2⟩;have HN2:=A hn2;have c02:=(HB.o.on hn2).cells.1;clear hn2 c0;go_wp2_with fail
 refine(Zbd _ l 1 R.sch _ (HV.o.on HN2.o)).mono ?_
 rintro e w3 ⟨rfl,hn3⟩;have HN3:=A (HN2.o.then hn3);have HB3:=A (HB.o.on HN3.o);have HR3:=A (HBI.o.on HN3.o);have HV3:=A (HV.o.on HN3.o);have HBT3:=A (show But rb w w3 from But.nx HN3.o);have HQ3:=A (HQ.o.on HN3.o);have HQR3:=A (HQR.o.on HN3.o)
 have HL0:=A (fun(x:Zq l 0 (tl R.sch)=true)=>ZAM x)
 have HL1:=A (fun(x:Zq l 1 (tl R.sch)=true)=>ZAM x)
 clear hn3 HN2 c02
 cases h0:Zq l 0 (tl R.sch)
 .have HD1:=A (HD.o.trans ((ifN (by simp[h0])).trans (ifN (by simp[h0]))))
  clear HD h0
  cases h1:Zq l 1 (tl R.sch)
  all_goals clear h1
  all_goals
   obtain⟨c0,c1,c2,c3,c4,c5,c6,c7,c8,c9,c10,c11,c12⟩:=HB3.o.cells;obtain⟨d0,d1,d2,d3,d4,d5,d6,d7,d8,d9,d10,d11,d12⟩:=HQ3.o.cells;have f1:=HB3.o.free 1;have f2:=HB3.o.free 2;have f3:=HB3.o.free 3;have f4:=HB3.o.free 4;have f5:=HB3.o.free 5;have g2:(w3.setCell ⟨rb,1,none⟩ (J Q.user)).cell? ⟨qb,2,none⟩=some (J Q.pass):=(HQ3.o.but ((But.refl rb w3).set 1 (J Q.user)) hne).cells.2.2.1;have g3:=(HQ3.o.but (((But.refl rb w3).set 1 (J Q.user)).set 2 (J Q.pass)) hne).cells.2.2.2.1;have g4:=(HQ3.o.but (((But.refl rb w3).set 1 (J Q.user)).set 2 (J Q.pass)) hne).cells.2.2.2.2.1;have g4':=(HQ3.o.but ((((But.refl rb w3).set 1 (J Q.user)).set 2 (J Q.pass)).set 3 (C Q.his)) hne).cells.2.2.2.2.1;have g5:=(HQ3.o.but (((((But.refl rb w3).set 1 (J Q.user)).set 2 (J Q.pass)).set 3 (C Q.his)).set 4 (J Q.htx)) hne).cells.2.2.2.2.2.1;obtain⟨hB5,hR5,hbt5⟩:=RIs.heir HB3.o HR3.o HQR3.o;have hkp5:=hbt5.kp HB3.o;have HB5:=A hB5;have HR5:=A hR5;have HBT5:=A (HBT3.o.then hbt5)
   have HV5:=A (HV3.o.kp hkp5 (by decide))
   have HQ5:=A (HQ3.o.but hbt5 hne);have HQR5:=A (HQR3.o.kp hkp5);clear hB5 hR5 hbt5 hkp5;go_upto_region 13 with fail;clear c0 c1 c2 c3 c4 c5 c6 c7 c8 c9 c10 c11 c12 d0 d1 d2 d3 d4 d5 d6 d7 d8 d9 d10 d11 d12 f1 f2 f3 f4 f5 g2 g3 g4 g4' g5;generalize (((((w3.setCell ⟨rb,1,none⟩ (J Q.user)).setCell ⟨rb,2,none⟩ (J Q.pass)).setCell ⟨rb,3,none⟩ (C Q.his)).setCell ⟨rb,4,none⟩ (J Q.htx)).setCell ⟨rb,5,none⟩ (I X Q.port))=w5 at *;rcases Xh l.length with hz|hpos
   .have HE:=A (HD1.o.trans (ifP (Xd hz)))
    have hz':((l.length:Int)==0)=true:=by rw[hz];rfl
    clear HD1 hz;go_wp2_with fail
    refine(ZFn rb qb _ Q _ b bs cs _ HB5.o HR5.o HQ5.o HQR5.o hne).mono ?_
    rintro e w6 ⟨rfl,⟨R6,hB6,hR6⟩,hbt6⟩;have HB6:=A hB6;have HR6:=A hR6;have HBT6:=A (HBT5.o.then hbt6);clear hB6 hR6 hbt6;go_wp2;go_ret
    exact⟨by rw[HE.o];rfl,⟨_,cs,HB6.o,by rw[HE.o];exact HR6.o⟩,HBT6.o⟩
   .have HE:=A (HD1.o.trans (ifN (fun e=>by rw[e]at hpos;simp at hpos)))
    have hz':((l.length:Int)==0)=false:=beq_eq_false_iff_ne.2 (by omega)
    clear HD1 hpos;have e6:=HQ5.o.cells.2.2.2.2.2.2.1;go_wp2_with fail
    refine(ZBn rb R.sch _ cs _ HB5.o.cells.1 HQR5.o.seg.1 HQR5.o.lseg (by omega)).mono ?_
    rintro e w7 ⟨v6,rfl,ho6,hn6⟩;have HN57:=A hn6;have HB7:=A (HB5.o.on hn6);have HV7:=A (HV5.o.on hn6);have HO7:=A ho6;have hw7:w5.heap.size<=w7.heap.size:=hn6.size;clear ho6 hn6 e6;have HSM:=A (ZAq (tl R.sch) cs)
    have hsl:(shorter (tl R.sch) cs).length<=70000:=by
     have:=congrArg List.length HSM.o;rw[Xf]at this;rw[this];unfold ZzN
     split
     .rw[Xf];exact hcl
     .rw[Xl,Xf];omega
    have HSS:=A (show ∀x∈shorter (tl R.sch) cs,x.size<=1000000 from fun x hx=>HQR.o.lseg x (by
     unfold shorter at hx
     split at hx
     .exact hx
     .exact(Xk cs).subset hx))
    go_wp2_with fail
    refine(Zzw rb R.sch v6 (shorter (tl R.sch) cs) _ l w5.heap.size _ HB7.o.sch hw7 HO7.o HSS.o (by omega) HV7.o (by omega) HP.o).mono ?_
    rintro e w8 ⟨v',bs',rfl,ho,hwe,hbl,hbs,hbel,-⟩;have hnx:Nx w5 w8:=HN57.o.trans hbel
    obtain⟨ao9,n9,cp9,rfl,hB9,hR9⟩:=RIs.setPath (HB5.o.on hnx) (HR5.o.on hnx) (Zaz ho HR5.o.fw) (by first|(simp only[Xe]at hbl;omega)|omega) hbs
    have HB9:=A hB9;have HR9:=A hR9
    have HWE:=A (show bs'.map tl=walked u.sch (ZzN u.sch b.path) l by rw[hwe,HR5.o.usch];rw[ZAq,HBP.o];rfl)
    have HBT9:=A (show But rb w (w8.setCell ⟨rb,6,none⟩ (.slice ao9 n9 cp9))from(HBT5.o.then (But.nx hnx)).set 6 _);obtain⟨-,-,-,-,-,-,k6,-⟩:=(HB5.o.on hnx).cells;have f6:=(HB5.o.on hnx).free 6;clear ho hwe hbl hbs hbel hnx hB9 hR9;go_wp2;go_ret
    exact⟨by rw[HE.o];rfl,⟨_,bs',HB9.o,by rw[HE.o];have h:=HR9.o;rw[HWE.o]at h;exact h⟩,HBT9.o⟩
 .cases h1:Zq l 1 (tl R.sch)
  .have HE:=A (HD.o.trans ((ifN (by simp[h0,h1])).trans (ifP h0)))
   have hl1:0<l.length:=HL0.o h0
   have HPD:=A (fun c (hc:c∈l.drop 1)=>HP.o c (Xb hc))
   clear HD h0 h1;obtain⟨c0,c1,c2,c3,c4,c5,c6,c7,c8,c9,c10,c11,c12⟩:=HB3.o.cells;obtain⟨d0,d1,d2,d3,d4,d5,d6,d7,d8,d9,d10,d11,d12⟩:=HQ3.o.cells;have f1:=HB3.o.free 1;have f2:=HB3.o.free 2;have f3:=HB3.o.free 3;have f4:=HB3.o.free 4;have f5:=HB3.o.free 5;have g2:(w3.setCell ⟨rb,1,none⟩ (J Q.user)).cell? ⟨qb,2,none⟩=some (J Q.pass):=(HQ3.o.but ((But.refl rb w3).set 1 (J Q.user)) hne).cells.2.2.1;have g3:=(HQ3.o.but (((But.refl rb w3).set 1 (J Q.user)).set 2 (J Q.pass)) hne).cells.2.2.2.1;have g4:=(HQ3.o.but (((But.refl rb w3).set 1 (J Q.user)).set 2 (J Q.pass)) hne).cells.2.2.2.2.1;have g4':=(HQ3.o.but ((((But.refl rb w3).set 1 (J Q.user)).set 2 (J Q.pass)).set 3 (C Q.his)) hne).cells.2.2.2.2.1;have g5:=(HQ3.o.but (((((But.refl rb w3).set 1 (J Q.user)).set 2 (J Q.pass)).set 3 (C Q.his)).set 4 (J Q.htx)) hne).cells.2.2.2.2.2.1;obtain⟨hB5,hR5,hbt5⟩:=RIs.heir HB3.o HR3.o HQR3.o;have hkp5:=hbt5.kp HB3.o;have HB5:=A hB5;have HR5:=A hR5;have HBT5:=A (HBT3.o.then hbt5)
   have HV5:=A (HV3.o.kp hkp5 (by decide))
   have HQ5:=A (HQ3.o.but hbt5 hne);have HQR5:=A (HQR3.o.kp hkp5);clear hB5 hR5 hbt5 hkp5;go_upto_region 13 with fail;clear c0 c1 c2 c3 c4 c5 c6 c7 c8 c9 c10 c11 c12 d0 d1 d2 d3 d4 d5 d6 d7 d8 d9 d10 d11 d12 f1 f2 f3 f4 f5 g2 g3 g4 g4' g5;generalize (((((w3.setCell ⟨rb,1,none⟩ (J Q.user)).setCell ⟨rb,2,none⟩ (J Q.pass)).setCell ⟨rb,3,none⟩ (C Q.his)).setCell ⟨rb,4,none⟩ (J Q.htx)).setCell ⟨rb,5,none⟩ (I X Q.port))=w5 at *;obtain⟨b1,off,cap,he,hlc,hcap,hrow⟩:=HV5.o.open_ hl1;simp only[Value.slice.injEq]at he;obtain⟨rfl,-,rfl⟩:=he
   have hsd:=ZA3 hrow hlc hcap 1 (by omega)
   unfold maxLen at hcap;clear hrow;rcases hsd with⟨hc1,hdr⟩|⟨hc1,hdr⟩
   focus
    subst hc1
   rotate_left
   all_goals
    have HDR5:=A hdr;clear hdr;go_wp2_with fail
    refine(Zzw rb R.sch (.slice none 0 0) [] _ (l.drop 1) w5.heap.size _ HB5.o.sch (Xc _) (ZzQ _ _) (by simp) (by simp) HDR5.o (by rw[Xa];omega) HPD.o).mono ?_
    rintro e w6 ⟨v',bs',rfl,ho,hwe,hbl,hbs,hbel,-⟩;have hnx:Nx w5 w6:=hbel
    obtain⟨ao9,n9,cp9,rfl,hB9,hR9⟩:=RIs.setPath (HB5.o.on hnx) (HR5.o.on hnx) (Zaz ho HR5.o.fw) (by simp at hbl;omega) hbs
    have HB9:=A hB9;have HR9:=A hR9
    have HWE:=A (show bs'.map tl=walked u.sch [] (l.drop 1)by rw[hwe,HR5.o.usch];rfl)
    have HBT9:=A (show But rb w (w6.setCell ⟨rb,6,none⟩ (.slice ao9 n9 cp9))from(HBT5.o.then (But.nx hnx)).set 6 _);obtain⟨-,-,-,-,-,-,k6,-⟩:=(HB5.o.on hnx).cells;have f6:=(HB5.o.on hnx).free 6;clear ho hwe hbl hbs hbel hnx hB9 hR9;go_wp2;go_ret
    exact⟨by rw[HE.o];rfl,⟨_,bs',HB9.o,by rw[HE.o];have h:=HR9.o;rw[HWE.o]at h;exact h⟩,HBT9.o⟩
  .have hl2:1<l.length:=HL1.o h1
   have HE:=A (HD.o.trans (ifP (by rw[h0,h1];rfl)))
   obtain⟨b1,off,cap,he,hlc,hcap,hrow⟩:=HV3.o.open_ (k:=0) (by omega)
   simp only[Value.slice.injEq]at he;obtain⟨rfl,-,rfl⟩:=he
   have HPD:=A (fun c (hc:c∈l.drop 2)=>HP.o c (Xb hc))
   have hsd:=ZA3 hrow hlc hcap 2 (by omega)
   unfold maxLen at hcap;clear HD h0 h1 hrow HV3;rcases hsd with⟨hc1,hdr⟩|⟨hc1,hdr⟩
   focus
    subst hc1
   rotate_left
   all_goals
    have HDR:=A hdr;clear hdr;go_wp2_with fail
    refine(ZA8 rb R u bs _ (l.drop 2) _ HB3.o HR3.o HDR.o (by rw[Xa];omega) HPD.o).mono ?_
    rintro e w4 ⟨rfl,hx,hbt⟩;have HX:=A hx;have HBT4:=A (HBT3.o.then hbt);clear hx hbt;go_wp2;go_ret
    exact⟨by rw[HE.o];rfl,by rw[HE.o];exact HX.o,HBT4.o⟩
theorem ZNJ{s t:BA}(h:tl s=tl t):(s.toList==t.toList)=true:=by rw[ByteArray.toList_eq,ByteArray.toList_eq];show(tl s==tl t)=true;rw[h];simp
theorem ZNK{s t:BA}(h:¬tl s=tl t):(s.toList==t.toList)=false:=by rw[ByteArray.toList_eq,ByteArray.toList_eq];show(tl s==tl t)=false;simpa using h
theorem BaseIs.on{w w':World}{rb:Nat}{bv:Value}{ob:Option RU}(h:BaseIs w rb bv ob)(hn:Nx w w'):BaseIs w' rb bv ob:=by
 rcases h with h|⟨qb,Q,b,cs,h1,h2,h3,h4,h5,h6⟩
 .exact Or.inl h
 .exact Or.inr ⟨qb,Q,b,cs,h1,h2,h3.on hn,h4.on hn,h5,h6⟩
def ZC3(l:List Int):Bool:=decide (1<l.length)&&l.headD 0==47&&(l.drop 1).headD 0==47
def ZMx(l:List Int):Bool:=decide (0<l.length)&&l.headD 0==47
def ZH9(u:RU)(ob:Option RU):Option RU:=match ob with|some b=>if b.sch=u.sch then some b else none|none=>none
def ZzD(u:RU)(l:List Int)(ob:Option RU):RU×Int:=
 if u.sch=Zzu then ZAp u l (ZDO ob)
 else if Zg u.sch=true then
  (match (if ZC3 l=true then none else ZH9 u ob)with|some b=>ZA4 u l b|none=>ZzE u l)
 else if ZC3 l=true then ZzE u (l.drop 2)
 else if ZMx l=true then({ u with path:=walked u.sch [] (l.drop 1) },0)
 else({ u with op:=true,bl:=encoded l [] },0)
theorem ZLg(rb:Nat)(R:RR)(u:RU)(bs:LA)(v bv:Value)(l:LI)(ob:Option RU)(w:World)(h:RB w rb R)(hr:RIs w R u bs)(hv:IntsAt w v l)(hl:l.length<=20000)(hp:∀c∈l,Pt c)(hb:BaseIs w rb bv ob)(hf:u.sch=Zzu)(sp:Bool)(hsp:Zg u.sch=sp):Calls prog 199 #[.pointer (some ⟨rb,0,none⟩),v,bv] w fun e w'=>ZGi e w w' rb (ZzD u l ob):=by
 have HUS:=A hr.usch;have HB:=A h;have HR:=A hr;have HV:=A hv;have HP:=A hp;have HBB:=A hb;have c0:=h.cells.1
 have hfb:=eqB (s:=R.sch) (l:=[102,105,108,101]) (by rw[hr.usch,hf];rfl)
 have HE:=A (show ZzD u l ob=ZAp u l (ZDO ob)from ifP hf)
 have HRF:=A (fun w' (hn:Nx w w') (hbb:BaseIs w' rb bv ob)=>ZHp rb R u bs v bv l ob w' (h.on hn) (hr.on hn) (hv.on hn) hl hp hbb hf)
 have HSU:=A (show Zg (tl R.sch)=sp by rw[hr.usch];exact hsp)
 clear h hr hp hb hf hsp;obtain⟨ao,cap,hve,hlc,hcap,hnone,hsome⟩:=hv;subst hve;unfold maxLen at hcap
 go_enter func199,ntmps199
 go_wp2_with fail
 refine(ZO R.sch _).mono ?_
 rintro e w1 ⟨rfl,hn1⟩;have HN1:=A hn1;clear hn1 c0;rw[HSU.o];go_upto_region 2 with fail
 go_cut [8]from 9 (fun x wx=>x=C (ZC3 l)/\wx=w1)
 case first=>
  match l,hlc,hnone,hsome with
  | [],hlc,hnone,hsome=>
   go_wp2
   go_meet
   case rel=>exact⟨rfl,rfl⟩
  | [a],hlc,hnone,hsome=>
   clear hnone hsome;go_wp2
   go_meet
   case rel=>exact⟨rfl,rfl⟩
  | a::b::r,hlc,hnone,hsome=>
   obtain⟨ad,had⟩:=Zv (k:=0) (show 0<(a::b::r).length by simp) hnone
   subst had;obtain⟨ab,off,rfl,hrow⟩:=hsome ad rfl
   have k0:=((hrow.on HN1.o).cell (i:=0) (by simp))
   have k1:=((hrow.on HN1.o).cell (i:=1) (by simp))
   simp only[Xg,Xi,Xj]at k0 k1
   have HTW:=A (show ZC3 (a::b::r)=(a==47&&b==47)by simp[ZC3])
   clear hnone hsome hrow
   cases ha:(a==47)
   .go_wp2
    go_meet
    case rel=>exact⟨by rw[HTW.o,ha];rfl,rfl⟩
   .cases hb:(b==47)
    all_goals go_wp2
    all_goals go_meet
    all_goals exact⟨by rw[HTW.o,ha,hb];rfl,rfl⟩
 case rest=>
  obtain⟨rfl,rfl⟩:=hcut;obtain⟨w2,hw2⟩:∃w2,w2=wc:=⟨_,rfl⟩;subst hw2;have c0:=(HB.o.on HN1.o).cells.1;have HB1:=A (HB.o.on HN1.o);have HR1:=A (HR.o.on HN1.o);have HV1:=A (HV.o.on HN1.o);have HBT1:=A (show But rb w w2 from But.nx HN1.o);obtain⟨tw,htw⟩:∃tw,tw=ZC3 l:=⟨_,rfl⟩;rw[<-htw];clear htw hnone hsome;go_wp2_with fail
  refine(HRF.o _ HN1.o (HBB.o.on HN1.o)).mono ?_
  rintro e w4 ⟨rfl,hx,hbt⟩;have HX:=A hx;have HBT4:=A (HBT1.o.then hbt);clear hx hbt;go_wp2;go_ret
  exact⟨by rw[HE.o];rfl,by rw[HE.o];exact HX.o,HBT4.o⟩
theorem ZJz(rb:Nat)(R:RR)(u:RU)(bs:LA)(v bv:Value)(l:LI)(ob:Option RU)(w:World)(h:RB w rb R)(hr:RIs w R u bs)(hv:IntsAt w v l)(hl:l.length<=20000)(hp:∀c∈l,Pt c)(hb:BaseIs w rb bv ob)(hf:u.sch≠Zzu)(hsp:Zg u.sch=false):Calls prog 199 #[.pointer (some ⟨rb,0,none⟩),v,bv] w fun e w'=>ZGi e w w' rb (ZzD u l ob):=by
 have HUS:=A hr.usch;have HB:=A h;have HR:=A hr;have HV:=A hv;have HP:=A hp;have HBB:=A hb;have c0:=h.cells.1
 have hfb:=neB (s:=R.sch) (l:=[102,105,108,101]) (by rw[hr.usch];exact hf)
 have HD:=A (show ZzD u l ob=if ZC3 l=true then ZzE u (l.drop 2)else if ZMx l=true then({ u with path:=walked u.sch [] (l.drop 1) },0)else({ u with op:=true,bl:=encoded l [] },0)by unfold ZzD;rw[ifN hf,ifN (by rw[hsp];decide)])
 have HSU:=A (show Zg (tl R.sch)=false by rw[hr.usch];exact hsp)
 clear h hr hp hb hf hsp;obtain⟨ao,cap,hve,hlc,hcap,hnone,hsome⟩:=hv;subst hve;unfold maxLen at hcap
 go_enter func199,ntmps199
 go_wp2_with fail
 refine(ZO R.sch _).mono ?_
 rintro e w1 ⟨rfl,hn1⟩;have HN1:=A hn1;clear hn1 c0;rw[HSU.o];go_upto_region 2 with fail
 go_cut [8]from 9 (fun x wx=>x=C (ZC3 l)/\wx=w1)
 case first=>
  match l,hlc,hnone,hsome with
  | [],hlc,hnone,hsome=>
   go_wp2
   go_meet
   case rel=>exact⟨rfl,rfl⟩
  | [a],hlc,hnone,hsome=>
   clear hnone hsome;go_wp2
   go_meet
   case rel=>exact⟨rfl,rfl⟩
  | a::b::r,hlc,hnone,hsome=>
   obtain⟨ad,had⟩:=Zv (k:=0) (show 0<(a::b::r).length by simp) hnone
   subst had;obtain⟨ab,off,rfl,hrow⟩:=hsome ad rfl
   have k0:=((hrow.on HN1.o).cell (i:=0) (by simp))
   have k1:=((hrow.on HN1.o).cell (i:=1) (by simp))
   simp only[Xg,Xi,Xj]at k0 k1
   have HTW:=A (show ZC3 (a::b::r)=(a==47&&b==47)by simp[ZC3])
   clear hnone hsome hrow
   cases ha:(a==47)
   .go_wp2
    go_meet
    case rel=>exact⟨by rw[HTW.o,ha];rfl,rfl⟩
   .cases hb:(b==47)
    all_goals go_wp2
    all_goals go_meet
    all_goals exact⟨by rw[HTW.o,ha,hb];rfl,rfl⟩
 case rest=>
  obtain⟨rfl,rfl⟩:=hcut;obtain⟨w2,hw2⟩:∃w2,w2=wc:=⟨_,rfl⟩;subst hw2;have c0:=(HB.o.on HN1.o).cells.1;have HB1:=A (HB.o.on HN1.o);have HR1:=A (HR.o.on HN1.o);have HV1:=A (HV.o.on HN1.o);have HBT1:=A (show But rb w w2 from But.nx HN1.o);obtain⟨tw,htw⟩:∃tw,tw=ZC3 l:=⟨_,rfl⟩;rw[<-htw];have HTW:=A htw;clear htw HBB;go_upto_region 7 with fail
  cases tw
  .have HD1:=A (HD.o.trans (ifN (by rw[<-HTW.o];decide)))
   clear HD;have HB5:=A (HB1.o.on (w':=w2.drew) Nx.rfl.drew);have HR5:=A (HR1.o.on (w':=w2.drew) Nx.rfl.drew);have HV5:=A (HV1.o.on (w':=w2.drew) Nx.rfl.drew);have HBT5:=A (show But rb w w2.drew from HBT1.o.drew)
   go_region
   go_upto_region 13 with fail;generalize w2.drew=w5 at *;rcases Xh l.length with hz|hpos
   focus
    have ho:ZMx l=false:=by rw[Xd hz];rfl
    have hz2:decide (0<(l.length:Int))=false:=by rw[hz];rfl
    have hz3:¬(0<(l.length:Int)):=by omega
    clear hz hnone hsome
   rotate_left
   focus
    obtain⟨ab,off,cap',he,hlc',hcap',hrow⟩:=HV5.o.open_ hpos;simp only[Value.slice.injEq]at he;obtain⟨rfl,-,rfl⟩:=he;have kk0:=hrow.cell (i:=0) hpos;rw[Xg]at kk0
    have hh:l.headD 0=l[0]:=by cases l with|nil=>simp at hpos|cons=>rfl
    have ho1:ZMx l=(l[0]==47):=by unfold ZMx;rw[hh,decide_eq_true hpos];rfl
    clear hh hnone hsome
    cases ho:ZMx l
    focus
     have ha:(l[0]==47)=false:=by rw[<-ho1];exact ho
     clear hrow ho1
    rotate_left
    .have ha:(l[0]==47)=true:=by rw[<-ho1];exact ho
     have HE:=A (HD1.o.trans (ifP ho))
     have HPD:=A (fun c (hc:c∈l.drop 1)=>HP.o c (Xb hc))
     have hsd:=ZA3 hrow hlc' hcap' 1 (by omega)
     clear HD1 ho hrow ho1;rcases hsd with⟨hc1,hdr⟩|⟨hc1,hdr⟩
     .subst hc1
      have HDR:=A hdr;clear hdr;go_wp2_with fail
      refine(Zzw rb R.sch (.slice none 0 0) [] _ (l.drop 1) w5.heap.size _ HB5.o.sch (Xc _) (ZzQ _ _) (by simp) (by simp) HDR.o (by rw[Xa];omega) HPD.o).mono ?_
      rintro e w6 ⟨v',bs',rfl,ho,hwe,hbl,hbs,hbel,-⟩;have hnx:Nx w5 w6:=hbel
      obtain⟨ao9,n9,cp9,rfl,hB9,hR9⟩:=RIs.setPath (HB5.o.on hnx) (HR5.o.on hnx) (Zaz ho HR5.o.fw) (by simp at hbl;omega) hbs
      have HB9:=A hB9;have HR9:=A hR9
      have HWE:=A (show bs'.map tl=walked u.sch [] (l.drop 1)by rw[hwe,HR5.o.usch];rfl)
      have HBT9:=A (show But rb w (w6.setCell ⟨rb,6,none⟩ (.slice ao9 n9 cp9))from(HBT5.o.then (But.nx hnx)).set 6 _);obtain⟨-,-,-,-,-,-,k6,-⟩:=(HB5.o.on hnx).cells;have f6:=(HB5.o.on hnx).free 6;clear ho hwe hbl hbs hbel hnx hB9 hR9;go_wp2;go_ret
      exact⟨by rw[HE.o];rfl,⟨_,bs',HB9.o,by rw[HE.o];have h:=HR9.o;rw[HWE.o]at h;exact h⟩,HBT9.o⟩
     .have HDR:=A hdr
      clear hdr;go_wp2_with fail
      refine(Zzw rb R.sch (.slice none 0 0) [] _ (l.drop 1) w5.heap.size _ HB5.o.sch (Xc _) (ZzQ _ _) (by simp) (by simp) HDR.o (by rw[Xa];omega) HPD.o).mono ?_
      rintro e w6 ⟨v',bs',rfl,ho,hwe,hbl,hbs,hbel,-⟩;have hnx:Nx w5 w6:=hbel
      obtain⟨ao9,n9,cp9,rfl,hB9,hR9⟩:=RIs.setPath (HB5.o.on hnx) (HR5.o.on hnx) (Zaz ho HR5.o.fw) (by simp at hbl;omega) hbs
      have HB9:=A hB9;have HR9:=A hR9
      have HWE:=A (show bs'.map tl=walked u.sch [] (l.drop 1)by rw[hwe,HR5.o.usch];rfl)
      have HBT9:=A (show But rb w (w6.setCell ⟨rb,6,none⟩ (.slice ao9 n9 cp9))from(HBT5.o.then (But.nx hnx)).set 6 _);obtain⟨-,-,-,-,-,-,k6,-⟩:=(HB5.o.on hnx).cells;have f6:=(HB5.o.on hnx).free 6;clear ho hwe hbl hbs hbel hnx hB9 hR9;go_wp2;go_ret
      exact⟨by rw[HE.o];rfl,⟨_,bs',HB9.o,by rw[HE.o];have h:=HR9.o;rw[HWE.o]at h;exact h⟩,HBT9.o⟩
   all_goals
    have HE:=A (HD1.o.trans (ifN (by rw[ho];decide)))
    clear HD1 ho;obtain⟨k0,k1,k2,k3,k4,k5,k6,k7,k8,k9,k10,k11,k12⟩:=HB5.o.cells;have f7:=HB5.o.free 7;go_upto_region 4 with fail;have HB6:=A (HB5.o.s7 true);have HBT6:=A (show But rb w (w5.setCell ⟨rb,7,none⟩ (C true))from HBT5.o.set 7 _);have hkp:Kp 130 w5 (w5.setCell ⟨rb,7,none⟩ (C true)):=But.kp ((But.refl rb w5).set 7 _) HB5.o
    have HR6:=A (show RIs (w5.setCell ⟨rb,7,none⟩ (C true)) { R with op:=true } { u with op:=true } bs from { HR5.o.kp hkp with eq:=by rw[<-HR5.o.eq];rfl })
    have HV6:=A (HV5.o.kp hkp (by decide))
    clear k0 k1 k2 k3 k4 k5 k6 k7 k8 k9 k10 k11 k12 f7 hkp;generalize (w5.setCell ⟨rb,7,none⟩ (C true))=w6 at *;go_wp2_with fail
    refine(Z5 _ l ⟨#[]⟩ _ HV6.o (Ze (by decide)) (by omega) HP.o).mono ?_
    rintro e w7 ⟨t,rfl,ht,hn7⟩;have HT:=A (show tl t=encoded l []from ht);have HB7:=A (HB6.o.on hn7);have HR7:=A (HR6.o.on hn7);have HBT7:=A (HBT6.o.then (But.nx hn7));clear ht hn7;obtain⟨k0,k1,k2,k3,k4,k5,k6,k7,k8,k9,k10,k11,k12⟩:=HB7.o.cells;have f8:=HB7.o.free 8;have HB8:=A (HB7.o.s8 t);have HBT8:=A (show But rb w (w7.setCell ⟨rb,8,none⟩ (J t))from HBT7.o.set 8 _);have hkp:Kp 130 w7 (w7.setCell ⟨rb,8,none⟩ (J t)):=But.kp ((But.refl rb w7).set 8 _) HB7.o
    have HR8:=A (show RIs (w7.setCell ⟨rb,8,none⟩ (J t)) { R with op:=true,bl:=t } { u with op:=true,bl:=encoded l [] } bs from { HR7.o.kp hkp with eq:=by rw[<-HT.o,<-HR5.o.eq];rfl })
    clear hkp;go_wp2;go_ret
    exact⟨by rw[HE.o];rfl,⟨_,bs,HB8.o,by rw[HE.o];exact HR8.o⟩,HBT8.o⟩
  .have HE:=A (HD.o.trans (ifP HTW.o.symm))
   have hl2:1<l.length:=by
    have h:=HTW.o;unfold ZC3 at h
    by_cases hh:1<l.length
    .exact hh
    .rw[decide_eq_false hh]at h;cases h
   obtain⟨b1,off,cap',he,hlc',hcap',hrow⟩:=HV1.o.open_ (k:=0) (by omega)
   simp only[Value.slice.injEq]at he;obtain⟨rfl,-,rfl⟩:=he
   have HPD:=A (fun c (hc:c∈l.drop 2)=>HP.o c (Xb hc))
   have hsd:=ZA3 hrow hlc' hcap' 2 (by omega)
   clear HD hrow hnone hsome;rcases hsd with⟨hc1,hdr⟩|⟨hc1,hdr⟩
   focus
    subst hc1
   rotate_left
   all_goals
    have HDR:=A hdr;clear hdr
    go_region
    go_wp2_with fail
    refine(ZA8 rb R u bs _ (l.drop 2) _ (HB1.o.on Nx.rfl.drew) (HR1.o.on Nx.rfl.drew) (HDR.o.on Nx.rfl.drew) (by rw[Xa];omega) HPD.o).mono ?_
    rintro e w4 ⟨rfl,hx,hbt⟩;have HX:=A hx;have HBT4:=A (HBT1.o.then ((But.nx Nx.rfl.drew).then hbt));clear hx hbt;go_wp2;go_ret
    exact⟨by rw[HE.o];rfl,by rw[HE.o];exact HX.o,HBT4.o⟩
theorem ZGj(rb:Nat)(R:RR)(u:RU)(bs:LA)(v bv:Value)(l:LI)(ob:Option RU)(w:World)(h:RB w rb R)(hr:RIs w R u bs)(hv:IntsAt w v l)(hl:l.length<=20000)(hp:∀c∈l,Pt c)(hb:BaseIs w rb bv ob)(hf:u.sch≠Zzu)(hsp:Zg u.sch=true):Calls prog 199 #[.pointer (some ⟨rb,0,none⟩),v,bv] w fun e w'=>ZGi e w w' rb (ZzD u l ob):=by
 have HUS:=A hr.usch;have HB:=A h;have HR:=A hr;have HV:=A hv;have HP:=A hp;have HBB:=A hb;have c0:=h.cells.1
 have hfb:=neB (s:=R.sch) (l:=[102,105,108,101]) (by rw[hr.usch];exact hf)
 have HF:=A hf
 have HD:=A (show ZzD u l ob=(match (if ZC3 l=true then none else ZH9 u ob)with|some b=>ZA4 u l b|none=>ZzE u l)by unfold ZzD;rw[ifN hf,ifP hsp])
 have HSU:=A (show Zg (tl R.sch)=true by rw[hr.usch];exact hsp)
 clear h hr hp hb hf hsp;obtain⟨ao,cap,hve,hlc,hcap,hnone,hsome⟩:=hv;subst hve;unfold maxLen at hcap
 go_enter func199,ntmps199
 go_wp2_with fail
 refine(ZO R.sch _).mono ?_
 rintro e w1 ⟨rfl,hn1⟩;have HN1:=A hn1;clear hn1 c0;rw[HSU.o];go_upto_region 2 with fail
 go_cut [8]from 9 (fun x wx=>x=C (ZC3 l)/\wx=w1)
 case first=>
  match l,hlc,hnone,hsome with
  | [],hlc,hnone,hsome=>
   go_wp2
   go_meet
   case rel=>exact⟨rfl,rfl⟩
  | [a],hlc,hnone,hsome=>
   clear hnone hsome;go_wp2
   go_meet
   case rel=>exact⟨rfl,rfl⟩
  | a::b::r,hlc,hnone,hsome=>
   obtain⟨ad,had⟩:=Zv (k:=0) (show 0<(a::b::r).length by simp) hnone
   subst had;obtain⟨ab,off,rfl,hrow⟩:=hsome ad rfl
   have k0:=((hrow.on HN1.o).cell (i:=0) (by simp))
   have k1:=((hrow.on HN1.o).cell (i:=1) (by simp))
   simp only[Xg,Xi,Xj]at k0 k1
   have HTW:=A (show ZC3 (a::b::r)=(a==47&&b==47)by simp[ZC3])
   clear hnone hsome hrow
   cases ha:(a==47)
   .go_wp2
    go_meet
    case rel=>exact⟨by rw[HTW.o,ha];rfl,rfl⟩
   .cases hb:(b==47)
    all_goals go_wp2
    all_goals go_meet
    all_goals exact⟨by rw[HTW.o,ha,hb];rfl,rfl⟩
 case rest=>
  obtain⟨rfl,rfl⟩:=hcut;obtain⟨w2,hw2⟩:∃w2,w2=wc:=⟨_,rfl⟩;subst hw2;have c0:=(HB.o.on HN1.o).cells.1;have HB1:=A (HB.o.on HN1.o);have HR1:=A (HR.o.on HN1.o);have HV1:=A (HV.o.on HN1.o);have HBT1:=A (show But rb w w2 from But.nx HN1.o);obtain⟨tw,htw⟩:∃tw,tw=ZC3 l:=⟨_,rfl⟩;rw[<-htw];have HTW:=A htw;clear htw hnone hsome;go_upto_region 7 with fail;rcases HBB.o with⟨rfl,rfl⟩|⟨qb,Q,b,cs,rfl,rfl,hq,hqr,hne,hcl⟩
  focus
   have HE:=A (show ZzD u l none=ZzE u l by rw[HD.o];cases ZC3 l<;>rfl)
   clear HD HBB
  rotate_left
  focus
   have HQ:=A (hq.on HN1.o);have HQR:=A (hqr.on HN1.o);have q0:=(hq.on HN1.o).cells.1;have HQS:=A hqr.usch;clear hq hqr HBB
   by_cases hss:b.sch=u.sch
   focus
    have hsb:=ZNJ (s:=Q.sch) (t:=R.sch) (by rw[HQS.o,HUS.o,hss])
    cases tw
    .have HE:=A (show ZzD u l (some b)=ZA4 u l b by rw[HD.o,ifN (by rw[<-HTW.o];decide),show ZH9 u (some b)=some b from ifP hss])
     clear HD hss
     go_region
     go_wp2_with fail
     refine(ZFp rb qb R Q u b bs cs _ l _ (HB1.o.on Nx.rfl.drew) (HR1.o.on Nx.rfl.drew) (HQ.o.on Nx.rfl.drew) (HQR.o.on Nx.rfl.drew) hne HF.o (HV1.o.on Nx.rfl.drew) hl hcl HP.o).mono ?_
     rintro e w4 ⟨rfl,hx,hbt⟩;have HX:=A hx;have HBT4:=A (HBT1.o.then ((But.nx Nx.rfl.drew).then hbt));clear hx hbt;go_wp2;go_ret
     exact⟨by rw[HE.o];rfl,by rw[HE.o];exact HX.o,HBT4.o⟩
    focus
     have HE:=A (show ZzD u l (some b)=ZzE u l by rw[HD.o,ifP HTW.o.symm])
     clear HD hss
   rotate_left
   focus
    have hsb:=ZNK (s:=Q.sch) (t:=R.sch) (by rw[HQS.o,HUS.o];exact hss)
    have HE:=A (show ZzD u l (some b)=ZzE u l by rw[HD.o,show ZH9 u (some b)=none from ifN hss];cases ZC3 l<;>rfl)
    clear HD hss
  all_goals
   go_region
   go_wp2_with fail
   refine(ZA8 rb R u bs _ l _ (HB1.o.on Nx.rfl.drew) (HR1.o.on Nx.rfl.drew) (HV1.o.on Nx.rfl.drew) hl HP.o).mono ?_
   rintro e w4 ⟨rfl,hx,hbt⟩;have HX:=A hx;have HBT4:=A (HBT1.o.then ((But.nx Nx.rfl.drew).then hbt));clear hx hbt;go_wp2;go_ret
   exact⟨by rw[HE.o];rfl,by rw[HE.o];exact HX.o,HBT4.o⟩
theorem ZED(rb:Nat)(R:RR)(u:RU)(bs:LA)(v bv:Value)(l:LI)(ob:Option RU)(w:World)(h:RB w rb R)(hr:RIs w R u bs)(hv:IntsAt w v l)(hl:l.length<=20000)(hp:∀c∈l,Pt c)(hb:BaseIs w rb bv ob):Calls prog 199 #[.pointer (some ⟨rb,0,none⟩),v,bv] w fun e w'=>ZGi e w w' rb (ZzD u l ob):=by
 by_cases hf:u.sch=Zzu
 .exact ZLg rb R u bs v bv l ob w h hr hv hl hp hb hf _ rfl
 .cases hsp:Zg u.sch
  .exact ZJz rb R u bs v bv l ob w h hr hv hl hp hb hf hsp
  .exact ZGj rb R u bs v bv l ob w h hr hv hl hp hb hf hsp
end Go.Proofs.YtchkhibgbnhjpabGreatDoor
