import Derived.Test.YtchkhibgbnhjpabGreatDoorR27
open List renaming length_drop→Xa,mem_of_mem_drop→Xb,length_nil→Xc,getElem_cons_zero→Xe,getElem_cons_succ→Xf
open Nat renaming le_refl→Xd,add_zero→Xg
namespace Go.Proofs.YtchkhibgbnhjpabGreatDoor
open Go.RowKit
set_option maxHeartbeats 8000000
set_option maxRecDepth 8000
theorem Zfr{l:LI}{i:Nat}{s:LB}(h:ZB l i s=true):i<l.length:=by
 unfold ZB at h
 split at h
 ·cases h
 ·next hc=>exact(List.getElem?_eq_some_iff.1 hc).1
theorem Zfs{α:Type}{e:TypeId}{f:α→Value}{w:World}{b off cap:Nat}{l:List α}(hr:RowAt e f w b off l)(hlc:l.length≤cap)(hcap:cap≤maxLen)(k:Nat)(hk:k≤l.length):(cap=k∧SlAt e f w (.slice (some ⟨b,off,none⟩) 0 0) (l.drop k))∨(¬cap=k∧SlAt e f w (.slice (some ⟨b,off+k,none⟩) (l.length-k) (cap-k)) (l.drop k)):=by
 by_cases hc:cap=k
 ·have h:=Zju hr k 0 (by omega) (Nat.zero_le _)
  rw[show l.length-k=0 by omega]at h
  exact Or.inl ⟨hc,h⟩
 ·exact Or.inr ⟨hc,ZfE hr hlc hcap k hk⟩
def Zgq(u:RU)(l:List Int)(base:Option RU):RU×Int:=
 if(ZB l 0 ZO&&ZB l 1 ZO)=true then ZdW { u with his:=true,htx:=[] } (l.drop 2)
 else match base with
 | none=>if ZB l 0 ZO=true then({ u with his:=true,htx:=[],path:=walked u.sch [] (l.drop 1) },0)else({ u with his:=true,htx:=[],path:=walked u.sch [] l },0)
 | some b=>
  if ZB l 0 ZO=true then({ u with his:=b.his,htx:=b.htx,path:=walked u.sch (if driven (l.drop 1)=false∧b.path≠[]∧drive (b.path.headD [])=true then [b.path.headD []]else []) (l.drop 1) },0)
  else if l=[]then(Zwl { u with his:=b.his,htx:=b.htx } b,0)
  else({ u with his:=b.his,htx:=b.htx,path:=walked u.sch (if driven l=true then []else Zcn u.sch b.path) l },0)
def ZzZ(w:World)(bv:Value):Prop:=bv=.pointer none∨∃qb Q,bv=.pointer (some ⟨qb,0,none⟩)∧RB w qb Q∧tl Q.sch≠ZO
theorem Zwm(rb:Nat)(R:RR)(u:RU)(bs:LA)(v bv:Value)(l:LI)(w:World)(h:RB w rb R)(hr:RIs w R u bs)(hv:IntsAt w v l)(hl:l.length≤20000)(hp:∀c∈l,Pt c)(hb:ZzZ w bv):Calls Tryz.prog 232 #[.pointer (some ⟨rb,0,none⟩),v,bv] w fun e w'=>Zr4 e w w' rb (Zgq u l none):=by
 have HD:=Za (show Zgq u l none=if(ZB l 0 ZO&&ZB l 1 ZO)=true then ZdW { u with his:=true,htx:=[] } (l.drop 2)else if ZB l 0 ZO=true then({ u with his:=true,htx:=[],path:=walked u.sch [] (l.drop 1) },0)else({ u with his:=true,htx:=[],path:=walked u.sch [] l },0)from rfl)
 have HBI:=Za hr;have HV:=Za hv;have HP:=Za hp;obtain⟨c0,c1,c2,c3,c4,c5,c6,c7,c8,c9,c10,c11,c12⟩:=h.cells;have f3:=h.free 3;have f4:=h.free 4;obtain⟨hB1,hR1⟩:=RIs.setHost h hr true ⟨#[]⟩;have HB0:=Za h;have HB1:=Za hB1
 have HR1:=Za (show RIs _ _ { u with his:=true,htx:=[] } bs from hR1)
 have HBT1:=Za (show But rb w ((w.setCell ⟨rb,3,none⟩ (.bool true)).setCell ⟨rb,4,none⟩ (.string ⟨#[]⟩))from((But.refl rb w).set 3 _).set 4 _);have HK1:=Za (HBT1.out.kp h)
 have HV1:=Za (hv.kp HK1.out (by decide))
 clear h hr hp hB1 hR1;obtain⟨vo,vcap,hve,-⟩:=hv;subst hve
 have hb':bv=.pointer none∨∃qb Q,bv=.pointer (some ⟨qb,0,none⟩)∧w.cell? ⟨qb,0,none⟩=some (.string Q)∧(Q.toList == [102,105,108,101])=false:=by
  rcases hb with hb|⟨qb,Q,hb,hq,hn⟩
  ·exact Or.inl hb
  ·exact Or.inr ⟨qb,Q.sch,hb,hq.cells.1,neB hn⟩
 clear hb;rcases hb' with rfl|⟨qb,Q,rfl,q0,hqn⟩
 all_goals go_enter Tryz.func232,Tryz.ntmps232
 all_goals go_upto_region 3 with fail
 ·clear c0 c1 c2 c3 c4 c5 c6 c7 c8 c9 c10 c11 c12 f3 f4
  generalize ((w.setCell ⟨rb,3,none⟩ (.bool true)).setCell ⟨rb,4,none⟩ (.string ⟨#[]⟩))=w1 at *;go_wp2_with fail
  refine(Zcg _ l 0 ⟨#[102,105,108,101]⟩ _ HV1.out).mono ?_
  rintro e w2 ⟨rfl,hn2⟩;rw[show tl (⟨#[102,105,108,101]⟩:BA)=ZO from rfl];have HN2:=Za hn2;clear hn2;go_wp2_with fail
  refine(Zcg _ l 1 ⟨#[102,105,108,101]⟩ _ (HV1.out.on HN2.out)).mono ?_
  rintro e w3 ⟨rfl,hn3⟩;rw[show tl (⟨#[102,105,108,101]⟩:BA)=ZO from rfl];have HN3:=Za (HN2.out.then hn3);have HB3:=Za (HB1.out.on HN3.out);have HR3:=Za (HR1.out.on HN3.out);have HV3:=Za (HV1.out.on HN3.out);have HBT3:=Za (HBT1.out.then (But.nx HN3.out));clear hn3 HN2 HB1 HR1 HV1 HBT1
  have HL0:=Za (fun(x:ZB l 0 ZO=true)=>Zfr x)
  have HL1:=Za (fun(x:ZB l 1 ZO=true)=>Zfr x)
  cases h0:ZB l 0 ZO
  ·have HE:=Za (HD.out.trans ((if_neg (by simp[h0])).trans (if_neg (by simp[h0]))))
   clear HD h0
   cases h1:ZB l 1 ZO
   all_goals clear h1
   all_goals
    go_wp2_with fail
    refine(ZaR rb R.sch (.slice none 0 0) [] _ l w3.heap.size _ HB3.out.sch (Xd _) (ZbK _ _) (by simp) (by simp) HV3.out (by omega) HP.out).mono ?_
    rintro e w4 ⟨v',bs',rfl,ho,hwe,hbl,hbs,hbel,-⟩;have hnx:Nx w3 w4:=hbel
    obtain⟨ao9,n9,cp9,rfl,hB9,hR9⟩:=RIs.setPath (HB3.out.on hnx) (HR3.out.on hnx) (ZQ ho) (by first|(simp only[Xc]at hbl;omega)|omega) hbs
    have HB9:=Za hB9;have HR9:=Za hR9
    have HWE:=Za (show bs'.map tl=walked u.sch [] l by rw[hwe,HR3.out.usch];rfl)
    have HBT9:=Za (show But rb w (w4.setCell ⟨rb,6,none⟩ (.slice ao9 n9 cp9))from(HBT3.out.then (But.nx hnx)).set 6 _);obtain⟨-,-,-,-,-,-,k6,-⟩:=(HB3.out.on hnx).cells;have f6:=(HB3.out.on hnx).free 6;clear ho hwe hbl hbs hbel hnx hB9 hR9;go_wp2;go_ret
    exact⟨by rw[HE.out];rfl,⟨_,bs',HB9.out,by rw[HE.out];have h:=HR9.out;rw[HWE.out]at h;exact h⟩,HBT9.out⟩
  ·cases h1:ZB l 1 ZO
   ·have HE:=Za (HD.out.trans ((if_neg (by simp[h0,h1])).trans (if_pos h0)))
    have hl1:0<l.length:=HL0.out h0;obtain⟨b,off,cap,he,hlc,hcap,hrow⟩:=HV3.out.open_ hl1;simp only[Value.slice.injEq]at he;obtain⟨rfl,-,rfl⟩:=he
    have HPD:=Za (fun c (hc:c∈l.drop 1)=>HP.out c (Xb hc))
    have hsd:=Zfs hrow hlc hcap 1 (by omega)
    unfold maxLen at hcap;clear HD h0 h1 hrow HV3;rcases hsd with⟨hc1,hdr⟩|⟨hc1,hdr⟩
    ·subst hc1
     have HDR:=Za hdr;clear hdr;go_wp2_with fail
     refine(Zfq _ (l.drop 1) _ HDR.out).mono ?_
     rintro e w4 ⟨rfl,hn4⟩;have HB4:=Za (HB3.out.on hn4);have HR4:=Za (HR3.out.on hn4);have HDR4:=Za (HDR.out.on hn4);have HBT4:=Za (HBT3.out.then (But.nx hn4));clear hn4 HB3 HR3 HDR HBT3;generalize driven (l.drop 1)=dv at *;go_wp2_with fail
     refine(ZaR rb R.sch (.slice none 0 0) [] _ (l.drop 1) w4.heap.size _ HB4.out.sch (Xd _) (ZbK _ _) (by simp) (by simp) HDR4.out (by rw[Xa];omega) HPD.out).mono ?_
     rintro e w5 ⟨v',bs',rfl,ho,hwe,hbl,hbs,hbel,-⟩;have hnx:Nx w4 w5:=hbel
     obtain⟨ao9,n9,cp9,rfl,hB9,hR9⟩:=RIs.setPath (HB4.out.on hnx) (HR4.out.on hnx) (ZQ ho) (by simp only[Xc,Xa]at hbl;omega) hbs
     have HB9:=Za hB9;have HR9:=Za hR9
     have HWE:=Za (show bs'.map tl=walked u.sch [] (l.drop 1)by rw[hwe,HR4.out.usch];rfl)
     have HBT9:=Za (show But rb w (w5.setCell ⟨rb,6,none⟩ (.slice ao9 n9 cp9))from(HBT4.out.then (But.nx hnx)).set 6 _);obtain⟨-,-,-,-,-,-,k6,-⟩:=(HB4.out.on hnx).cells;have f6:=(HB4.out.on hnx).free 6;clear ho hwe hbl hbs hbel hnx hB9 hR9;go_wp2;go_ret
     exact⟨by rw[HE.out];rfl,⟨_,bs',HB9.out,by rw[HE.out];have h:=HR9.out;rw[HWE.out]at h;exact h⟩,HBT9.out⟩
    ·have HDR:=Za hdr
     clear hdr;go_wp2_with fail
     refine(Zfq _ (l.drop 1) _ HDR.out).mono ?_
     rintro e w4 ⟨rfl,hn4⟩;have HB4:=Za (HB3.out.on hn4);have HR4:=Za (HR3.out.on hn4);have HDR4:=Za (HDR.out.on hn4);have HBT4:=Za (HBT3.out.then (But.nx hn4));clear hn4 HB3 HR3 HDR HBT3;generalize driven (l.drop 1)=dv at *;go_wp2_with fail
     refine(ZaR rb R.sch (.slice none 0 0) [] _ (l.drop 1) w4.heap.size _ HB4.out.sch (Xd _) (ZbK _ _) (by simp) (by simp) HDR4.out (by rw[Xa];omega) HPD.out).mono ?_
     rintro e w5 ⟨v',bs',rfl,ho,hwe,hbl,hbs,hbel,-⟩;have hnx:Nx w4 w5:=hbel
     obtain⟨ao9,n9,cp9,rfl,hB9,hR9⟩:=RIs.setPath (HB4.out.on hnx) (HR4.out.on hnx) (ZQ ho) (by simp only[Xc,Xa]at hbl;omega) hbs
     have HB9:=Za hB9;have HR9:=Za hR9
     have HWE:=Za (show bs'.map tl=walked u.sch [] (l.drop 1)by rw[hwe,HR4.out.usch];rfl)
     have HBT9:=Za (show But rb w (w5.setCell ⟨rb,6,none⟩ (.slice ao9 n9 cp9))from(HBT4.out.then (But.nx hnx)).set 6 _);obtain⟨-,-,-,-,-,-,k6,-⟩:=(HB4.out.on hnx).cells;have f6:=(HB4.out.on hnx).free 6;clear ho hwe hbl hbs hbel hnx hB9 hR9;go_wp2;go_ret
     exact⟨by rw[HE.out];rfl,⟨_,bs',HB9.out,by rw[HE.out];have h:=HR9.out;rw[HWE.out]at h;exact h⟩,HBT9.out⟩
   ·have hl2:1<l.length:=HL1.out h1
    have HE:=Za (HD.out.trans (if_pos (by rw[h0,h1];rfl)))
    obtain⟨b,off,cap,he,hlc,hcap,hrow⟩:=HV3.out.open_ (k:=0) (by omega)
    simp only[Value.slice.injEq]at he;obtain⟨rfl,-,rfl⟩:=he
    have HPD:=Za (fun c (hc:c∈l.drop 2)=>HP.out c (Xb hc))
    have hsd:=Zfs hrow hlc hcap 2 (by omega)
    unfold maxLen at hcap;clear HD h0 h1 hrow HV3;rcases hsd with⟨hc1,hdr⟩|⟨hc1,hdr⟩
    ·subst hc1
     have HDR:=Za hdr;clear hdr;go_wp2_with fail
     refine(ZcO rb _ _ bs _ (l.drop 2) _ HB3.out HR3.out HDR.out (by rw[Xa];omega) HPD.out).mono ?_
     rintro e w4 ⟨rfl,hx,hbt⟩;have HX:=Za hx;have HBT4:=Za (HBT3.out.then hbt);clear hx hbt;go_wp2;go_ret
     exact⟨by rw[HE.out];rfl,by rw[HE.out];exact HX.out,HBT4.out⟩
    ·have HDR:=Za hdr
     clear hdr;go_wp2_with fail
     refine(ZcO rb _ _ bs _ (l.drop 2) _ HB3.out HR3.out HDR.out (by rw[Xa];omega) HPD.out).mono ?_
     rintro e w4 ⟨rfl,hx,hbt⟩;have HX:=Za hx;have HBT4:=Za (HBT3.out.then hbt);clear hx hbt;go_wp2;go_ret
     exact⟨by rw[HE.out];rfl,by rw[HE.out];exact HX.out,HBT4.out⟩
 ·clear c0 c1 c2 c3 c4 c5 c6 c7 c8 c9 c10 c11 c12 f3 f4
  generalize ((w.setCell ⟨rb,3,none⟩ (.bool true)).setCell ⟨rb,4,none⟩ (.string ⟨#[]⟩))=w1 at *;go_wp2_with fail
  refine(Zcg _ l 0 ⟨#[102,105,108,101]⟩ _ HV1.out).mono ?_
  rintro e w2 ⟨rfl,hn2⟩;rw[show tl (⟨#[102,105,108,101]⟩:BA)=ZO from rfl];have HN2:=Za hn2;clear hn2;go_wp2_with fail
  refine(Zcg _ l 1 ⟨#[102,105,108,101]⟩ _ (HV1.out.on HN2.out)).mono ?_
  rintro e w3 ⟨rfl,hn3⟩;rw[show tl (⟨#[102,105,108,101]⟩:BA)=ZO from rfl];have HN3:=Za (HN2.out.then hn3);have HB3:=Za (HB1.out.on HN3.out);have HR3:=Za (HR1.out.on HN3.out);have HV3:=Za (HV1.out.on HN3.out);have HBT3:=Za (HBT1.out.then (But.nx HN3.out));clear hn3 HN2 HB1 HR1 HV1 HBT1
  have HL0:=Za (fun(x:ZB l 0 ZO=true)=>Zfr x)
  have HL1:=Za (fun(x:ZB l 1 ZO=true)=>Zfr x)
  cases h0:ZB l 0 ZO
  ·have HE:=Za (HD.out.trans ((if_neg (by simp[h0])).trans (if_neg (by simp[h0]))))
   clear HD h0
   cases h1:ZB l 1 ZO
   all_goals clear h1
   all_goals
    go_wp2_with fail
    refine(ZaR rb R.sch (.slice none 0 0) [] _ l w3.heap.size _ HB3.out.sch (Xd _) (ZbK _ _) (by simp) (by simp) HV3.out (by omega) HP.out).mono ?_
    rintro e w4 ⟨v',bs',rfl,ho,hwe,hbl,hbs,hbel,-⟩;have hnx:Nx w3 w4:=hbel
    obtain⟨ao9,n9,cp9,rfl,hB9,hR9⟩:=RIs.setPath (HB3.out.on hnx) (HR3.out.on hnx) (ZQ ho) (by first|(simp only[Xc]at hbl;omega)|omega) hbs
    have HB9:=Za hB9;have HR9:=Za hR9
    have HWE:=Za (show bs'.map tl=walked u.sch [] l by rw[hwe,HR3.out.usch];rfl)
    have HBT9:=Za (show But rb w (w4.setCell ⟨rb,6,none⟩ (.slice ao9 n9 cp9))from(HBT3.out.then (But.nx hnx)).set 6 _);obtain⟨-,-,-,-,-,-,k6,-⟩:=(HB3.out.on hnx).cells;have f6:=(HB3.out.on hnx).free 6;clear ho hwe hbl hbs hbel hnx hB9 hR9;go_wp2;go_ret
    exact⟨by rw[HE.out];rfl,⟨_,bs',HB9.out,by rw[HE.out];have h:=HR9.out;rw[HWE.out]at h;exact h⟩,HBT9.out⟩
  ·cases h1:ZB l 1 ZO
   ·have HE:=Za (HD.out.trans ((if_neg (by simp[h0,h1])).trans (if_pos h0)))
    have hl1:0<l.length:=HL0.out h0;obtain⟨b,off,cap,he,hlc,hcap,hrow⟩:=HV3.out.open_ hl1;simp only[Value.slice.injEq]at he;obtain⟨rfl,-,rfl⟩:=he
    have HPD:=Za (fun c (hc:c∈l.drop 1)=>HP.out c (Xb hc))
    have hsd:=Zfs hrow hlc hcap 1 (by omega)
    unfold maxLen at hcap;clear HD h0 h1 hrow HV3;rcases hsd with⟨hc1,hdr⟩|⟨hc1,hdr⟩
    ·subst hc1
     have HDR:=Za hdr;clear hdr;go_wp2_with fail
     refine(Zfq _ (l.drop 1) _ HDR.out).mono ?_
     rintro e w4 ⟨rfl,hn4⟩;have HB4:=Za (HB3.out.on hn4);have HR4:=Za (HR3.out.on hn4);have HDR4:=Za (HDR.out.on hn4);have HBT4:=Za (HBT3.out.then (But.nx hn4));clear hn4 HB3 HR3 HDR HBT3;generalize driven (l.drop 1)=dv at *;go_wp2_with fail
     refine(ZaR rb R.sch (.slice none 0 0) [] _ (l.drop 1) w4.heap.size _ HB4.out.sch (Xd _) (ZbK _ _) (by simp) (by simp) HDR4.out (by rw[Xa];omega) HPD.out).mono ?_
     rintro e w5 ⟨v',bs',rfl,ho,hwe,hbl,hbs,hbel,-⟩;have hnx:Nx w4 w5:=hbel
     obtain⟨ao9,n9,cp9,rfl,hB9,hR9⟩:=RIs.setPath (HB4.out.on hnx) (HR4.out.on hnx) (ZQ ho) (by simp only[Xc,Xa]at hbl;omega) hbs
     have HB9:=Za hB9;have HR9:=Za hR9
     have HWE:=Za (show bs'.map tl=walked u.sch [] (l.drop 1)by rw[hwe,HR4.out.usch];rfl)
     have HBT9:=Za (show But rb w (w5.setCell ⟨rb,6,none⟩ (.slice ao9 n9 cp9))from(HBT4.out.then (But.nx hnx)).set 6 _);obtain⟨-,-,-,-,-,-,k6,-⟩:=(HB4.out.on hnx).cells;have f6:=(HB4.out.on hnx).free 6;clear ho hwe hbl hbs hbel hnx hB9 hR9;go_wp2;go_ret
     exact⟨by rw[HE.out];rfl,⟨_,bs',HB9.out,by rw[HE.out];have h:=HR9.out;rw[HWE.out]at h;exact h⟩,HBT9.out⟩
    ·have HDR:=Za hdr
     clear hdr;go_wp2_with fail
     refine(Zfq _ (l.drop 1) _ HDR.out).mono ?_
     rintro e w4 ⟨rfl,hn4⟩;have HB4:=Za (HB3.out.on hn4);have HR4:=Za (HR3.out.on hn4);have HDR4:=Za (HDR.out.on hn4);have HBT4:=Za (HBT3.out.then (But.nx hn4));clear hn4 HB3 HR3 HDR HBT3;generalize driven (l.drop 1)=dv at *;go_wp2_with fail
     refine(ZaR rb R.sch (.slice none 0 0) [] _ (l.drop 1) w4.heap.size _ HB4.out.sch (Xd _) (ZbK _ _) (by simp) (by simp) HDR4.out (by rw[Xa];omega) HPD.out).mono ?_
     rintro e w5 ⟨v',bs',rfl,ho,hwe,hbl,hbs,hbel,-⟩;have hnx:Nx w4 w5:=hbel
     obtain⟨ao9,n9,cp9,rfl,hB9,hR9⟩:=RIs.setPath (HB4.out.on hnx) (HR4.out.on hnx) (ZQ ho) (by simp only[Xc,Xa]at hbl;omega) hbs
     have HB9:=Za hB9;have HR9:=Za hR9
     have HWE:=Za (show bs'.map tl=walked u.sch [] (l.drop 1)by rw[hwe,HR4.out.usch];rfl)
     have HBT9:=Za (show But rb w (w5.setCell ⟨rb,6,none⟩ (.slice ao9 n9 cp9))from(HBT4.out.then (But.nx hnx)).set 6 _);obtain⟨-,-,-,-,-,-,k6,-⟩:=(HB4.out.on hnx).cells;have f6:=(HB4.out.on hnx).free 6;clear ho hwe hbl hbs hbel hnx hB9 hR9;go_wp2;go_ret
     exact⟨by rw[HE.out];rfl,⟨_,bs',HB9.out,by rw[HE.out];have h:=HR9.out;rw[HWE.out]at h;exact h⟩,HBT9.out⟩
   ·have hl2:1<l.length:=HL1.out h1
    have HE:=Za (HD.out.trans (if_pos (by rw[h0,h1];rfl)))
    obtain⟨b,off,cap,he,hlc,hcap,hrow⟩:=HV3.out.open_ (k:=0) (by omega)
    simp only[Value.slice.injEq]at he;obtain⟨rfl,-,rfl⟩:=he
    have HPD:=Za (fun c (hc:c∈l.drop 2)=>HP.out c (Xb hc))
    have hsd:=Zfs hrow hlc hcap 2 (by omega)
    unfold maxLen at hcap;clear HD h0 h1 hrow HV3;rcases hsd with⟨hc1,hdr⟩|⟨hc1,hdr⟩
    ·subst hc1
     have HDR:=Za hdr;clear hdr;go_wp2_with fail
     refine(ZcO rb _ _ bs _ (l.drop 2) _ HB3.out HR3.out HDR.out (by rw[Xa];omega) HPD.out).mono ?_
     rintro e w4 ⟨rfl,hx,hbt⟩;have HX:=Za hx;have HBT4:=Za (HBT3.out.then hbt);clear hx hbt;go_wp2;go_ret
     exact⟨by rw[HE.out];rfl,by rw[HE.out];exact HX.out,HBT4.out⟩
    ·have HDR:=Za hdr
     clear hdr;go_wp2_with fail
     refine(ZcO rb _ _ bs _ (l.drop 2) _ HB3.out HR3.out HDR.out (by rw[Xa];omega) HPD.out).mono ?_
     rintro e w4 ⟨rfl,hx,hbt⟩;have HX:=Za hx;have HBT4:=Za (HBT3.out.then hbt);clear hx hbt;go_wp2;go_ret
     exact⟨by rw[HE.out];rfl,by rw[HE.out];exact HX.out,HBT4.out⟩
def BaseIs(_w:World)(_rb:Nat)(bv:Value)(ob:Option RU):Prop:=(ob=none∧bv=.pointer none)∨False
def ZmB(ob:Option RU):Option RU:=match ob with|some b=>if b.sch=ZO then some b else none|none=>none
theorem Zwn(rb:Nat)(R:RR)(u:RU)(bs:LA)(v bv:Value)(l:LI)(ob:Option RU)(w:World)(h:RB w rb R)(hr:RIs w R u bs)(hv:IntsAt w v l)(hl:l.length≤20000)(hp:∀c∈l,Pt c)(hb:BaseIs w rb bv ob):Calls Tryz.prog 232 #[.pointer (some ⟨rb,0,none⟩),v,bv] w fun e w'=>Zr4 e w w' rb (Zgq u l (ZmB ob)):=by obtain⟨rfl,rfl⟩:=hb.resolve_right id;exact Zwm rb R u bs v _ l w h hr hv hl hp (Or.inl rfl)
def Zwo(u b:RU):RU:={ u with user:=b.user,pass:=b.pass,his:=b.his,htx:=b.htx,port:=b.port }
def Zgr(u:RU)(l:List Int)(b:RU):RU×Int:=
 if(ZB l 0 u.sch&&ZB l 1 u.sch)=true then ZaS u (l.drop 2)
 else if ZB l 0 u.sch=true then({ Zwo u b with path:=walked u.sch [] (l.drop 1) },0)
 else if l=[]then(Zwl (Zwo u b) b,0)else({ Zwo u b with path:=walked u.sch (Zcn u.sch b.path) l },0)
theorem Zwp(rb:Nat)(R:RR)(u:RU)(bs:LA)(v bv:Value)(l:LI)(ob:Option RU)(w:World)(h:RB w rb R)(hr:RIs w R u bs)(hv:IntsAt w v l)(hl:l.length≤20000)(hp:∀c∈l,Pt c)(hb:BaseIs w rb bv ob)(hf:u.sch=ZO):Calls Tryz.prog 200 #[.pointer (some ⟨rb,0,none⟩),v,bv] w fun e w'=>Zr4 e w w' rb (Zgq u l (ZmB ob)):=by
 have HF:=Za (Zwn rb R u bs v bv l ob w h hr hv hl hp hb)
 have hfb:=eqB (s:=R.sch) (l:=[102,105,108,101]) (by rw[hr.usch,hf];rfl)
 have c0:=h.cells.1;clear h hr hv hp hb hf
 go_enter Tryz.func200,Tryz.ntmps200
 go_wp2_with fail
 refine HF.out.mono ?_
 rintro e w1 ⟨rfl,hx,hbt⟩;have HX:=Za hx;have HBT:=Za hbt;clear hx hbt;go_wp2;go_ret;exact⟨rfl,HX.out,HBT.out⟩
theorem BaseIs.on{w w':World}{rb:Nat}{bv:Value}{ob:Option RU}(h:BaseIs w rb bv ob)(_hn:Nx w w'):BaseIs w' rb bv ob:=h
def ZiS(l:List Int):Bool:=decide (1<l.length)&&l.headD 0==47&&(l.drop 1).headD 0==47
def Zys(l:List Int):Bool:=decide (0<l.length)&&l.headD 0==47
def Zwq(u:RU)(ob:Option RU):Option RU:=match ob with|some b=>if b.sch=u.sch then some b else none|none=>none
def ZaI(u:RU)(l:List Int)(ob:Option RU):RU×Int:=
 if u.sch=ZO then Zgq u l (ZmB ob)
 else if Zg u.sch=true then
  (match (if ZiS l=true then none else Zwq u ob)with|some b=>Zgr u l b|none=>ZaS u l)
 else if ZiS l=true then ZaS u (l.drop 2)
 else if Zys l=true then({ u with path:=walked u.sch [] (l.drop 1) },0)
 else({ u with op:=true,bl:=encoded l [] },0)
theorem Zwr(rb:Nat)(R:RR)(u:RU)(bs:LA)(v bv:Value)(l:LI)(ob:Option RU)(w:World)(h:RB w rb R)(hr:RIs w R u bs)(hv:IntsAt w v l)(hl:l.length≤20000)(hp:∀c∈l,Pt c)(hb:BaseIs w rb bv ob)(hf:u.sch=ZO)(sp:Bool)(hsp:Zg u.sch=sp):Calls Tryz.prog 199 #[.pointer (some ⟨rb,0,none⟩),v,bv] w fun e w'=>Zr4 e w w' rb (ZaI u l ob):=by
 have HUS:=Za hr.usch;have HB:=Za h;have HR:=Za hr;have HV:=Za hv;have HP:=Za hp;have HBB:=Za hb;have c0:=h.cells.1
 have hfb:=eqB (s:=R.sch) (l:=[102,105,108,101]) (by rw[hr.usch,hf];rfl)
 have HE:=Za (show ZaI u l ob=Zgq u l (ZmB ob)from if_pos hf)
 have HRF:=Za (fun w' (hn:Nx w w') (hbb:BaseIs w' rb bv ob)=>Zwp rb R u bs v bv l ob w' (h.on hn) (hr.on hn) (hv.on hn) hl hp hbb hf)
 have HSU:=Za (show Zg (tl R.sch)=sp by rw[hr.usch];exact hsp)
 clear h hr hp hb hf hsp;obtain⟨ao,cap,hve,hlc,hcap,hnone,hsome⟩:=hv;subst hve;unfold maxLen at hcap
 go_enter Tryz.func199,Tryz.ntmps199
 go_wp2_with fail
 refine(ZI R.sch _).mono ?_
 rintro e w1 ⟨rfl,hn1⟩;have HN1:=Za hn1;clear hn1 c0;rw[HSU.out];go_upto_region 2 with fail
 go_cut [8]from 9 (fun x wx=>x=.bool (ZiS l)∧wx=w1)
 case first=>
  match l,hlc,hnone,hsome with
  | [],hlc,hnone,hsome=>
   go_wp2
   go_meet
   case rel=>exact⟨rfl,rfl⟩
  | [a],hlc,hnone,hsome=>
   clear hnone hsome;go_wp2
   go_meet
   case rel=>exact⟨rfl,rfl⟩
  | a::b::r,hlc,hnone,hsome=>
   obtain⟨ad,had⟩:=Zw (k:=0) (show 0<(a::b::r).length by simp) hnone
   subst had;obtain⟨ab,off,rfl,hrow⟩:=hsome ad rfl
   have k0:=((hrow.on HN1.out).cell (i:=0) (by simp))
   have k1:=((hrow.on HN1.out).cell (i:=1) (by simp))
   simp only[Xg,Xe,Xf]at k0 k1
   have HTW:=Za (show ZiS (a::b::r)=(a==47&&b==47)by simp[ZiS])
   clear hnone hsome hrow
   cases ha:(a==47)
   ·go_wp2
    go_meet
    case rel=>exact⟨by rw[HTW.out,ha];rfl,rfl⟩
   ·cases hb:(b==47)
    all_goals go_wp2
    all_goals go_meet
    all_goals exact⟨by rw[HTW.out,ha,hb];rfl,rfl⟩
 case rest=>
  obtain⟨rfl,rfl⟩:=hcut;obtain⟨w2,hw2⟩:∃w2,w2=wc:=⟨_,rfl⟩;subst hw2;have c0:=(HB.out.on HN1.out).cells.1;have HB1:=Za (HB.out.on HN1.out);have HR1:=Za (HR.out.on HN1.out);have HV1:=Za (HV.out.on HN1.out);have HBT1:=Za (show But rb w w2 from But.nx HN1.out);obtain⟨tw,htw⟩:∃tw,tw=ZiS l:=⟨_,rfl⟩;rw[←htw];clear htw hnone hsome;go_wp2_with fail
  refine(HRF.out _ HN1.out (HBB.out.on HN1.out)).mono ?_
  rintro e w4 ⟨rfl,hx,hbt⟩;have HX:=Za hx;have HBT4:=Za (HBT1.out.then hbt);clear hx hbt;go_wp2;go_ret
  exact⟨by rw[HE.out];rfl,by rw[HE.out];exact HX.out,HBT4.out⟩
theorem ZtF(rb:Nat)(R:RR)(u:RU)(bs:LA)(v bv:Value)(l:LI)(ob:Option RU)(w:World)(h:RB w rb R)(hr:RIs w R u bs)(hv:IntsAt w v l)(hl:l.length≤20000)(hp:∀c∈l,Pt c)(hb:BaseIs w rb bv ob)(hf:u.sch≠ZO)(hsp:Zg u.sch=false):Calls Tryz.prog 199 #[.pointer (some ⟨rb,0,none⟩),v,bv] w fun e w'=>Zr4 e w w' rb (ZaI u l ob):=by
 have HUS:=Za hr.usch;have HB:=Za h;have HR:=Za hr;have HV:=Za hv;have HP:=Za hp;have HBB:=Za hb;have c0:=h.cells.1
 have hfb:=neB (s:=R.sch) (l:=[102,105,108,101]) (by rw[hr.usch];exact hf)
 have HD:=Za (show ZaI u l ob=if ZiS l=true then ZaS u (l.drop 2)else if Zys l=true then({ u with path:=walked u.sch [] (l.drop 1) },0)else({ u with op:=true,bl:=encoded l [] },0)by unfold ZaI;rw[if_neg hf,if_neg (by rw[hsp];decide)])
 have HSU:=Za (show Zg (tl R.sch)=false by rw[hr.usch];exact hsp)
 clear h hr hp hb hf hsp;obtain⟨ao,cap,hve,hlc,hcap,hnone,hsome⟩:=hv;subst hve;unfold maxLen at hcap
 go_enter Tryz.func199,Tryz.ntmps199
 go_wp2_with fail
 refine(ZI R.sch _).mono ?_
 rintro e w1 ⟨rfl,hn1⟩;have HN1:=Za hn1;clear hn1 c0;rw[HSU.out];go_upto_region 2 with fail
 go_cut [8]from 9 (fun x wx=>x=.bool (ZiS l)∧wx=w1)
 case first=>
  match l,hlc,hnone,hsome with
  | [],hlc,hnone,hsome=>
   go_wp2
   go_meet
   case rel=>exact⟨rfl,rfl⟩
  | [a],hlc,hnone,hsome=>
   clear hnone hsome;go_wp2
   go_meet
   case rel=>exact⟨rfl,rfl⟩
  | a::b::r,hlc,hnone,hsome=>
   obtain⟨ad,had⟩:=Zw (k:=0) (show 0<(a::b::r).length by simp) hnone
   subst had;obtain⟨ab,off,rfl,hrow⟩:=hsome ad rfl
   have k0:=((hrow.on HN1.out).cell (i:=0) (by simp))
   have k1:=((hrow.on HN1.out).cell (i:=1) (by simp))
   simp only[Xg,Xe,Xf]at k0 k1
   have HTW:=Za (show ZiS (a::b::r)=(a==47&&b==47)by simp[ZiS])
   clear hnone hsome hrow
   cases ha:(a==47)
   ·go_wp2
    go_meet
    case rel=>exact⟨by rw[HTW.out,ha];rfl,rfl⟩
   ·cases hb:(b==47)
    all_goals go_wp2
    all_goals go_meet
    all_goals exact⟨by rw[HTW.out,ha,hb];rfl,rfl⟩
 case rest=>
  obtain⟨rfl,rfl⟩:=hcut;obtain⟨w2,hw2⟩:∃w2,w2=wc:=⟨_,rfl⟩;subst hw2;have c0:=(HB.out.on HN1.out).cells.1;have HB1:=Za (HB.out.on HN1.out);have HR1:=Za (HR.out.on HN1.out);have HV1:=Za (HV.out.on HN1.out);have HBT1:=Za (show But rb w w2 from But.nx HN1.out);obtain⟨tw,htw⟩:∃tw,tw=ZiS l:=⟨_,rfl⟩;rw[←htw];have HTW:=Za htw;clear htw HBB;go_upto_region 7 with fail
  cases tw
  ·have HD1:=Za (HD.out.trans (if_neg (by rw[←HTW.out];decide)))
   clear HD;have HB5:=Za (HB1.out.on (w':=w2.drew) Nx.rfl.drew);have HR5:=Za (HR1.out.on (w':=w2.drew) Nx.rfl.drew);have HV5:=Za (HV1.out.on (w':=w2.drew) Nx.rfl.drew);have HBT5:=Za (show But rb w w2.drew from HBT1.out.drew)
   go_region
   go_upto_region 13 with fail;generalize w2.drew=w5 at *;rcases Nat.eq_zero_or_pos l.length with hz|hpos
   ·have ho:Zys l=false:=by rw[List.eq_nil_of_length_eq_zero hz];rfl
    have hz2:decide (0<(l.length:Int))=false:=by rw[hz];rfl
    have hz3:¬(0<(l.length:Int)):=by omega
    clear hz hnone hsome
    have HE:=Za (HD1.out.trans (if_neg (by rw[ho];decide)))
    clear HD1 ho;obtain⟨k0,k1,k2,k3,k4,k5,k6,k7,k8,k9,k10,k11,k12⟩:=HB5.out.cells;have f7:=HB5.out.free 7;go_upto_region 4 with fail;have HB6:=Za (HB5.out.s7 true);have HBT6:=Za (show But rb w (w5.setCell ⟨rb,7,none⟩ (.bool true))from HBT5.out.set 7 _);have hkp:Kp 130 w5 (w5.setCell ⟨rb,7,none⟩ (.bool true)):=But.kp ((But.refl rb w5).set 7 _) HB5.out
    have HR6:=Za (show RIs (w5.setCell ⟨rb,7,none⟩ (.bool true)) { R with op:=true } { u with op:=true } bs from { HR5.out.kp hkp with eq:=by rw[←HR5.out.eq];rfl })
    have HV6:=Za (HV5.out.kp hkp (by decide))
    clear k0 k1 k2 k3 k4 k5 k6 k7 k8 k9 k10 k11 k12 f7 hkp;generalize (w5.setCell ⟨rb,7,none⟩ (.bool true))=w6 at *;go_wp2_with fail
    refine(Z5 _ l ⟨#[]⟩ _ HV6.out (Ze (by decide)) (by omega) HP.out).mono ?_
    rintro e w7 ⟨t,rfl,ht,hn7⟩;have HT:=Za (show tl t=encoded l []from ht);have HB7:=Za (HB6.out.on hn7);have HR7:=Za (HR6.out.on hn7);have HBT7:=Za (HBT6.out.then (But.nx hn7));clear ht hn7;obtain⟨k0,k1,k2,k3,k4,k5,k6,k7,k8,k9,k10,k11,k12⟩:=HB7.out.cells;have f8:=HB7.out.free 8;have HB8:=Za (HB7.out.s8 t);have HBT8:=Za (show But rb w (w7.setCell ⟨rb,8,none⟩ (.string t))from HBT7.out.set 8 _);have hkp:Kp 130 w7 (w7.setCell ⟨rb,8,none⟩ (.string t)):=But.kp ((But.refl rb w7).set 8 _) HB7.out
    have HR8:=Za (show RIs (w7.setCell ⟨rb,8,none⟩ (.string t)) { R with op:=true,bl:=t } { u with op:=true,bl:=encoded l [] } bs from { HR7.out.kp hkp with eq:=by rw[←HT.out,←HR5.out.eq];rfl })
    clear hkp;go_wp2;go_ret
    exact⟨by rw[HE.out];rfl,⟨_,bs,HB8.out,by rw[HE.out];exact HR8.out⟩,HBT8.out⟩
   ·obtain⟨ab,off,cap',he,hlc',hcap',hrow⟩:=HV5.out.open_ hpos
    simp only[Value.slice.injEq]at he;obtain⟨rfl,-,rfl⟩:=he;have kk0:=hrow.cell (i:=0) hpos;rw[Xg]at kk0
    have hh:l.headD 0=l[0]:=by cases l with|nil=>simp at hpos|cons=>rfl
    have ho1:Zys l=(l[0]==47):=by unfold Zys;rw[hh,decide_eq_true hpos];rfl
    clear hh hnone hsome
    cases ho:Zys l
    ·have ha:(l[0]==47)=false:=by rw[←ho1];exact ho
     clear hrow ho1
     have HE:=Za (HD1.out.trans (if_neg (by rw[ho];decide)))
     clear HD1 ho;obtain⟨k0,k1,k2,k3,k4,k5,k6,k7,k8,k9,k10,k11,k12⟩:=HB5.out.cells;have f7:=HB5.out.free 7;go_upto_region 4 with fail;have HB6:=Za (HB5.out.s7 true);have HBT6:=Za (show But rb w (w5.setCell ⟨rb,7,none⟩ (.bool true))from HBT5.out.set 7 _);have hkp:Kp 130 w5 (w5.setCell ⟨rb,7,none⟩ (.bool true)):=But.kp ((But.refl rb w5).set 7 _) HB5.out
     have HR6:=Za (show RIs (w5.setCell ⟨rb,7,none⟩ (.bool true)) { R with op:=true } { u with op:=true } bs from { HR5.out.kp hkp with eq:=by rw[←HR5.out.eq];rfl })
     have HV6:=Za (HV5.out.kp hkp (by decide))
     clear k0 k1 k2 k3 k4 k5 k6 k7 k8 k9 k10 k11 k12 f7 hkp;generalize (w5.setCell ⟨rb,7,none⟩ (.bool true))=w6 at *;go_wp2_with fail
     refine(Z5 _ l ⟨#[]⟩ _ HV6.out (Ze (by decide)) (by omega) HP.out).mono ?_
     rintro e w7 ⟨t,rfl,ht,hn7⟩;have HT:=Za (show tl t=encoded l []from ht);have HB7:=Za (HB6.out.on hn7);have HR7:=Za (HR6.out.on hn7);have HBT7:=Za (HBT6.out.then (But.nx hn7));clear ht hn7;obtain⟨k0,k1,k2,k3,k4,k5,k6,k7,k8,k9,k10,k11,k12⟩:=HB7.out.cells;have f8:=HB7.out.free 8;have HB8:=Za (HB7.out.s8 t);have HBT8:=Za (show But rb w (w7.setCell ⟨rb,8,none⟩ (.string t))from HBT7.out.set 8 _);have hkp:Kp 130 w7 (w7.setCell ⟨rb,8,none⟩ (.string t)):=But.kp ((But.refl rb w7).set 8 _) HB7.out
     have HR8:=Za (show RIs (w7.setCell ⟨rb,8,none⟩ (.string t)) { R with op:=true,bl:=t } { u with op:=true,bl:=encoded l [] } bs from { HR7.out.kp hkp with eq:=by rw[←HT.out,←HR5.out.eq];rfl })
     clear hkp;go_wp2;go_ret
     exact⟨by rw[HE.out];rfl,⟨_,bs,HB8.out,by rw[HE.out];exact HR8.out⟩,HBT8.out⟩
    ·have ha:(l[0]==47)=true:=by rw[←ho1];exact ho
     have HE:=Za (HD1.out.trans (if_pos ho))
     have HPD:=Za (fun c (hc:c∈l.drop 1)=>HP.out c (Xb hc))
     have hsd:=Zfs hrow hlc' hcap' 1 (by omega)
     clear HD1 ho hrow ho1;rcases hsd with⟨hc1,hdr⟩|⟨hc1,hdr⟩
     ·subst hc1
      have HDR:=Za hdr;clear hdr;go_wp2_with fail
      refine(ZaR rb R.sch (.slice none 0 0) [] _ (l.drop 1) w5.heap.size _ HB5.out.sch (Xd _) (ZbK _ _) (by simp) (by simp) HDR.out (by rw[Xa];omega) HPD.out).mono ?_
      rintro e w6 ⟨v',bs',rfl,ho,hwe,hbl,hbs,hbel,-⟩;have hnx:Nx w5 w6:=hbel
      obtain⟨ao9,n9,cp9,rfl,hB9,hR9⟩:=RIs.setPath (HB5.out.on hnx) (HR5.out.on hnx) (ZQ ho) (by simp at hbl;omega) hbs
      have HB9:=Za hB9;have HR9:=Za hR9
      have HWE:=Za (show bs'.map tl=walked u.sch [] (l.drop 1)by rw[hwe,HR5.out.usch];rfl)
      have HBT9:=Za (show But rb w (w6.setCell ⟨rb,6,none⟩ (.slice ao9 n9 cp9))from(HBT5.out.then (But.nx hnx)).set 6 _);obtain⟨-,-,-,-,-,-,k6,-⟩:=(HB5.out.on hnx).cells;have f6:=(HB5.out.on hnx).free 6;clear ho hwe hbl hbs hbel hnx hB9 hR9;go_wp2;go_ret
      exact⟨by rw[HE.out];rfl,⟨_,bs',HB9.out,by rw[HE.out];have h:=HR9.out;rw[HWE.out]at h;exact h⟩,HBT9.out⟩
     ·have HDR:=Za hdr
      clear hdr;go_wp2_with fail
      refine(ZaR rb R.sch (.slice none 0 0) [] _ (l.drop 1) w5.heap.size _ HB5.out.sch (Xd _) (ZbK _ _) (by simp) (by simp) HDR.out (by rw[Xa];omega) HPD.out).mono ?_
      rintro e w6 ⟨v',bs',rfl,ho,hwe,hbl,hbs,hbel,-⟩;have hnx:Nx w5 w6:=hbel
      obtain⟨ao9,n9,cp9,rfl,hB9,hR9⟩:=RIs.setPath (HB5.out.on hnx) (HR5.out.on hnx) (ZQ ho) (by simp at hbl;omega) hbs
      have HB9:=Za hB9;have HR9:=Za hR9
      have HWE:=Za (show bs'.map tl=walked u.sch [] (l.drop 1)by rw[hwe,HR5.out.usch];rfl)
      have HBT9:=Za (show But rb w (w6.setCell ⟨rb,6,none⟩ (.slice ao9 n9 cp9))from(HBT5.out.then (But.nx hnx)).set 6 _);obtain⟨-,-,-,-,-,-,k6,-⟩:=(HB5.out.on hnx).cells;have f6:=(HB5.out.on hnx).free 6;clear ho hwe hbl hbs hbel hnx hB9 hR9;go_wp2;go_ret
      exact⟨by rw[HE.out];rfl,⟨_,bs',HB9.out,by rw[HE.out];have h:=HR9.out;rw[HWE.out]at h;exact h⟩,HBT9.out⟩
  ·have HE:=Za (HD.out.trans (if_pos HTW.out.symm))
   have hl2:1<l.length:=by
    have h:=HTW.out;unfold ZiS at h
    by_cases hh:1<l.length
    ·exact hh
    ·rw[decide_eq_false hh]at h;cases h
   obtain⟨b1,off,cap',he,hlc',hcap',hrow⟩:=HV1.out.open_ (k:=0) (by omega)
   simp only[Value.slice.injEq]at he;obtain⟨rfl,-,rfl⟩:=he
   have HPD:=Za (fun c (hc:c∈l.drop 2)=>HP.out c (Xb hc))
   have hsd:=Zfs hrow hlc' hcap' 2 (by omega)
   clear HD hrow hnone hsome;rcases hsd with⟨hc1,hdr⟩|⟨hc1,hdr⟩
   ·subst hc1
    have HDR:=Za hdr;clear hdr
    go_region
    go_wp2_with fail
    refine(ZdE rb R u bs _ (l.drop 2) _ (HB1.out.on Nx.rfl.drew) (HR1.out.on Nx.rfl.drew) (HDR.out.on Nx.rfl.drew) (by rw[Xa];omega) HPD.out).mono ?_
    rintro e w4 ⟨rfl,hx,hbt⟩;have HX:=Za hx;have HBT4:=Za (HBT1.out.then ((But.nx Nx.rfl.drew).then hbt));clear hx hbt;go_wp2;go_ret
    exact⟨by rw[HE.out];rfl,by rw[HE.out];exact HX.out,HBT4.out⟩
   ·have HDR:=Za hdr
    clear hdr
    go_region
    go_wp2_with fail
    refine(ZdE rb R u bs _ (l.drop 2) _ (HB1.out.on Nx.rfl.drew) (HR1.out.on Nx.rfl.drew) (HDR.out.on Nx.rfl.drew) (by rw[Xa];omega) HPD.out).mono ?_
    rintro e w4 ⟨rfl,hx,hbt⟩;have HX:=Za hx;have HBT4:=Za (HBT1.out.then ((But.nx Nx.rfl.drew).then hbt));clear hx hbt;go_wp2;go_ret
    exact⟨by rw[HE.out];rfl,by rw[HE.out];exact HX.out,HBT4.out⟩
theorem Zn7(rb:Nat)(R:RR)(u:RU)(bs:LA)(v bv:Value)(l:LI)(ob:Option RU)(w:World)(h:RB w rb R)(hr:RIs w R u bs)(hv:IntsAt w v l)(hl:l.length≤20000)(hp:∀c∈l,Pt c)(hb:BaseIs w rb bv ob)(hf:u.sch≠ZO)(hsp:Zg u.sch=true):Calls Tryz.prog 199 #[.pointer (some ⟨rb,0,none⟩),v,bv] w fun e w'=>Zr4 e w w' rb (ZaI u l ob):=by
 have HUS:=Za hr.usch;have HB:=Za h;have HR:=Za hr;have HV:=Za hv;have HP:=Za hp;have HBB:=Za hb;have c0:=h.cells.1
 have hfb:=neB (s:=R.sch) (l:=[102,105,108,101]) (by rw[hr.usch];exact hf)
 have HF:=Za hf
 have HD:=Za (show ZaI u l ob=(match (if ZiS l=true then none else Zwq u ob)with|some b=>Zgr u l b|none=>ZaS u l)by unfold ZaI;rw[if_neg hf,if_pos hsp])
 have HSU:=Za (show Zg (tl R.sch)=true by rw[hr.usch];exact hsp)
 clear h hr hp hb hf hsp;obtain⟨ao,cap,hve,hlc,hcap,hnone,hsome⟩:=hv;subst hve;unfold maxLen at hcap
 go_enter Tryz.func199,Tryz.ntmps199
 go_wp2_with fail
 refine(ZI R.sch _).mono ?_
 rintro e w1 ⟨rfl,hn1⟩;have HN1:=Za hn1;clear hn1 c0;rw[HSU.out];go_upto_region 2 with fail
 go_cut [8]from 9 (fun x wx=>x=.bool (ZiS l)∧wx=w1)
 case first=>
  match l,hlc,hnone,hsome with
  | [],hlc,hnone,hsome=>
   go_wp2
   go_meet
   case rel=>exact⟨rfl,rfl⟩
  | [a],hlc,hnone,hsome=>
   clear hnone hsome;go_wp2
   go_meet
   case rel=>exact⟨rfl,rfl⟩
  | a::b::r,hlc,hnone,hsome=>
   obtain⟨ad,had⟩:=Zw (k:=0) (show 0<(a::b::r).length by simp) hnone
   subst had;obtain⟨ab,off,rfl,hrow⟩:=hsome ad rfl
   have k0:=((hrow.on HN1.out).cell (i:=0) (by simp))
   have k1:=((hrow.on HN1.out).cell (i:=1) (by simp))
   simp only[Xg,Xe,Xf]at k0 k1
   have HTW:=Za (show ZiS (a::b::r)=(a==47&&b==47)by simp[ZiS])
   clear hnone hsome hrow
   cases ha:(a==47)
   ·go_wp2
    go_meet
    case rel=>exact⟨by rw[HTW.out,ha];rfl,rfl⟩
   ·cases hb:(b==47)
    all_goals go_wp2
    all_goals go_meet
    all_goals exact⟨by rw[HTW.out,ha,hb];rfl,rfl⟩
 case rest=>
  obtain⟨rfl,rfl⟩:=hcut;obtain⟨w2,hw2⟩:∃w2,w2=wc:=⟨_,rfl⟩;subst hw2;have c0:=(HB.out.on HN1.out).cells.1;have HB1:=Za (HB.out.on HN1.out);have HR1:=Za (HR.out.on HN1.out);have HV1:=Za (HV.out.on HN1.out);have HBT1:=Za (show But rb w w2 from But.nx HN1.out);obtain⟨tw,htw⟩:∃tw,tw=ZiS l:=⟨_,rfl⟩;rw[←htw];have HTW:=Za htw;clear htw hnone hsome;go_upto_region 7 with fail;obtain⟨rfl,rfl⟩:=HBB.out.resolve_right id
  ·have HE:=Za (show ZaI u l none=ZaS u l by rw[HD.out];cases ZiS l<;>rfl)
   clear HD HBB
   go_region
   go_wp2_with fail
   refine(ZdE rb R u bs _ l _ (HB1.out.on Nx.rfl.drew) (HR1.out.on Nx.rfl.drew) (HV1.out.on Nx.rfl.drew) hl HP.out).mono ?_
   rintro e w4 ⟨rfl,hx,hbt⟩;have HX:=Za hx;have HBT4:=Za (HBT1.out.then ((But.nx Nx.rfl.drew).then hbt));clear hx hbt;go_wp2;go_ret
   exact⟨by rw[HE.out];rfl,by rw[HE.out];exact HX.out,HBT4.out⟩
theorem Zle(rb:Nat)(R:RR)(u:RU)(bs:LA)(v bv:Value)(l:LI)(ob:Option RU)(w:World)(h:RB w rb R)(hr:RIs w R u bs)(hv:IntsAt w v l)(hl:l.length≤20000)(hp:∀c∈l,Pt c)(hb:BaseIs w rb bv ob):Calls Tryz.prog 199 #[.pointer (some ⟨rb,0,none⟩),v,bv] w fun e w'=>Zr4 e w w' rb (ZaI u l ob):=by
 by_cases hf:u.sch=ZO
 ·exact Zwr rb R u bs v bv l ob w h hr hv hl hp hb hf _ rfl
 ·cases hsp:Zg u.sch
  ·exact ZtF rb R u bs v bv l ob w h hr hv hl hp hb hf hsp
  ·exact Zn7 rb R u bs v bv l ob w h hr hv hl hp hb hf hsp
end Go.Proofs.YtchkhibgbnhjpabGreatDoor
