import Derived.Test.YtchkhibgbnhjpabGreatDoorB27
open List renaming length_drop→Xa,length_nil→Xb,mem_of_mem_drop→Xc
open Nat renaming le_refl→Xd
namespace Go.Proofs.YtchkhibgbnhjpabGreatDoor
open Go.RowKit
set_option maxHeartbeats 8000000
set_option maxRecDepth 8000
theorem ZbU{l:LI}{i:Nat}{s:LB}(h:Zn l i s=true):i<l.length:=by
 unfold Zn at h
 split at h
 ·cases h
 ·next hc=>exact(List.getElem?_eq_some_iff.1 hc).1
theorem ZbB{α:Type}{e:TypeId}{f:α→Value}{w:World}{b off cap:Nat}{l:List α}(hr:RowAt e f w b off l)(hlc:l.length≤cap)(hcap:cap≤maxLen)(k:Nat)(hk:k≤l.length):(cap=k∧SlAt e f w (.slice (some ⟨b,off,none⟩) 0 0) (l.drop k))∨(¬cap=k∧SlAt e f w (.slice (some ⟨b,off+k,none⟩) (l.length-k) (cap-k)) (l.drop k)):=by
 by_cases hc:cap=k
 ·have h:=Zi7 hr k 0 (by omega) (Nat.zero_le _)
  rw[show l.length-k=0 by omega]at h
  exact Or.inl ⟨hc,h⟩
 ·exact Or.inr ⟨hc,ZfC hr hlc hcap k hk⟩
def Zbq(u:RU)(l:List Int)(base:Option RU):RU×Int:=
 if(Zn l 0 Zx&&Zn l 1 Zx)=true then Zdm { u with his:=true,htx:=[] } (l.drop 2)
 else match base with
 | none=>if Zn l 0 Zx=true then({ u with his:=true,htx:=[],path:=walked u.sch [] (l.drop 1) },0)else({ u with his:=true,htx:=[],path:=walked u.sch [] l },0)
 | some b=>
  if Zn l 0 Zx=true then({ u with his:=b.his,htx:=b.htx,path:=walked u.sch (if driven (l.drop 1)=false∧b.path≠[]∧drive (b.path.headD [])=true then [b.path.headD []]else []) (l.drop 1) },0)
  else if l=[]then(ZgR { u with his:=b.his,htx:=b.htx } b,0)
  else({ u with his:=b.his,htx:=b.htx,path:=walked u.sch (if driven l=true then []else ZaR u.sch b.path) l },0)
def Zya(w:World)(bv:Value):Prop:=bv=.pointer none∨∃qb Q,bv=.pointer (some ⟨qb,0,none⟩)∧RB w qb Q∧tl Q.sch≠Zx
theorem ZoU(rb:Nat)(R:RR)(u:RU)(bs:LA)(v bv:Value)(l:LI)(w:World)(h:RB w rb R)(hr:RIs w R u bs)(hv:IntsAt w v l)(hl:l.length≤20000)(hp:∀c∈l,Pt c)(hb:Zya w bv):Calls Tryz.prog 232 #[.pointer (some ⟨rb,0,none⟩),v,bv] w fun e w'=>Znq e w w' rb (Zbq u l none):=by
 have HD:=Za (show Zbq u l none=if(Zn l 0 Zx&&Zn l 1 Zx)=true then Zdm { u with his:=true,htx:=[] } (l.drop 2)else if Zn l 0 Zx=true then({ u with his:=true,htx:=[],path:=walked u.sch [] (l.drop 1) },0)else({ u with his:=true,htx:=[],path:=walked u.sch [] l },0)from rfl)
 have HBI:=Za hr;have HV:=Za hv;have HP:=Za hp;obtain⟨c0,c1,c2,c3,c4,c5,c6,c7,c8,c9,c10,c11,c12⟩:=h.cells;have f3:=h.free 3;have f4:=h.free 4;obtain⟨hB1,hR1⟩:=RIs.setHost h hr true ⟨#[]⟩;have HB0:=Za h;have HB1:=Za hB1
 have HR1:=Za (show RIs _ _ { u with his:=true,htx:=[] } bs from hR1)
 have HBT1:=Za (show But rb w ((w.setCell ⟨rb,3,none⟩ (.bool true)).setCell ⟨rb,4,none⟩ (.string ⟨#[]⟩))from((But.refl rb w).set 3 _).set 4 _);have HK1:=Za (HBT1.out.kp h)
 have HV1:=Za (hv.kp HK1.out (by decide))
 clear h hr hp hB1 hR1;obtain⟨vo,vcap,hve,-⟩:=hv;subst hve
 have hb':bv=.pointer none∨∃qb Q,bv=.pointer (some ⟨qb,0,none⟩)∧w.cell? ⟨qb,0,none⟩=some (.string Q)∧(Q.toList == [102,105,108,101])=false:=by
  rcases hb with hb|⟨qb,Q,hb,hq,hn⟩
  ·exact Or.inl hb
  ·exact Or.inr ⟨qb,Q.sch,hb,hq.cells.1,neB hn⟩
 clear hb;rcases hb' with rfl|⟨qb,Q,rfl,q0,hqn⟩
 all_goals go_enter Tryz.func232,Tryz.ntmps232
 all_goals go_upto_region 3 with fail
 ·clear c0 c1 c2 c3 c4 c5 c6 c7 c8 c9 c10 c11 c12 f3 f4
  generalize ((w.setCell ⟨rb,3,none⟩ (.bool true)).setCell ⟨rb,4,none⟩ (.string ⟨#[]⟩))=w1 at *;go_wp2_with fail
  refine(ZaF _ l 0 ⟨#[102,105,108,101]⟩ _ HV1.out).mono ?_
  rintro e w2 ⟨rfl,hn2⟩;rw[show tl (⟨#[102,105,108,101]⟩:BA)=Zx from rfl];have HN2:=Za hn2;clear hn2;go_wp2_with fail
  refine(ZaF _ l 1 ⟨#[102,105,108,101]⟩ _ (HV1.out.on HN2.out)).mono ?_
  rintro e w3 ⟨rfl,hn3⟩;rw[show tl (⟨#[102,105,108,101]⟩:BA)=Zx from rfl];have HN3:=Za (HN2.out.then hn3);have HB3:=Za (HB1.out.on HN3.out);have HR3:=Za (HR1.out.on HN3.out);have HV3:=Za (HV1.out.on HN3.out);have HBT3:=Za (HBT1.out.then (But.nx HN3.out));clear hn3 HN2 HB1 HR1 HV1 HBT1
  have HL0:=Za (fun(x:Zn l 0 Zx=true)=>ZbU x)
  have HL1:=Za (fun(x:Zn l 1 Zx=true)=>ZbU x)
  cases h0:Zn l 0 Zx
  ·have HE:=Za (HD.out.trans ((if_neg (by simp[h0])).trans (if_neg (by simp[h0]))))
   clear HD h0
   cases h1:Zn l 1 Zx
   all_goals clear h1
   all_goals
    go_wp2_with fail
    refine(Zs rb R.sch (.slice none 0 0) [] _ l w3.heap.size _ HB3.out.sch (Xd _) (ZL _ _) (by simp) (by simp) HV3.out (by omega) HP.out).mono ?_
    rintro e w4 ⟨v',bs',rfl,ho,hwe,hbl,hbs,hbel,-⟩;have hnx:Nx w3 w4:=hbel
    obtain⟨ao9,n9,cp9,rfl,hB9,hR9⟩:=RIs.setPath (HB3.out.on hnx) (HR3.out.on hnx) (Zp ho) (by first|(simp only[Xb]at hbl;omega)|omega) hbs
    have HB9:=Za hB9;have HR9:=Za hR9
    have HWE:=Za (show bs'.map tl=walked u.sch [] l by rw[hwe,HR3.out.usch];rfl)
    have HBT9:=Za (show But rb w (w4.setCell ⟨rb,6,none⟩ (.slice ao9 n9 cp9))from(HBT3.out.then (But.nx hnx)).set 6 _);obtain⟨-,-,-,-,-,-,k6,-⟩:=(HB3.out.on hnx).cells;have f6:=(HB3.out.on hnx).free 6;clear ho hwe hbl hbs hbel hnx hB9 hR9;go_wp2;go_ret
    exact⟨by rw[HE.out];rfl,⟨_,bs',HB9.out,by rw[HE.out];have h:=HR9.out;rw[HWE.out]at h;exact h⟩,HBT9.out⟩
  ·cases h1:Zn l 1 Zx
   ·have HE:=Za (HD.out.trans ((if_neg (by simp[h0,h1])).trans (if_pos h0)))
    have hl1:0<l.length:=HL0.out h0;obtain⟨b,off,cap,he,hlc,hcap,hrow⟩:=HV3.out.open_ hl1;simp only[Value.slice.injEq]at he;obtain⟨rfl,-,rfl⟩:=he
    have HPD:=Za (fun c (hc:c∈l.drop 1)=>HP.out c (Xc hc))
    have hsd:=ZbB hrow hlc hcap 1 (by omega)
    unfold maxLen at hcap;clear HD h0 h1 hrow HV3;rcases hsd with⟨hc1,hdr⟩|⟨hc1,hdr⟩
    ·subst hc1
     have HDR:=Za hdr;clear hdr;go_wp2_with fail
     refine(Zco _ (l.drop 1) _ HDR.out).mono ?_
     rintro e w4 ⟨rfl,hn4⟩;have HB4:=Za (HB3.out.on hn4);have HR4:=Za (HR3.out.on hn4);have HDR4:=Za (HDR.out.on hn4);have HBT4:=Za (HBT3.out.then (But.nx hn4));clear hn4 HB3 HR3 HDR HBT3;generalize driven (l.drop 1)=dv at *;go_wp2_with fail
     refine(Zs rb R.sch (.slice none 0 0) [] _ (l.drop 1) w4.heap.size _ HB4.out.sch (Xd _) (ZL _ _) (by simp) (by simp) HDR4.out (by rw[Xa];omega) HPD.out).mono ?_
     rintro e w5 ⟨v',bs',rfl,ho,hwe,hbl,hbs,hbel,-⟩;have hnx:Nx w4 w5:=hbel
     obtain⟨ao9,n9,cp9,rfl,hB9,hR9⟩:=RIs.setPath (HB4.out.on hnx) (HR4.out.on hnx) (Zp ho) (by simp only[Xb,Xa]at hbl;omega) hbs
     have HB9:=Za hB9;have HR9:=Za hR9
     have HWE:=Za (show bs'.map tl=walked u.sch [] (l.drop 1)by rw[hwe,HR4.out.usch];rfl)
     have HBT9:=Za (show But rb w (w5.setCell ⟨rb,6,none⟩ (.slice ao9 n9 cp9))from(HBT4.out.then (But.nx hnx)).set 6 _);obtain⟨-,-,-,-,-,-,k6,-⟩:=(HB4.out.on hnx).cells;have f6:=(HB4.out.on hnx).free 6;clear ho hwe hbl hbs hbel hnx hB9 hR9;go_wp2;go_ret
     exact⟨by rw[HE.out];rfl,⟨_,bs',HB9.out,by rw[HE.out];have h:=HR9.out;rw[HWE.out]at h;exact h⟩,HBT9.out⟩
    ·have HDR:=Za hdr
     clear hdr;go_wp2_with fail
     refine(Zco _ (l.drop 1) _ HDR.out).mono ?_
     rintro e w4 ⟨rfl,hn4⟩;have HB4:=Za (HB3.out.on hn4);have HR4:=Za (HR3.out.on hn4);have HDR4:=Za (HDR.out.on hn4);have HBT4:=Za (HBT3.out.then (But.nx hn4));clear hn4 HB3 HR3 HDR HBT3;generalize driven (l.drop 1)=dv at *;go_wp2_with fail
     refine(Zs rb R.sch (.slice none 0 0) [] _ (l.drop 1) w4.heap.size _ HB4.out.sch (Xd _) (ZL _ _) (by simp) (by simp) HDR4.out (by rw[Xa];omega) HPD.out).mono ?_
     rintro e w5 ⟨v',bs',rfl,ho,hwe,hbl,hbs,hbel,-⟩;have hnx:Nx w4 w5:=hbel
     obtain⟨ao9,n9,cp9,rfl,hB9,hR9⟩:=RIs.setPath (HB4.out.on hnx) (HR4.out.on hnx) (Zp ho) (by simp only[Xb,Xa]at hbl;omega) hbs
     have HB9:=Za hB9;have HR9:=Za hR9
     have HWE:=Za (show bs'.map tl=walked u.sch [] (l.drop 1)by rw[hwe,HR4.out.usch];rfl)
     have HBT9:=Za (show But rb w (w5.setCell ⟨rb,6,none⟩ (.slice ao9 n9 cp9))from(HBT4.out.then (But.nx hnx)).set 6 _);obtain⟨-,-,-,-,-,-,k6,-⟩:=(HB4.out.on hnx).cells;have f6:=(HB4.out.on hnx).free 6;clear ho hwe hbl hbs hbel hnx hB9 hR9;go_wp2;go_ret
     exact⟨by rw[HE.out];rfl,⟨_,bs',HB9.out,by rw[HE.out];have h:=HR9.out;rw[HWE.out]at h;exact h⟩,HBT9.out⟩
   ·have hl2:1<l.length:=HL1.out h1
    have HE:=Za (HD.out.trans (if_pos (by rw[h0,h1];rfl)))
    obtain⟨b,off,cap,he,hlc,hcap,hrow⟩:=HV3.out.open_ (k:=0) (by omega)
    simp only[Value.slice.injEq]at he;obtain⟨rfl,-,rfl⟩:=he
    have HPD:=Za (fun c (hc:c∈l.drop 2)=>HP.out c (Xc hc))
    have hsd:=ZbB hrow hlc hcap 2 (by omega)
    unfold maxLen at hcap;clear HD h0 h1 hrow HV3;rcases hsd with⟨hc1,hdr⟩|⟨hc1,hdr⟩
    ·subst hc1
     have HDR:=Za hdr;clear hdr;go_wp2_with fail
     refine(ZbA rb _ _ bs _ (l.drop 2) _ HB3.out HR3.out HDR.out (by rw[Xa];omega) HPD.out).mono ?_
     rintro e w4 ⟨rfl,hx,hbt⟩;have HX:=Za hx;have HBT4:=Za (HBT3.out.then hbt);clear hx hbt;go_wp2;go_ret
     exact⟨by rw[HE.out];rfl,by rw[HE.out];exact HX.out,HBT4.out⟩
    ·have HDR:=Za hdr
     clear hdr;go_wp2_with fail
     refine(ZbA rb _ _ bs _ (l.drop 2) _ HB3.out HR3.out HDR.out (by rw[Xa];omega) HPD.out).mono ?_
     rintro e w4 ⟨rfl,hx,hbt⟩;have HX:=Za hx;have HBT4:=Za (HBT3.out.then hbt);clear hx hbt;go_wp2;go_ret
     exact⟨by rw[HE.out];rfl,by rw[HE.out];exact HX.out,HBT4.out⟩
 ·clear c0 c1 c2 c3 c4 c5 c6 c7 c8 c9 c10 c11 c12 f3 f4
  generalize ((w.setCell ⟨rb,3,none⟩ (.bool true)).setCell ⟨rb,4,none⟩ (.string ⟨#[]⟩))=w1 at *;go_wp2_with fail
  refine(ZaF _ l 0 ⟨#[102,105,108,101]⟩ _ HV1.out).mono ?_
  rintro e w2 ⟨rfl,hn2⟩;rw[show tl (⟨#[102,105,108,101]⟩:BA)=Zx from rfl];have HN2:=Za hn2;clear hn2;go_wp2_with fail
  refine(ZaF _ l 1 ⟨#[102,105,108,101]⟩ _ (HV1.out.on HN2.out)).mono ?_
  rintro e w3 ⟨rfl,hn3⟩;rw[show tl (⟨#[102,105,108,101]⟩:BA)=Zx from rfl];have HN3:=Za (HN2.out.then hn3);have HB3:=Za (HB1.out.on HN3.out);have HR3:=Za (HR1.out.on HN3.out);have HV3:=Za (HV1.out.on HN3.out);have HBT3:=Za (HBT1.out.then (But.nx HN3.out));clear hn3 HN2 HB1 HR1 HV1 HBT1
  have HL0:=Za (fun(x:Zn l 0 Zx=true)=>ZbU x)
  have HL1:=Za (fun(x:Zn l 1 Zx=true)=>ZbU x)
  cases h0:Zn l 0 Zx
  ·have HE:=Za (HD.out.trans ((if_neg (by simp[h0])).trans (if_neg (by simp[h0]))))
   clear HD h0
   cases h1:Zn l 1 Zx
   all_goals clear h1
   all_goals
    go_wp2_with fail
    refine(Zs rb R.sch (.slice none 0 0) [] _ l w3.heap.size _ HB3.out.sch (Xd _) (ZL _ _) (by simp) (by simp) HV3.out (by omega) HP.out).mono ?_
    rintro e w4 ⟨v',bs',rfl,ho,hwe,hbl,hbs,hbel,-⟩;have hnx:Nx w3 w4:=hbel
    obtain⟨ao9,n9,cp9,rfl,hB9,hR9⟩:=RIs.setPath (HB3.out.on hnx) (HR3.out.on hnx) (Zp ho) (by first|(simp only[Xb]at hbl;omega)|omega) hbs
    have HB9:=Za hB9;have HR9:=Za hR9
    have HWE:=Za (show bs'.map tl=walked u.sch [] l by rw[hwe,HR3.out.usch];rfl)
    have HBT9:=Za (show But rb w (w4.setCell ⟨rb,6,none⟩ (.slice ao9 n9 cp9))from(HBT3.out.then (But.nx hnx)).set 6 _);obtain⟨-,-,-,-,-,-,k6,-⟩:=(HB3.out.on hnx).cells;have f6:=(HB3.out.on hnx).free 6;clear ho hwe hbl hbs hbel hnx hB9 hR9;go_wp2;go_ret
    exact⟨by rw[HE.out];rfl,⟨_,bs',HB9.out,by rw[HE.out];have h:=HR9.out;rw[HWE.out]at h;exact h⟩,HBT9.out⟩
  ·cases h1:Zn l 1 Zx
   ·have HE:=Za (HD.out.trans ((if_neg (by simp[h0,h1])).trans (if_pos h0)))
    have hl1:0<l.length:=HL0.out h0;obtain⟨b,off,cap,he,hlc,hcap,hrow⟩:=HV3.out.open_ hl1;simp only[Value.slice.injEq]at he;obtain⟨rfl,-,rfl⟩:=he
    have HPD:=Za (fun c (hc:c∈l.drop 1)=>HP.out c (Xc hc))
    have hsd:=ZbB hrow hlc hcap 1 (by omega)
    unfold maxLen at hcap;clear HD h0 h1 hrow HV3;rcases hsd with⟨hc1,hdr⟩|⟨hc1,hdr⟩
    ·subst hc1
     have HDR:=Za hdr;clear hdr;go_wp2_with fail
     refine(Zco _ (l.drop 1) _ HDR.out).mono ?_
     rintro e w4 ⟨rfl,hn4⟩;have HB4:=Za (HB3.out.on hn4);have HR4:=Za (HR3.out.on hn4);have HDR4:=Za (HDR.out.on hn4);have HBT4:=Za (HBT3.out.then (But.nx hn4));clear hn4 HB3 HR3 HDR HBT3;generalize driven (l.drop 1)=dv at *;go_wp2_with fail
     refine(Zs rb R.sch (.slice none 0 0) [] _ (l.drop 1) w4.heap.size _ HB4.out.sch (Xd _) (ZL _ _) (by simp) (by simp) HDR4.out (by rw[Xa];omega) HPD.out).mono ?_
     rintro e w5 ⟨v',bs',rfl,ho,hwe,hbl,hbs,hbel,-⟩;have hnx:Nx w4 w5:=hbel
     obtain⟨ao9,n9,cp9,rfl,hB9,hR9⟩:=RIs.setPath (HB4.out.on hnx) (HR4.out.on hnx) (Zp ho) (by simp only[Xb,Xa]at hbl;omega) hbs
     have HB9:=Za hB9;have HR9:=Za hR9
     have HWE:=Za (show bs'.map tl=walked u.sch [] (l.drop 1)by rw[hwe,HR4.out.usch];rfl)
     have HBT9:=Za (show But rb w (w5.setCell ⟨rb,6,none⟩ (.slice ao9 n9 cp9))from(HBT4.out.then (But.nx hnx)).set 6 _);obtain⟨-,-,-,-,-,-,k6,-⟩:=(HB4.out.on hnx).cells;have f6:=(HB4.out.on hnx).free 6;clear ho hwe hbl hbs hbel hnx hB9 hR9;go_wp2;go_ret
     exact⟨by rw[HE.out];rfl,⟨_,bs',HB9.out,by rw[HE.out];have h:=HR9.out;rw[HWE.out]at h;exact h⟩,HBT9.out⟩
    ·have HDR:=Za hdr
     clear hdr;go_wp2_with fail
     refine(Zco _ (l.drop 1) _ HDR.out).mono ?_
     rintro e w4 ⟨rfl,hn4⟩;have HB4:=Za (HB3.out.on hn4);have HR4:=Za (HR3.out.on hn4);have HDR4:=Za (HDR.out.on hn4);have HBT4:=Za (HBT3.out.then (But.nx hn4));clear hn4 HB3 HR3 HDR HBT3;generalize driven (l.drop 1)=dv at *;go_wp2_with fail
     refine(Zs rb R.sch (.slice none 0 0) [] _ (l.drop 1) w4.heap.size _ HB4.out.sch (Xd _) (ZL _ _) (by simp) (by simp) HDR4.out (by rw[Xa];omega) HPD.out).mono ?_
     rintro e w5 ⟨v',bs',rfl,ho,hwe,hbl,hbs,hbel,-⟩;have hnx:Nx w4 w5:=hbel
     obtain⟨ao9,n9,cp9,rfl,hB9,hR9⟩:=RIs.setPath (HB4.out.on hnx) (HR4.out.on hnx) (Zp ho) (by simp only[Xb,Xa]at hbl;omega) hbs
     have HB9:=Za hB9;have HR9:=Za hR9
     have HWE:=Za (show bs'.map tl=walked u.sch [] (l.drop 1)by rw[hwe,HR4.out.usch];rfl)
     have HBT9:=Za (show But rb w (w5.setCell ⟨rb,6,none⟩ (.slice ao9 n9 cp9))from(HBT4.out.then (But.nx hnx)).set 6 _);obtain⟨-,-,-,-,-,-,k6,-⟩:=(HB4.out.on hnx).cells;have f6:=(HB4.out.on hnx).free 6;clear ho hwe hbl hbs hbel hnx hB9 hR9;go_wp2;go_ret
     exact⟨by rw[HE.out];rfl,⟨_,bs',HB9.out,by rw[HE.out];have h:=HR9.out;rw[HWE.out]at h;exact h⟩,HBT9.out⟩
   ·have hl2:1<l.length:=HL1.out h1
    have HE:=Za (HD.out.trans (if_pos (by rw[h0,h1];rfl)))
    obtain⟨b,off,cap,he,hlc,hcap,hrow⟩:=HV3.out.open_ (k:=0) (by omega)
    simp only[Value.slice.injEq]at he;obtain⟨rfl,-,rfl⟩:=he
    have HPD:=Za (fun c (hc:c∈l.drop 2)=>HP.out c (Xc hc))
    have hsd:=ZbB hrow hlc hcap 2 (by omega)
    unfold maxLen at hcap;clear HD h0 h1 hrow HV3;rcases hsd with⟨hc1,hdr⟩|⟨hc1,hdr⟩
    ·subst hc1
     have HDR:=Za hdr;clear hdr;go_wp2_with fail
     refine(ZbA rb _ _ bs _ (l.drop 2) _ HB3.out HR3.out HDR.out (by rw[Xa];omega) HPD.out).mono ?_
     rintro e w4 ⟨rfl,hx,hbt⟩;have HX:=Za hx;have HBT4:=Za (HBT3.out.then hbt);clear hx hbt;go_wp2;go_ret
     exact⟨by rw[HE.out];rfl,by rw[HE.out];exact HX.out,HBT4.out⟩
    ·have HDR:=Za hdr
     clear hdr;go_wp2_with fail
     refine(ZbA rb _ _ bs _ (l.drop 2) _ HB3.out HR3.out HDR.out (by rw[Xa];omega) HPD.out).mono ?_
     rintro e w4 ⟨rfl,hx,hbt⟩;have HX:=Za hx;have HBT4:=Za (HBT3.out.then hbt);clear hx hbt;go_wp2;go_ret
     exact⟨by rw[HE.out];rfl,by rw[HE.out];exact HX.out,HBT4.out⟩
end Go.Proofs.YtchkhibgbnhjpabGreatDoor
