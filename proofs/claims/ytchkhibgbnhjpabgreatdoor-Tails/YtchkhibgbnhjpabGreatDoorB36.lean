import Derived.Test.YtchkhibgbnhjpabGreatDoorB33
open List renaming getElem?_eq_getElem→Xc,length_map→Xd,take_succ_eq_append_getElem→Xe,take_of_length_le→Xf,map_append→Xg,mem_map→Xh
open Nat renaming le_refl→Xa,le_trans→Xb,zero_le→Xi
namespace Go.Proofs.YtchkhibgbnhjpabGreatDoor
open Go.RowKit
set_option maxHeartbeats 8000000
set_option maxRecDepth 8000
theorem Zi3(rb:Nat)(R:RR)(u:RU)(bs:LA)(v:Value)(l:LI)(qb:Nat)(Q:RR)(b:RU)(cs:LA)(w:World)(h:RB w rb R)(hr:RIs w R u bs)(hv:IntsAt w v l)(hl:l.length≤20000)(hp:∀c∈l,Pt c)(hq:RB w qb Q)(hqr:RIs w Q b cs)(hne:qb≠rb)(hcl:cs.length≤70000):Calls Tryz.prog 200 #[.pointer (some ⟨rb,0,none⟩),v,.pointer (some ⟨qb,0,none⟩)] w fun e w'=>Znq e w w' rb (Zd5 u l b):=by
 unfold Zd5
 by_cases hf:u.sch=Zx
 ·rw[if_pos hf]
  exact ZoW rb R u bs v _ l (some b) w h hr hv hl hp (Or.inr ⟨qb,Q,b,cs,rfl,rfl,hq,hqr,hne,hcl⟩) hf
 ·rw[if_neg hf]
  exact Zl1 rb qb R Q u b bs cs v l w h hr hq hqr hne hf hv hl hcl hp
theorem Zqx(s:BA)(w:World)(hs:s.size≤20000)(hok:(schemeOf (cut (Zay (tl s)) [35]).1).2.2=false):Calls Tryz.prog 149 #[.string s,.pointer none] w fun e w'=>ZgS e w w' (parseR (tl s) (none)):=by
 have HOK:=Za hok;clear hok
 go_enter Tryz.func149,Tryz.ntmps149
 go_wp2_with fail
 refine(ZaC s _ (by omega)).mono ?_
 rintro e w1 ⟨v1,rfl,h1,hn1⟩;have H1:=Za h1;have HN1:=Za hn1;clear h1 hn1;go_wp2_with fail
 refine(Zda _ (Zj (tl s)) _ H1.out).mono ?_
 rintro e w1' ⟨v2,rfl,h2,rfl⟩;have H2:=Za h2;have hpl:=ZaD (tl s);rw[tl_length]at hpl;have htl:=Zcp (Zj (tl s));clear h2 H1;go_wp2_with fail
 refine(ZbO _ (trimmed (Zj (tl s))) _ H2.out (by omega)).mono ?_
 rintro e w2 ⟨v3,rfl,h3,hn2⟩;have H3:=Za (show IntsAt w2 v3 (Zay (tl s))from h3);have HN2:=Za (HN1.out.then hn2)
 have hll:(Zay (tl s)).length≤20000:=Xb (Ze0 _) (by rw[tl_length];exact hs)
 have HLP:=Za (Zgr (tl s));clear h3 hn2 H2 HN1 hpl htl;have HPD:Hid (parseR (tl s) (none)=Zd6 (cut (Zay (tl s)) [35]).1 (cut (Zay (tl s)) [35]).2.1 (cut (Zay (tl s)) [35]).2.2 (none)):=Za rfl;generalize Zay (tl s)=L at *;go_wp2_with fail
 refine(ZbZ _ L ⟨#[35]⟩ _ (Zf (by decide)) H3.out).mono ?_
 rintro e w3 ⟨va,vf,rfl,ha,hf,hn3⟩;rw[show tl (⟨#[35]⟩:BA)=[35]from rfl]at *
 have HPA:=Za (fun c (h:c∈(cut L [35]).1)=>HLP.out c (ZD (Or.inl h)))
 have HPF:=Za (fun c (h:c∈(cut L [35]).2.1)=>HLP.out c (ZD (Or.inr h)))
 have hcl:=(Zbk L [35]).1;generalize cut L [35]=cc at *;obtain⟨a,frag,hf⟩:=cc;simp only at *;have HA:=Za ha;have HF:=Za hf;have HN3:=Za (HN2.out.then hn3);clear ha hf hn3 H3 HN2 HLP;have hsl:=ZcJ a
 have hsc:=ZcK a (by omega)
 have HPR:=Za (fun c (h:c∈(schemeOf a).2.1)=>HPA.out c (ZbV h))
 go_wp2_with fail
 refine(ZcF _ a _ HA.out (by omega) HPA.out).mono ?_
 rintro e w4 ⟨sc,vr,rfl,hsce,hr,hn4⟩;have HSC:=Za hsce;have HRT:=Za hr;have HN4:=Za (HN3.out.then hn4);have HF4:=Za (HF.out.on hn4);have HA4:=Za (HA.out.on hn4)
 have hscs:sc.size≤1000000:=by rw[←tl_length,hsce];exact hsc
 clear hsce hr hn4 HN3 HF HA hsc;rw[HOK.out]
 have HD:=Za (HPD.out.trans (show Zd6 a frag hf none=(zeroR,2)from if_neg (by rw[HOK.out];decide)))
 clear HPD HOK HA4 HF4 HRT HPR HPA HPF;go_wp2;go_ret2
 exact Or.inl ⟨by rw[HD.out];decide,by rw[HD.out];rfl,HN4.out⟩
theorem Zmh(s:BA)(qb:Nat)(Q:RR)(b:RU)(cs:LA)(w:World)(hs:s.size≤20000)(hq0:RB w qb Q)(hqr0:RIs w Q b cs)(hcs:cs.length≤70000)(hop:b.op=true)(hok:(schemeOf (cut (Zay (tl s)) [35]).1).2.2=false)(hno:(cut (Zay (tl s)) [35]).1≠[]∨(cut (Zay (tl s)) [35]).2.2=false):Calls Tryz.prog 149 #[.string s,.pointer (some ⟨qb,0,none⟩)] w fun e w'=>ZgS e w w' (parseR (tl s) (some b)):=by
 have HBB:Hid (BaseW w (.pointer (some ⟨qb,0,none⟩)) (some b)):=Za (Or.inr ⟨qb,Q,b,cs,rfl,rfl,hq0,hqr0,hcs⟩);have HQB:=Za hq0;have HQR:=Za hqr0
 have HQO:=Za (show Q.op=true by rw[←hop,←hqr0.eq];rfl)
 have HBO:=Za hop;have HOK:=Za hok;clear hq0 hqr0 hop hok;have HNO:=Za hno;clear hno
 go_enter Tryz.func149,Tryz.ntmps149
 go_wp2_with fail
 refine(ZaC s _ (by omega)).mono ?_
 rintro e w1 ⟨v1,rfl,h1,hn1⟩;have H1:=Za h1;have HN1:=Za hn1;clear h1 hn1;go_wp2_with fail
 refine(Zda _ (Zj (tl s)) _ H1.out).mono ?_
 rintro e w1' ⟨v2,rfl,h2,rfl⟩;have H2:=Za h2;have hpl:=ZaD (tl s);rw[tl_length]at hpl;have htl:=Zcp (Zj (tl s));clear h2 H1;go_wp2_with fail
 refine(ZbO _ (trimmed (Zj (tl s))) _ H2.out (by omega)).mono ?_
 rintro e w2 ⟨v3,rfl,h3,hn2⟩;have H3:=Za (show IntsAt w2 v3 (Zay (tl s))from h3);have HN2:=Za (HN1.out.then hn2)
 have hll:(Zay (tl s)).length≤20000:=Xb (Ze0 _) (by rw[tl_length];exact hs)
 have HLP:=Za (Zgr (tl s));clear h3 hn2 H2 HN1 hpl htl;have HPD:Hid (parseR (tl s) (some b)=Zd6 (cut (Zay (tl s)) [35]).1 (cut (Zay (tl s)) [35]).2.1 (cut (Zay (tl s)) [35]).2.2 (some b)):=Za rfl;generalize Zay (tl s)=L at *;go_wp2_with fail
 refine(ZbZ _ L ⟨#[35]⟩ _ (Zf (by decide)) H3.out).mono ?_
 rintro e w3 ⟨va,vf,rfl,ha,hf,hn3⟩;rw[show tl (⟨#[35]⟩:BA)=[35]from rfl]at *
 have HPA:=Za (fun c (h:c∈(cut L [35]).1)=>HLP.out c (ZD (Or.inl h)))
 have HPF:=Za (fun c (h:c∈(cut L [35]).2.1)=>HLP.out c (ZD (Or.inr h)))
 have hcl:=(Zbk L [35]).1;generalize cut L [35]=cc at *;obtain⟨a,frag,hf⟩:=cc;simp only at *;have HA:=Za ha;have HF:=Za hf;have HN3:=Za (HN2.out.then hn3);clear ha hf hn3 H3 HN2 HLP;have hsl:=ZcJ a
 have hsc:=ZcK a (by omega)
 have HPR:=Za (fun c (h:c∈(schemeOf a).2.1)=>HPA.out c (ZbV h))
 go_wp2_with fail
 refine(ZcF _ a _ HA.out (by omega) HPA.out).mono ?_
 rintro e w4 ⟨sc,vr,rfl,hsce,hr,hn4⟩;have HSC:=Za hsce;have HRT:=Za hr;have HN4:=Za (HN3.out.then hn4);have HF4:=Za (HF.out.on hn4);have HA4:=Za (HA.out.on hn4)
 have hscs:sc.size≤1000000:=by rw[←tl_length,hsce];exact hsc
 clear hsce hr hn4 HN3 HF HA hsc;have HQ4:=Za (HQB.out.on HN4.out);have HQR4:=Za (HQR.out.on HN4.out);have q7:=HQ4.out.cells.2.2.2.2.2.2.2.1;rw[HQO.out]at q7;have hqlt:=HQ4.out.lt;rw[HOK.out]
 have HD:=Za (HPD.out.trans (show Zd6 a frag hf (some b)=(zeroR,2)from(if_neg (by rw[HOK.out];decide)).trans ((if_pos HBO.out).trans (if_pos HNO.out))))
 have hcase:(((a.length:Int)==0)=false∧0<a.length)∨hf=false:=by
  rcases HNO.out with h|h
  ·have hpos:0<a.length:=by cases a with|nil=>exact absurd rfl h|cons _ _=>simp
   exact Or.inl ⟨beq_eq_false_iff_ne.2 (by omega),hpos⟩
  ·exact Or.inr h
 obtain⟨ao,acap,hae,-⟩:=HA4.out;subst hae;clear HPD HOK HA4 HF4 HRT HPR HPA HPF HNO HBB HQR4 HQ4;rcases hcase with⟨hc,hpos⟩|rfl
 ·go_wp2
  go_ret2
  exact Or.inl ⟨by rw[HD.out];decide,by rw[HD.out];rfl,HN4.out⟩
 ·rcases Nat.eq_zero_or_pos a.length with hz|hpos
  ·rw[hz]
   clear hz;go_wp2;go_ret2
   exact Or.inl ⟨by rw[HD.out];decide,by rw[HD.out];rfl,HN4.out⟩
  ·go_wp2
   go_ret2
   exact Or.inl ⟨by rw[HD.out];decide,by rw[HD.out];rfl,HN4.out⟩
theorem ZkO(s:BA)(qb:Nat)(Q:RR)(b:RU)(cs:LA)(w:World)(hs:s.size≤20000)(hq0:RB w qb Q)(hqr0:RIs w Q b cs)(hcs:cs.length≤70000)(hop:b.op=true)(hok:(schemeOf (cut (Zay (tl s)) [35]).1).2.2=false)(hno:(cut (Zay (tl s)) [35]).1=[]∧(cut (Zay (tl s)) [35]).2.2=true):Calls Tryz.prog 149 #[.string s,.pointer (some ⟨qb,0,none⟩)] w fun e w'=>ZgS e w w' (parseR (tl s) (some b)):=by
 have HBB:Hid (BaseW w (.pointer (some ⟨qb,0,none⟩)) (some b)):=Za (Or.inr ⟨qb,Q,b,cs,rfl,rfl,hq0,hqr0,hcs⟩);have HQB:=Za hq0;have HQR:=Za hqr0
 have HQO:=Za (show Q.op=true by rw[←hop,←hqr0.eq];rfl)
 have HBO:=Za hop;have HOK:=Za hok;clear hq0 hqr0 hop hok;have HNO:=Za hno;clear hno
 go_enter Tryz.func149,Tryz.ntmps149
 go_wp2_with fail
 refine(ZaC s _ (by omega)).mono ?_
 rintro e w1 ⟨v1,rfl,h1,hn1⟩;have H1:=Za h1;have HN1:=Za hn1;clear h1 hn1;go_wp2_with fail
 refine(Zda _ (Zj (tl s)) _ H1.out).mono ?_
 rintro e w1' ⟨v2,rfl,h2,rfl⟩;have H2:=Za h2;have hpl:=ZaD (tl s);rw[tl_length]at hpl;have htl:=Zcp (Zj (tl s));clear h2 H1;go_wp2_with fail
 refine(ZbO _ (trimmed (Zj (tl s))) _ H2.out (by omega)).mono ?_
 rintro e w2 ⟨v3,rfl,h3,hn2⟩;have H3:=Za (show IntsAt w2 v3 (Zay (tl s))from h3);have HN2:=Za (HN1.out.then hn2)
 have hll:(Zay (tl s)).length≤20000:=Xb (Ze0 _) (by rw[tl_length];exact hs)
 have HLP:=Za (Zgr (tl s));clear h3 hn2 H2 HN1 hpl htl;have HPD:Hid (parseR (tl s) (some b)=Zd6 (cut (Zay (tl s)) [35]).1 (cut (Zay (tl s)) [35]).2.1 (cut (Zay (tl s)) [35]).2.2 (some b)):=Za rfl;generalize Zay (tl s)=L at *;go_wp2_with fail
 refine(ZbZ _ L ⟨#[35]⟩ _ (Zf (by decide)) H3.out).mono ?_
 rintro e w3 ⟨va,vf,rfl,ha,hf,hn3⟩;rw[show tl (⟨#[35]⟩:BA)=[35]from rfl]at *
 have HPA:=Za (fun c (h:c∈(cut L [35]).1)=>HLP.out c (ZD (Or.inl h)))
 have HPF:=Za (fun c (h:c∈(cut L [35]).2.1)=>HLP.out c (ZD (Or.inr h)))
 have hcl:=(Zbk L [35]).1;generalize cut L [35]=cc at *;obtain⟨a,frag,hf⟩:=cc;simp only at *;have HA:=Za ha;have HF:=Za hf;have HN3:=Za (HN2.out.then hn3);clear ha hf hn3 H3 HN2 HLP;have hsl:=ZcJ a
 have hsc:=ZcK a (by omega)
 have HPR:=Za (fun c (h:c∈(schemeOf a).2.1)=>HPA.out c (ZbV h))
 go_wp2_with fail
 refine(ZcF _ a _ HA.out (by omega) HPA.out).mono ?_
 rintro e w4 ⟨sc,vr,rfl,hsce,hr,hn4⟩;have HSC:=Za hsce;have HRT:=Za hr;have HN4:=Za (HN3.out.then hn4);have HF4:=Za (HF.out.on hn4);have HA4:=Za (HA.out.on hn4)
 have hscs:sc.size≤1000000:=by rw[←tl_length,hsce];exact hsc
 clear hsce hr hn4 HN3 HF HA hsc;have HQ4:=Za (HQB.out.on HN4.out);have HQR4:=Za (HQR.out.on HN4.out);have q7:=HQ4.out.cells.2.2.2.2.2.2.2.1;rw[HQO.out]at q7;have hqlt:=HQ4.out.lt;rw[HOK.out]
 have HD:=Za (HPD.out.trans (show Zd6 a frag hf (some b)=({ zeroR with sch:=b.sch,op:=true,bl:=b.bl,hq:=b.hq,q:=b.q,hf:=true,fr:=encoded frag Zca },0)by
  have h1:Zd6 a frag hf (some b)=Zqb ({ zeroR with sch:=b.sch,op:=true,bl:=b.bl,hq:=b.hq,q:=b.q },0) hf frag:=(if_neg (by rw[HOK.out];decide)).trans ((if_pos HBO.out).trans (if_neg (by rintro(g|g);exact g HNO.out.1;rw[HNO.out.2]at g;cases g)))
  rw[h1,HNO.out.2]
  rfl))
 have hal:(a.length:Int)=0:=by rw[HNO.out.1];rfl
 have hft:=HNO.out.2;subst hft;obtain⟨ao,acap,hae,-⟩:=HA4.out;subst hae
 rw[show a.length=0 by omega]
 have hqs:Q.sch.size≤1000000:=HQR.out.lsch;clear HPD HOK HA4 HNO hal;go_upto_region 13 with fail;obtain⟨rb,hrb⟩:∃rb,rb=w4.heap.size:=⟨_,rfl⟩
 have HB5:=Za (show RB (w4.alloc (Obj.cells #[.string ⟨#[]⟩,.string ⟨#[]⟩,.string ⟨#[]⟩,.bool false,.string ⟨#[]⟩,.int .i64 (-1),.slice none 0 0,.bool false,.string ⟨#[]⟩,.bool false,.string ⟨#[]⟩,.bool false,.string ⟨#[]⟩] 130)) rb Zd4 by rw[hrb];exact Ziy w4)
 have HR5:=Za (ZkC (w4.alloc (Obj.cells #[.string ⟨#[]⟩,.string ⟨#[]⟩,.string ⟨#[]⟩,.bool false,.string ⟨#[]⟩,.int .i64 (-1),.slice none 0 0,.bool false,.string ⟨#[]⟩,.bool false,.string ⟨#[]⟩,.bool false,.string ⟨#[]⟩] 130)));have HN5:=Za (show Nx w (w4.alloc (Obj.cells #[.string ⟨#[]⟩,.string ⟨#[]⟩,.string ⟨#[]⟩,.bool false,.string ⟨#[]⟩,.int .i64 (-1),.slice none 0 0,.bool false,.string ⟨#[]⟩,.bool false,.string ⟨#[]⟩,.bool false,.string ⟨#[]⟩] 130))from HN4.out.alloc _);have HRT5:=Za (HRT.out.on (Nx.rfl.alloc (Obj.cells #[.string ⟨#[]⟩,.string ⟨#[]⟩,.string ⟨#[]⟩,.bool false,.string ⟨#[]⟩,.int .i64 (-1),.slice none 0 0,.bool false,.string ⟨#[]⟩,.bool false,.string ⟨#[]⟩,.bool false,.string ⟨#[]⟩] 130)));have HF5:=Za (HF4.out.on (Nx.rfl.alloc (Obj.cells #[.string ⟨#[]⟩,.string ⟨#[]⟩,.string ⟨#[]⟩,.bool false,.string ⟨#[]⟩,.int .i64 (-1),.slice none 0 0,.bool false,.string ⟨#[]⟩,.bool false,.string ⟨#[]⟩,.bool false,.string ⟨#[]⟩] 130)))
 have hrbw:w.heap.size≤rb:=by rw[hrb];exact HN4.out.size
 have HNE:=Za (show ∀qb' Q',Value.pointer (some ⟨qb,0,none⟩)=.pointer (some ⟨qb',0,none⟩)→RB w qb' Q'→qb'≠rb from fun qb' Q' _ hq e=>by have:=hq.lt;omega)
 rw[←hrb];clear hrb HRT HF4;generalize (w4.alloc (Obj.cells #[.string ⟨#[]⟩,.string ⟨#[]⟩,.string ⟨#[]⟩,.bool false,.string ⟨#[]⟩,.int .i64 (-1),.slice none 0 0,.bool false,.string ⟨#[]⟩,.bool false,.string ⟨#[]⟩,.bool false,.string ⟨#[]⟩] 130))=w5 at *;have HBT5:=Za (show But rb w w5 from But.nx HN5.out)
 have hne:qb≠rb:=fun e=>by have:=HQB.out.lt;omega
 have HQ5:=Za (HQB.out.on HN5.out);clear q7 hqlt;obtain⟨k0,k1,k2,k3,k4,k5,k6,k7,k8,k9,k10,k11,k12⟩:=HB5.out.cells;simp only[Zd4]at k0 k1 k2 k3 k4 k5 k6 k7 k8 k9 k10 k11 k12;have f0:=HB5.out.free 0;have f7:=HB5.out.free 7;have f8:=HB5.out.free 8;have f9:=HB5.out.free 9;have f10:=HB5.out.free 10;have g0:=HQ5.out.cells.1;have g8:=(HQ5.out.but (((But.refl rb w5).set 0 (.string Q.sch)).set 7 (.bool true)) hne).cells.2.2.2.2.2.2.2.2.1;have g9:=(HQ5.out.but ((((But.refl rb w5).set 0 (.string Q.sch)).set 7 (.bool true)).set 8 (.string Q.bl)) hne).cells.2.2.2.2.2.2.2.2.2.1;have g10:=(HQ5.out.but (((((But.refl rb w5).set 0 (.string Q.sch)).set 7 (.bool true)).set 8 (.string Q.bl)).set 9 (.bool Q.hq)) hne).cells.2.2.2.2.2.2.2.2.2.2.1;go_upto_region 27 with fail;have HB8:=Za (((((HB5.out.s0 Q.sch).s7 true).s8 Q.bl).s9 Q.hq).s10 Q.q);have hbt8:But rb w5 (((((w5.setCell ⟨rb,0,none⟩ (.string Q.sch)).setCell ⟨rb,7,none⟩ (.bool true)).setCell ⟨rb,8,none⟩ (.string Q.bl)).setCell ⟨rb,9,none⟩ (.bool Q.hq)).setCell ⟨rb,10,none⟩ (.string Q.q)):=((((((But.refl rb w5).set 0 (.string Q.sch)).set 7 (.bool true)).set 8 (.string Q.bl)).set 9 (.bool Q.hq)).set 10 (.string Q.q));have HBT8:=Za (HBT5.out.then hbt8);have hkp8:=hbt8.kp HB5.out
 have HR8:=Za (show RIs (((((w5.setCell ⟨rb,0,none⟩ (.string Q.sch)).setCell ⟨rb,7,none⟩ (.bool true)).setCell ⟨rb,8,none⟩ (.string Q.bl)).setCell ⟨rb,9,none⟩ (.bool Q.hq)).setCell ⟨rb,10,none⟩ (.string Q.q)) { Zd4 with sch:=Q.sch,op:=true,bl:=Q.bl,hq:=Q.hq,q:=Q.q } { zeroR with sch:=b.sch,op:=true,bl:=b.bl,hq:=b.hq,q:=b.q } []from { HR5.out.kp hkp8 with eq:=by rw[←HQR.out.eq];rfl,lsch:=hqs })
 have HF8:=Za (HF5.out.kp hkp8 (by decide))
 clear k0 k1 k2 k3 k4 k5 k6 k7 k8 k9 k10 k11 k12 f0 f7 f8 f9 f10 g0 g8 g9 g10 hbt8 hkp8 HF5 HR5;generalize (((((w5.setCell ⟨rb,0,none⟩ (.string Q.sch)).setCell ⟨rb,7,none⟩ (.bool true)).setCell ⟨rb,8,none⟩ (.string Q.bl)).setCell ⟨rb,9,none⟩ (.bool Q.hq)).setCell ⟨rb,10,none⟩ (.string Q.q))=w8 at *
 obtain⟨y,hy⟩:∃y,y={ zeroR with sch:=b.sch,op:=true,bl:=b.bl,hq:=b.hq,q:=b.q }:=⟨_,rfl⟩
 rw[←hy]at HR8
 have HD3:=Za (show parseR (tl s) (some b)=({ y with hf:=true,fr:=encoded frag Zca },0)by rw[HD.out,hy])
 clear HD hy;obtain⟨k0,k1,k2,k3,k4,k5,k6,k7,k8,k9,k10,k11,k12⟩:=HB8.out.cells;have f11:=HB8.out.free 11;go_upto_region 30 with fail;have HB10:=Za (HB8.out.s11 true);have HBT10:=Za (show But rb w (w8.setCell ⟨rb,11,none⟩ (.bool true))from HBT8.out.set 11 _);have hkp:Kp 130 w8 (w8.setCell ⟨rb,11,none⟩ (.bool true)):=But.kp ((But.refl rb w8).set 11 _) HB8.out;have HR10:=Za (HR8.out.kp hkp)
 have HF10:=Za (HF8.out.kp hkp (by decide))
 have HIE:=Za HR8.out.eq;clear k0 k1 k2 k3 k4 k5 k6 k7 k8 k9 k10 k11 k12 f11 hkp;generalize (w8.setCell ⟨rb,11,none⟩ (.bool true))=w10 at *;have HE:=HD3;clear HD3;go_wp2_with fail
 refine(ZO _ frag _ _ HF10.out (Zf (by decide)) (by omega) HPF.out).mono ?_
 rintro e w11 ⟨t,rfl,ht,hn11⟩;have HT:=Za (show tl t=encoded frag Zca from ht);have HB11:=Za (HB10.out.on hn11);have HR11:=Za (HR10.out.on hn11);have HBT11:=Za (HBT10.out.then (But.nx hn11));clear ht hn11;obtain⟨k0,k1,k2,k3,k4,k5,k6,k7,k8,k9,k10,k11,k12⟩:=HB11.out.cells;have f12:=HB11.out.free 12;have HB12:=Za (HB11.out.s12 t);have HBT12:=Za (show But rb w (w11.setCell ⟨rb,12,none⟩ (.string t))from HBT11.out.set 12 _);have hkp:Kp 130 w11 (w11.setCell ⟨rb,12,none⟩ (.string t)):=But.kp ((But.refl rb w11).set 12 _) HB11.out;have HR12:=Za (HR11.out.kp hkp);clear hkp;go_wp2;go_ret2
 exact Or.inr ⟨by rw[HE.out],rb,_,_,rfl,HB12.out,by rw[HE.out];exact { HR12.out with eq:=by rw[←HIE.out,←HT.out];rfl },hrbw,HBT12.out.below hrbw (Xa _)⟩
theorem Zs9(s:BA)(qb:Nat)(Q:RR)(b:RU)(cs:LA)(w:World)(hs:s.size≤20000)(hq0:RB w qb Q)(hqr0:RIs w Q b cs)(hcs:cs.length≤70000)(hop:b.op=false)(hok:(schemeOf (cut (Zay (tl s)) [35]).1).2.2=false):Calls Tryz.prog 149 #[.string s,.pointer (some ⟨qb,0,none⟩)] w fun e w'=>ZgS e w w' (parseR (tl s) (some b)):=by
 have HBB:Hid (BaseW w (.pointer (some ⟨qb,0,none⟩)) (some b)):=Za (Or.inr ⟨qb,Q,b,cs,rfl,rfl,hq0,hqr0,hcs⟩);have HQB:=Za hq0;have HQR:=Za hqr0
 have HQO:=Za (show Q.op=false by rw[←hop,←hqr0.eq];rfl)
 have HBO:=Za hop;have HOK:=Za hok;clear hq0 hqr0 hop hok
 go_enter Tryz.func149,Tryz.ntmps149
 go_wp2_with fail
 refine(ZaC s _ (by omega)).mono ?_
 rintro e w1 ⟨v1,rfl,h1,hn1⟩;have H1:=Za h1;have HN1:=Za hn1;clear h1 hn1;go_wp2_with fail
 refine(Zda _ (Zj (tl s)) _ H1.out).mono ?_
 rintro e w1' ⟨v2,rfl,h2,rfl⟩;have H2:=Za h2;have hpl:=ZaD (tl s);rw[tl_length]at hpl;have htl:=Zcp (Zj (tl s));clear h2 H1;go_wp2_with fail
 refine(ZbO _ (trimmed (Zj (tl s))) _ H2.out (by omega)).mono ?_
 rintro e w2 ⟨v3,rfl,h3,hn2⟩;have H3:=Za (show IntsAt w2 v3 (Zay (tl s))from h3);have HN2:=Za (HN1.out.then hn2)
 have hll:(Zay (tl s)).length≤20000:=Xb (Ze0 _) (by rw[tl_length];exact hs)
 have HLP:=Za (Zgr (tl s));clear h3 hn2 H2 HN1 hpl htl;have HPD:Hid (parseR (tl s) (some b)=Zd6 (cut (Zay (tl s)) [35]).1 (cut (Zay (tl s)) [35]).2.1 (cut (Zay (tl s)) [35]).2.2 (some b)):=Za rfl;generalize Zay (tl s)=L at *;go_wp2_with fail
 refine(ZbZ _ L ⟨#[35]⟩ _ (Zf (by decide)) H3.out).mono ?_
 rintro e w3 ⟨va,vf,rfl,ha,hf,hn3⟩;rw[show tl (⟨#[35]⟩:BA)=[35]from rfl]at *
 have HPA:=Za (fun c (h:c∈(cut L [35]).1)=>HLP.out c (ZD (Or.inl h)))
 have HPF:=Za (fun c (h:c∈(cut L [35]).2.1)=>HLP.out c (ZD (Or.inr h)))
 have hcl:=(Zbk L [35]).1;generalize cut L [35]=cc at *;obtain⟨a,frag,hf⟩:=cc;simp only at *;have HA:=Za ha;have HF:=Za hf;have HN3:=Za (HN2.out.then hn3);clear ha hf hn3 H3 HN2 HLP;have hsl:=ZcJ a
 have hsc:=ZcK a (by omega)
 have HPR:=Za (fun c (h:c∈(schemeOf a).2.1)=>HPA.out c (ZbV h))
 go_wp2_with fail
 refine(ZcF _ a _ HA.out (by omega) HPA.out).mono ?_
 rintro e w4 ⟨sc,vr,rfl,hsce,hr,hn4⟩;have HSC:=Za hsce;have HRT:=Za hr;have HN4:=Za (HN3.out.then hn4);have HF4:=Za (HF.out.on hn4);have HA4:=Za (HA.out.on hn4)
 have hscs:sc.size≤1000000:=by rw[←tl_length,hsce];exact hsc
 clear hsce hr hn4 HN3 HF HA hsc;have HQ4:=Za (HQB.out.on HN4.out);have HQR4:=Za (HQR.out.on HN4.out);have q7:=HQ4.out.cells.2.2.2.2.2.2.2.1;rw[HQO.out]at q7;have hqlt:=HQ4.out.lt;rw[HOK.out]
 have HD:=Za (HPD.out.trans (show Zd6 a frag hf (some b)=Zqb (ZoX (schemeOf a).2.1 b) hf frag from(if_neg (by rw[HOK.out];decide)).trans (if_neg (by rw[HBO.out];decide))))
 unfold ZoX Ziz at HD;have hqs:Q.sch.size≤1000000:=HQR.out.lsch;generalize schemeOf a=sx at *;obtain⟨sch,rest,ok⟩:=sx;simp only at *;clear HPD HOK HA4;go_upto_region 18 with fail;obtain⟨rb,hrb⟩:∃rb,rb=w4.heap.size:=⟨_,rfl⟩
 have HB5:=Za (show RB (w4.alloc (Obj.cells #[.string ⟨#[]⟩,.string ⟨#[]⟩,.string ⟨#[]⟩,.bool false,.string ⟨#[]⟩,.int .i64 (-1),.slice none 0 0,.bool false,.string ⟨#[]⟩,.bool false,.string ⟨#[]⟩,.bool false,.string ⟨#[]⟩] 130)) rb Zd4 by rw[hrb];exact Ziy w4)
 have HR5:=Za (ZkC (w4.alloc (Obj.cells #[.string ⟨#[]⟩,.string ⟨#[]⟩,.string ⟨#[]⟩,.bool false,.string ⟨#[]⟩,.int .i64 (-1),.slice none 0 0,.bool false,.string ⟨#[]⟩,.bool false,.string ⟨#[]⟩,.bool false,.string ⟨#[]⟩] 130)));have HN5:=Za (show Nx w (w4.alloc (Obj.cells #[.string ⟨#[]⟩,.string ⟨#[]⟩,.string ⟨#[]⟩,.bool false,.string ⟨#[]⟩,.int .i64 (-1),.slice none 0 0,.bool false,.string ⟨#[]⟩,.bool false,.string ⟨#[]⟩,.bool false,.string ⟨#[]⟩] 130))from HN4.out.alloc _);have HRT5:=Za (HRT.out.on (Nx.rfl.alloc (Obj.cells #[.string ⟨#[]⟩,.string ⟨#[]⟩,.string ⟨#[]⟩,.bool false,.string ⟨#[]⟩,.int .i64 (-1),.slice none 0 0,.bool false,.string ⟨#[]⟩,.bool false,.string ⟨#[]⟩,.bool false,.string ⟨#[]⟩] 130)));have HF5:=Za (HF4.out.on (Nx.rfl.alloc (Obj.cells #[.string ⟨#[]⟩,.string ⟨#[]⟩,.string ⟨#[]⟩,.bool false,.string ⟨#[]⟩,.int .i64 (-1),.slice none 0 0,.bool false,.string ⟨#[]⟩,.bool false,.string ⟨#[]⟩,.bool false,.string ⟨#[]⟩] 130)))
 have hrbw:w.heap.size≤rb:=by rw[hrb];exact HN4.out.size
 have HNE:=Za (show ∀qb' Q',Value.pointer (some ⟨qb,0,none⟩)=.pointer (some ⟨qb',0,none⟩)→RB w qb' Q'→qb'≠rb from fun qb' Q' _ hq e=>by have:=hq.lt;omega)
 rw[←hrb];clear hrb HRT HF4;generalize (w4.alloc (Obj.cells #[.string ⟨#[]⟩,.string ⟨#[]⟩,.string ⟨#[]⟩,.bool false,.string ⟨#[]⟩,.int .i64 (-1),.slice none 0 0,.bool false,.string ⟨#[]⟩,.bool false,.string ⟨#[]⟩,.bool false,.string ⟨#[]⟩] 130))=w5 at *;have HBT5:=Za (show But rb w w5 from But.nx HN5.out)
 have hne:qb≠rb:=fun e=>by have:=HQB.out.lt;omega
 have HQ5:=Za (HQB.out.on HN5.out);clear q7 hqlt;go_wp2_with fail
 refine(ZbZ _ rest ⟨#[63]⟩ _ (Zf (by decide)) HRT5.out).mono ?_
 rintro e w6 ⟨vt,vq,rfl,ht,hqv,hn6⟩;rw[show tl (⟨#[63]⟩:BA)=[63]from rfl]at *
 have HPT:=Za (fun c (h:c∈(cut rest [63]).1)=>HPR.out c (ZD (Or.inl h)))
 have HPQ:=Za (fun c (h:c∈(cut rest [63]).2.1)=>HPR.out c (ZD (Or.inr h)))
 have hcq:=(Zbk rest [63]).1;generalize cut rest [63]=qc at *;obtain⟨tx,qu,hq⟩:=qc;simp only at *;have HTX:=Za ht;have HQV:=Za hqv;have HB6:=Za (HB5.out.on hn6);have HR6:=Za (HR5.out.on hn6);have HF6:=Za (HF5.out.on hn6);have HBT6:=Za (HBT5.out.then (But.nx hn6));have HN6:=Za (HN5.out.then hn6);have HQ6:=Za (HQ5.out.on hn6);clear ht hqv hn6 HB5 HR5 HF5 HBT5 HRT5 HN5;obtain⟨k0,k1,k2,k3,k4,k5,k6,k7,k8,k9,k10,k11,k12⟩:=HB6.out.cells;have f9:=HB6.out.free 9;have f0:=HB6.out.free 0;simp only[Zd4]at k0 k1 k2 k3 k4 k5 k6 k7 k8 k9 k10 k11 k12;have q0:=(HQ6.out.but ((But.refl rb w6).set 9 (.bool hq)) hne).cells.1;have q00:=HQ6.out.cells.1;have q77:=HQ6.out.cells.2.2.2.2.2.2.2.1;go_upto_region 24 with fail;have HB7:=Za ((HB6.out.s9 hq).s0 Q.sch);have hbt7:But rb w6 ((w6.setCell ⟨rb,9,none⟩ (.bool hq)).setCell ⟨rb,0,none⟩ (.string Q.sch)):=((But.refl rb w6).set 9 _).set 0 _;have HBT7:=Za (HBT6.out.then hbt7);have hkp7:=hbt7.kp HB6.out
 have HR7:=Za (show RIs ((w6.setCell ⟨rb,9,none⟩ (.bool hq)).setCell ⟨rb,0,none⟩ (.string Q.sch)) { Zd4 with hq:=hq,sch:=Q.sch } { zeroR with hq:=hq,sch:=b.sch } []from { HR6.out.kp hkp7 with eq:=by rw[←HQR.out.usch];rfl,lsch:=hqs })
 have HTX7:=Za (HTX.out.kp hkp7 (by decide))
 have HQV7:=Za (HQV.out.kp hkp7 (by decide))
 have HF7:=Za (HF6.out.kp hkp7 (by decide))
 clear k0 k1 k2 k3 k4 k5 k6 k7 k8 k9 k10 k11 k12 f9 f0 hbt7 hkp7 HTX HQV HF6;generalize ((w6.setCell ⟨rb,9,none⟩ (.bool hq)).setCell ⟨rb,0,none⟩ (.string Q.sch))=w7 at *;have HBS7:=Za (HBB.out.is (R:=Zd4) HBT7.out (Or.inr hrbw) HNE.out);clear q0 q00 q77;have HQ7:=Za (HQB.out.but HBT7.out hne);have HQR7:=Za (HQR.out.on (HBT7.out.below hrbw (Xa _)));go_wp2_with fail
 refine(Zi3 rb _ _ [] _ tx qb Q b cs _ HB7.out HR7.out HTX7.out (by omega) HPT.out HQ7.out HQR7.out hne hcs).mono ?_
 rintro e w8 ⟨rfl,⟨R8,bs8,hB8,hR8⟩,hbt8⟩;have HB8:=Za hB8;have HR8:=Za hR8;have hkp8:=hbt8.kp HB7.out
 have HF8:=Za (HF7.out.kp hkp8 (by decide))
 have HQ8:=Za (HQV7.out.kp hkp8 (by decide))
 have HBT8:=Za (HBT7.out.then hbt8);clear hB8 hR8 hbt8 hkp8
 generalize Zd5 { zeroR with hq:=hq,sch:=b.sch } tx b=x at *
 obtain⟨y,err⟩:=x;simp only at HR8
 cases hq
 ·have HD1:=Za (show parseR (tl s) (some b)=Zqb (y,err) hf frag by rw[HD.out,queried,if_neg (by decide)])
  clear HD;go_upto_region 27 with fail
  have HD2:=Za (show parseR (tl s) (some b)=if err≠0 then(zeroR,err)else({ y with hf:=hf,fr:=if hf=true then encoded frag Zca else y.fr },0)from HD1.out)
  clear HD1
  by_cases he:err=0
  ·subst he
   have HD3:=Za (HD2.out.trans (if_neg (by intro x;exact x rfl)))
   clear HD2;obtain⟨k0,k1,k2,k3,k4,k5,k6,k7,k8,k9,k10,k11,k12⟩:=HB8.out.cells;have f11:=HB8.out.free 11;go_upto_region 30 with fail;have HB10:=Za (HB8.out.s11 hf);have HBT10:=Za (show But rb w (w8.setCell ⟨rb,11,none⟩ (.bool hf))from HBT8.out.set 11 _);have hkp:Kp 130 w8 (w8.setCell ⟨rb,11,none⟩ (.bool hf)):=But.kp ((But.refl rb w8).set 11 _) HB8.out;have HR10:=Za (HR8.out.kp hkp)
   have HF10:=Za (HF8.out.kp hkp (by decide))
   have HIE:=Za HR8.out.eq;clear k0 k1 k2 k3 k4 k5 k6 k7 k8 k9 k10 k11 k12 f11 hkp;generalize (w8.setCell ⟨rb,11,none⟩ (.bool hf))=w10 at *
   cases hf
   ·have HE:=Za (show parseR (tl s) (some b)=({ y with hf:=false },0)by rw[HD3.out,if_neg (by decide)])
    clear HD3;go_wp2;go_ret2
    exact Or.inr ⟨by rw[HE.out],rb,_,_,rfl,HB10.out,by rw[HE.out];exact { HR10.out with eq:=by rw[←HIE.out];rfl },hrbw,HBT10.out.below hrbw (Xa _)⟩
   ·have HE:=Za (show parseR (tl s) (some b)=({ y with hf:=true,fr:=encoded frag Zca },0)by rw[HD3.out,if_pos rfl])
    clear HD3;go_wp2_with fail
    refine(ZO _ frag _ _ HF10.out (Zf (by decide)) (by omega) HPF.out).mono ?_
    rintro e w11 ⟨t,rfl,ht,hn11⟩;have HT:=Za (show tl t=encoded frag Zca from ht);have HB11:=Za (HB10.out.on hn11);have HR11:=Za (HR10.out.on hn11);have HBT11:=Za (HBT10.out.then (But.nx hn11));clear ht hn11;obtain⟨k0,k1,k2,k3,k4,k5,k6,k7,k8,k9,k10,k11,k12⟩:=HB11.out.cells;have f12:=HB11.out.free 12;have HB12:=Za (HB11.out.s12 t);have HBT12:=Za (show But rb w (w11.setCell ⟨rb,12,none⟩ (.string t))from HBT11.out.set 12 _);have hkp:Kp 130 w11 (w11.setCell ⟨rb,12,none⟩ (.string t)):=But.kp ((But.refl rb w11).set 12 _) HB11.out;have HR12:=Za (HR11.out.kp hkp);clear hkp;go_wp2;go_ret2
    exact Or.inr ⟨by rw[HE.out],rb,_,_,rfl,HB12.out,by rw[HE.out];exact { HR12.out with eq:=by rw[←HIE.out,←HT.out];rfl },hrbw,HBT12.out.below hrbw (Xa _)⟩
  ·have he1:(err==0)=false:=beq_eq_false_iff_ne.2 he
   have he2:(err != 0)=true:=bne_iff_ne.2 he;have HE:=Za (HD2.out.trans (if_pos he));have HER:=Za he;clear he HD2;go_wp2;go_ret2
   exact Or.inl ⟨by rw[HE.out];exact HER.out,by rw[HE.out];rfl,HBT8.out.below hrbw (Xa _)⟩
 ·have HD1:=Za (show parseR (tl s) (some b)=Zqb ({ y with q:=encoded qu (tl (ZhD (Ze y.sch))) },err) hf frag by rw[HD.out,queried,if_pos rfl])
  clear HD;have k0:=HB8.out.cells.1;go_wp2_with fail
  refine(Zdd _ qu R8.sch _ HQ8.out (by omega) HPQ.out).mono ?_
  rintro e w9 ⟨t9,rfl,ht9,hn9⟩
  have HT9:=Za (show tl t9=encoded qu (tl (ZhD (Ze y.sch)))by rw[←HR8.out.usch];exact ht9)
  have HB9:=Za (HB8.out.on hn9);have HR9:=Za (HR8.out.on hn9);have HF9:=Za (HF8.out.on hn9);have HBT9:=Za (HBT8.out.then (But.nx hn9));clear ht9 hn9 k0 HB8 HR8 HF8 HBT8 HQ8;obtain⟨k0,k1,k2,k3,k4,k5,k6,k7,k8,k9,k10,k11,k12⟩:=HB9.out.cells;have f10:=HB9.out.free 10;go_upto_region 27 with fail;have HB9a:=Za (HB9.out.s10 t9);have HBT9a:=Za (show But rb w (w9.setCell ⟨rb,10,none⟩ (.string t9))from HBT9.out.set 10 _);have hkp:Kp 130 w9 (w9.setCell ⟨rb,10,none⟩ (.string t9)):=But.kp ((But.refl rb w9).set 10 _) HB9.out
  have HR9a:=Za (show RIs (w9.setCell ⟨rb,10,none⟩ (.string t9)) { R8 with q:=t9 } { y with q:=encoded qu (tl (ZhD (Ze y.sch))) } bs8 from { HR9.out.kp hkp with eq:=by rw[←HT9.out,←HR9.out.eq];rfl })
  have HF9a:=Za (HF9.out.kp hkp (by decide))
  clear k0 k1 k2 k3 k4 k5 k6 k7 k8 k9 k10 k11 k12 f10 hkp HB9 HR9 HF9 HBT9;generalize (w9.setCell ⟨rb,10,none⟩ (.string t9))=w9a at *
  obtain⟨y2,hy2⟩:∃y2,y2={ y with q:=encoded qu (tl (ZhD (Ze y.sch))) }:=⟨_,rfl⟩
  rw[←hy2]at HD1 HR9a;clear hy2 HT9;obtain⟨y,hyy⟩:∃y,y=y2:=⟨_,rfl⟩;subst hyy
  have HD2:=Za (show parseR (tl s) (some b)=if err≠0 then(zeroR,err)else({ y with hf:=hf,fr:=if hf=true then encoded frag Zca else y.fr },0)from HD1.out)
  clear HD1
  by_cases he:err=0
  ·subst he
   have HD3:=Za (HD2.out.trans (if_neg (by intro x;exact x rfl)))
   clear HD2;obtain⟨k0,k1,k2,k3,k4,k5,k6,k7,k8,k9,k10,k11,k12⟩:=HB9a.out.cells;have f11:=HB9a.out.free 11;go_upto_region 30 with fail;have HB10:=Za (HB9a.out.s11 hf);have HBT10:=Za (show But rb w (w9a.setCell ⟨rb,11,none⟩ (.bool hf))from HBT9a.out.set 11 _);have hkp:Kp 130 w9a (w9a.setCell ⟨rb,11,none⟩ (.bool hf)):=But.kp ((But.refl rb w9a).set 11 _) HB9a.out;have HR10:=Za (HR9a.out.kp hkp)
   have HF10:=Za (HF9a.out.kp hkp (by decide))
   have HIE:=Za HR9a.out.eq;clear k0 k1 k2 k3 k4 k5 k6 k7 k8 k9 k10 k11 k12 f11 hkp;generalize (w9a.setCell ⟨rb,11,none⟩ (.bool hf))=w10 at *
   cases hf
   ·have HE:=Za (show parseR (tl s) (some b)=({ y with hf:=false },0)by rw[HD3.out,if_neg (by decide)])
    clear HD3;go_wp2;go_ret2
    exact Or.inr ⟨by rw[HE.out],rb,_,_,rfl,HB10.out,by rw[HE.out];exact { HR10.out with eq:=by rw[←HIE.out];rfl },hrbw,HBT10.out.below hrbw (Xa _)⟩
   ·have HE:=Za (show parseR (tl s) (some b)=({ y with hf:=true,fr:=encoded frag Zca },0)by rw[HD3.out,if_pos rfl])
    clear HD3;go_wp2_with fail
    refine(ZO _ frag _ _ HF10.out (Zf (by decide)) (by omega) HPF.out).mono ?_
    rintro e w11 ⟨t,rfl,ht,hn11⟩;have HT:=Za (show tl t=encoded frag Zca from ht);have HB11:=Za (HB10.out.on hn11);have HR11:=Za (HR10.out.on hn11);have HBT11:=Za (HBT10.out.then (But.nx hn11));clear ht hn11;obtain⟨k0,k1,k2,k3,k4,k5,k6,k7,k8,k9,k10,k11,k12⟩:=HB11.out.cells;have f12:=HB11.out.free 12;have HB12:=Za (HB11.out.s12 t);have HBT12:=Za (show But rb w (w11.setCell ⟨rb,12,none⟩ (.string t))from HBT11.out.set 12 _);have hkp:Kp 130 w11 (w11.setCell ⟨rb,12,none⟩ (.string t)):=But.kp ((But.refl rb w11).set 12 _) HB11.out;have HR12:=Za (HR11.out.kp hkp);clear hkp;go_wp2;go_ret2
    exact Or.inr ⟨by rw[HE.out],rb,_,_,rfl,HB12.out,by rw[HE.out];exact { HR12.out with eq:=by rw[←HIE.out,←HT.out];rfl },hrbw,HBT12.out.below hrbw (Xa _)⟩
  ·have he1:(err==0)=false:=beq_eq_false_iff_ne.2 he
   have he2:(err != 0)=true:=bne_iff_ne.2 he;have HE:=Za (HD2.out.trans (if_pos he));have HER:=Za he;clear he HD2;go_wp2;go_ret2
   exact Or.inl ⟨by rw[HE.out];exact HER.out,by rw[HE.out];rfl,HBT9a.out.below hrbw (Xa _)⟩
theorem Zfw(s:BA)(bv:Value)(ob:Option RU)(w:World)(hs:s.size≤20000)(hb:BaseW w bv ob):Calls Tryz.prog 149 #[.string s,bv] w fun e w'=>ZgS e w w' (parseR (tl s) ob):=by
 cases hok:(schemeOf (cut (Zay (tl s)) [35]).1).2.2
 ·rcases hb with⟨rfl,rfl⟩|⟨qb,Q,b,cs,rfl,rfl,hq,hqr,hcl⟩
  ·exact Zqx s w hs hok
  ·cases hop:b.op
   ·exact Zs9 s qb Q b cs w hs hq hqr hcl hop hok
   ·by_cases hno:(cut (Zay (tl s)) [35]).1=[]∧(cut (Zay (tl s)) [35]).2.2=true
    ·exact ZkO s qb Q b cs w hs hq hqr hcl hop hok hno
    ·refine Zmh s qb Q b cs w hs hq hqr hcl hop hok ?_
     by_cases h1:(cut (Zay (tl s)) [35]).1=[]
     ·right
      cases h2:(cut (Zay (tl s)) [35]).2.2 with
      | false=>rfl
      | true=>exact absurd ⟨h1,h2⟩ hno
     ·exact Or.inl h1
 ·exact Zsu s bv ob w hs hb hok
def ZcM(l:List Int)(k:Nat):List Int:=(l.take k).map Zc1++l.drop k
theorem Zqy(l:LI)(k:Nat):(ZcM l k).length=l.length:=by simp[ZcM];omega
theorem ZnJ(l:LI):ZcM l 0=l:=by simp[ZcM]
theorem Zqz(l:LI)(k:Nat)(h:l.length≤k):ZcM l k=l.map Zc1:=by simp[ZcM,Xf h,List.drop_of_length_le h]
theorem ZjT(l:LI)(k:Nat)(h:k<l.length):(ZcM l k)[k]?=some l[k]:=by
 unfold ZcM
 rw[List.getElem?_append_right (by simp;omega)]
 simp only[Xd,List.length_take,List.getElem?_drop]
 rw[show k+(k-min k l.length)=k by omega,Xc h]
theorem ZiH(l:LI)(k:Nat)(h:k<l.length):ZcM l (k+1)=(ZcM l k).set k (Zc1 l[k]):=by
 have hlen:((l.take k).map Zc1).length=k:=by simp;omega
 unfold ZcM
 rw[Xe h,List.drop_eq_getElem_cons h,List.set_append,if_neg (by omega),hlen,Nat.sub_self,List.set_cons_zero,Xg,List.append_assoc]
 rfl
theorem ZnK(l:LI)(k:Nat)(h:k<l.length)(hc:Zc1 l[k]=l[k]):ZcM l (k+1)=ZcM l k:=by
 rw[ZiH l k h,hc];have h1:=ZjT l k h
 have hk:k<(ZcM l k).length:=by rw[Zqy];exact h
 rw[Xc hk]at h1;rw[←Option.some.inj h1,List.set_getElem_self]
theorem Zta{c:Int}(h:Pt c):Pt (Zc1 c):=by
 unfold Zc1
 split
 ·exact⟨by decide,by decide⟩
 ·exact h
theorem Zc6{s:BA}{l:LB}{n:Nat}(h:tl s=l)(hn:l.length≤n):s.size≤n:=by rw[←tl_length,h];exact hn
theorem ZqA{w:World}{base:Nat}{v:Value}{l:LI}(h:OwnI w base v l):∃ao cp,v=.slice ao l.length cp:=by obtain⟨ao,cp,h,-⟩:=h.ints;exact⟨ao,cp,h⟩
theorem ZjU(v:Value)(l:LI)(w:World)(hv:IntsAt w v l)(hl:l.length≤100000)(hp:∀c∈l,Pt c):Calls Tryz.prog 234 #[v] w fun e w'=>∃r:BA,e=.returned (.string r)∧tl r=ZiF l∧Nx w w':=by
 have HP:=Za hp
 have HPM:=Za (show ∀c∈l.map Zc1,Pt c from fun c hc=>by obtain⟨x,hx,rfl⟩:=Xh.1 hc;exact Zta (hp x hx))
 have key:∀(w2:World) (v':Value),OwnI w2 w.heap.size v' l→Nx w w2→True:=fun _ _ _ _=>trivial
 clear key hp
 have hcase:(v=.slice none 0 0∧l=[])∨∃b off cap,v=.slice (some ⟨b,off,none⟩) l.length cap∧RowAt 3 (Value.int .i64) w b off l:=by
  obtain⟨ao,cap,rfl,hlc,hcap,hnone,hsome⟩:=hv
  cases ao with
  | none=>obtain⟨rfl,rfl⟩:=hnone rfl;exact Or.inl ⟨rfl,rfl⟩
  | some a=>obtain⟨b,off,rfl,hr⟩:=hsome a rfl;exact Or.inr ⟨b,off,cap,rfl,hr⟩
 clear hv;obtain⟨i0,hi0,-,-,-⟩:=info_parts ZfD;rcases hcase with⟨rfl,rfl⟩|⟨b,off,cap,rfl,hrow⟩
 all_goals go_enter Tryz.func234,Tryz.ntmps234
 ·go_upto_region 2 with(at_builtin;go_must (refine wpList_append_own_none rfl _ _ 124 rfl w.heap.size 3 i0 1 Tryz.underlying124 hi0 (.slice none 0 0) 0 [] rfl (World.ownsRow_nil _ _ _ _) rfl ?_))
  go_wp2
  go_loop [4] (fun i=>i=.int .i64 0) (fun _=>0)
  case atStart=>exact rfl
  case round=>
   subst hrel;go_wp2_with fail
   refine(Zb1 (.slice none 0 0) [] _ (SlAt.nil _) (by decide) (fun c hc=>by cases hc)).mono ?_
   rintro e w1 ⟨r1,rfl,hr1,hn1⟩;have HR1:=Za hr1;have HN1:=Za hn1
   have hs1:r1.size≤0:=Zc6 hr1 (by decide)
   clear hr1 hn1;go_wp2_with fail
   refine(ZfH 0 r1 _ hs1 (by decide)).mono ?_
   rintro e w2 ⟨r2,rfl,hr2,hn2⟩;have HR2:=Za hr2;have HN2:=Za (HN1.out.then hn2)
   have hs2:r2.size≤0:=Zc6 hr2 (Xb (Zbj _) (by rw[HR1.out];decide))
   clear hr2 hn2;go_wp2_with fail
   refine(ZaC r2 _ (by omega)).mono ?_
   rintro e w3 ⟨v3,rfl,h3,hn3⟩;have H3:=Za h3;have HN3:=Za (HN2.out.then hn3);have hpl:=ZaD (tl r2);rw[tl_length]at hpl;clear h3 hn3;go_wp2_with fail
   refine(Zb1 v3 _ _ H3.out (by omega) (fun c hc=>Zcz _ c hc)).mono ?_
   rintro e w4 ⟨r4,rfl,hr4,hn4⟩;have HR4:=Za hr4;have HN4:=Za (HN3.out.then hn4);clear hr4 hn4;go_wp2;go_ret
   exact⟨r4,rfl,by rw[HR4.out,HR2.out,HR1.out];rfl,HN4.out⟩
 ·have HARM:=Za (show ∀j u,(l.map (Value.int .i64))[j]?=some u→w.cell? ((⟨b,off,none⟩:Addr).add j)=some u from fun j u hu=>by
   rw[Addr.add_lit]
   have hj:j<l.length:=by have:=(List.getElem?_eq_some_iff.1 hu).1;simpa using this
   rw[hrow.cell hj]
   simp[Xc hj]at hu
   rw[←hu])
  have HLM:=Za (show(l.map (Value.int .i64)).length=l.length by rw[Xd])
  have HONE:=Za (show ∀u∈l.map (Value.int .i64),u.oneCell'=true by intro u hu;obtain⟨x,_,rfl⟩:=Xh.1 hu;rfl)
  clear hrow
  go_upto_region 2 with(at_builtin;go_must (refine Zc9 w 124 3 (.int .i64 0) 8 Tryz.underlying124 ZfD rfl rfl _ _ rfl w.heap.size (.slice none 0 0) 0 [] rfl (World.ownsRow_nil _ _ _ _) ⟨b,off,none⟩ l.length cap (l.map (Value.int .i64)) rfl HLM.out HARM.out HONE.out (by omega) (by decide) (Xa _) ?_;intro v' w2 ho2 hb2 _;rw[Nat.zero_add,List.nil_append]at ho2;have HO:=Za ho2;have HN0:=Za (show Nx w w2 from hb2);clear ho2 hb2;obtain⟨ao,cp,rfl⟩:=ZqA HO.out))
  go_wp2
  go_loopw [4] (fun i wr=>∃k:Nat,k≤l.length∧i=.int .i64 k∧wr.ownsRow w.heap.size 3 1 (.slice ao l.length cp) l.length ((ZcM l k).map (Value.int .i64))∧Nx w wr) (fun i _=>l.length-(intOf i).toNat)
  case atStart=>exact⟨0,Xi _,rfl,by rw[ZnJ];exact HO.out,HN0.out⟩
  case round=>
   obtain⟨k,hk,rfl,hown,hnx⟩:=hrel;have HN:=Za hnx;clear hnx HO HN0
   by_cases hlt:k<l.length
   ·obtain⟨g,rfl,hg⟩:∃g,ao=some ⟨g,0,none⟩∧w.heap.size≤g:=by
     rcases hown.2 with⟨h1,h2⟩|⟨g,cap',cur,h1,h2,-⟩
     ·omega
     ·simp only[Value.slice.injEq]at h1;exact⟨g,h1.1,h2⟩
    have hc:=hown.cellAt k (by omega)
    rw[List.getElem?_map,ZjT l k hlt]at hc;simp only[Option.map]at hc;have hf:=hown.frozenAt k;have HST:=Za (hown.stored k (.int .i64 32)).1;have HOW:=Za hown;clear hown
    by_cases hit:l[k]=43
    ·have hit':(l[k]==43)=true:=by rw[hit];rfl
     have HE:=Za (show(ZcM l (k+1)).map (Value.int .i64)=((ZcM l k).map (Value.int .i64)).set k (.int .i64 32)by rw[ZiH l k hlt,List.map_set];unfold Zc1;rw[if_pos hit])
     clear hit;go_wp2
     go_roundw
     case rel=>exact⟨k+1,by omega,by go_num,by rw[HE.out];exact HST.out,HN.out.setCell hg _⟩
     case measure=>simp[intOf];omega
    ·have hit':(l[k]==43)=false:=beq_eq_false_iff_ne.2 hit
     have HE:=Za (ZnK l k hlt (by unfold Zc1;rw[if_neg hit]))
     clear hit HST;go_wp2
     go_roundw
     case rel=>exact⟨k+1,by omega,by go_num,by rw[HE.out];exact HOW.out,HN.out⟩
     case measure=>simp[intOf];omega
   ·rw[Zqz l k (by omega)]at hown
    have HI:=Za (show IntsAt _ (.slice ao l.length cp) (l.map Zc1)from by
     have h:=Zp (f:=Value.int .i64) (l:=l.map Zc1) (by rw[Xd];exact hown)
     exact h)
    have hll:(l.map Zc1).length=l.length:=Xd ..;have hbl:=Zbi (l.map Zc1);clear hown;go_wp2_with fail
    refine(Zb1 _ (l.map Zc1) _ HI.out (by omega) HPM.out).mono ?_
    rintro e w1 ⟨r1,rfl,hr1,hn1⟩;have HR1:=Za hr1;have HN1:=Za (HN.out.then hn1)
    have hs1:r1.size≤400000:=Zc6 hr1 (by omega)
    clear hr1 hn1;go_wp2_with fail
    refine(ZfH 400000 r1 _ hs1 (by decide)).mono ?_
    rintro e w2 ⟨r2,rfl,hr2,hn2⟩;have HR2:=Za hr2;have HN2:=Za (HN1.out.then hn2)
    have hs2:r2.size≤400000:=Zc6 hr2 (Xb (Zbj _) (by rw[tl_length];exact hs1))
    clear hr2 hn2;go_wp2_with fail
    refine(ZaC r2 _ (by omega)).mono ?_
    rintro e w3 ⟨v3,rfl,h3,hn3⟩;have H3:=Za h3;have HN3:=Za (HN2.out.then hn3);have hpl:=ZaD (tl r2);rw[tl_length]at hpl;clear h3 hn3;go_wp2_with fail
    refine(Zb1 v3 _ _ H3.out (by omega) (fun c hc=>Zcz _ c hc)).mono ?_
    rintro e w4 ⟨r4,rfl,hr4,hn4⟩;have HR4:=Za hr4;have HN4:=Za (HN3.out.then hn4);clear hr4 hn4;go_wp2;go_ret
    exact⟨r4,rfl,by rw[HR4.out,HR2.out,HR1.out];rfl,HN4.out⟩
structure RL (R:RR):Prop where
 user:R.user.size≤300000
 pass:R.pass.size≤300000
 htx:R.htx.size≤300000
 port:R.port≤65535
 bl:R.bl.size≤300000
 q:R.q.size≤300000
 fr:R.fr.size≤300000
theorem ZbW(rb:Nat)(R:RR)(u:RU)(bs:LA)(w:World)(h:RB w rb R)(hr:RIs w R u bs)(hl:R.htx.size≤300000)(hp:R.port≤65535):Calls Tryz.prog 115 #[.pointer (some ⟨rb,0,none⟩)] w fun e w'=>∃t:BA,e=.returned (.string t)∧tl t=ZdF u∧t.size≤400000∧Nx w w':=by
 have HD:=Za (show ZdF u=if 0≤R.port then tl R.htx++[58]++dec R.port.toNat else tl R.htx by rw[←hr.eq];rfl)
 obtain⟨-,-,-,-,c4,c5,-⟩:=h.cells;clear h hr
 by_cases h0:0≤R.port
 ·have HE:=Za (HD.out.trans (if_pos h0))
  clear HD;have hdl:=Zb2 R.port.toNat
  go_enter Tryz.func115,Tryz.ntmps115
  go_wp2_with fail
  refine(Zb3 65535 R.port _ h0 hp (by decide)).mono ?_
  rintro e w1 ⟨r,rfl,hrr,hn⟩;have HR:=Za hrr
  have hrs:r.size≤65536:=by rw[←tl_length,hrr];omega
  have HN:=Za hn;clear hrr hn c4 c5;go_wp2;go_ret
  refine⟨_,rfl,?_,?_,HN.out⟩
  ·rw[HE.out,Zg,Zg,HR.out];rfl
  ·rw[Zi,Zi];show R.htx.size+1+r.size≤400000;omega
 ·have HE:=Za (HD.out.trans (if_neg h0))
  clear HD
  go_enter Tryz.func115,Tryz.ntmps115
  go_wp2;go_ret
  exact⟨_,rfl,HE.out.symm,by omega,Nx.rfl⟩
theorem Zd7(rb:Nat)(R:RR)(u:RU)(bs:LA)(w:World)(h:RB w rb R)(hr:RIs w R u bs)(hl:R.bl.size≤300000):Calls Tryz.prog 116 #[.pointer (some ⟨rb,0,none⟩)] w fun e w'=>∃t:BA,e=.returned (.string t)∧tl t=Zdu u∧t.size≤200000000000∧Nx w w':=by
 have HD:=Za (show Zdu u=tl R.bl++Zdh (bs.map tl)by rw[←hr.eq];rfl)
 have hls:=hr.lsegs;have HLS:=Za hr.lseg;have hsg:=hr.seg';obtain⟨-,-,-,-,-,-,c6,-,c8,-⟩:=h.cells;clear h hr;rcases hsg with⟨h1,h2,h3,rfl⟩|⟨b,off,h1,h2,h3,h4,hrow⟩
 ·rw[h1,h2,h3]at c6
  go_enter Tryz.func116,Tryz.ntmps116
  go_wp2
  go_loop [3,4] (fun t i=>t=.string R.bl∧i=.int .i64 0) (fun _ _=>0)
  case atStart=>exact⟨rfl,rfl⟩
  case round=>
   obtain⟨rfl,rfl⟩:=hrel;go_wp2;go_ret
   exact⟨_,rfl,by rw[HD.out];simp[Zdh],by omega,Nx.rfl⟩
 ·rw[h1,h2]at c6
  unfold maxLen at h4
  go_enter Tryz.func116,Tryz.ntmps116
  go_wp2
  go_loop [3,4] (fun t i=>∃(k:Nat) (txt:BA),k≤bs.length∧t=.string txt∧i=.int .i64 k∧tl txt=tl R.bl++Zdh ((bs.take k).map tl)∧txt.size≤300000+1000001*k) (fun _ i=>bs.length-(intOf i).toNat)
  case atStart=>exact⟨0,R.bl,Xi _,rfl,rfl,by simp[Zdh],by omega⟩
  case round=>
   obtain⟨k,txt,hk,rfl,rfl,hE,hsz⟩:=hrel;have HT:=Za hE;clear hE
   by_cases hlt:k<bs.length
   ·have hck:=hrow.cell hlt
    have hbz:=HLS.out _ (List.getElem_mem hlt)
    have HS:=Za (show(bs.take (k+1)).map tl=(bs.take k).map tl++[tl bs[k]]by rw[Xe hlt,Xg];rfl)
    generalize bs[k]=p at *;go_wp2
    go_round
    case rel=>exact⟨k+1,txt++(⟨#[47]⟩:BA)++p,by omega,rfl,by go_num,by rw[HS.out,joinSl_snoc,Zg,Zg,HT.out];simp[tl],by rw[Zi,Zi];show txt.size+1+p.size≤_;omega⟩
    case measure=>simp[intOf];omega
   ·have HF:=Za (show tl txt=Zdu u by rw[HT.out,HD.out,Xf (by omega)])
    have hz2:txt.size≤200000000000:=by
     have:1000001*k≤1000001*100000:=Nat.mul_le_mul_left _ (by omega)
     omega
    go_wp2;go_ret;exact⟨txt,rfl,HF.out,hz2,Nx.rfl⟩
end Go.Proofs.YtchkhibgbnhjpabGreatDoor
