import Derived.Test.YtchkhibgbnhjpabGreatDoorT22
open Array renaming getElem?_eq_some_iff→Xa
namespace Go.Proofs.YtchkhibgbnhjpabGreatDoor
open Go.RowKit
set_option maxHeartbeats 16000000
set_option maxRecDepth 8000
theorem ZAi(ib jb pb qb:Nat)(r q:Rc)(u v:U)(bs cs:LA)(w:World)(hi:ItemB w ib pb)(hj:ItemB w jb qb)(hu:UrlB w pb r)(hv:UrlB w qb q)(hr:RcIs w r u bs)(hq:RcIs w q v cs)(ht:Tb w)(hsu:St u)(hsv:St v)(lu:(pathU u).length≤9000)(lv:(pathU v).length≤9000):Calls Tryz.prog 15 #[.pointer (some ⟨ib,0,none⟩),.pointer (some ⟨jb,0,none⟩)] w fun e w'=>e=.returned (.bool true)∧Nx w w':=by
 have HTB:=Za ht;have HI:=Za hi;have HJ:=Za hj;have HU:=Za hu;have HV:=Za hv;have HR:=Za hr;have HQ:=Za hq;have HSU:=Za hsu;have HSV:=Za hsv;have HLU:=Za lu;have HLV:=Za lv;have i0:=hi.cell;have j0:=hj.cell;clear ht hi hj hu hv hr hq hsu hsv lu lv
 go_enter Tryz.func15,Tryz.ntmps15
 go_wp2_with fail
 refine(ZeL pb r u bs _ HU.out HR.out HTB.out (fun _=>HLU.out)).mono ?_
 rintro e w1 ⟨⟨a0,a1,a2,a3,a4,a5,a6,a7,a8,a9,a10,rfl,g0,g1,g2,g3,g4,g5,g6,g7,g8,g9,g10,-,-⟩,hn1⟩
 have HG:Hid (∀e,ZmF e u→e=.returned (.agg #[.string a0,.string a1,.string a2,.string a3,.string a4,.string a5,.string a6,.string a7,.string a8,.string a9,.string a10])):=Za (fun e he=>Zws he g0 g1 g2 g3 g4 g5 g6 g7 g8 g9 g10)
 have G0:=Za g0;have HN1:=Za hn1;have j1:=(HJ.out.on hn1).cell;have hjl:jb<w1.heap.size:=(Xa.1 (HJ.out.on hn1)).1;clear g0 g1 g2 g3 g4 g5 g6 g7 g8 g9 g10 hn1 i0 j0;go_wp2_with fail
 refine(ZeL qb q v cs _ (HV.out.on (HN1.out.alloc _)) (HQ.out.on (HN1.out.alloc _)) (HTB.out.on (HN1.out.alloc _)) (fun _=>HLV.out)).mono ?_
 rintro e w2 ⟨⟨c0,c1,c2,c3,c4,c5,c6,c7,c8,c9,c10,rfl,k0,-,-,-,-,-,-,-,-,-,-,-,-⟩,hn2⟩;have K0:=Za k0;have HA2:Hid (C11 w2 w1.heap.size (.string a0) (.string a1) (.string a2) (.string a3) (.string a4) (.string a5) (.string a6) (.string a7) (.string a8) (.string a9) (.string a10)):=Za ((show C11 (w1.alloc (Obj.cells #[.string a0,.string a1,.string a2,.string a3,.string a4,.string a5,.string a6,.string a7,.string a8,.string a9,.string a10] 66)) w1.heap.size (.string a0) (.string a1) (.string a2) (.string a3) (.string a4) (.string a5) (.string a6) (.string a7) (.string a8) (.string a9) (.string a10)from heap_alloc_new w1 _).on hn2);have HN2:=Za (show Nx w w2 from(HN1.out.alloc _).then hn2);have hA2:w1.heap.size<w2.heap.size:=(Xa.1 HA2.out).1;obtain⟨x0,-⟩:=HA2.out.cells;clear k0 hn2 j1 hjl
 by_cases hl:160<a0.size
 ·go_wp2
  go_ret;exact⟨rfl,HN2.out.alloc _⟩
 have hlu:(Zdg u).length≤160:=by rw[←G0.out,tl_length];omega
 have HLN:=Za hlu
 have hl':a0.size≤160:=by omega
 have HP:=Za (fun w' (hn:Nx w w')=>ZeD a0 ⟨#[]⟩ false w' (Zg (by omega)) (Zg (by decide)) (HTB.out.on hn))
 rw[show tl (⟨#[]⟩:BA)=[]from rfl,G0.out,Zwt HSU.out hlu]at HP;clear hl hlu;go_wp2_with fail
 refine(HP.out _ (HN2.out.alloc _)).mono ?_
 rintro e w3 ⟨hp,hn3⟩;rcases hp with⟨he,-⟩|⟨-,xb,rx,xs,rfl,hxu,hxr⟩
 ·exact absurd rfl he
 have HA3:=Za ((HA2.out.on (Nx.rfl.alloc _)).on hn3);have HC3:Hid (C11 w3 w2.heap.size (.string c0) (.string c1) (.string c2) (.string c3) (.string c4) (.string c5) (.string c6) (.string c7) (.string c8) (.string c9) (.string c10)):=Za ((show C11 (w2.alloc (Obj.cells #[.string c0,.string c1,.string c2,.string c3,.string c4,.string c5,.string c6,.string c7,.string c8,.string c9,.string c10] 66)) w2.heap.size (.string c0) (.string c1) (.string c2) (.string c3) (.string c4) (.string c5) (.string c6) (.string c7) (.string c8) (.string c9) (.string c10)from heap_alloc_new w2 _).on hn3);have HN3:=Za (show Nx w w3 from(HN2.out.alloc _).then hn3);have HXU:=Za hxu;have HXR:=Za hxr;clear hn3 hxu hxr HP x0;go_wp2_with fail
 refine(ZeL xb rx u xs _ HXU.out HXR.out (HTB.out.on HN3.out) (fun _=>HLU.out)).mono ?_
 rintro e w4 ⟨ha,hn4⟩;obtain rfl:=HG.out e ha;have hn4':=hn4;have HA4:=Za (HA3.out.on hn4);have HC4:=Za (HC3.out.on hn4);have HN4:=Za (HN3.out.then hn4);clear ha hn4 HA3 HC3;have hi4:=(HI.out.on (HN4.out.alloc (Obj.cells #[.string a0,.string a1,.string a2,.string a3,.string a4,.string a5,.string a6,.string a7,.string a8,.string a9,.string a10] 66))).cell;have hXU4:=Za (HXU.out.on hn4');have hXR4:=Za (HXR.out.on hn4');clear hn4' HXU HXR;go_wp2_with fail
 refine(Zu0 pb r u bs _ (HU.out.on (HN4.out.alloc _)) (HR.out.on (HN4.out.alloc _))).mono ?_
 rintro e w4a ⟨la,ps,rfl,hps,hpe,hna⟩;have HPS:=Za hps;have HPE:=Za hpe;have HBa:Hid (C11 w4a w4.heap.size (.string a0) (.string a1) (.string a2) (.string a3) (.string a4) (.string a5) (.string a6) (.string a7) (.string a8) (.string a9) (.string a10)):=Za ((show C11 (w4.alloc (Obj.cells #[.string a0,.string a1,.string a2,.string a3,.string a4,.string a5,.string a6,.string a7,.string a8,.string a9,.string a10] 66)) w4.heap.size (.string a0) (.string a1) (.string a2) (.string a3) (.string a4) (.string a5) (.string a6) (.string a7) (.string a8) (.string a9) (.string a10)from heap_alloc_new w4 _).on hna);have HAa:=Za ((HA4.out.on (Nx.rfl.alloc _)).on hna);have HCa:=Za ((HC4.out.on (Nx.rfl.alloc _)).on hna);have HXUa:=Za ((hXU4.out.on (Nx.rfl.alloc _)).on hna);have HXRa:=Za ((hXR4.out.on (Nx.rfl.alloc _)).on hna);have HNa:=Za (show Nx w w4a from(HN4.out.alloc _).then hna);clear hps hpe hna hi4 hXU4 hXR4 HA4 HC4 HN4;go_wp2_with fail
 refine(Zu0 xb rx u xs _ HXUa.out HXRa.out).mono ?_
 rintro e w4b ⟨lb,qs,rfl,hqs,hqe,hnb⟩;have hpq:ps=qs:=Zed (HPE.out.trans hqe.symm);subst hpq
 have hpl:=ZuZ HPE.out (by have h1:=HR.out.lq;have h2:=HR.out.eq;rw[←h2];show(tl r.q).length≤_;rw[tl_length];exact h1)
 have HPA:=Za ((HPS.out.at hpl).on hnb);have HPB:=Za (hqs.at hpl);have HBb:=Za (HBa.out.on hnb);have HAb:=Za (HAa.out.on hnb);have HCb:=Za (HCa.out.on hnb);have HNb:=Za (HNa.out.then hnb);clear hqs hqe hnb HPS HPE HBa HAa HCa HXUa HXRa HNa hpl;go_wp2_with fail
 refine(ZbW la lb ps ps _ HPA.out HPB.out).mono ?_
 rintro e w4c ⟨rfl,hnc⟩;rw[decide_eq_true (rfl:ps=ps)];have HB4:=Za (HBb.out.on hnc);have HA4:=Za (HAb.out.on hnc);have HC4:=Za (HCb.out.on hnc);have HN4:=Za (HNb.out.then hnc);have HI4:=Za (HI.out.on HN4.out);clear hnc HBb HAb HCb HNb HPA HPB;have hI4:ib<w4c.heap.size:=(Xa.1 HI4.out).1;have hA4:w1.heap.size<w4c.heap.size:=(Xa.1 HA4.out).1;have hC4:w2.heap.size<w4c.heap.size:=(Xa.1 HC4.out).1;have hB4:w4.heap.size<w4c.heap.size:=(Xa.1 HB4.out).1;have i0:=HI4.out.cell;have i1:=HI4.out.cell1;obtain⟨x0,x1,x2,x3,x4,x5,x6,x7,x8,x9,x10⟩:=HA4.out.cells;obtain⟨z0,z1,z2,z3,z4,z5,z6,z7,z8,z9,z10⟩:=HB4.out.cells;obtain⟨y0,-⟩:=HC4.out.cells;go_upto_region 12 with fail
 by_cases hlc:160<c0.size
 ·go_wp2
  go_ret;exact⟨rfl,HN4.out⟩
 have hlc':c0.size≤160:=by omega
 have hlv:(Zdg v).length≤160:=by rw[←K0.out,tl_length];omega
 have HP:=Za (fun w' (hn:Nx w w')=>ZeD a0 c0 true w' (Zg (by omega)) (Zg (by omega)) (HTB.out.on hn))
 rw[G0.out,K0.out,Zx4 HSU.out HSV.out HLN.out hlv]at HP;clear hlc hlv;go_wp2_with fail
 refine(HP.out _ HN4.out).mono ?_
 rintro e w5 ⟨hp,hn5⟩;rcases hp with⟨he,-⟩|⟨-,yb,ry,ys,rfl,hyu,hyr⟩
 ·exact absurd rfl he
 have HB5:=Za (HB4.out.on hn5);have HN5:=Za (show Nx w w5 from HN4.out.then hn5);have HYU:=Za hyu;have HYR:=Za hyr;clear hn5 hyu hyr HP i0 i1 x0 x1 x2 x3 x4 x5 x6 x7 x8 x9 x10 y0 z0 z1 z2 z3 z4 z5 z6 z7 z8 z9 z10;go_wp2_with fail
 refine(ZeL yb ry u ys _ HYU.out HYR.out (HTB.out.on HN5.out) (fun _=>HLU.out)).mono ?_
 rintro e w6 ⟨ha,hn6⟩;obtain rfl:=HG.out e ha;have HB6:=Za (HB5.out.on hn6);have HN6:=Za (HN5.out.then hn6);have hB6:w4.heap.size<w6.heap.size:=(Xa.1 HB6.out).1;obtain⟨x0,x1,x2,x3,x4,x5,x6,x7,x8,x9,x10⟩:=HB6.out.cells;clear ha hn6 HYU HYR HB5;go_wp2;go_ret;exact⟨rfl,HN6.out.alloc _⟩
end Go.Proofs.YtchkhibgbnhjpabGreatDoor
