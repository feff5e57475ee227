import Derived.Test.YtchkhibgbnhjpabGreatDoorT24
import Derived.Test.YtchkhibgbnhjpabGreatDoorT25
open Int renaming tmod_eq_emod_of_nonneg→Xa
namespace Go.Proofs.YtchkhibgbnhjpabGreatDoor
open Go.RowKit
set_option maxHeartbeats 32000000
set_option maxRecDepth 8000
theorem ZwB{l:LB}{z:U}(hl:l.length≤160)(h:ZD l zeroU=(z,0)):Zat l [] false=(z,0):=by
 unfold Zat
 rw[if_neg (by rintro(g|⟨g,-⟩);omega;cases g),show ZbS [] false=(zeroU,0)from if_pos rfl,if_neg (fun g=>g rfl)]
 exact h
theorem Zy3{l:LB}{z:U}(hl:l.length≤160)(h:∀base,ZD l base=(z,0)):Zat l l true=(z,0):=by
 have ht:ZbK l=(z,0):=h zeroU
 have hb:ZbS l true=(z,0):=by
  unfold ZbS
  rw[if_neg (by decide),ht,if_neg (by show ¬(0:Int)=2;decide)]
 unfold Zat
 rw[if_neg (by rintro(g|⟨-,g⟩)<;>omega),hb,if_neg (fun g=>g rfl)]
 exact h z
theorem Zy4(ib pb:Nat)(r:Rc)(v:U)(bs:LA)(w:World)(hi:ItemM w ib pb true)(hu:UrlB w pb r)(hr:RcIs w r v bs)(ht:Tb w)(hm:ZxF v)(lv:(pathU v).length≤9000):Calls Tryz.prog 15 #[.pointer (some ⟨ib,0,none⟩),.pointer (some ⟨ib,0,none⟩)] w fun e w'=>e=.returned (.bool true)∧Nx w w':=by
 obtain⟨z,hzs,hz⟩:=ZAh hm;have HTB:=Za ht;have HI:=Za hi;have HU:=Za hu;have HR:=Za hr;have HLV:=Za lv;have HZ:=Za hz
 have HZS:=Za (show z.sch=[98,108,111,98]→(pathU z).length≤9000 from fun g=>absurd (hzs.symm.trans g) (by decide))
 have HZT:=Za (show St z by have:=ZeH (Zdg v) (base:=zeroU) (Or.inl rfl) (by rw[hz]);rw[hz]at this;exact this)
 have HLQ:=Za (Zxb hr);have i0:=hi.cell;clear ht hi hu hr lv hz hzs hm
 go_enter Tryz.func15,Tryz.ntmps15
 go_wp2_with fail
 refine(ZeL pb r v bs _ HU.out HR.out HTB.out (fun _=>HLV.out)).mono ?_
 rintro e w1 ⟨⟨a0,a1,a2,a3,a4,a5,a6,a7,a8,a9,a10,rfl,g0,g1,g2,g3,g4,g5,g6,g7,g8,g9,g10,-,-⟩,hn1⟩
 have HG:Hid (∀e,ZmF e v→e=.returned (.agg #[.string a0,.string a1,.string a2,.string a3,.string a4,.string a5,.string a6,.string a7,.string a8,.string a9,.string a10])):=Za (fun e he=>Zws he g0 g1 g2 g3 g4 g5 g6 g7 g8 g9 g10)
 have G0:=Za g0;have HN1:=Za (hn1.alloc (Obj.cells #[.string a0,.string a1,.string a2,.string a3,.string a4,.string a5,.string a6,.string a7,.string a8,.string a9,.string a10] 66));have HA1:=Za (show C11 (w1.alloc (Obj.cells #[.string a0,.string a1,.string a2,.string a3,.string a4,.string a5,.string a6,.string a7,.string a8,.string a9,.string a10] 66)) w1.heap.size (.string a0) (.string a1) (.string a2) (.string a3) (.string a4) (.string a5) (.string a6) (.string a7) (.string a8) (.string a9) (.string a10)from heap_alloc_new w1 _);clear g0 g1 g2 g3 g4 g5 g6 g7 g8 g9 g10 hn1 i0;go_upto_region 2 with fail;generalize w1.alloc (Obj.cells #[.string a0,.string a1,.string a2,.string a3,.string a4,.string a5,.string a6,.string a7,.string a8,.string a9,.string a10] 66)=w2 at *;generalize w1.heap.size=ab at *;have i0:=(HI.out.on HN1.out).cell;go_wp2_with fail
 refine(ZeL pb r v bs _ (HU.out.on HN1.out) (HR.out.on HN1.out) (HTB.out.on HN1.out) (fun _=>HLV.out)).mono ?_
 rintro e w3 ⟨ha,hn3⟩;obtain rfl:=HG.out e ha;have HN3:=Za (HN1.out.then (hn3.alloc (Obj.cells #[.string a0,.string a1,.string a2,.string a3,.string a4,.string a5,.string a6,.string a7,.string a8,.string a9,.string a10] 66)));have HA3:=Za (HA1.out.on (hn3.alloc (Obj.cells #[.string a0,.string a1,.string a2,.string a3,.string a4,.string a5,.string a6,.string a7,.string a8,.string a9,.string a10] 66)));have HC3:=Za (show C11 (w3.alloc (Obj.cells #[.string a0,.string a1,.string a2,.string a3,.string a4,.string a5,.string a6,.string a7,.string a8,.string a9,.string a10] 66)) w3.heap.size (.string a0) (.string a1) (.string a2) (.string a3) (.string a4) (.string a5) (.string a6) (.string a7) (.string a8) (.string a9) (.string a10)from heap_alloc_new w3 _);clear ha hn3 i0 HA1;go_upto_region 3 with fail;generalize w3.alloc (Obj.cells #[.string a0,.string a1,.string a2,.string a3,.string a4,.string a5,.string a6,.string a7,.string a8,.string a9,.string a10] 66)=w4 at *;generalize w3.heap.size=cb at *;obtain⟨x0,-⟩:=HA3.out.cells
 by_cases hl:160<a0.size
 ·go_wp2
  go_ret;exact⟨rfl,HN3.out⟩
 have hlv:(Zdg v).length≤160:=by rw[←G0.out,tl_length];omega
 have hl':a0.size≤160:=by omega
 have HP:=Za (fun w' (hn:Nx w w')=>ZeD a0 ⟨#[]⟩ false w' (Zg (by omega)) (Zg (by decide)) (HTB.out.on hn))
 rw[show tl (⟨#[]⟩:BA)=[]from rfl,G0.out,ZwB hlv (HZ.out zeroU)]at HP
 have HP2:=Za (fun w' (hn:Nx w w')=>ZeD a0 a0 true w' (Zg (by omega)) (Zg (by omega)) (HTB.out.on hn))
 rw[G0.out,Zy3 hlv HZ.out]at HP2;clear hl hlv;go_wp2_with fail
 refine(HP.out _ HN3.out).mono ?_
 rintro e w5 ⟨hp,hn5⟩;rcases hp with⟨he,-⟩|⟨-,xb,rx,xs,rfl,hxu,hxr⟩
 ·exact absurd rfl he
 have HXU:=Za hxu
 replace hxr:RcIs w5 rx z xs:=hxr
 have HXR:=Za hxr;have HN5:=Za (HN3.out.then hn5);have HA5:=Za (HA3.out.on hn5);have HC5:=Za (HC3.out.on hn5);clear hn5 hxu hxr x0 HA3 HC3 HP;go_wp2_with fail
 refine(ZeL xb rx z xs _ HXU.out HXR.out (HTB.out.on HN5.out) HZS.out).mono ?_
 rintro e w6 ⟨⟨b0,b1,b2,b3,b4,b5,b6,b7,b8,b9,b10,rfl,k0,k1,k2,k3,k4,k5,k6,k7,k8,k9,k10,-,-⟩,hn6⟩
 have HGB:Hid (∀e,ZmF e z→e=.returned (.agg #[.string b0,.string b1,.string b2,.string b3,.string b4,.string b5,.string b6,.string b7,.string b8,.string b9,.string b10])):=Za (fun e he=>Zws he k0 k1 k2 k3 k4 k5 k6 k7 k8 k9 k10)
 have K0:=Za k0;have HN6:=Za (HN5.out.then (hn6.alloc (Obj.cells #[.string b0,.string b1,.string b2,.string b3,.string b4,.string b5,.string b6,.string b7,.string b8,.string b9,.string b10] 66)));have HA6:=Za (HA5.out.on (hn6.alloc (Obj.cells #[.string b0,.string b1,.string b2,.string b3,.string b4,.string b5,.string b6,.string b7,.string b8,.string b9,.string b10] 66)));have HC6:=Za (HC5.out.on (hn6.alloc (Obj.cells #[.string b0,.string b1,.string b2,.string b3,.string b4,.string b5,.string b6,.string b7,.string b8,.string b9,.string b10] 66)));have HXU6:=Za (HXU.out.on (hn6.alloc (Obj.cells #[.string b0,.string b1,.string b2,.string b3,.string b4,.string b5,.string b6,.string b7,.string b8,.string b9,.string b10] 66)));have HXR6:=Za (HXR.out.on (hn6.alloc (Obj.cells #[.string b0,.string b1,.string b2,.string b3,.string b4,.string b5,.string b6,.string b7,.string b8,.string b9,.string b10] 66)));have HB6:=Za (show C11 (w6.alloc (Obj.cells #[.string b0,.string b1,.string b2,.string b3,.string b4,.string b5,.string b6,.string b7,.string b8,.string b9,.string b10] 66)) w6.heap.size (.string b0) (.string b1) (.string b2) (.string b3) (.string b4) (.string b5) (.string b6) (.string b7) (.string b8) (.string b9) (.string b10)from heap_alloc_new w6 _);clear k0 k1 k2 k3 k4 k5 k6 k7 k8 k9 k10 hn6 HA5 HC5 HXU HXR;go_upto_region 9 with fail;generalize w6.alloc (Obj.cells #[.string b0,.string b1,.string b2,.string b3,.string b4,.string b5,.string b6,.string b7,.string b8,.string b9,.string b10] 66)=w7 at *;generalize w6.heap.size=bb at *;have i0:=(HI.out.on HN6.out).cell;go_wp2_with fail
 refine(Zu0 pb r v bs _ (HU.out.on HN6.out) (HR.out.on HN6.out)).mono ?_
 rintro e w8 ⟨la,ps,rfl,hps,hpe,hna⟩;have hpl:=ZuZ hpe HLQ.out;have HPA:=Za (hps.at hpl);have HN8:=Za (HN6.out.then hna);have HA8:=Za (HA6.out.on hna);have HC8:=Za (HC6.out.on hna);have HB8:=Za (HB6.out.on hna);have HXU8:=Za (HXU6.out.on hna);have HXR8:=Za (HXR6.out.on hna);have HLZ:=Za (Zxb HXR6.out);obtain⟨ao,cap,hv1⟩:=hps.slice;subst hv1;clear hps hpe hna i0 HA6 HC6 HB6 HXU6 HXR6 hpl;go_wp2_with fail
 refine(Zu0 xb rx z xs _ HXU8.out HXR8.out).mono ?_
 rintro e w9 ⟨lb,qs,rfl,hqs,hqe,hnb⟩;have HPB:=Za (hqs.at (ZuZ hqe HLZ.out));have HPA9:=Za (HPA.out.on hnb);have HN9:=Za (HN8.out.then hnb);have HA9:=Za (HA8.out.on hnb);have HC9:=Za (HC8.out.on hnb);have HB9:=Za (HB8.out.on hnb);obtain⟨ao2,cap2,hv2⟩:=hqs.slice;subst hv2;clear hqs hqe hnb HA8 HC8 HB8 HPA HXU8 HXR8;go_wp2_with fail
 refine(ZbW _ _ ps qs _ HPA9.out HPB.out).mono ?_
 rintro e w10 ⟨rfl,hnc⟩;generalize decide (ps=qs)=sm at *;have HN10:=Za (HN9.out.then hnc);have HA10:=Za (HA9.out.on hnc);have HC10:=Za (HC9.out.on hnc);have HB10:=Za (HB9.out.on hnc);have HI10:=Za (HI.out.on HN10.out);clear hnc HA9 HC9 HB9 HPA9 HPB;have i0:=HI10.out.cell;have i1:=HI10.out.cell1;obtain⟨y0,y1,y2,y3,y4,y5,y6,y7,y8,y9,y10⟩:=HB10.out.cells;go_upto_region 14 with fail
 by_cases hb:b0.size≤160
 ·have hbz:(Zdg z).length≤160:=by rw[←K0.out,tl_length];exact hb
  have HP3:=Za (fun w' (hn:Nx w w')=>ZeD b0 ⟨#[]⟩ false w' (Zg (by omega)) (Zg (by decide)) (HTB.out.on hn))
  rw[show tl (⟨#[]⟩:BA)=[]from rfl,K0.out,Zwt HZT.out hbz]at HP3;clear hbz;go_wp2_with fail
  refine(HP3.out _ HN10.out).mono ?_
  rintro e w11 ⟨hp,hn11⟩;rcases hp with⟨he,-⟩|⟨-,yb,ry,ys,rfl,hyu,hyr⟩
  ·exact absurd rfl he
  have HYU:=Za hyu
  replace hyr:RcIs w11 ry z ys:=hyr
  have HYR:=Za hyr;have HN11:=Za (HN10.out.then hn11);have HB11:=Za (HB10.out.on hn11);have HA11:=Za (HA10.out.on hn11);have HC11:=Za (HC10.out.on hn11);clear hn11 hyu hyr HP3 i0 i1 y0 y1 y2 y3 y4 y5 y6 y7 y8 y9 y10;go_wp2_with fail
  refine(ZeL yb ry z ys _ HYU.out HYR.out (HTB.out.on HN11.out) HZS.out).mono ?_
  rintro e w12 ⟨ha,hn12⟩;obtain rfl:=HGB.out e ha;have HN12:=Za (HN11.out.then (hn12.alloc (Obj.cells #[.string b0,.string b1,.string b2,.string b3,.string b4,.string b5,.string b6,.string b7,.string b8,.string b9,.string b10] 66)));have HB12:=Za (HB11.out.on (hn12.alloc (Obj.cells #[.string b0,.string b1,.string b2,.string b3,.string b4,.string b5,.string b6,.string b7,.string b8,.string b9,.string b10] 66)));have HA12:=Za (HA11.out.on (hn12.alloc (Obj.cells #[.string b0,.string b1,.string b2,.string b3,.string b4,.string b5,.string b6,.string b7,.string b8,.string b9,.string b10] 66)));have HC12:=Za (HC11.out.on (hn12.alloc (Obj.cells #[.string b0,.string b1,.string b2,.string b3,.string b4,.string b5,.string b6,.string b7,.string b8,.string b9,.string b10] 66)));have HG12:=Za (show C11 (w12.alloc (Obj.cells #[.string b0,.string b1,.string b2,.string b3,.string b4,.string b5,.string b6,.string b7,.string b8,.string b9,.string b10] 66)) w12.heap.size (.string b0) (.string b1) (.string b2) (.string b3) (.string b4) (.string b5) (.string b6) (.string b7) (.string b8) (.string b9) (.string b10)from heap_alloc_new w12 _);clear ha hn12 HYU HYR;go_upto_region 19 with fail;generalize w12.alloc (Obj.cells #[.string b0,.string b1,.string b2,.string b3,.string b4,.string b5,.string b6,.string b7,.string b8,.string b9,.string b10] 66)=w13 at *;generalize w12.heap.size=gb at *;obtain⟨y0,y1,y2,y3,y4,y5,y6,y7,y8,y9,y10⟩:=HB12.out.cells;obtain⟨z0,z1,z2,z3,z4,z5,z6,z7,z8,z9,z10⟩:=HG12.out.cells;obtain⟨x0,-⟩:=HA12.out.cells;obtain⟨v0,-⟩:=HC12.out.cells;go_wp2_with fail
  refine(HP2.out _ HN12.out).mono ?_
  rintro e w14 ⟨hp,hn14⟩;rcases hp with⟨he,-⟩|⟨-,tb,rt,ts,rfl,htu,htr⟩
  ·exact absurd rfl he
  have HTU:=Za htu
  replace htr:RcIs w14 rt z ts:=htr
  have HTR:=Za htr;have HN14:=Za (HN12.out.then hn14);have HB14:=Za (HB12.out.on hn14);clear hn14 htu htr x0 v0 y0 y1 y2 y3 y4 y5 y6 y7 y8 y9 y10 z0 z1 z2 z3 z4 z5 z6 z7 z8 z9 z10;go_wp2_with fail
  refine(ZeL tb rt z ts _ HTU.out HTR.out (HTB.out.on HN14.out) HZS.out).mono ?_
  rintro e w15 ⟨ha,hn15⟩;obtain rfl:=HGB.out e ha;have HN15:=Za (HN14.out.then (hn15.alloc (Obj.cells #[.string b0,.string b1,.string b2,.string b3,.string b4,.string b5,.string b6,.string b7,.string b8,.string b9,.string b10] 66)));have HB15:=Za (HB14.out.on (hn15.alloc (Obj.cells #[.string b0,.string b1,.string b2,.string b3,.string b4,.string b5,.string b6,.string b7,.string b8,.string b9,.string b10] 66)));have HG15:=Za (show C11 (w15.alloc (Obj.cells #[.string b0,.string b1,.string b2,.string b3,.string b4,.string b5,.string b6,.string b7,.string b8,.string b9,.string b10] 66)) w15.heap.size (.string b0) (.string b1) (.string b2) (.string b3) (.string b4) (.string b5) (.string b6) (.string b7) (.string b8) (.string b9) (.string b10)from heap_alloc_new w15 _);clear ha hn15 HTU HTR;go_upto_region 27 with fail;generalize w15.alloc (Obj.cells #[.string b0,.string b1,.string b2,.string b3,.string b4,.string b5,.string b6,.string b7,.string b8,.string b9,.string b10] 66)=w16 at *;generalize w15.heap.size=hb2 at *;obtain⟨y0,y1,y2,y3,y4,y5,y6,y7,y8,y9,y10⟩:=HB15.out.cells;obtain⟨z0,z1,z2,z3,z4,z5,z6,z7,z8,z9,z10⟩:=HG15.out.cells;go_wp2;go_ret;exact⟨rfl,HN15.out⟩
 ·clear i0
  obtain⟨x0,-⟩:=HA10.out.cells;obtain⟨v0,-⟩:=HC10.out.cells;go_wp2_with fail
  refine(HP2.out _ HN10.out).mono ?_
  rintro e w14 ⟨hp,hn14⟩;rcases hp with⟨he,-⟩|⟨-,tb,rt,ts,rfl,htu,htr⟩
  ·exact absurd rfl he
  have HTU:=Za htu
  replace htr:RcIs w14 rt z ts:=htr
  have HTR:=Za htr;have HN14:=Za (HN10.out.then hn14);have HB14:=Za (HB10.out.on hn14);clear hn14 htu htr x0 v0 i1 y0 y1 y2 y3 y4 y5 y6 y7 y8 y9 y10;go_wp2_with fail
  refine(ZeL tb rt z ts _ HTU.out HTR.out (HTB.out.on HN14.out) HZS.out).mono ?_
  rintro e w15 ⟨ha,hn15⟩;obtain rfl:=HGB.out e ha;have HN15:=Za (HN14.out.then (hn15.alloc (Obj.cells #[.string b0,.string b1,.string b2,.string b3,.string b4,.string b5,.string b6,.string b7,.string b8,.string b9,.string b10] 66)));have HB15:=Za (HB14.out.on (hn15.alloc (Obj.cells #[.string b0,.string b1,.string b2,.string b3,.string b4,.string b5,.string b6,.string b7,.string b8,.string b9,.string b10] 66)));have HG15:=Za (show C11 (w15.alloc (Obj.cells #[.string b0,.string b1,.string b2,.string b3,.string b4,.string b5,.string b6,.string b7,.string b8,.string b9,.string b10] 66)) w15.heap.size (.string b0) (.string b1) (.string b2) (.string b3) (.string b4) (.string b5) (.string b6) (.string b7) (.string b8) (.string b9) (.string b10)from heap_alloc_new w15 _);clear ha hn15 HTU HTR;go_upto_region 27 with fail;generalize w15.alloc (Obj.cells #[.string b0,.string b1,.string b2,.string b3,.string b4,.string b5,.string b6,.string b7,.string b8,.string b9,.string b10] 66)=w16 at *;generalize w15.heap.size=hb2 at *;obtain⟨y0,y1,y2,y3,y4,y5,y6,y7,y8,y9,y10⟩:=HB15.out.cells;obtain⟨z0,z1,z2,z3,z4,z5,z6,z7,z8,z9,z10⟩:=HG15.out.cells;go_wp2;go_ret;exact⟨rfl,HN15.out⟩
def ZBj(n:Nat)(e:Ending)(w':World)(x:U×Int):Prop:=
 e=.returned (.tuple #[.pointer none,.bool true])∨(x.2=0∧∃(ib pb:Nat) (r:Rc) (bs:List ByteArray),e=.returned (.tuple #[.pointer (some ⟨ib,0,none⟩),.bool true])∧ItemB w' ib pb∧UrlB w' pb r∧RcIs w' r x.1 bs∧n≤pb∧n≤ib)
theorem ZAT(s:BA)(w:World)(hs:s.size≤maxLen)(ht:Tb w):Calls Tryz.prog 11 #[.string s,.string ⟨#[]⟩,.bool false] w fun e w'=>ZBj w.heap.size e w' (Zat (tl s) [] false)∧Nx w w':=by
 have HTB:=Za ht
 have HPA:=Za (Zyx s ⟨#[]⟩ false w hs (Zg (by decide)) ht)
 have HST:=Za (fun w1 (hn:Nx w w1)=>ZyF s.size hs w1 (HTB.out.on hn))
 clear ht;rw[show tl (⟨#[]⟩:BA)=[]from rfl]at HPA;unfold maxLen at hs
 by_cases h1:65536<s.size
 ·clear HPA HST HTB
  go_enter Tryz.func11,Tryz.ntmps11
  go_wp2;go_ret2;exact⟨Or.inl rfl,Nx.rfl⟩
 by_cases h3:160<s.size
 ·skip
  have HX:=Za (Zhc (tl s) [] false (by rw[tl_length];exact Or.inl h3))
  go_enter Tryz.func11,Tryz.ntmps11
  go_wp2_with fail
  refine HPA.out.mono ?_
  rintro e w1 ⟨hp,hn⟩;have HN:=Za hn;clear hn HPA;generalize hpx:Zat (tl s) [] false=x at *;obtain⟨xu,xe⟩:=x;have HPX:=Za hpx;clear hpx;simp only at HX;rcases hp with⟨hx,rfl⟩|⟨hx,pb,r,bs,rfl,hu,hr,hnew⟩
  ·obtain rfl:xe=1:=HX.out
   clear hx HX
   go_wp2_with (go_at_call 29;refine(HST.out _ HN.out).mono ?_;rintro e w2 ⟨rfl,hn2⟩;have HN2:=Za (HN.out.then hn2);clear hn2)
   go_ret2;exact⟨Or.inl rfl,HN2.out⟩
  ·exact absurd (hx.symm.trans HX.out) (by decide)
 skip
 have HX:=Za (Zf6 (tl s) [] false (by rw[tl_length];exact fun h=>h.elim h3 (fun k=>by cases k.1)))
 have hd:decide (160<(s.size:Int))=false:=decide_eq_false (by omega)
 go_enter Tryz.func11,Tryz.ntmps11
 go_wp2_with fail
 refine HPA.out.mono ?_
 rintro e w1 ⟨hp,hn⟩;have HN:=Za hn;clear hn HPA;generalize hpx:Zat (tl s) [] false=x at *;obtain⟨xu,xe⟩:=x;have HPX:=Za hpx;clear hpx;simp only at HX;rcases hp with⟨hx,rfl⟩|⟨hx,pb,r,bs,rfl,hu,hr,hnew⟩
 ·have hx0:(xe != 0)=true:=Zd9 (beq_eq_false_iff_ne.2 hx)
  have hx1:(xe==1)=false:=beq_eq_false_iff_ne.2 HX.out;clear hx HX
  go_wp2_with (go_at_call 29;refine(HST.out _ HN.out).mono ?_;rintro e w2 ⟨rfl,hn2⟩;have HN2:=Za (HN.out.then hn2);clear hn2)
  go_ret2
  exact⟨Or.inl (by first|rfl|simp[hd]),HN2.out⟩
 ·have HU:=Za hu
  have HNW:=Za hnew;clear hnew;have HR:=Za hr;simp only at hx;subst hx;clear hu hr HX HST;go_wp2;go_ret2
  exact⟨Or.inr ⟨by rw[HPX.out],w1.heap.size,pb,r,bs,rfl,Zzw w1 pb,HU.out.on (Nx.rfl.alloc _),by rw[HPX.out];exact HR.out.on (Nx.rfl.alloc _),HNW.out,HN.out.size⟩,HN.out.alloc _⟩
theorem ZA9{v:U}(h:ZxF v):Sd v:=by
 obtain⟨u,hst,hsp,hnf,hn,hpw,hhp,rfl⟩:=h
 exact { hst.st.sd with sc:=Zxi,port:=fun g=>absurd (hhp.symm.trans g) (by decide),who:=fun _=>⟨hn,hpw,hhp⟩,sp:=fun _=>hst.st.sd.sp hsp,hst:=fun _ g=>absurd rfl g }
theorem ZBa{v:U}(h:ZxF v):Wf v:=by obtain⟨u,hst,hsp,hnf,hn,hpw,hhp,rfl⟩:=h;exact⟨hst.st.wf.nh,hst.st.wf.nq,hst.st.wf.nf⟩
theorem Zyc{v:U}(h:ZxF v)(l0:v.sch.length≤1000000)(e:Ending)(he:ZmF e v):∃x,e=.returned x∧∀w,Tb w→Calls Tryz.prog 38 #[x] w fun e w'=>e=.returned (.bool true)∧Nx w w':=by
 have hs:v.sch=Zw:=by obtain⟨u,-,-,-,-,-,-,rfl⟩:=h;rfl
 obtain⟨t0,t1,t2,t3,t4,t5,t6,t7,t8,t9,t10,rfl,h0,h1,h2,h3,h4,h5,h6,h7,h8,h9,h10,s5,s8⟩:=he
 refine⟨_,rfl,fun w ht=>?_⟩
 have hpro:tl t2=Zva:=by rw[h2];exact Zve.2 hs
 have z2:t2.size≤1000001:=by rw[←tl_length,hpro];decide
 have hog:tl t1=ZcX:=by rw[h1];exact Zwp (fun x=>x.2 hs) (by rw[hs];decide)
 exact Zwq t0 t1 t2 t3 t4 t5 t6 t7 t8 t9 t10 w ht z2 s5 (fun _ g=>absurd hpro g) (fun _ _=>hog) (fun g=>absurd hog g)
theorem Zy5(pb:Nat)(r:Rc)(u:U)(bs:LA)(w:World)(hu:UrlB w pb r)(hr:RcIs w r u bs)(ht:Tb w)(hm:ZxF u)(hpl:(pathU u).length≤9000):Calls Tryz.prog 14 #[.pointer (some ⟨pb,0,none⟩)] w fun e w'=>e=.returned (.bool true)∧Nx w w':=by
 have HU:=Za hu;have HR:=Za hr;have HTB:=Za ht;have HSD:=Za (ZA9 hm);have HWF:=Za (ZBa hm);have HOR:=Za (Zyc hm);have HPL:=Za hpl;clear hu hr ht hm hpl
 go_enter Tryz.func14,Tryz.ntmps14
 go_wp2_with fail
 refine(ZeL pb r u bs _ HU.out HR.out HTB.out (fun _=>HPL.out)).mono ?_
 rintro e w1 ⟨ha,hn1⟩;have hz:=HR.out.five
 have hzh:u.host.length≤1000000:=by rw[←HR.out.eq];show(tl r.host).length≤_;rw[tl_length];have:=HR.out.lhost;omega
 have hzs:u.sch.length≤999999:=by rw[←HR.out.eq];show(tl r.sch).length≤_;rw[tl_length];have:=HR.out.lsch;omega
 obtain⟨v1,e1,hv1⟩:=ZwO u HSD.out hzs hz.2.1 hz.2.2.1 hz.2.2.2.1 hz.2.2.2.2 hzh e ha;obtain⟨v2,e2,hv2⟩:=Zwo u HWF.out hz.1 hz.2.1 hz.2.2.1 hz.2.2.2.1 hz.2.2.2.2 e ha;obtain⟨v3,e3,hv3⟩:=HOR.out hz.1 e ha;obtain⟨a0,a1,a2,a3,a4,a5,a6,a7,a8,a9,a10,rfl,g0,g1,g2,g3,g4,g5,g6,g7,g8,g9,g10,-,-⟩:=ha
 have H9:=Za (show a9.size=0→Zh u.q=[]from fun g=>by
  have h:Z4 u=[]:=by rw[←g9];exact Zz g
  rw[ZvX (by decide) h]
  decide +kernel)
 obtain rfl:=Ending.returned.inj e1;obtain rfl:=Ending.returned.inj e2;obtain rfl:=Ending.returned.inj e3;have HV1:=Za hv1;have HV2:=Za hv2;have HV3:=Za hv3;have HN1:=Za (hn1.alloc (Obj.cells (ZyI a0 a1 a2 a3 a4 a5 a6 a7 a8 a9 a10) 66));have HC:=Za (show C11 (w1.alloc (Obj.cells (ZyI a0 a1 a2 a3 a4 a5 a6 a7 a8 a9 a10) 66)) w1.heap.size (.string a0) (.string a1) (.string a2) (.string a3) (.string a4) (.string a5) (.string a6) (.string a7) (.string a8) (.string a9) (.string a10)from heap_alloc_new w1 _);clear g0 g1 g2 g3 g4 g5 g6 g7 g8 g9 g10 hn1 hz hzh hzs e1 e2 e3 hv1 hv2 hv3;unfold ZyI at *;go_upto_region 2 with fail;generalize w1.alloc (Obj.cells #[.string a0,.string a1,.string a2,.string a3,.string a4,.string a5,.string a6,.string a7,.string a8,.string a9,.string a10] 66)=w2 at *;obtain⟨c0,c1,c2,c3,c4,c5,c6,c7,c8,c9,c10⟩:=HC.out.cells;go_wp2_with fail
 refine(HV1.out _).mono ?_
 rintro e w3 ⟨rfl,hn3⟩;have HN3:=Za (HN1.out.then hn3);have HC3:=Za (HC.out.on hn3);clear hn3 c0 c1 c2 c3 c4 c5 c6 c7 c8 c9 c10;obtain⟨c0,c1,c2,c3,c4,c5,c6,c7,c8,c9,c10⟩:=HC3.out.cells;go_wp2_with fail
 refine(HV2.out _).mono ?_
 rintro e w4 ⟨rfl,hn4⟩;have HN4:=Za (HN3.out.then hn4);have HC4:=Za (HC3.out.on hn4);clear hn4 c0 c1 c2 c3 c4 c5 c6 c7 c8 c9 c10;obtain⟨c0,c1,c2,c3,c4,c5,c6,c7,c8,c9,c10⟩:=HC4.out.cells;go_wp2_with fail
 refine(HV3.out _ (HTB.out.on HN4.out)).mono ?_
 rintro e w5 ⟨rfl,hn5⟩;have HN5:=Za (HN4.out.then hn5);have HC5:=Za (HC4.out.on hn5);clear hn5 c0 c1 c2 c3 c4 c5 c6 c7 c8 c9 c10;obtain⟨c0,c1,c2,c3,c4,c5,c6,c7,c8,c9,c10⟩:=HC5.out.cells;go_wp2_with fail
 refine(ZvW pb r u bs a0 a1 a2 a3 a4 a5 a6 a7 a8 a9 a10 _ (HU.out.on HN5.out) (HR.out.on HN5.out) H9.out).mono ?_
 rintro e w6 ⟨rfl,hn6⟩;have HN6:=Za (HN5.out.then hn6);clear hn6;go_wp2;go_ret;exact⟨rfl,HN6.out⟩
theorem ZAj(ib pb:Nat)(r:Rc)(u:U)(bs:LA)(s:BA)(w0 w:World)(h00:Nx w0 w)(hp0:w0.heap.size≤pb)(hi0:w0.heap.size≤ib)(hi:ItemM w ib pb false)(hu:UrlB w pb r)(hr:RcIs w r u bs)(ht0:Tb w0)(hst:St u)(hwk:Wk u)(hbl:bs.length≤9000)(hs:s.size≤65536):Calls Tryz.prog 12 #[.pointer (some ⟨ib,0,none⟩),.int .i64 0,.string s] w fun e w'=>e=.returned (.bool true)∧Zu4 w0 w' ib pb TP:=by
 have PUT:∀v:U,ZuW v 0 (tl s)=ZbK (tl s):=fun v=>(show ZuW v 0 (tl s)=ZbK (clean (tl s))from rfl).trans (Zyp _)
 have HT0:=Za ht0;have H00:=Za h00;have HP0:=Za hp0;have HI0:=Za hi0;have HI:=Za hi;have HU:=Za hu;have HR:=Za hr;have HWK:=Za hwk;have HLQ:=Za (Zxb hr)
 have HPU:=Za (fun(v:U) (r:Rc) (bs:LA) (w:World) (h1:UrlB w pb r) (h2:RcIs w r v bs) (h3:Tb w) (h4:bs.length≤30001)=>ZzO pb r v bs s w h1 h2 h3 h4)
 have HNO:=Za (show TP u false from⟨hwk,fun _=>hst,(fun g=>by cases g)⟩)
 have HER:=Za (show s.size≤160→(ZuW u 0 (tl s)).2≠1 from fun _=>by rw[PUT];exact Ze4 _ _)
 have HYE:=Za (show s.size≤160→(ZuW u 0 (tl s)).2=0→Wk (ZuW u 0 (tl s)).1∧TP (ZuW u 0 (tl s)).1 false∧∀w',Tb w'→Calls Tryz.prog 28 #[.string s,.string ⟨#[]⟩,.bool false] w' fun e w''=>Zli e w'' ((ZuW u 0 (tl s)).1,0)∧Nx w' w'' from fun hl hx=>by
  rw[PUT]at hx ⊢
  have hl':(tl s).length≤160:=by rw[tl_length];exact hl
  have hwt:=ZAZ hl' hx
  refine⟨hwt,⟨hwt,fun _=>Zze hx,(fun g=>by cases g)⟩,fun w' ht'=>?_⟩
  have hp:=ZeD s ⟨#[]⟩ false w' (Zg (by omega)) (Zg (by decide)) ht'
  rw[show tl (⟨#[]⟩:BA)=[]from rfl,ZwB (z:=(ZbK (tl s)).1) hl' (show ZbK (tl s)=_ from Prod.ext rfl hx)]at hp
  exact hp)
 have i0:=hi.cell;clear h00 hp0 hi0 hi hu hr ht0 hwk hst PUT
 go_enter Tryz.func12,Tryz.ntmps12
 go_wp2_with fail
 refine(ZeL pb r u bs _ HU.out HR.out (HT0.out.on H00.out) (fun _=>HWK.out.path)).mono ?_
 rintro e w2 ⟨⟨a0,a1,a2,a3,a4,a5,a6,a7,a8,a9,a10,rfl,g0,g1,g2,g3,g4,g5,g6,g7,g8,g9,g10,s5,s8⟩,hn2⟩
 have HG:Hid (∀e,ZmF e u→e=.returned (.agg #[.string a0,.string a1,.string a2,.string a3,.string a4,.string a5,.string a6,.string a7,.string a8,.string a9,.string a10])):=Za (fun e he=>Zws he g0 g1 g2 g3 g4 g5 g6 g7 g8 g9 g10)
 have ha0:a0.size≤maxLen:=by
  have h:=ZvG u;rw[←g0,←g5,←g8,tl_length,tl_length,tl_length]at h;obtain⟨z1,z2,z3,z4,z5⟩:=HR.out.five;unfold maxLen
  omega
 have ha2:a2.size≤1000001:=by
  have h:(tl a2).length=(Zad u).length:=by rw[g2]
  obtain⟨z1,z2,z3,z4,z5⟩:=HR.out.five;rw[tl_length]at h;unfold Zad at h;rw[List.length_append]at h
  simp at h
  omega
 have HAZ:=Za ha0;have HA2:=Za ha2;have HC:=Za (show C11 (w2.alloc (Obj.cells #[.string a0,.string a1,.string a2,.string a3,.string a4,.string a5,.string a6,.string a7,.string a8,.string a9,.string a10] 66)) w2.heap.size (.string a0) (.string a1) (.string a2) (.string a3) (.string a4) (.string a5) (.string a6) (.string a7) (.string a8) (.string a9) (.string a10)from heap_alloc_new w2 _);have HN2:=Za (hn2.alloc (Obj.cells #[.string a0,.string a1,.string a2,.string a3,.string a4,.string a5,.string a6,.string a7,.string a8,.string a9,.string a10] 66));clear g0 g1 g2 g3 g4 g5 g6 g7 g8 g9 g10 hn2 i0 ha0 ha2;go_upto_region 2 with fail;generalize w2.alloc (Obj.cells #[.string a0,.string a1,.string a2,.string a3,.string a4,.string a5,.string a6,.string a7,.string a8,.string a9,.string a10] 66)=wA at *;generalize w2.heap.size=ab at *;have i0:=(HI.out.on HN2.out).cell;go_wp2_with fail
 refine(Zu0 pb r u bs _ (HU.out.on HN2.out) (HR.out.on HN2.out)).mono ?_
 rintro e w3 ⟨l,ps,rfl,hl3,hm3,hn3⟩;have hc:=ZuZ hm3 HLQ.out;have HPA:=Za (hl3.at hc);have HM:=Za hm3;have HN3:=Za (HN2.out.then hn3);have HC3:=Za (HC.out.on hn3);obtain⟨ao,cap,hve⟩:=hl3.slice;subst hve;clear hl3 hm3 hn3 HC i0;have i0:=(HI.out.on HN3.out).cell;have HU3:=Za (HU.out.on HN3.out);have HR3:=Za (HR.out.on HN3.out);go_wp2_with fail
 refine(HPU.out u r bs _ HU3.out HR3.out (HT0.out.on (H00.out.then HN3.out)) (by omega)).mono ?_
 rintro e w4 hS
 have hbut:But pb w3 w4:=by rcases hS with⟨-,-,h⟩|⟨-,-,-,h⟩|⟨-,-,-,-,h⟩;exact But.nx h;exact But.nx h;exact h
 have HI4:=Za ((HI.out.on HN3.out).but HU3.out hbut);have HC4:=Za (HC3.out.but HU3.out hbut)
 have HPA4:=Za (HPA.out.kp (hbut.kpL HU3.out) (by decide))
 have HN4:=Za (show Nx w0 w4 from(H00.out.then HN3.out).trans (hbut.below HP0.out (H00.out.then HN3.out).size));clear hbut i0 HC3 HPA;have i0:=HI4.out.cell;rcases hS with⟨hl,rfl,hn4⟩|⟨hl,hx,rfl,hn4⟩|⟨hl,hx,rfl,⟨r4,ds,hu4,hr4,hds⟩,-⟩
 ·have HU4:=Za (HU3.out.on hn4)
  have HR4:=Za (HR3.out.on hn4);have hlong:160<s.size:=of_decide_eq_true hl;clear hl;clear hn4 HYE;go_wp2_with fail
  refine(ZeL pb r u bs _ HU4.out HR4.out (HT0.out.on HN4.out) (fun _=>HWK.out.path)).mono ?_
  rintro e w5 ⟨ha,hn5⟩;obtain rfl:=HG.out e ha;have HN5:=Za (hn5.alloc (Obj.cells #[.string a0,.string a1,.string a2,.string a3,.string a4,.string a5,.string a6,.string a7,.string a8,.string a9,.string a10] 66));have HCB:=Za (show C11 (w5.alloc (Obj.cells #[.string a0,.string a1,.string a2,.string a3,.string a4,.string a5,.string a6,.string a7,.string a8,.string a9,.string a10] 66)) w5.heap.size (.string a0) (.string a1) (.string a2) (.string a3) (.string a4) (.string a5) (.string a6) (.string a7) (.string a8) (.string a9) (.string a10)from heap_alloc_new w5 _);clear ha hn5 i0;go_upto_region 5 with fail;generalize w5.alloc (Obj.cells #[.string a0,.string a1,.string a2,.string a3,.string a4,.string a5,.string a6,.string a7,.string a8,.string a9,.string a10] 66)=w6 at *;generalize w5.heap.size=bb at *;have i0:=(HI4.out.on HN5.out).cell;go_wp2_with fail
  refine(Zu0 pb r u bs _ (HU4.out.on HN5.out) (HR4.out.on HN5.out)).mono ?_
  rintro e w7 ⟨l7,qs,rfl,hl7,hm7,hn7⟩;obtain rfl:ps=qs:=Zed (HM.out.trans hm7.symm);have HN7:=Za (HN5.out.then hn7);have HPB:=Za (hl7.at hc);have HCB7:=Za (HCB.out.on hn7);obtain⟨ao7,cap7,hv7⟩:=hl7.slice;subst hv7;clear hl7 hm7 hn7 i0 HCB;go_wp2_with fail
  refine(ZbW _ _ ps ps _ (HPA4.out.on HN7.out) HPB.out).mono ?_
  rintro e w8 ⟨rfl,hn8⟩;rw[decide_eq_true (rfl:ps=ps)];have HN8:=Za (HN7.out.then hn8);have HCB8:=Za (HCB7.out.on hn8);obtain⟨x0,x1,x2,x3,x4,x5,x6,x7,x8,x9,x10⟩:=(HC4.out.on HN8.out).cells;obtain⟨y0,y1,y2,y3,y4,y5,y6,y7,y8,y9,y10⟩:=HCB8.out.cells;have HFIN:=Za (show Zu4 w0 w8 ib pb TP from⟨u,r,bs,false,HN4.out.then HN8.out,HI4.out.on HN8.out,HI0.out,HU4.out.on HN8.out,HR4.out.on HN8.out,HNO.out⟩);clear hn8 HCB7;go_wp2;go_ret;exact⟨rfl,HFIN.out⟩
 ·have HU4:=Za (HU3.out.on hn4)
  have HR4:=Za (HR3.out.on hn4);have hlong:¬160<s.size:=of_decide_eq_false hl
  have h1:=HER.out (by omega)
  clear hl;generalize (ZuW u 0 (tl s)).2=er at *;have hx':(er != 0)=true:=bne_iff_ne.2 hx;have h1':(er==1)=false:=beq_eq_false_iff_ne.2 h1;clear hx h1 HER;clear hn4 HYE;go_wp2_with fail
  refine(ZeL pb r u bs _ HU4.out HR4.out (HT0.out.on HN4.out) (fun _=>HWK.out.path)).mono ?_
  rintro e w5 ⟨ha,hn5⟩;obtain rfl:=HG.out e ha;have HN5:=Za (hn5.alloc (Obj.cells #[.string a0,.string a1,.string a2,.string a3,.string a4,.string a5,.string a6,.string a7,.string a8,.string a9,.string a10] 66));have HCB:=Za (show C11 (w5.alloc (Obj.cells #[.string a0,.string a1,.string a2,.string a3,.string a4,.string a5,.string a6,.string a7,.string a8,.string a9,.string a10] 66)) w5.heap.size (.string a0) (.string a1) (.string a2) (.string a3) (.string a4) (.string a5) (.string a6) (.string a7) (.string a8) (.string a9) (.string a10)from heap_alloc_new w5 _);clear ha hn5 i0;go_upto_region 5 with fail;generalize w5.alloc (Obj.cells #[.string a0,.string a1,.string a2,.string a3,.string a4,.string a5,.string a6,.string a7,.string a8,.string a9,.string a10] 66)=w6 at *;generalize w5.heap.size=bb at *;have i0:=(HI4.out.on HN5.out).cell;go_wp2_with fail
  refine(Zu0 pb r u bs _ (HU4.out.on HN5.out) (HR4.out.on HN5.out)).mono ?_
  rintro e w7 ⟨l7,qs,rfl,hl7,hm7,hn7⟩;obtain rfl:ps=qs:=Zed (HM.out.trans hm7.symm);have HN7:=Za (HN5.out.then hn7);have HPB:=Za (hl7.at hc);have HCB7:=Za (HCB.out.on hn7);obtain⟨ao7,cap7,hv7⟩:=hl7.slice;subst hv7;clear hl7 hm7 hn7 i0 HCB;go_wp2_with fail
  refine(ZbW _ _ ps ps _ (HPA4.out.on HN7.out) HPB.out).mono ?_
  rintro e w8 ⟨rfl,hn8⟩;rw[decide_eq_true (rfl:ps=ps)];have HN8:=Za (HN7.out.then hn8);have HCB8:=Za (HCB7.out.on hn8);obtain⟨x0,x1,x2,x3,x4,x5,x6,x7,x8,x9,x10⟩:=(HC4.out.on HN8.out).cells;obtain⟨y0,y1,y2,y3,y4,y5,y6,y7,y8,y9,y10⟩:=HCB8.out.cells;have HFIN:=Za (show Zu4 w0 w8 ib pb TP from⟨u,r,bs,false,HN4.out.then HN8.out,HI4.out.on HN8.out,HI0.out,HU4.out.on HN8.out,HR4.out.on HN8.out,HNO.out⟩);clear hn8 HCB7;go_wp2;go_ret
  exact⟨Zi (by simp;omega),HFIN.out⟩
 ·have hlong:¬160<s.size:=of_decide_eq_false hl
  obtain⟨hwk4,hP4,hps4⟩:=HYE.out (by omega) hx
  have HPS4:=Za hps4;have HU4:=Za hu4;have HR4:=Za hr4;have HWK4:=Za hwk4;have HP4:=Za hP4;have HLQ4:=Za (Zxb hr4)
  have hds':ds.length≤30001:=by
   have h1:=ZxX hwk4 hwk4.path
   have h2:(ZuW u 0 (tl s)).1.segs.length=ds.length:=by rw[←hr4.segs,List.length_map]
   omega
  clear hl hu4 hr4 hwk4 hps4 hP4 HYE HER hds;generalize (ZuW u 0 (tl s)).1=v at *;clear hx;go_wp2_with fail
  refine(ZeL pb r4 v ds _ HU4.out HR4.out (HT0.out.on HN4.out) (fun _=>HWK4.out.path)).mono ?_
  rintro e w5 ⟨⟨b0,b1,b2,b3,b4,b5,b6,b7,b8,b9,b10,rfl,k0,k1,k2,k3,k4,k5,k6,k7,k8,k9,k10,sb5,sb8⟩,hn5⟩
  have HGB:Hid (∀e,ZmF e v→e=.returned (.agg #[.string b0,.string b1,.string b2,.string b3,.string b4,.string b5,.string b6,.string b7,.string b8,.string b9,.string b10])):=Za (fun e he=>Zws he k0 k1 k2 k3 k4 k5 k6 k7 k8 k9 k10)
  have hGB:Zya v b0 b1 b2 b3 b4 b5 b6 b7 b8 b9 b10:=⟨k0,k1,k2,k3,k4,k5,k6,k7,k8,k9,k10⟩
  have hb0:b0.size≤maxLen:=by
   have h:=ZvG v;rw[←k0,←k5,←k8,tl_length,tl_length,tl_length]at h;obtain⟨z1,z2,z3,z4,z5⟩:=HR4.out.five;unfold maxLen
   omega
  have HN5:=Za (hn5.alloc (Obj.cells #[.string b0,.string b1,.string b2,.string b3,.string b4,.string b5,.string b6,.string b7,.string b8,.string b9,.string b10] 66));have HCB:=Za (show C11 (w5.alloc (Obj.cells #[.string b0,.string b1,.string b2,.string b3,.string b4,.string b5,.string b6,.string b7,.string b8,.string b9,.string b10] 66)) w5.heap.size (.string b0) (.string b1) (.string b2) (.string b3) (.string b4) (.string b5) (.string b6) (.string b7) (.string b8) (.string b9) (.string b10)from heap_alloc_new w5 _);clear hn5 i0 k0 k1 k2 k3 k4 k5 k6 k7 k8 k9 k10 sb5 sb8 HG hGB hb0;go_upto_region 5 with fail;generalize w5.alloc (Obj.cells #[.string b0,.string b1,.string b2,.string b3,.string b4,.string b5,.string b6,.string b7,.string b8,.string b9,.string b10] 66)=w6 at *;generalize w5.heap.size=bb at *;have i0:=(HI4.out.on HN5.out).cell;go_wp2_with fail
  refine(Zu0 pb r4 v ds _ (HU4.out.on HN5.out) (HR4.out.on HN5.out)).mono ?_
  rintro e w7 ⟨l7,qs,rfl,hl7,hm7,hn7⟩;have hcq:=ZuZ hm7 HLQ4.out;have HN7:=Za (HN5.out.then hn7);have HPB:=Za (hl7.at hcq);have HCB7:=Za (HCB.out.on hn7);obtain⟨ao7,cap7,hv7⟩:=hl7.slice;subst hv7;clear hl7 hm7 hn7 i0 HCB;go_wp2_with fail
  refine(ZbW _ _ ps qs _ (HPA4.out.on HN7.out) HPB.out).mono ?_
  rintro e w8 ⟨rfl,hn8⟩;generalize decide (ps=qs)=sm at *;have HN8:=Za (HN7.out.then hn8);have HCB8:=Za (HCB7.out.on hn8);have HCA8:=Za (HC4.out.on HN8.out);have HI8:=Za (HI4.out.on HN8.out);have HU8:=Za (HU4.out.on HN8.out);have HR8:=Za (HR4.out.on HN8.out);have HN08:=Za (HN4.out.then HN8.out);clear hn8 HCB7 HN7 HN5 HPB HU4 HR4 HI4 HC4 HPA4;obtain⟨x0,x1,x2,x3,x4,x5,x6,x7,x8,x9,x10⟩:=HCA8.out.cells;obtain⟨y0,y1,y2,y3,y4,y5,y6,y7,y8,y9,y10⟩:=HCB8.out.cells;have i1:=HI8.out.cell;have f1:=HI8.out.free 1;have c1:=HI8.out.cell1;have hlt:=HI8.out.lt;clear x0 x1 x2 x3 x4 x5 x6 x7 x8 x9 x10 y0 y1 y2 y3 y4 y5 y6 y7 y8 y9 y10;have HI9:=Za (HI8.out.set false);have HB9:=Za (show But ib w8 (w8.setCell ⟨ib,1,none⟩ (.bool false))from(But.refl _ _).set 1 _);go_upto_region 11 with fail;generalize w8.setCell ⟨ib,1,none⟩ (.bool false)=w9 at *;have HCB9:=Za (HCB8.out.butI HI8.out HB9.out);have HU9:=Za (HU8.out.butI HI8.out HB9.out);have HR9:=Za (HR8.out.ks (HB9.out.ksI HI8.out));have HN9:=Za (show Nx w0 w9 from HN08.out.trans (HB9.out.below HI0.out HN08.out.size));clear HI8 HCA8 HCB8 HU8 HR8 HN08 HN8 i1 f1 c1 hlt HB9;go_wp2_with fail
  refine(HPS4.out _ (HT0.out.on HN9.out)).mono ?_
  rintro e w10 ⟨hp,hn10⟩;rcases hp with⟨he,-⟩|⟨-,yb,ry,ys,rfl,hyu,hyr⟩
  ·exact absurd rfl he
  ·have HYU:=Za hyu
   replace hyr:RcIs w10 ry v ys:=hyr
   have HYR:=Za hyr;have HN10:=Za hn10;clear hyu hyr hn10;go_wp2_with fail
   refine(ZeL yb ry v ys _ HYU.out HYR.out (HT0.out.on (HN9.out.then HN10.out)) (fun _=>HWK4.out.path)).mono ?_
   rintro e w11 ⟨ha,hn11⟩;obtain rfl:=HGB.out e ha;have HN11:=Za (HN10.out.then (hn11.alloc (Obj.cells #[.string b0,.string b1,.string b2,.string b3,.string b4,.string b5,.string b6,.string b7,.string b8,.string b9,.string b10] 66)));have HCC:=Za (show C11 (w11.alloc (Obj.cells #[.string b0,.string b1,.string b2,.string b3,.string b4,.string b5,.string b6,.string b7,.string b8,.string b9,.string b10] 66)) w11.heap.size (.string b0) (.string b1) (.string b2) (.string b3) (.string b4) (.string b5) (.string b6) (.string b7) (.string b8) (.string b9) (.string b10)from heap_alloc_new w11 _);clear ha hn11 HYU HYR;go_upto_region 15 with fail;generalize w11.alloc (Obj.cells #[.string b0,.string b1,.string b2,.string b3,.string b4,.string b5,.string b6,.string b7,.string b8,.string b9,.string b10] 66)=w12 at *;generalize w11.heap.size=cb at *;obtain⟨y0,y1,y2,y3,y4,y5,y6,y7,y8,y9,y10⟩:=(HCB9.out.on HN11.out).cells;obtain⟨z0,z1,z2,z3,z4,z5,z6,z7,z8,z9,z10⟩:=HCC.out.cells;have HFIN:=Za (show Zu4 w0 w12 ib pb TP from⟨v,r4,ds,false,HN9.out.then HN11.out,HI9.out.on HN11.out,HI0.out,HU9.out.on HN11.out,HR9.out.on HN11.out,HP4.out⟩);go_wp2;go_ret;exact⟨rfl,HFIN.out⟩
theorem ZBb(k:Nat)(hk:k<10)(ib pb:Nat)(r:Rc)(u:U)(bs:LA)(s:BA)(w0 w:World)(h00:Nx w0 w)(hp0:w0.heap.size≤pb)(hi0:w0.heap.size≤ib)(hi:ItemM w ib pb false)(hu:UrlB w pb r)(hr:RcIs w r u bs)(ht0:Tb w0)(hst:St u)(hwk:Wk u)(hbl:bs.length≤9000)(hs:s.size≤65536):Calls Tryz.prog 12 #[.pointer (some ⟨ib,0,none⟩),.int .i64 (k:Int),.string s] w fun e w'=>e=.returned (.bool true)∧Zu4 w0 w' ib pb TP:=by
 match k,hk with
 | 0,_=>exact ZAj ib pb r u bs s w0 w h00 hp0 hi0 hi hu hr ht0 hst hwk hbl hs
 | 1,_=>exact Zz8 ib pb r u bs s w0 w h00 hp0 hi0 hi hu hr ht0 hst hwk hbl hs
 | 2,_=>exact Zz9 ib pb r u bs s w0 w h00 hp0 hi0 hi hu hr ht0 hst hwk hbl hs
 | 3,_=>exact ZAa ib pb r u bs s w0 w h00 hp0 hi0 hi hu hr ht0 hst hwk hbl hs
 | 4,_=>exact ZAb ib pb r u bs s w0 w h00 hp0 hi0 hi hu hr ht0 hst hwk hbl hs
 | 5,_=>exact ZAc ib pb r u bs s w0 w h00 hp0 hi0 hi hu hr ht0 hst hwk hbl hs
 | 6,_=>exact ZAd ib pb r u bs s w0 w h00 hp0 hi0 hi hu hr ht0 hst hwk hbl hs
 | 7,_=>exact ZAe ib pb r u bs s w0 w h00 hp0 hi0 hi hu hr ht0 hst hwk hbl hs
 | 8,_=>exact ZAf ib pb r u bs s w0 w h00 hp0 hi0 hi hu hr ht0 hst hwk hbl hs
 | 9,_=>exact ZAg ib pb r u bs s w0 w h00 hp0 hi0 hi hu hr ht0 hst hwk hbl hs
def ZvL(a:Int):Nat:=((if a<0 then -(a+1)else a)%10).toNat
theorem ZAk(a:Int):ZvL a<10:=by unfold ZvL;omega
theorem Zy6(a:Int)(h0:-9223372036854775808≤a)(h1:a≤9223372036854775807)(w:World):Calls Tryz.prog 13 #[.int .i64 a,.int .i64 10] w fun e w'=>e=.returned (.int .i64 (ZvL a:Nat))∧w=w':=by
 by_cases hn:a<0
 ·have HE:=Za (show((ZvL a:Nat):Int)=-(a+1)%10 by unfold ZvL;rw[if_pos hn];omega)
  have hmv:Int.tmod (-(a+1)) 10=-(a+1)%10:=Xa (by omega)
  have HM:=Za hmv;clear hmv
  go_enter Tryz.func13,Tryz.ntmps13
  go_wp2;go_ret
  exact⟨Zai (by rw[HE.out];first|done|rfl|exact HM.out|(rw[←HM.out,Int.neg_tmod])),rfl⟩
 ·have HE:=Za (show((ZvL a:Nat):Int)=a%10 by unfold ZvL;rw[if_neg hn];omega)
  have HM:=Za (show Int.tmod a 10=a%10 from Xa (by omega))
  go_enter Tryz.func13,Tryz.ntmps13
  go_wp2;go_ret
  exact⟨Zai (by rw[HE.out];first|done|rfl|exact HM.out|omega),rfl⟩
theorem Zy7(s:BA)(k:Int)(v:BA)(w:World)(hs:s.size≤maxLen)(hk:-9223372036854775808≤k∧k≤9223372036854775807)(hv:v.size≤maxLen)(ht:Tb w):Calls Tryz.prog 5 #[.string s,.int .i64 k,.string v] w fun e w'=>e=.returned (.bool true)∧Nx w w':=by
 have HTB:=Za ht;have HAS:=Za (ZAT s w hs ht);have HSU:=Za (Zqz (tl s) [] false);have HLU:=Za (ZqJ (tl s) [] false);have HQU:=Za (ZqM (tl s) [] false).q;unfold maxLen at hv;clear ht hs;generalize Zat (tl s) [] false=x at *
 by_cases h1:65536<v.size
 ·go_enter Tryz.func5,Tryz.ntmps5
  go_wp2;go_ret;exact⟨rfl,Nx.rfl⟩
 go_enter Tryz.func5,Tryz.ntmps5
 go_wp2_with fail
 refine HAS.out.mono ?_
 rintro e w1 ⟨hp,hn1⟩;have HN:=Za hn1;clear hn1 HAS;rcases hp with rfl|⟨hx0,ib,pb,r,bs,rfl,hi,hu,hr,hnew,hnewi⟩
 ·go_wp2
  go_ret;exact⟨rfl,HN.out⟩
 ·have hst:=HSU.out hx0
  have hwk:Wk x.1:=St'.wk hst.st (Nat.le_trans HLU.out (by decide)) (Nat.le_trans HQU.out (by decide))
  have hbl:bs.length≤9000:=by
   have h1:=ZxX hwk hwk.path
   have h2:x.1.segs.length=bs.length:=by rw[←hr.segs,List.length_map]
   omega
  have HSE:=Za (ZBb (ZvL k) (ZAk k) ib pb r x.1 bs v w w1 HN.out hnew hnewi hi hu hr HTB.out hst hwk hbl (by omega))
  clear hi hu hr hx0 hnew hnewi HSU hst hwk hbl;go_wp2_with fail
  refine(Zy6 k hk.1 hk.2 _).mono ?_
  rintro e w' ⟨rfl,rfl⟩;generalize ((ZvL k:Nat):Int)=kd at *;go_wp2_with fail
  refine HSE.out.mono ?_
  rintro e w4 ⟨rfl,hb4⟩;obtain⟨v4,r4,ds,md,hn4,hi4,-,hu4,hr4,hw4,ht4,hm4⟩:=hb4;have HN4:=Za hn4;have HI4:=Za hi4;have HU4:=Za hu4;have HR4:=Za hr4;have HW4:=Za hw4
  have HFI:Hid (∀w',Nx w4 w'→Calls Tryz.prog 14 #[.pointer (some ⟨pb,0,none⟩)] w' fun e w''=>e=.returned (.bool true)∧Nx w' w''):=Za (fun w' hz=>by
   cases md
   ·exact ZyJ pb r4 v4 ds _ (hu4.on hz) (hr4.on hz) (HTB.out.on (hn4.then hz)) (ht4 rfl) hw4.path
   ·exact Zy5 pb r4 v4 ds _ (hu4.on hz) (hr4.on hz) (HTB.out.on (hn4.then hz)) (hm4 rfl) hw4.path)
  have HAG:Hid (∀w',Nx w4 w'→Calls Tryz.prog 15 #[.pointer (some ⟨ib,0,none⟩),.pointer (some ⟨ib,0,none⟩)] w' fun e w''=>e=.returned (.bool true)∧Nx w' w''):=Za (fun w' hz=>by
   cases md
   ·exact ZAi ib ib pb pb r4 r4 v4 v4 ds ds _ (hi4.on hz) (hi4.on hz) (hu4.on hz) (hu4.on hz) (hr4.on hz) (hr4.on hz) (HTB.out.on (hn4.then hz)) (ht4 rfl) (ht4 rfl) hw4.path hw4.path
   ·exact Zy4 ib pb r4 v4 ds _ (hi4.on hz) (hu4.on hz) (hr4.on hz) (HTB.out.on (hn4.then hz)) (hm4 rfl) hw4.path)
  clear hn4 hu4 hr4 hw4 ht4 hm4;have i0:=hi4.cell;clear hi4;go_wp2_with fail
  refine(HFI.out _ Nx.rfl).mono ?_
  rintro e w5 ⟨rfl,hn5⟩;have HN5:=Za hn5;clear hn5;go_wp2_with fail
  refine(HAG.out _ HN5.out).mono ?_
  rintro e w6 ⟨rfl,hn6⟩;have HN6:=Za ((HN4.out.then HN5.out).then hn6);clear hn6;go_wp2;go_ret;exact⟨rfl,HN6.out⟩
end Go.Proofs.YtchkhibgbnhjpabGreatDoor
