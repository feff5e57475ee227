import Derived.Test.YtchkhibgbnhjpabGreatDoorT12
import Derived.Test.YtchkhibgbnhjpabGreatDoorT19
import Derived.Test.YtchkhibgbnhjpabGreatDoorT20
open Array renaming getElem?_eq_some_iff→Xa
open List renaming append_cancel_right→Xb
namespace Go.Proofs.YtchkhibgbnhjpabGreatDoor
open Go.RowKit
set_option maxHeartbeats 32000000
set_option maxRecDepth 8000
def ItemM(w:World)(b pb:Nat)(m:Bool):Prop:=w.heap[b]?=some (Obj.cells #[.pointer (some ⟨pb,0,none⟩),.bool m] 32 (0,0))
theorem ItemM.on{w w':World}{b pb:Nat}{m:Bool}(h:ItemM w b pb m)(hb:Nx w w'):ItemM w' b pb m:=(hb.block b (Xa.1 h).1).trans h
theorem ItemM.cell{w:World}{b pb:Nat}{m:Bool}(h:ItemM w b pb m):w.cell? ⟨b,0,none⟩=some (.pointer (some ⟨pb,0,none⟩)):=by unfold ItemM at h;simp[World.cell?,h]
theorem ItemM.cell1{w:World}{b pb:Nat}{m:Bool}(h:ItemM w b pb m):w.cell? ⟨b,1,none⟩=some (.bool m):=by unfold ItemM at h;simp[World.cell?,h]
theorem ItemM.free{w:World}{b pb:Nat}{m:Bool}(h:ItemM w b pb m)(i:Nat):w.frozen? ⟨b,i,none⟩=false:=by unfold ItemM at h;simp[World.frozen?,h]
theorem ItemM.lt{w:World}{b pb:Nat}{m:Bool}(h:ItemM w b pb m):b<w.heap.size:=(Xa.1 h).1
theorem ItemM.but{w w':World}{b pb qb:Nat}{m:Bool}{r:Rc}(h:ItemM w b qb m)(hu:UrlB w pb r)(hb:But pb w w'):ItemM w' b qb m:=by
 refine(hb.block b (Xa.1 h).1 fun e=>?_).trans h
 subst e;unfold ItemM at h;unfold UrlB at hu;rw[h]at hu;simp only[Option.some.injEq,Obj.cells.injEq]at hu
 exact absurd hu.2.1 (by decide)
theorem ItemM.set{w:World}{b pb:Nat}{m:Bool}(h:ItemM w b pb m)(x:Bool):ItemM (w.setCell ⟨b,1,none⟩ (.bool x)) b pb x:=by
 unfold ItemM at *;simp only[World.setCell,Array.getElem?_modify,if_pos,h]
 rfl
theorem Zx9{w:World}{b pb qb:Nat}{m:Bool}{r:Rc}(h:ItemM w b qb m)(hu:UrlB w pb r):b≠pb:=by
 rintro rfl;unfold ItemM at h;unfold UrlB at hu;rw[h]at hu;simp only[Option.some.injEq,Obj.cells.injEq]at hu
 exact absurd hu.2.1 (by decide)
theorem Zwy{w:World}{b pb cb:Nat}{m:Bool}{v0 v1 v2 v3 v4 v5 v6 v7 v8 v9 v10:Value}(h:ItemM w b pb m)(hu:C11 w cb v0 v1 v2 v3 v4 v5 v6 v7 v8 v9 v10):b≠cb:=by
 rintro rfl;unfold ItemM at h;unfold C11 at hu;rw[h]at hu;simp only[Option.some.injEq,Obj.cells.injEq]at hu
 exact absurd hu.2.1 (by decide)
theorem But.ksI{w w':World}{ib qb:Nat}{m:Bool}(hb:But ib w w')(h:ItemM w ib qb m):Ks w w':=fun k cs fz hk=>by
 refine(hb.block k (Xa.1 hk).1 fun e=>?_).trans hk
 subst e;unfold ItemM at h;rw[hk]at h;simp only[Option.some.injEq,Obj.cells.injEq]at h
 exact absurd h.2.1 (by decide)
theorem C11.butI{w w':World}{b ib qb:Nat}{m:Bool}{v0 v1 v2 v3 v4 v5 v6 v7 v8 v9 v10:Value}(h:C11 w b v0 v1 v2 v3 v4 v5 v6 v7 v8 v9 v10)(hi:ItemM w ib qb m)(hb:But ib w w'):C11 w' b v0 v1 v2 v3 v4 v5 v6 v7 v8 v9 v10:=(hb.block b (Xa.1 h).1 (Ne.symm (Zwy hi h))).trans h
theorem UrlB.butI{w w':World}{pb ib qb:Nat}{m:Bool}{r:Rc}(h:UrlB w pb r)(hi:ItemM w ib qb m)(hb:But ib w w'):UrlB w' pb r:=(hb.block pb (Xa.1 h).1 (Ne.symm (Zx9 hi h))).trans h
theorem ZyX{w:World}{pb cb:Nat}{r:Rc}{v0 v1 v2 v3 v4 v5 v6 v7 v8 v9 v10:Value}(h:UrlB w pb r)(hu:C11 w cb v0 v1 v2 v3 v4 v5 v6 v7 v8 v9 v10):pb≠cb:=by
 rintro rfl;unfold UrlB at h;unfold C11 at hu;rw[h]at hu;simp only[Option.some.injEq,Obj.cells.injEq]at hu
 exact absurd hu.2.1 (by decide)
theorem But.ksC{w w':World}{cb:Nat}{v0 v1 v2 v3 v4 v5 v6 v7 v8 v9 v10:Value}(hb:But cb w w')(h:C11 w cb v0 v1 v2 v3 v4 v5 v6 v7 v8 v9 v10):Ks w w':=fun k cs fz hk=>by
 refine(hb.block k (Xa.1 hk).1 fun e=>?_).trans hk
 subst e;unfold C11 at h;rw[hk]at h;simp only[Option.some.injEq,Obj.cells.injEq]at h
 exact absurd h.2.1 (by decide)
theorem ZzY(w:World)(b:Nat)(x0 x1 x2 x3 x4 x5 x6 x7 x8 x9 x10:Value):But b w (((((((((((w.setCell ⟨b,0,none⟩ x0).setCell ⟨b,1,none⟩ x1).setCell ⟨b,2,none⟩ x2).setCell ⟨b,3,none⟩ x3).setCell ⟨b,4,none⟩ x4).setCell ⟨b,5,none⟩ x5).setCell ⟨b,6,none⟩ x6).setCell ⟨b,7,none⟩ x7).setCell ⟨b,8,none⟩ x8).setCell ⟨b,9,none⟩ x9).setCell ⟨b,10,none⟩ x10):=(((((((((((But.refl b w).set 0 _).set 1 _).set 2 _).set 3 _).set 4 _).set 5 _).set 6 _).set 7 _).set 8 _).set 9 _).set 10 _
def Zu4(w0 w':World)(ib pb:Nat)(P:U→Bool→Prop):Prop:=∃v r ds m,Nx w0 w'∧ItemM w' ib pb m∧w0.heap.size≤ib∧UrlB w' pb r∧RcIs w' r v ds∧P v m
abbrev Zya(v:U)(b0 b1 b2 b3 b4 b5 b6 b7 b8 b9 b10:ByteArray):Prop:=tl b0=Zdg v∧tl b1=ZZ v∧tl b2=Zad v∧tl b3=v.nam∧tl b4=v.pw∧tl b5=Zl v∧tl b6=v.host∧tl b7=ZC v∧tl b8=pathU v∧tl b9=Z4 v∧tl b10=ZbX v
theorem Zvh(k:Int)(ib pb:Nat)(r:Rc)(u:U)(bs:LA)(s:BA)(w0 w:World)(P:U→Bool→Prop)(h00:Nx w0 w)(hp0:w0.heap.size≤pb)(hi0:w0.heap.size≤ib)(hi:ItemM w ib pb false)(hu:UrlB w pb r)(hr:RcIs w r u bs)(ht0:Tb w0)(hwk:Wk u)(hbl:bs.length≤9000)(hs:s.size≤65536)(hk0:(k==0)=false)
  (hput:∀(v:U) (r:Rc) (bs:LA) (w:World),UrlB w pb r→RcIs w r v bs→Tb w→bs.length≤30001→Calls Tryz.prog 32 #[.pointer (some ⟨pb,0,none⟩),.int .i64 k,.string s] w fun e w'=>ZuV e w w' pb (decide (160<s.size)) (ZuW v k (tl s)))
  (hno:P u false) (herr:s.size≤160→(ZuW u k (tl s)).2≠1)
  (hyes:s.size≤160→(ZuW u k (tl s)).2=0→Wk (ZuW u k (tl s)).1∧ZuW (ZuW u k (tl s)).1 k (tl s)=((ZuW u k (tl s)).1,0)∧(k≠8→(ZuW u k (tl s)).1.q=u.q)∧P (ZuW u k (tl s)).1 (decide (¬u.sch=(ZuW u k (tl s)).1.sch∧(ZuW u k (tl s)).1.sch=Zw)))
  (hwith:∀a0 a1 a2 a3 a4 a5 a6 a7 a8 a9 a10 b0 b1 b2 b3 b4 b5 b6 b7 b8 b9 b10:BA,s.size≤160→(ZuW u k (tl s)).2=0→Zya u a0 a1 a2 a3 a4 a5 a6 a7 a8 a9 a10→Zya (ZuW u k (tl s)).1 b0 b1 b2 b3 b4 b5 b6 b7 b8 b9 b10→a8.size≤200000000000→∀w',Calls Tryz.prog 34 #[.agg #[.string a0,.string a1,.string a2,.string a3,.string a4,.string a5,.string a6,.string a7,.string a8,.string a9,.string a10],.agg #[.string b0,.string b1,.string b2,.string b3,.string b4,.string b5,.string b6,.string b7,.string b8,.string b9,.string b10],.int .i64 k] w' fun e w''=>e=.returned (.agg #[.string b0,.string b1,.string b2,.string b3,.string b4,.string b5,.string b6,.string b7,.string b8,.string b9,.string b10])∧Nx w' w'')
  (hname:∀a0 a1 a2 a3 a4 a5 a6 a7 a8 a9 a10 b0 b1 b2 b3 b4 b5 b6 b7 b8 b9 b10:BA,s.size≤160→(ZuW u k (tl s)).2=0→Zya u a0 a1 a2 a3 a4 a5 a6 a7 a8 a9 a10→Zya (ZuW u k (tl s)).1 b0 b1 b2 b3 b4 b5 b6 b7 b8 b9 b10→a0.size≤maxLen→b0.size≤maxLen→a2.size≤1000001→a8.size≤200000000000→∀w',Calls Tryz.prog 35 #[.agg #[.string a0,.string a1,.string a2,.string a3,.string a4,.string a5,.string a6,.string a7,.string a8,.string a9,.string a10],.agg #[.string b0,.string b1,.string b2,.string b3,.string b4,.string b5,.string b6,.string b7,.string b8,.string b9,.string b10],.int .i64 k,.string s] w' fun e w''=>e=.returned (.bool true)∧Nx w' w''):
  Calls Tryz.prog 12 #[.pointer (some ⟨ib,0,none⟩),.int .i64 k,.string s] w fun e w'=>e=.returned (.bool true)∧Zu4 w0 w' ib pb P:=by
 have HT0:=Za ht0;have H00:=Za h00;have HP0:=Za hp0;have HI0:=Za hi0;have HI:=Za hi;have HU:=Za hu;have HR:=Za hr;have HWK:=Za hwk;have HLQ:=Za (Zxb hr);have HPU:=Za hput;have HNO:=Za hno;have HER:=Za herr;have HYE:=Za hyes;have HWI:=Za hwith;have HNM:=Za hname;have i0:=hi.cell;clear h00 hp0 hi0 hi hu hr ht0 hwk hput hno herr hyes hwith hname
 go_enter Tryz.func12,Tryz.ntmps12
 go_wp2_with fail
 refine(ZeL pb r u bs _ HU.out HR.out (HT0.out.on H00.out) (fun _=>HWK.out.path)).mono ?_
 rintro e w2 ⟨⟨a0,a1,a2,a3,a4,a5,a6,a7,a8,a9,a10,rfl,g0,g1,g2,g3,g4,g5,g6,g7,g8,g9,g10,s5,s8⟩,hn2⟩
 have HG:Hid (∀e,ZmF e u→e=.returned (.agg #[.string a0,.string a1,.string a2,.string a3,.string a4,.string a5,.string a6,.string a7,.string a8,.string a9,.string a10])):=Za (fun e he=>Zws he g0 g1 g2 g3 g4 g5 g6 g7 g8 g9 g10)
 have HGA:=Za (show Zya u a0 a1 a2 a3 a4 a5 a6 a7 a8 a9 a10 from⟨g0,g1,g2,g3,g4,g5,g6,g7,g8,g9,g10⟩)
 have ha0:a0.size≤maxLen:=by
  have h:=ZvG u;rw[←g0,←g5,←g8,tl_length,tl_length,tl_length]at h;obtain⟨z1,z2,z3,z4,z5⟩:=HR.out.five;unfold maxLen
  omega
 have ha2:a2.size≤1000001:=by
  have h:(tl a2).length=(Zad u).length:=by rw[g2]
  obtain⟨z1,z2,z3,z4,z5⟩:=HR.out.five;rw[tl_length]at h;unfold Zad at h;rw[List.length_append]at h
  simp at h
  omega
 have HAZ:=Za ha0;have HA2:=Za ha2;have HC:=Za (show C11 (w2.alloc (Obj.cells #[.string a0,.string a1,.string a2,.string a3,.string a4,.string a5,.string a6,.string a7,.string a8,.string a9,.string a10] 66)) w2.heap.size (.string a0) (.string a1) (.string a2) (.string a3) (.string a4) (.string a5) (.string a6) (.string a7) (.string a8) (.string a9) (.string a10)from heap_alloc_new w2 _);have HN2:=Za (hn2.alloc (Obj.cells #[.string a0,.string a1,.string a2,.string a3,.string a4,.string a5,.string a6,.string a7,.string a8,.string a9,.string a10] 66));clear g0 g1 g2 g3 g4 g5 g6 g7 g8 g9 g10 hn2 i0 ha0 ha2;go_upto_region 2 with fail;generalize w2.alloc (Obj.cells #[.string a0,.string a1,.string a2,.string a3,.string a4,.string a5,.string a6,.string a7,.string a8,.string a9,.string a10] 66)=wA at *;generalize w2.heap.size=ab at *;have i0:=(HI.out.on HN2.out).cell;go_wp2_with fail
 refine(Zu0 pb r u bs _ (HU.out.on HN2.out) (HR.out.on HN2.out)).mono ?_
 rintro e w3 ⟨l,ps,rfl,hl3,hm3,hn3⟩;have hc:=ZuZ hm3 HLQ.out;have HPA:=Za (hl3.at hc);have HM:=Za hm3;have HN3:=Za (HN2.out.then hn3);have HC3:=Za (HC.out.on hn3);obtain⟨ao,cap,hve⟩:=hl3.slice;subst hve;clear hl3 hm3 hn3 HC i0;have i0:=(HI.out.on HN3.out).cell;have HU3:=Za (HU.out.on HN3.out);have HR3:=Za (HR.out.on HN3.out);go_wp2_with fail
 refine(HPU.out u r bs _ HU3.out HR3.out (HT0.out.on (H00.out.then HN3.out)) (by omega)).mono ?_
 rintro e w4 hS
 have hbut:But pb w3 w4:=by rcases hS with⟨-,-,h⟩|⟨-,-,-,h⟩|⟨-,-,-,-,h⟩;exact But.nx h;exact But.nx h;exact h
 have HI4:=Za ((HI.out.on HN3.out).but HU3.out hbut);have HC4:=Za (HC3.out.but HU3.out hbut)
 have HPA4:=Za (HPA.out.kp (hbut.kpL HU3.out) (by decide))
 have HN4:=Za (show Nx w0 w4 from(H00.out.then HN3.out).trans (hbut.below HP0.out (H00.out.then HN3.out).size));clear hbut i0 HC3 HPA;have i0:=HI4.out.cell;rcases hS with⟨hl,rfl,hn4⟩|⟨hl,hx,rfl,hn4⟩|⟨hl,hx,rfl,⟨r4,ds,hu4,hr4,hds⟩,-⟩
 ·have HU4:=Za (HU3.out.on hn4)
  have HR4:=Za (HR3.out.on hn4);have hlong:160<s.size:=of_decide_eq_true hl;clear hl;clear hn4 HYE HWI HNM;go_wp2_with fail
  refine(ZeL pb r u bs _ HU4.out HR4.out (HT0.out.on HN4.out) (fun _=>HWK.out.path)).mono ?_
  rintro e w5 ⟨ha,hn5⟩;obtain rfl:=HG.out e ha;have HN5:=Za (hn5.alloc (Obj.cells #[.string a0,.string a1,.string a2,.string a3,.string a4,.string a5,.string a6,.string a7,.string a8,.string a9,.string a10] 66));have HCB:=Za (show C11 (w5.alloc (Obj.cells #[.string a0,.string a1,.string a2,.string a3,.string a4,.string a5,.string a6,.string a7,.string a8,.string a9,.string a10] 66)) w5.heap.size (.string a0) (.string a1) (.string a2) (.string a3) (.string a4) (.string a5) (.string a6) (.string a7) (.string a8) (.string a9) (.string a10)from heap_alloc_new w5 _);clear ha hn5 i0;go_upto_region 5 with fail;generalize w5.alloc (Obj.cells #[.string a0,.string a1,.string a2,.string a3,.string a4,.string a5,.string a6,.string a7,.string a8,.string a9,.string a10] 66)=w6 at *;generalize w5.heap.size=bb at *;have i0:=(HI4.out.on HN5.out).cell;go_wp2_with fail
  refine(Zu0 pb r u bs _ (HU4.out.on HN5.out) (HR4.out.on HN5.out)).mono ?_
  rintro e w7 ⟨l7,qs,rfl,hl7,hm7,hn7⟩;obtain rfl:ps=qs:=Zed (HM.out.trans hm7.symm);have HN7:=Za (HN5.out.then hn7);have HPB:=Za (hl7.at hc);have HCB7:=Za (HCB.out.on hn7);obtain⟨ao7,cap7,hv7⟩:=hl7.slice;subst hv7;clear hl7 hm7 hn7 i0 HCB;go_wp2_with fail
  refine(ZbW _ _ ps ps _ (HPA4.out.on HN7.out) HPB.out).mono ?_
  rintro e w8 ⟨rfl,hn8⟩;rw[decide_eq_true (rfl:ps=ps)];have HN8:=Za (HN7.out.then hn8);have HCB8:=Za (HCB7.out.on hn8);obtain⟨x0,x1,x2,x3,x4,x5,x6,x7,x8,x9,x10⟩:=(HC4.out.on HN8.out).cells;obtain⟨y0,y1,y2,y3,y4,y5,y6,y7,y8,y9,y10⟩:=HCB8.out.cells;have HFIN:=Za (show Zu4 w0 w8 ib pb P from⟨u,r,bs,false,HN4.out.then HN8.out,HI4.out.on HN8.out,HI0.out,HU4.out.on HN8.out,HR4.out.on HN8.out,HNO.out⟩);clear hn8 HCB7;go_wp2;go_ret;exact⟨rfl,HFIN.out⟩
 ·have HU4:=Za (HU3.out.on hn4)
  have HR4:=Za (HR3.out.on hn4);have hlong:¬160<s.size:=of_decide_eq_false hl
  have h1:=HER.out (by omega)
  clear hl;generalize (ZuW u k (tl s)).2=er at *;have hx':(er != 0)=true:=bne_iff_ne.2 hx;have h1':(er==1)=false:=beq_eq_false_iff_ne.2 h1;clear hx h1 HER;clear hn4 HYE HWI HNM;go_wp2_with fail
  refine(ZeL pb r u bs _ HU4.out HR4.out (HT0.out.on HN4.out) (fun _=>HWK.out.path)).mono ?_
  rintro e w5 ⟨ha,hn5⟩;obtain rfl:=HG.out e ha;have HN5:=Za (hn5.alloc (Obj.cells #[.string a0,.string a1,.string a2,.string a3,.string a4,.string a5,.string a6,.string a7,.string a8,.string a9,.string a10] 66));have HCB:=Za (show C11 (w5.alloc (Obj.cells #[.string a0,.string a1,.string a2,.string a3,.string a4,.string a5,.string a6,.string a7,.string a8,.string a9,.string a10] 66)) w5.heap.size (.string a0) (.string a1) (.string a2) (.string a3) (.string a4) (.string a5) (.string a6) (.string a7) (.string a8) (.string a9) (.string a10)from heap_alloc_new w5 _);clear ha hn5 i0;go_upto_region 5 with fail;generalize w5.alloc (Obj.cells #[.string a0,.string a1,.string a2,.string a3,.string a4,.string a5,.string a6,.string a7,.string a8,.string a9,.string a10] 66)=w6 at *;generalize w5.heap.size=bb at *;have i0:=(HI4.out.on HN5.out).cell;go_wp2_with fail
  refine(Zu0 pb r u bs _ (HU4.out.on HN5.out) (HR4.out.on HN5.out)).mono ?_
  rintro e w7 ⟨l7,qs,rfl,hl7,hm7,hn7⟩;obtain rfl:ps=qs:=Zed (HM.out.trans hm7.symm);have HN7:=Za (HN5.out.then hn7);have HPB:=Za (hl7.at hc);have HCB7:=Za (HCB.out.on hn7);obtain⟨ao7,cap7,hv7⟩:=hl7.slice;subst hv7;clear hl7 hm7 hn7 i0 HCB;go_wp2_with fail
  refine(ZbW _ _ ps ps _ (HPA4.out.on HN7.out) HPB.out).mono ?_
  rintro e w8 ⟨rfl,hn8⟩;rw[decide_eq_true (rfl:ps=ps)];have HN8:=Za (HN7.out.then hn8);have HCB8:=Za (HCB7.out.on hn8);obtain⟨x0,x1,x2,x3,x4,x5,x6,x7,x8,x9,x10⟩:=(HC4.out.on HN8.out).cells;obtain⟨y0,y1,y2,y3,y4,y5,y6,y7,y8,y9,y10⟩:=HCB8.out.cells;have HFIN:=Za (show Zu4 w0 w8 ib pb P from⟨u,r,bs,false,HN4.out.then HN8.out,HI4.out.on HN8.out,HI0.out,HU4.out.on HN8.out,HR4.out.on HN8.out,HNO.out⟩);clear hn8 HCB7;go_wp2;go_ret
  exact⟨Zi (by simp;omega),HFIN.out⟩
 ·have hlong:¬160<s.size:=of_decide_eq_false hl
  obtain⟨hwk4,hid4,hq4,hP4⟩:=HYE.out (by omega) hx
  have HW4:=Za (fun a0 a1 a2 a3 a4 a5 a6 a7 a8 a9 a10 b0 b1 b2 b3 b4 b5 b6 b7 b8 b9 b10 h1 h2=>HWI.out a0 a1 a2 a3 a4 a5 a6 a7 a8 a9 a10 b0 b1 b2 b3 b4 b5 b6 b7 b8 b9 b10 (by omega) hx h1 h2)
  have HM4:=Za (fun a0 a1 a2 a3 a4 a5 a6 a7 a8 a9 a10 b0 b1 b2 b3 b4 b5 b6 b7 b8 b9 b10 h1 h2=>HNM.out a0 a1 a2 a3 a4 a5 a6 a7 a8 a9 a10 b0 b1 b2 b3 b4 b5 b6 b7 b8 b9 b10 (by omega) hx h1 h2)
  have HU4:=Za hu4;have HR4:=Za hr4;have HWK4:=Za hwk4;have HID:=Za hid4;have HQ4:=Za hq4;have HP4:=Za hP4;have HLQ4:=Za (Zxb hr4)
  have hds':ds.length≤30001:=by
   have h1:=ZxX hwk4 hwk4.path
   have h2:(ZuW u k (tl s)).1.segs.length=ds.length:=by rw[←hr4.segs,List.length_map]
   omega
  clear hl hu4 hr4 hwk4 hid4 hq4 hP4 HYE HWI HNM HER hds;generalize (ZuW u k (tl s)).1=v at *;clear hx;go_wp2_with fail
  refine(ZeL pb r4 v ds _ HU4.out HR4.out (HT0.out.on HN4.out) (fun _=>HWK4.out.path)).mono ?_
  rintro e w5 ⟨⟨b0,b1,b2,b3,b4,b5,b6,b7,b8,b9,b10,rfl,k0,k1,k2,k3,k4,k5,k6,k7,k8,k9,k10,sb5,sb8⟩,hn5⟩
  have HGB:Hid (∀e,ZmF e v→e=.returned (.agg #[.string b0,.string b1,.string b2,.string b3,.string b4,.string b5,.string b6,.string b7,.string b8,.string b9,.string b10])):=Za (fun e he=>Zws he k0 k1 k2 k3 k4 k5 k6 k7 k8 k9 k10)
  have hGB:Zya v b0 b1 b2 b3 b4 b5 b6 b7 b8 b9 b10:=⟨k0,k1,k2,k3,k4,k5,k6,k7,k8,k9,k10⟩
  have hb0:b0.size≤maxLen:=by
   have h:=ZvG v;rw[←k0,←k5,←k8,tl_length,tl_length,tl_length]at h;obtain⟨z1,z2,z3,z4,z5⟩:=HR4.out.five;unfold maxLen
   omega
  have HWX:=Za (HW4.out a0 a1 a2 a3 a4 a5 a6 a7 a8 a9 a10 b0 b1 b2 b3 b4 b5 b6 b7 b8 b9 b10 HGA.out hGB s8);have HNX:=Za (HM4.out a0 a1 a2 a3 a4 a5 a6 a7 a8 a9 a10 b0 b1 b2 b3 b4 b5 b6 b7 b8 b9 b10 HGA.out hGB HAZ.out hb0 HA2.out s8)
  have HPR:Hid ((tl a2=tl b2↔u.sch=v.sch)∧(tl b2=Zva↔v.sch=Zw)):=Za (by
   rw[HGA.out.2.2.1,k2];unfold Zad
   exact⟨⟨fun g=>Xb g,fun g=>by rw[g]⟩,⟨fun g=>Xb (g.trans (show Zva=Zw++[58]from rfl)),fun g=>by rw[g];rfl⟩⟩)
  have HN5:=Za (hn5.alloc (Obj.cells #[.string b0,.string b1,.string b2,.string b3,.string b4,.string b5,.string b6,.string b7,.string b8,.string b9,.string b10] 66));have HCB:=Za (show C11 (w5.alloc (Obj.cells #[.string b0,.string b1,.string b2,.string b3,.string b4,.string b5,.string b6,.string b7,.string b8,.string b9,.string b10] 66)) w5.heap.size (.string b0) (.string b1) (.string b2) (.string b3) (.string b4) (.string b5) (.string b6) (.string b7) (.string b8) (.string b9) (.string b10)from heap_alloc_new w5 _);clear hn5 i0 k0 k1 k2 k3 k4 k5 k6 k7 k8 k9 k10 HW4 HM4 hGB hb0 sb5 sb8 HG HGA;go_upto_region 5 with fail;generalize w5.alloc (Obj.cells #[.string b0,.string b1,.string b2,.string b3,.string b4,.string b5,.string b6,.string b7,.string b8,.string b9,.string b10] 66)=w6 at *;generalize w5.heap.size=bb at *;have i0:=(HI4.out.on HN5.out).cell;go_wp2_with fail
  refine(Zu0 pb r4 v ds _ (HU4.out.on HN5.out) (HR4.out.on HN5.out)).mono ?_
  rintro e w7 ⟨l7,qs,rfl,hl7,hm7,hn7⟩;have hcq:=ZuZ hm7 HLQ4.out
  have HSA:=Za (show k≠8→decide (ps=qs)=true from fun g=>decide_eq_true (Zed (by rw[HM.out,hm7,HQ4.out g])))
  have HN7:=Za (HN5.out.then hn7);have HPB:=Za (hl7.at hcq);have HCB7:=Za (HCB.out.on hn7);obtain⟨ao7,cap7,hv7⟩:=hl7.slice;subst hv7;clear hl7 hm7 hn7 i0 HCB;go_wp2_with fail
  refine(ZbW _ _ ps qs _ (HPA4.out.on HN7.out) HPB.out).mono ?_
  rintro e w8 ⟨rfl,hn8⟩;generalize decide (ps=qs)=sm at *;have HN8:=Za (HN7.out.then hn8);have HCB8:=Za (HCB7.out.on hn8);have HCA8:=Za (HC4.out.on HN8.out);have HI8:=Za (HI4.out.on HN8.out);have HU8:=Za (HU4.out.on HN8.out);have HR8:=Za (HR4.out.on HN8.out);have HN08:=Za (HN4.out.then HN8.out);clear hn8 HCB7 HN7 HN5 HPB HU4 HR4 HI4 HC4 HPA4;obtain⟨x0,x1,x2,x3,x4,x5,x6,x7,x8,x9,x10⟩:=HCA8.out.cells;obtain⟨y0,y1,y2,y3,y4,y5,y6,y7,y8,y9,y10⟩:=HCB8.out.cells;have i1:=HI8.out.cell;have f1:=HI8.out.free 1;have c1:=HI8.out.cell1;have hlt:=HI8.out.lt;obtain⟨md,hmd⟩:∃md:Bool,md=decide (¬u.sch=v.sch∧v.sch=Zw):=⟨_,rfl⟩;rw[←hmd]at HP4;have HMD:=Za hmd;clear hmd;go_upto_region 16 with fail
  go_cut [99]from 100 (fun x wx=>x=.bool md∧w8=wx)
  case first=>
   by_cases h1:u.sch=v.sch
   ·have e1:(a2.toList==b2.toList)=true:=Zvd (HPR.out.1.2 h1)
    have e1':(a2.toList != b2.toList)=false:=Zyv e1
    have HX:=Za (show md=false by rw[HMD.out];exact decide_eq_false (fun g=>g.1 h1))
    clear h1;go_wp2
    go_meet
    case rel=>exact⟨by rw[HX.out],rfl⟩
   ·have e1:(a2.toList==b2.toList)=false:=ZBg (fun g=>h1 (HPR.out.1.1 g))
    have e1':(a2.toList != b2.toList)=true:=Zzo e1
    by_cases h2:v.sch=Zw
    ·have e2:=eqB (HPR.out.2.2 h2)
     have HX:=Za (show md=true by rw[HMD.out];exact decide_eq_true ⟨h1,h2⟩)
     clear h1 h2;go_wp2
     go_meet
     case rel=>exact⟨by rw[HX.out],rfl⟩
    ·have e2:=neB (fun g=>h2 (HPR.out.2.1 g))
     have HX:=Za (show md=false by rw[HMD.out];exact decide_eq_false (fun g=>h2 g.2))
     clear h1 h2;go_wp2
     go_meet
     case rel=>exact⟨by rw[HX.out],rfl⟩
  case rest=>
   obtain⟨rfl,rfl⟩:=hcut
   go_upto_if 99 with fail
   go_cut [100]from 100 (fun _ wx=>ItemM wx ib pb md∧But ib w8 wx)
   case first=>
    cases md
    ·go_wp2
     go_meet
     case rel=>exact⟨HI8.out,But.refl _ _⟩
    ·go_wp2
     go_meet
     case rel=>exact⟨HI8.out.set true,(But.refl _ _).set 1 _⟩
   case rest=>
    obtain⟨hi9,hb9⟩:=hcut;obtain⟨w9,hw9⟩:∃wn,wn=wc:=⟨_,rfl⟩;subst hw9;have HI9:=Za hi9;have HCA9:=Za (HCA8.out.butI HI8.out hb9);have HCB9:=Za (HCB8.out.butI HI8.out hb9);have HU9:=Za (HU8.out.butI HI8.out hb9);have HR9:=Za (HR8.out.ks (hb9.ksI HI8.out));have HN9:=Za (show Nx w0 w9 from HN08.out.trans (hb9.below HI0.out HN08.out.size));clear hi9 hb9 HI8 HCA8 HCB8 HU8 HR8 HN08 HN8 x0 x1 x2 x3 x4 x5 x6 x7 x8 x9 x10 y0 y1 y2 y3 y4 y5 y6 y7 y8 y9 y10 i1 f1 c1 hlt;obtain⟨x0,x1,x2,x3,x4,x5,x6,x7,x8,x9,x10⟩:=HCA9.out.cells;obtain⟨y0,y1,y2,y3,y4,y5,y6,y7,y8,y9,y10⟩:=HCB9.out.cells;go_wp2_with fail
    refine(HWX.out _).mono ?_
    rintro e w10 ⟨rfl,hn10⟩;have HN10:=Za (hn10.alloc (Obj.cells #[.string b0,.string b1,.string b2,.string b3,.string b4,.string b5,.string b6,.string b7,.string b8,.string b9,.string b10] 66));have HCC:=Za (show C11 (w10.alloc (Obj.cells #[.string b0,.string b1,.string b2,.string b3,.string b4,.string b5,.string b6,.string b7,.string b8,.string b9,.string b10] 66)) w10.heap.size (.string b0) (.string b1) (.string b2) (.string b3) (.string b4) (.string b5) (.string b6) (.string b7) (.string b8) (.string b9) (.string b10)from heap_alloc_new w10 _);have HCW:=Za (show w9.heap.size≤w10.heap.size from hn10.size);clear hn10 x0 x1 x2 x3 x4 x5 x6 x7 x8 x9 x10 y0 y1 y2 y3 y4 y5 y6 y7 y8 y9 y10;go_upto_region 19 with fail;generalize w10.alloc (Obj.cells #[.string b0,.string b1,.string b2,.string b3,.string b4,.string b5,.string b6,.string b7,.string b8,.string b9,.string b10] 66)=w11 at *;generalize w10.heap.size=cb at *;obtain⟨x0,x1,x2,x3,x4,x5,x6,x7,x8,x9,x10⟩:=(HCA9.out.on HN10.out).cells;obtain⟨y0,y1,y2,y3,y4,y5,y6,y7,y8,y9,y10⟩:=(HCB9.out.on HN10.out).cells;obtain⟨z0,z1,z2,z3,z4,z5,z6,z7,z8,z9,z10⟩:=HCC.out.cells;go_upto_region 19 with fail
    go_cut [117]from 118 (fun x wx=>x=.bool false∧w11=wx)
    case first=>
     by_cases h8:k=8
     ·have e8:(k != 8)=false:=by rw[h8];decide
      have e8':(k==8)=true:=by rw[h8];decide
      clear h8;go_wp2
      go_meet
      case rel=>exact⟨rfl,rfl⟩
     ·have e8:(k != 8)=true:=bne_iff_ne.2 h8
      have e8':(k==8)=false:=beq_eq_false_iff_ne.2 h8;have hsm:=HSA.out h8;subst hsm;clear h8;go_wp2
      go_meet
      case rel=>exact⟨rfl,rfl⟩
    case rest=>
     obtain⟨rfl,rfl⟩:=hcut;clear z0 z1 z2 z3 z4 z5 z6 z7 z8 z9 z10;go_wp2_with fail
     refine(HNX.out _).mono ?_
     rintro e w12 ⟨rfl,hn12⟩;have HN12:=Za (HN10.out.then hn12);have HCC12:=Za (HCC.out.on hn12);clear hn12 HCC HN10 x0 x1 x2 x3 x4 x5 x6 x7 x8 x9 x10 y0 y1 y2 y3 y4 y5 y6 y7 y8 y9 y10;have i2:=(HI9.out.on HN12.out).cell;go_wp2_with fail
     refine(HPU.out v r4 ds _ (HU9.out.on HN12.out) (HR9.out.on HN12.out) (HT0.out.on (HN9.out.then HN12.out)) hds').mono ?_
     rw[HID.out];rintro e w13 hS;rcases hS with⟨hl,-⟩|⟨-,hx,-⟩|⟨-,-,rfl,⟨r5,es,hu5,hr5,hes⟩,hb13⟩
     ·exact absurd (of_decide_eq_true hl) hlong
     ·exact absurd rfl hx
     ·have HU12:=Za (HU9.out.on HN12.out)
      have HI13:=Za ((HI9.out.on HN12.out).but HU12.out hb13);have HCB13:=Za ((HCB9.out.on HN12.out).but HU12.out hb13);have HCC13:=Za (HCC12.out.but HU12.out hb13);have HU13:=Za hu5
      replace hr5:RcIs w13 r5 v es:=hr5
      have HR13:=Za hr5;have HN13:=Za (show Nx w0 w13 from(HN9.out.then HN12.out).trans (hb13.below HP0.out (HN9.out.then HN12.out).size));have HCW2:=Za (show w0.heap.size≤cb from Nat.le_trans HN9.out.size HCW.out);clear hu5 hr5 hes hb13 i2;have i2:=HI13.out.cell;go_wp2_with fail
      refine(ZeL pb r5 v es _ HU13.out HR13.out (HT0.out.on HN13.out) (fun _=>HWK4.out.path)).mono ?_
      rintro e w14 ⟨ha,hn14⟩;obtain rfl:=HGB.out e ha;have HN14:=Za hn14;have HCC14:=Za (HCC13.out.on hn14);clear ha hn14 i2;obtain⟨z0,z1,z2,z3,z4,z5,z6,z7,z8,z9,z10⟩:=HCC14.out.cells;have zf0:=HCC14.out.free 0;have zf1:=HCC14.out.free 1;have zf2:=HCC14.out.free 2;have zf3:=HCC14.out.free 3;have zf4:=HCC14.out.free 4;have zf5:=HCC14.out.free 5;have zf6:=HCC14.out.free 6;have zf7:=HCC14.out.free 7;have zf8:=HCC14.out.free 8;have zf9:=HCC14.out.free 9;have zf10:=HCC14.out.free 10;have HB15:=Za (ZzY w14 cb (.string b0) (.string b1) (.string b2) (.string b3) (.string b4) (.string b5) (.string b6) (.string b7) (.string b8) (.string b9) (.string b10));have HCC15:=Za (C11.put HCC14.out (.string b0) (.string b1) (.string b2) (.string b3) (.string b4) (.string b5) (.string b6) (.string b7) (.string b8) (.string b9) (.string b10));go_upto_region 26 with fail;generalize (((((((((((w14.setCell ⟨cb,0,none⟩ (.string b0)).setCell ⟨cb,1,none⟩ (.string b1)).setCell ⟨cb,2,none⟩ (.string b2)).setCell ⟨cb,3,none⟩ (.string b3)).setCell ⟨cb,4,none⟩ (.string b4)).setCell ⟨cb,5,none⟩ (.string b5)).setCell ⟨cb,6,none⟩ (.string b6)).setCell ⟨cb,7,none⟩ (.string b7)).setCell ⟨cb,8,none⟩ (.string b8)).setCell ⟨cb,9,none⟩ (.string b9)).setCell ⟨cb,10,none⟩ (.string b10))=w15 at *;clear z0 z1 z2 z3 z4 z5 z6 z7 z8 z9 z10 zf0 zf1 zf2 zf3 zf4 zf5 zf6 zf7 zf8 zf9 zf10
      have HNE:=Za (show bb≠cb from fun e=>by have h1:bb<w9.heap.size:=(Xa.1 HCB9.out).1;have h2:=HCW.out;omega)
      have HCB15:=Za (show C11 w15 bb (.string b0) (.string b1) (.string b2) (.string b3) (.string b4) (.string b5) (.string b6) (.string b7) (.string b8) (.string b9) (.string b10)from(HB15.out.block bb (Xa.1 (HCB13.out.on HN14.out)).1 HNE.out).trans (HCB13.out.on HN14.out));obtain⟨y0,y1,y2,y3,y4,y5,y6,y7,y8,y9,y10⟩:=HCB15.out.cells;obtain⟨z0,z1,z2,z3,z4,z5,z6,z7,z8,z9,z10⟩:=HCC15.out.cells;have HFIN:=Za (show Zu4 w0 w15 ib pb P from⟨v,r5,es,md,(HN13.out.then HN14.out).trans (HB15.out.below HCW2.out (HN13.out.then HN14.out).size),(HB15.out.block ib (Xa.1 (HI13.out.on HN14.out)).1 (Zwy (HI13.out.on HN14.out) HCC14.out)).trans (HI13.out.on HN14.out),HI0.out,(HB15.out.block pb (Xa.1 (HU13.out.on HN14.out)).1 (ZyX (HU13.out.on HN14.out) HCC14.out)).trans (HU13.out.on HN14.out),(HR13.out.on HN14.out).ks (HB15.out.ksC HCC14.out),HP4.out⟩);go_wp2;go_ret;exact⟨rfl,HFIN.out⟩
end Go.Proofs.YtchkhibgbnhjpabGreatDoor
