import Derived.Test.YtchkhibgbnhjpabGreatDoorR35
import Derived.Test.YtchkhibgbnhjpabGreatDoorR36
open Array renaming getElem?_eq_some_iff→Xc
open List renaming take_succ_eq_append_getElem→Xa,eq_nil_of_length_eq_zero→Xb,getElem?_take→Xd,filter_append→Xe,map_append→Xf,length_map→Xg
namespace Go.Proofs.YtchkhibgbnhjpabGreatDoor
open Go.RowKit
set_option maxHeartbeats 16000000
set_option maxRecDepth 8000
def URB(w:World)(ub rb:Nat)(v:Value):Prop:=w.heap[ub]?=some (Obj.cells #[.pointer (some ⟨rb,0,none⟩),v] 88 (0,0))
theorem URB.on{w w':World}{ub rb:Nat}{v:Value}(h:URB w ub rb v)(hb:Nx w w'):URB w' ub rb v:=(hb.block ub (Xc.1 h).1).trans h
theorem URB.lt{w:World}{ub rb:Nat}{v:Value}(h:URB w ub rb v):ub<w.heap.size:=(Xc.1 h).1
theorem URB.cells{w:World}{ub rb:Nat}{v:Value}(h:URB w ub rb v):w.cell? ⟨ub,0,none⟩=some (.pointer (some ⟨rb,0,none⟩))∧w.cell? ⟨ub,1,none⟩=some v:=by
 unfold URB at h
 constructor<;>simp[World.cell?,h]
theorem URB.free{w:World}{ub rb:Nat}{v:Value}(h:URB w ub rb v)(i:Nat):w.frozen? ⟨ub,i,none⟩=false:=by
 unfold URB at h
 simp[World.frozen?,h]
theorem ZrK(w:World)(R:RR):C11 (((w.alloc (Obj.cells #[.string ⟨#[]⟩,.string ⟨#[]⟩,.string ⟨#[]⟩,.string ⟨#[]⟩,.string ⟨#[]⟩,.string ⟨#[]⟩,.string ⟨#[]⟩,.string ⟨#[]⟩,.string ⟨#[]⟩,.string ⟨#[]⟩,.string ⟨#[]⟩] 66)).alloc (Obj.cells #[.string ⟨#[]⟩,.string ⟨#[]⟩,.string (R.sch++⟨#[58]⟩),.string R.user,.string R.pass,.string ⟨#[]⟩,.string R.htx,.string ⟨#[]⟩,.string ⟨#[]⟩,.string ⟨#[]⟩,.string ⟨#[]⟩] 66)).drew) w.heap.size (.string ⟨#[]⟩) (.string ⟨#[]⟩) (.string ⟨#[]⟩) (.string ⟨#[]⟩) (.string ⟨#[]⟩) (.string ⟨#[]⟩) (.string ⟨#[]⟩) (.string ⟨#[]⟩) (.string ⟨#[]⟩) (.string ⟨#[]⟩) (.string ⟨#[]⟩)∧C11 (((w.alloc (Obj.cells #[.string ⟨#[]⟩,.string ⟨#[]⟩,.string ⟨#[]⟩,.string ⟨#[]⟩,.string ⟨#[]⟩,.string ⟨#[]⟩,.string ⟨#[]⟩,.string ⟨#[]⟩,.string ⟨#[]⟩,.string ⟨#[]⟩,.string ⟨#[]⟩] 66)).alloc (Obj.cells #[.string ⟨#[]⟩,.string ⟨#[]⟩,.string (R.sch++⟨#[58]⟩),.string R.user,.string R.pass,.string ⟨#[]⟩,.string R.htx,.string ⟨#[]⟩,.string ⟨#[]⟩,.string ⟨#[]⟩,.string ⟨#[]⟩] 66)).drew) (w.heap.size+1) (.string ⟨#[]⟩) (.string ⟨#[]⟩) (.string (R.sch++⟨#[58]⟩)) (.string R.user) (.string R.pass) (.string ⟨#[]⟩) (.string R.htx) (.string ⟨#[]⟩) (.string ⟨#[]⟩) (.string ⟨#[]⟩) (.string ⟨#[]⟩)∧Nx w (((w.alloc (Obj.cells #[.string ⟨#[]⟩,.string ⟨#[]⟩,.string ⟨#[]⟩,.string ⟨#[]⟩,.string ⟨#[]⟩,.string ⟨#[]⟩,.string ⟨#[]⟩,.string ⟨#[]⟩,.string ⟨#[]⟩,.string ⟨#[]⟩,.string ⟨#[]⟩] 66)).alloc (Obj.cells #[.string ⟨#[]⟩,.string ⟨#[]⟩,.string (R.sch++⟨#[58]⟩),.string R.user,.string R.pass,.string ⟨#[]⟩,.string R.htx,.string ⟨#[]⟩,.string ⟨#[]⟩,.string ⟨#[]⟩,.string ⟨#[]⟩] 66)).drew):=by
 refine⟨C11.on (C11.on (heap_alloc_new w _) (Nx.rfl.alloc _)) Nx.rfl.drew,C11.on ?_ Nx.rfl.drew,((Nx.rfl.alloc _).alloc _).drew⟩
 have h:C11 ((w.alloc (Obj.cells #[.string ⟨#[]⟩,.string ⟨#[]⟩,.string ⟨#[]⟩,.string ⟨#[]⟩,.string ⟨#[]⟩,.string ⟨#[]⟩,.string ⟨#[]⟩,.string ⟨#[]⟩,.string ⟨#[]⟩,.string ⟨#[]⟩,.string ⟨#[]⟩] 66)).alloc (Obj.cells #[.string ⟨#[]⟩,.string ⟨#[]⟩,.string (R.sch++⟨#[58]⟩),.string R.user,.string R.pass,.string ⟨#[]⟩,.string R.htx,.string ⟨#[]⟩,.string ⟨#[]⟩,.string ⟨#[]⟩,.string ⟨#[]⟩] 66)) (w.alloc (Obj.cells #[.string ⟨#[]⟩,.string ⟨#[]⟩,.string ⟨#[]⟩,.string ⟨#[]⟩,.string ⟨#[]⟩,.string ⟨#[]⟩,.string ⟨#[]⟩,.string ⟨#[]⟩,.string ⟨#[]⟩,.string ⟨#[]⟩,.string ⟨#[]⟩] 66)).heap.size (.string ⟨#[]⟩) (.string ⟨#[]⟩) (.string (R.sch++⟨#[58]⟩)) (.string R.user) (.string R.pass) (.string ⟨#[]⟩) (.string R.htx) (.string ⟨#[]⟩) (.string ⟨#[]⟩) (.string ⟨#[]⟩) (.string ⟨#[]⟩):=heap_alloc_new _ _
 rw[show(w.alloc (Obj.cells #[.string ⟨#[]⟩,.string ⟨#[]⟩,.string ⟨#[]⟩,.string ⟨#[]⟩,.string ⟨#[]⟩,.string ⟨#[]⟩,.string ⟨#[]⟩,.string ⟨#[]⟩,.string ⟨#[]⟩,.string ⟨#[]⟩,.string ⟨#[]⟩] 66)).heap.size=w.heap.size+1 by simp]at h
 exact h
def ZzL(e:Ending)(u:RU):Prop:=∃t0 t1 t2 t3 t4 t5 t6 t7 t8 t9 t10:ByteArray,e=.returned (.agg #[.string t0,.string t1,.string t2,.string t3,.string t4,.string t5,.string t6,.string t7,.string t8,.string t9,.string t10])∧tl t0=ZhN u∧tl t1=Zbs u∧tl t2=u.sch++[58]∧tl t3=u.user∧tl t4=u.pass∧tl t5=Zdt u∧tl t6=u.htx∧tl t7=Zt8 u∧tl t8=Zdi u∧tl t9=Zrk 63 u.q∧tl t10=Zrk 35 u.fr
theorem Zxa(ub rb:Nat)(v:Value)(R:RR)(u:RU)(bs:LA)(w:World)(hu:URB w ub rb v)(h:RB w rb R)(hr:RIs w R u bs)(hl:RL R)(hb:ZuC u):Calls Tryz.prog 52 #[.pointer (some ⟨ub,0,none⟩)] w fun e w'=>ZzL e u∧Nx w w':=by
 have HU:=Za hu;have HB:=Za h;have HR:=Za hr;have HL:=Za hl;have HBO:=Za hb;have ls:=hr.lsch;have lh:=hl.htx;have lp:=hl.port;have lb:=hl.bl;have lq:=hl.q;have lf:=hl.fr
 have HM2:=Za (show tl (R.sch++(⟨#[58]⟩:BA))=u.sch++[58]by rw[Zd,hr.usch];rfl)
 have HM3:=Za (show tl R.user=u.user by rw[←hr.eq];rfl)
 have HM4:=Za (show tl R.pass=u.pass by rw[←hr.eq];rfl)
 have HM6:=Za (show tl R.htx=u.htx by rw[←hr.eq];rfl)
 have HM7:=Za (show Zt8 u=if 0≤R.port then dec R.port.toNat else []by rw[←hr.eq];rfl)
 have HM9:=Za (show Zrk 63 u.q=if tl R.q=[]then []else 63::tl R.q by rw[←hr.eq];rfl)
 have HM10:=Za (show Zrk 35 u.fr=if tl R.fr=[]then []else 35::tl R.fr by rw[←hr.eq];rfl)
 have a0:=(hu.on (Nx.rfl.alloc (Obj.cells #[.string ⟨#[]⟩,.string ⟨#[]⟩,.string ⟨#[]⟩,.string ⟨#[]⟩,.string ⟨#[]⟩,.string ⟨#[]⟩,.string ⟨#[]⟩,.string ⟨#[]⟩,.string ⟨#[]⟩,.string ⟨#[]⟩,.string ⟨#[]⟩] 66))).cells.1;obtain⟨c0,c1,c2,c3,c4,c5,c6,c7,c8,c9,c10,c11,c12⟩:=(h.on (Nx.rfl.alloc (Obj.cells #[.string ⟨#[]⟩,.string ⟨#[]⟩,.string ⟨#[]⟩,.string ⟨#[]⟩,.string ⟨#[]⟩,.string ⟨#[]⟩,.string ⟨#[]⟩,.string ⟨#[]⟩,.string ⟨#[]⟩,.string ⟨#[]⟩,.string ⟨#[]⟩] 66))).cells;obtain⟨d0,d1,d2,d3,d4,d5,d6,d7,d8,d9,d10,d11,d12⟩:=(h.on ((Nx.rfl.alloc (Obj.cells #[.string ⟨#[]⟩,.string ⟨#[]⟩,.string ⟨#[]⟩,.string ⟨#[]⟩,.string ⟨#[]⟩,.string ⟨#[]⟩,.string ⟨#[]⟩,.string ⟨#[]⟩,.string ⟨#[]⟩,.string ⟨#[]⟩,.string ⟨#[]⟩] 66)).alloc (Obj.cells #[.string ⟨#[]⟩,.string ⟨#[]⟩,.string ⟨#[]⟩,.string ⟨#[]⟩,.string ⟨#[]⟩,.string ⟨#[]⟩,.string ⟨#[]⟩,.string ⟨#[]⟩,.string ⟨#[]⟩,.string ⟨#[]⟩,.string ⟨#[]⟩] 66))).cells;clear hu h hr hl hb
 go_enter Tryz.func52,Tryz.ntmps52
 go_upto_region 2 with fail
 go_region
 go_upto_region 3 with fail;clear a0 c0 c1 c2 c3 c4 c5 c6 c7 c8 c9 c10 c11 c12 d0 d1 d2 d3 d4 d5 d6 d7 d8 d9 d10 d11 d12;obtain⟨hz,ha,hn⟩:=ZrK w R;generalize ((w.alloc (Obj.cells #[.string ⟨#[]⟩,.string ⟨#[]⟩,.string ⟨#[]⟩,.string ⟨#[]⟩,.string ⟨#[]⟩,.string ⟨#[]⟩,.string ⟨#[]⟩,.string ⟨#[]⟩,.string ⟨#[]⟩,.string ⟨#[]⟩,.string ⟨#[]⟩] 66)).alloc (Obj.cells #[.string ⟨#[]⟩,.string ⟨#[]⟩,.string (R.sch++⟨#[58]⟩),.string R.user,.string R.pass,.string ⟨#[]⟩,.string R.htx,.string ⟨#[]⟩,.string ⟨#[]⟩,.string ⟨#[]⟩,.string ⟨#[]⟩] 66)).drew=w0 at *;have HZ0:=Za hz;have HA0:=Za ha;have HN0:=Za hn;clear hz ha hn
 go_upto_region 4 with(go_at_call 113;refine(Zuy rb R u bs _ (HB.out.on HN0.out) (HR.out.on HN0.out) HL.out).mono ?_;rintro e w' ⟨t0,rfl,hti,hn⟩;have HT0:=Za hti;have HA':=Za (HA0.out.on hn);have HZ':=Za (HZ0.out.on hn);have HN':=Za (show Nx w w' from HN0.out.then hn);have fr:=HA'.out.free 0;obtain⟨b0,b1,b2,b3,b4,b5,b6,b7,b8,b9,b10⟩:=HA'.out.cells;clear hti hn HA0 HZ0 HN0)
 have HA1:=Za (HA'.out.set0 (.string t0))
 have HZ1:=Za (HZ'.out.far (show w.heap.size+1≠w.heap.size by omega) 0 (.string t0))
 have HN1:=Za (show Nx w (w'.setCell ⟨w.heap.size+1,0,none⟩ (.string t0))from HN'.out.setCell (show w.heap.size≤w.heap.size+1 by omega) _)
 clear fr b0 b1 b2 b3 b4 b5 b6 b7 b8 b9 b10 HA' HZ' HN';generalize w'.setCell ⟨w.heap.size+1,0,none⟩ (.string t0)=w1 at *
 go_upto_region 5 with(go_at_call 114;refine(ZoA rb R u bs _ (HB.out.on HN1.out) (HR.out.on HN1.out) HL.out HBO.out).mono ?_;rintro e w' ⟨t1,rfl,hti,hn⟩;have HT1:=Za hti;have HA':=Za (HA1.out.on hn);have HZ':=Za (HZ1.out.on hn);have HN':=Za (show Nx w w' from HN1.out.then hn);have fr:=HA'.out.free 1;obtain⟨b0,b1,b2,b3,b4,b5,b6,b7,b8,b9,b10⟩:=HA'.out.cells;clear hti hn HA1 HZ1 HN1)
 have HA2:=Za (HA'.out.set1 (.string t1))
 have HZ2:=Za (HZ'.out.far (show w.heap.size+1≠w.heap.size by omega) 1 (.string t1))
 have HN2:=Za (show Nx w (w'.setCell ⟨w.heap.size+1,1,none⟩ (.string t1))from HN'.out.setCell (show w.heap.size≤w.heap.size+1 by omega) _)
 clear fr b0 b1 b2 b3 b4 b5 b6 b7 b8 b9 b10 HA' HZ' HN';generalize w'.setCell ⟨w.heap.size+1,1,none⟩ (.string t1)=w2 at *
 go_upto_region 6 with(go_at_call 115;refine(ZbS rb R u bs _ (HB.out.on HN2.out) (HR.out.on HN2.out) lh lp).mono ?_;rintro e w' ⟨t5,rfl,hti,hs5,hn⟩;have HT5:=Za hti;have HA':=Za (HA2.out.on hn);have HZ':=Za (HZ2.out.on hn);have HN':=Za (show Nx w w' from HN2.out.then hn);have fr:=HA'.out.free 5;obtain⟨b0,b1,b2,b3,b4,b5,b6,b7,b8,b9,b10⟩:=HA'.out.cells;clear hti hn HA2 HZ2 HN2)
 have HA3:=Za (HA'.out.set5 (.string t5))
 have HZ3:=Za (HZ'.out.far (show w.heap.size+1≠w.heap.size by omega) 5 (.string t5))
 have HN3:=Za (show Nx w (w'.setCell ⟨w.heap.size+1,5,none⟩ (.string t5))from HN'.out.setCell (show w.heap.size≤w.heap.size+1 by omega) _)
 clear fr b0 b1 b2 b3 b4 b5 b6 b7 b8 b9 b10 HA' HZ' HN';generalize w'.setCell ⟨w.heap.size+1,5,none⟩ (.string t5)=w3 at *
 go_upto_region 7 with(go_at_call 116;refine(ZdZ rb R u bs _ (HB.out.on HN3.out) (HR.out.on HN3.out) lb).mono ?_;rintro e w' ⟨t8,rfl,hti,hs8,hn⟩;have HT8:=Za hti;have HA':=Za (HA3.out.on hn);have HZ':=Za (HZ3.out.on hn);have HN':=Za (show Nx w w' from HN3.out.then hn);have fr:=HA'.out.free 8;obtain⟨b0,b1,b2,b3,b4,b5,b6,b7,b8,b9,b10⟩:=HA'.out.cells;clear hti hn HA3 HZ3 HN3)
 have HA4:=Za (HA'.out.set8 (.string t8))
 have HZ4:=Za (HZ'.out.far (show w.heap.size+1≠w.heap.size by omega) 8 (.string t8))
 have HN4:=Za (show Nx w (w'.setCell ⟨w.heap.size+1,8,none⟩ (.string t8))from HN'.out.setCell (show w.heap.size≤w.heap.size+1 by omega) _)
 clear fr b0 b1 b2 b3 b4 b5 b6 b7 b8 b9 b10 HA' HZ' HN';generalize w'.setCell ⟨w.heap.size+1,8,none⟩ (.string t8)=w4 at *;obtain⟨c0,c1,c2,c3,c4,c5,c6,c7,c8,c9,c10,c11,c12⟩:=(HB.out.on HN4.out).cells
 go_upto_if 44 with fail
 go_cut [5]from 44 (fun _ wx=>∃t:BA,tl t=Zt8 u∧C11 wx (w.heap.size+1) (.string t0) (.string t1) (.string (R.sch++⟨#[58]⟩)) (.string R.user) (.string R.pass) (.string t5) (.string R.htx) (.string t) (.string t8) (.string ⟨#[]⟩) (.string ⟨#[]⟩)∧C11 wx w.heap.size (.string ⟨#[]⟩) (.string ⟨#[]⟩) (.string ⟨#[]⟩) (.string ⟨#[]⟩) (.string ⟨#[]⟩) (.string ⟨#[]⟩) (.string ⟨#[]⟩) (.string ⟨#[]⟩) (.string ⟨#[]⟩) (.string ⟨#[]⟩) (.string ⟨#[]⟩)∧Nx w wx)
 case first=>
  by_cases h0:0≤R.port
  ·have HE:=Za (HM7.out.trans (if_pos h0))
   go_wp2_with fail
   refine(ZbY 65535 R.port _ h0 lp (by decide)).mono ?_
   rintro e w' ⟨t,rfl,hti,hn⟩;have HT:=Za hti;have HA':=Za (HA4.out.on hn);have HZ':=Za (HZ4.out.on hn);have HN':=Za (show Nx w w' from HN4.out.then hn);have fr:=HA'.out.free 7;obtain⟨b0,b1,b2,b3,b4,b5,b6,b7,b8,b9,b10⟩:=HA'.out.cells;clear hti hn c0 c1 c2 c3 c4 c5 c6 c7 c8 c9 c10 c11 c12;go_wp2
   go_meet
   case rel=>exact⟨t,by rw[HE.out,HT.out],HA'.out.set7 (.string t),HZ'.out.far (show w.heap.size+1≠w.heap.size by omega) 7 (.string t),HN'.out.setCell (show w.heap.size≤w.heap.size+1 by omega) _⟩
  ·have HE:=Za (HM7.out.trans (if_neg h0))
   go_wp2
   go_meet
   case rel=>exact⟨⟨#[]⟩,by rw[HE.out];rfl,HA4.out,HZ4.out,HN4.out⟩
 case rest=>
 obtain⟨t7,ht,ha,hz,hn⟩:=hcut;have HT7:=Za ht;have HA5:=Za ha;have HZ5:=Za hz;have HN5:=Za hn;clear ht ha hz hn HA4 HZ4 HN4 c0 c1 c2 c3 c4 c5 c6 c7 c8 c9 c10 c11 c12;obtain⟨w5,hw⟩:∃w',w'=wc:=⟨_,rfl⟩;subst hw;obtain⟨c0,c1,c2,c3,c4,c5,c6,c7,c8,c9,c10,c11,c12⟩:=(HB.out.on HN5.out).cells
 go_upto_if 55 with fail
 go_cut [5]from 55 (fun _ wx=>∃t:BA,tl t=Zrk 63 u.q∧C11 wx (w.heap.size+1) (.string t0) (.string t1) (.string (R.sch++⟨#[58]⟩)) (.string R.user) (.string R.pass) (.string t5) (.string R.htx) (.string t7) (.string t8) (.string t) (.string ⟨#[]⟩)∧C11 wx w.heap.size (.string ⟨#[]⟩) (.string ⟨#[]⟩) (.string ⟨#[]⟩) (.string ⟨#[]⟩) (.string ⟨#[]⟩) (.string ⟨#[]⟩) (.string ⟨#[]⟩) (.string ⟨#[]⟩) (.string ⟨#[]⟩) (.string ⟨#[]⟩) (.string ⟨#[]⟩)∧Nx w wx)
 case first=>
  by_cases h0:R.q.size=0
  ·have h0':=Zm h0
   have HE:=Za (HM9.out.trans (if_pos (Zoz h0)));clear h0;go_wp2
   all_goals try exact absurd (by assumption:(!R.q.toList.isEmpty)=true) (by rw[h0'];decide)
   go_meet
   case rel=>exact⟨⟨#[]⟩,by rw[HE.out];rfl,HA5.out,HZ5.out,HN5.out⟩
  ·have h0':=Zi h0
   have HE:=Za (HM9.out.trans (if_neg (Zdg h0)));have fr:=HA5.out.free 9;obtain⟨b0,b1,b2,b3,b4,b5,b6,b7,b8,b9,b10⟩:=HA5.out.cells;clear h0;go_wp2
   all_goals try exact absurd (by assumption:(!R.q.toList.isEmpty)=false) (by rw[h0'];decide)
   go_meet
   case rel=>exact⟨(⟨#[63]⟩:BA)++R.q,by rw[HE.out,Zd];rfl,HA5.out.set9 _,HZ5.out.far (show w.heap.size+1≠w.heap.size by omega) 9 _,HN5.out.setCell (show w.heap.size≤w.heap.size+1 by omega) _⟩
 case rest=>
 obtain⟨t9,ht,ha,hz,hn⟩:=hcut;have HT9:=Za ht;have HA6:=Za ha;have HZ6:=Za hz;have HN6:=Za hn;clear ht ha hz hn HA5 HZ5 HN5 c0 c1 c2 c3 c4 c5 c6 c7 c8 c9 c10 c11 c12;obtain⟨w6,hw⟩:∃w',w'=wc:=⟨_,rfl⟩;subst hw;obtain⟨c0,c1,c2,c3,c4,c5,c6,c7,c8,c9,c10,c11,c12⟩:=(HB.out.on HN6.out).cells
 go_upto_if 66 with fail
 go_cut [5]from 66 (fun _ wx=>∃t:BA,tl t=Zrk 35 u.fr∧C11 wx (w.heap.size+1) (.string t0) (.string t1) (.string (R.sch++⟨#[58]⟩)) (.string R.user) (.string R.pass) (.string t5) (.string R.htx) (.string t7) (.string t8) (.string t9) (.string t)∧C11 wx w.heap.size (.string ⟨#[]⟩) (.string ⟨#[]⟩) (.string ⟨#[]⟩) (.string ⟨#[]⟩) (.string ⟨#[]⟩) (.string ⟨#[]⟩) (.string ⟨#[]⟩) (.string ⟨#[]⟩) (.string ⟨#[]⟩) (.string ⟨#[]⟩) (.string ⟨#[]⟩)∧Nx w wx)
 case first=>
  by_cases h0:R.fr.size=0
  ·have h0':=Zm h0
   have HE:=Za (HM10.out.trans (if_pos (Zoz h0)));clear h0;go_wp2
   all_goals try exact absurd (by assumption:(!R.fr.toList.isEmpty)=true) (by rw[h0'];decide)
   go_meet
   case rel=>exact⟨⟨#[]⟩,by rw[HE.out];rfl,HA6.out,HZ6.out,HN6.out⟩
  ·have h0':=Zi h0
   have HE:=Za (HM10.out.trans (if_neg (Zdg h0)));have fr:=HA6.out.free 10;obtain⟨b0,b1,b2,b3,b4,b5,b6,b7,b8,b9,b10⟩:=HA6.out.cells;clear h0;go_wp2
   all_goals try exact absurd (by assumption:(!R.fr.toList.isEmpty)=false) (by rw[h0'];decide)
   go_meet
   case rel=>exact⟨(⟨#[35]⟩:BA)++R.fr,by rw[HE.out,Zd];rfl,HA6.out.set10 _,HZ6.out.far (show w.heap.size+1≠w.heap.size by omega) 10 _,HN6.out.setCell (show w.heap.size≤w.heap.size+1 by omega) _⟩
 case rest=>
 obtain⟨t10,ht,ha,hz,hn⟩:=hcut;have HT10:=Za ht;have HA7:=Za ha;have HZ7:=Za hz;have HN7:=Za hn;clear ht ha hz hn HA6 HZ6 HN6 c0 c1 c2 c3 c4 c5 c6 c7 c8 c9 c10 c11 c12;obtain⟨w7,hw⟩:∃w',w'=wc:=⟨_,rfl⟩;subst hw;obtain⟨b0,b1,b2,b3,b4,b5,b6,b7,b8,b9,b10⟩:=HA7.out.cells;obtain⟨z0,z1,z2,z3,z4,z5,z6,z7,z8,z9,z10⟩:=HZ7.out.cells;have zf0:=HZ7.out.free 0;have zf1:=HZ7.out.free 1;have zf2:=HZ7.out.free 2;have zf3:=HZ7.out.free 3;have zf4:=HZ7.out.free 4;have zf5:=HZ7.out.free 5;have zf6:=HZ7.out.free 6;have zf7:=HZ7.out.free 7;have zf8:=HZ7.out.free 8;have zf9:=HZ7.out.free 9;have zf10:=HZ7.out.free 10;go_wp2;exact Zzp (rb:=w.heap.size) Tryz.results52 rfl (C11.put HZ7.out _ _ _ _ _ _ _ _ _ _ _) rfl ⟨⟨t0,t1,_,R.user,R.pass,t5,R.htx,t7,t8,t9,t10,rfl,HT0.out,HT1.out,HM2.out,HM3.out,HM4.out,HT5.out,HM6.out,HT7.out,HT8.out,HT9.out,HT10.out⟩,Zi7 HN7.out (Nat.le_refl _) _ _ _ _ _ _ _ _ _ _ _⟩
abbrev OwnP(w:World)(base:Nat)(v:Value)(ps:List Pq):Prop:=w.ownsRow base 113 2 v ps.length (cellsP ps)
theorem Zfw(a b:List Pq):cellsP (a++b)=cellsP a++cellsP b:=by simp[cellsP]
theorem Zd0{w:World}{b off:Nat}{x y:Value}(h0:w.cell? ⟨b,off,none⟩=some x)(h1:w.cell? ⟨b,off+1,none⟩=some y):∀(j:Nat) (u:Value),[x,y][j]?=some u→w.cell? ((⟨b,off,none⟩:Addr).add j)=some u:=by
 intro j u hu;rw[Addr.add_lit]
 match j,hu with
 | 0,hu=>simp at hu;subst hu;exact h0
 | 1,hu=>simp at hu;subst hu;exact h1
theorem Zxb{ops:Array Oper}{rest:List Oper}{o:Oper}{a:Act}{Q:Exit→Act→World→Prop}(w:World)(p:Pq)
  (hgd:o.guard=none) (s x:Operand) (ho:o.op=.call { callee:=.builtin .append,args:=#[s,x],argTypes:=#[68,68] })
  (base:Nat) (v:Value) (ps:List Pq) (hs:a.eval s=v) (hown:OwnP w base v ps) (ab ao c:Nat) (hx:a.eval x=.slice (some ⟨ab,ao,none⟩) 1 c)
  (h0:w.cell? ⟨ab,ao,none⟩=some (.string p.1)) (h1:w.cell? ⟨ab,ao+1,none⟩=some (.string p.2))
  (hn:ps.length<1000000000000) (hbase:base≤w.heap.size)
  (h:∀v' w',OwnP w' base v' (ps++[p])→Below base w w'→Kp 113 w w'→wpList Tryz.prog ops Q rest (a.put o.dst v') w'):wpList Tryz.prog ops Q (o::rest) a w:=by
 obtain⟨i,hi,hz0,hz1,hz2⟩:=info_parts Zdm
 refine wpList_append_own w hgd s x 68 ho base 113 i _ 2 32 Tryz.underlying68 hi hz0 hz1 hz2 rfl (by decide) v ps.length _ hs hown ⟨ab,ao,none⟩ 1 c [.string p.1,.string p.2] hx rfl (Zd0 h0 h1) (by simp[Value.oneCell']) (by unfold maxLen;omega) (by omega) hbase ?_
 intro v' w' q1 q2 _
 refine h v' w' ?_ ((Below.refl base w).grown q2 hbase (fun k hk=>(hown.lt k hk).1)) (ZhO hown q2)
 unfold OwnP;rw[List.length_append,Zfw];exact q1
theorem ZuE{ops:Array Oper}{rest:List Oper}{o:Oper}{a:Act}{Q:Exit→Act→World→Prop}(w:World)(p:Pq)
  (hgd:o.guard=none) (s x:Operand) (ho:o.op=.call { callee:=.builtin .append,args:=#[s,x],argTypes:=#[68,68] })
  (base:Nat) (v:Value) (ps:List Pq) (hs:a.eval s=v) (hown:OwnP w base v ps) (hx:a.eval x=.slice (some ⟨w.heap.size,0,none⟩) 1 1)
  (hn:ps.length<1000000000000) (hbase:base≤w.heap.size)
  (h:∀v' w',OwnP w' base v' (ps++[p])→Below base w w'→Kp 113 w w'→wpList Tryz.prog ops Q rest (a.put o.dst v') w'):
  wpList Tryz.prog ops Q (o::rest) a (w.alloc (.cells #[.string p.1,.string p.2] 113)):=
 Zxb _ p hgd s x ho base v ps hs (World.ownsRow.alloc hown _) w.heap.size 0 1 hx (by simp) (by simp) hn (by simp;omega)
  fun v' w' h1 h2 h3=>h v' w' h1 (((Below.refl base w).alloc hbase _).trans h2) ((Kp.rfl.alloc _).then h3)
theorem Za7{w:World}{base:Nat}{v:Value}{ps:List Pq}(h:OwnP w base v ps):∃ao cp,v=.slice ao ps.length cp:=by
 obtain⟨-,⟨rfl,h3⟩|⟨g,cap,cur,rfl,-⟩⟩:=h
 ·exact⟨none,0,by rw[h3]⟩
 ·exact⟨_,_,rfl⟩
theorem OwnP.at{w:World}{base:Nat}{v:Value}{ps:List Pq}(h:OwnP w base v ps):PlAt w v ps:=by
 obtain⟨-,⟨rfl,h3⟩|⟨g,cap,cur,rfl,hb,hg,hnc,hcm,hcs,ht⟩⟩:=h
 ·have:ps=[]:=Xb h3
  subst this;exact PlAt.nil w
 ·refine⟨_,cap,rfl,hnc,hcm,nofun,fun a ha=>⟨g,0,(Option.some.inj ha).symm,cur,_,hg,fun i hi=>?_⟩⟩
  have h1:=ZdN ps i hi
  rw[←ht,Xd,Xd,if_pos (by omega),if_pos (by omega)]at h1
  rw[Nat.zero_add]
  simpa using h1
theorem PartsAt.kp{w w':World}{v:Value}{ps:List LI}{e:TypeId}(h:PartsAt w v ps)(hb:Kp e w w')(h1:124≠e)(h2:3≠e):PartsAt w' v ps:=by obtain⟨vs,q1,q2⟩:=h;exact⟨vs,q1.kp hb h1,q2.kp hb h2⟩
def Zdf(ss:List (List Int))(k:Nat):List (List UInt8×List UInt8):=((ss.take k).filter fun a=>!a.isEmpty).map Zol
theorem ZmZ(ss:List LI)(k:Nat)(h:k<ss.length)(he:ss[k]=[]):Zdf ss (k+1)=Zdf ss k:=by
 unfold Zdf;rw[Xa h,Xe,he]
 simp
theorem Zm0(ss:List LI)(k:Nat)(h:k<ss.length)(he:ss[k]≠[]):Zdf ss (k+1)=Zdf ss k++[Zol ss[k]]:=by
 unfold Zdf;rw[Xa h,Xe,Xf]
 congr 1
 cases hx:ss[k]with
 | nil=>exact absurd hx he
 | cons a b=>rfl
theorem ZoB(ss:List LI)(k:Nat):(Zdf ss k).length≤k:=by
 unfold Zdf;rw[Xg]
 exact Nat.le_trans (List.length_filter_le _ _) (by rw[List.length_take];omega)
theorem ZrL(s:BA)(w:World)(hs:s.size≤90000):Calls Tryz.prog 201 #[.string s] w fun e w'=>∃v ps,e=.returned v∧OwnP w' w.heap.size v ps∧ps.map tl2=ZhA (tl s)∧Nx w w':=by
 go_enter Tryz.func201,Tryz.ntmps201
 go_wp2_with fail
 refine(Za5 s _ (by omega)).mono ?_
 rintro e w1 ⟨v1,rfl,h1,hn1⟩;have H1:=Za h1;have HN1:=Za hn1;have hpl:=ZaO (tl s);rw[tl_length]at hpl;clear h1 hn1;go_wp2_with fail
 refine(ZdO _ (Zk (tl s)) ⟨#[38]⟩ _ (Ze (by decide)) H1.out (by omega)).mono ?_
 rintro e w2 ⟨v2,rfl,h2,hn2⟩;rw[show tl (⟨#[38]⟩:BA)=[38]from rfl]at h2;have H2:=Za h2;have HN2:=Za (HN1.out.then hn2);obtain⟨hm1,hm2⟩:=ZaQ (Zk (tl s)) [38]
 have HPP:=Za (show ∀p∈parts (Zk (tl s)) [38],p.length≤90000∧∀c∈p,Pt c from fun p hp=>⟨by have:=(hm2 p hp).1;omega,fun c hc=>Zct _ c ((hm2 p hp).2 c hc)⟩)
 have HPR:=Za (show ZhA (tl s)=Zdf (parts (Zk (tl s)) [38]) (parts (Zk (tl s)) [38]).length by unfold ZhA Zdf;rw[List.take_of_length_le (Nat.le_refl _)])
 have hpn:(parts (Zk (tl s)) [38]).length≤90001:=by omega
 clear h2 hn2 H1 HN1 hm1 hm2;generalize parts (Zk (tl s)) [38]=ss at *
 obtain⟨po,pc,hpe⟩:∃po pc,v2=.slice po ss.length pc:=by
  obtain⟨vs,⟨po,pc,h,-⟩,hf⟩:=H2.out
  exact⟨po,pc,by rw[h,hf.1]⟩
 subst hpe;go_wp2
 go_loopw [5,6] (fun o i wr=>∃(k:Nat) (ps:List Pq),k≤ss.length∧i=.int .i64 k∧OwnP wr w.heap.size o ps∧ps.map tl2=Zdf ss k∧PartsAt wr (.slice po ss.length pc) ss∧Nx w wr) (fun _ i _=>ss.length-(intOf i).toNat)
 case atStart=>exact⟨0,[],Nat.zero_le _,rfl,World.ownsRow_nil _ _ _ _,rfl,H2.out,HN2.out⟩
 case round=>
  obtain⟨k,ps,hk,rfl,hown,hE,hpa,hnx⟩:=hrel;have HO:=Za hown;have HE:=Za hE;have HPA:=Za hpa;have HN:=Za hnx
  have hpsl:ps.length≤k:=by have h:=congrArg List.length hE;rw[Xg]at h;rw[h];exact ZoB ss k
  clear hown hE hpa hnx H2 HN2
  by_cases hlt:k<ss.length
  ·obtain⟨vs,hvs,hfa⟩:=HPA.out
   have hvl:vs.length=ss.length:=hfa.1
   obtain⟨pb,poff,pcap,hve,-,hcap,hrow⟩:=hvs.open_ (k:=k) (by omega)
   simp only[Value.slice.injEq]at hve;obtain⟨rfl,-,rfl⟩:=hve
   have hck:=hrow.cell (i:=k) (by omega)
   have hsk:=hfa.at_ hlt;simp only[id]at hck;generalize vs[k]=vk at *
   obtain⟨ko,kc,rfl⟩:∃ko kc,vk=.slice ko ss[k].length kc:=by obtain⟨ko,kc,h,-⟩:=hsk;exact⟨ko,kc,h⟩
   have HSK:=Za hsk;obtain⟨hkl,hkp⟩:=HPP.out _ (List.getElem_mem hlt);have HKP:=Za hkp;have HM:=Za (Zm0 ss k hlt);have HS:=Za (ZmZ ss k hlt);unfold maxLen at hcap;clear hsk hkp hvs hfa hrow hvl
   by_cases h0:ss[k].length=0
   ·have HE2:=Za (HS.out (Xb h0))
    have h0':((ss[k].length:Int)==0)=true:=by rw[h0];rfl
    clear h0;go_wp2
    go_roundw
    case rel=>exact⟨k+1,ps,by omega,by go_num,HO.out,by rw[HE2.out];exact HE.out,HPA.out,HN.out⟩
    case measure=>simp[intOf];omega
   ·have HE2:=Za (HM.out (fun e=>h0 (by rw[e];rfl)))
    have h0':((ss[k].length:Int)==0)=false:=beq_eq_false_iff_ne.2 (by omega)
    clear h0;generalize ss[k]=sk at *;go_wp2_with fail
    refine(Zdx _ sk ⟨#[61]⟩ _ (Ze (by decide)) HSK.out).mono ?_
    rintro e w3 ⟨va,vb,rfl,ha,hb,hn3⟩;rw[show tl (⟨#[61]⟩:BA)=[61]from rfl]at *;have HA:=Za ha;have HB:=Za hb;have HN3:=Za hn3
    have HPA1:=Za (fun c (h:c∈(cut sk [61]).1)=>HKP.out c (ZR (Or.inl h)))
    have HPB1:=Za (fun c (h:c∈(cut sk [61]).2.1)=>HKP.out c (ZR (Or.inr h)))
    have hcl:=(Zce sk [61]).1;have HPD:=Za (show Zol sk=(ZiY (cut sk [61]).1,ZiY (cut sk [61]).2.1)from rfl);clear ha hb hn3;generalize cut sk [61]=cc at *;obtain⟨ca,cb,cf⟩:=cc;simp only at *;go_wp2_with fail
    refine(Zkv _ ca _ HA.out (by omega) HPA1.out).mono ?_
    rintro e w4 ⟨t1,rfl,ht1,hn4⟩;have HT1:=Za ht1;have HN4:=Za (HN3.out.then hn4);have HB4:=Za (HB.out.on hn4);clear ht1 hn4;go_wp2_with fail
    refine(Zkv _ cb _ HB4.out (by omega) HPB1.out).mono ?_
    rintro e w5 ⟨t2,rfl,ht2,hn5⟩;have HT2:=Za ht2;have HN5:=Za (HN4.out.then hn5);have HNW:=Za (HN.out.then (HN4.out.then hn5));have HO5:=Za (ZbP HO.out HN5.out);have hz5:=HNW.out.size;clear ht2 hn5
    go_wp2_with (at_builtin;go_must (refine ZuE w5 (t1,t2) rfl _ _ rfl w.heap.size u5 ps rfl HO5.out rfl (by omega) hz5 ?_;intro v' w6 ho6 hb6 hk6;have HO6:=Za ho6;clear ho6))
    go_roundw
    case rel=>exact⟨k+1,ps++[(t1,t2)],by omega,by go_num,HO6.out,by rw[HE2.out,Xf,HE.out,HPD.out,←HT1.out,←HT2.out];rfl,(HPA.out.on HN5.out).kp hk6 (by decide) (by decide),HNW.out.trans hb6⟩
    case measure=>simp[intOf];omega
  ·have HF:=Za (show ps.map tl2=ZhA (tl s)by rw[HE.out,HPR.out,show k=ss.length by omega])
   go_wp2;go_ret;exact⟨_,ps,rfl,HO.out,HF.out,HN.out⟩
end Go.Proofs.YtchkhibgbnhjpabGreatDoor
