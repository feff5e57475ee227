import Derived.Test.YtchkhibgbnhjpabGreatDoorV14
open Array renaming getElem?_eq_some_iff→Xa
open Nat renaming zero_le→Xb,le_refl→Xc
namespace Go.Proofs.YtchkhibgbnhjpabGreatDoor
open Go.RowKit
set_option maxHeartbeats 16000000
theorem ZuA{s t:BA}(h:tl s=tl t):(s.toList==t.toList)=true:=by rw[ByteArray.toList_eq,ByteArray.toList_eq];show(tl s==tl t)=true;rw[h];simp
theorem ZuB{s t:BA}(h:¬tl s=tl t):(s.toList==t.toList)=false:=by rw[ByteArray.toList_eq,ByteArray.toList_eq];show(tl s==tl t)=false;simpa using h
def Zay(u:U)(left:List UInt8)(base:U):U×Int:=if base.sch=u.sch∧countSl false left<2 then ZV u left base else Zs u (left.drop (countSl true left))
theorem ZiH(ru rb:Rc)(u base:U)(bs cs:LA)(left:BA)(w:World)(h1:RcIs w ru u bs)(h2:RcIs w rb base cs)(hcs:cs.length≤60000)(hbs:bs.length≤0)(hl:left.size≤30000)(ht:Tb w):Calls Tryz.prog 225 #[.agg #[.string ru.sch,.string ru.nam,.string ru.pw,.bool ru.hh,.string ru.host,.bool ru.hp,.int .i64 (ru.port:Int),.bool ru.op,.string ru.opath,.slice ru.so ru.sn ru.sc,.bool ru.hq,.string ru.q,.bool ru.hf,.string ru.fr],.string left,.agg #[.string rb.sch,.string rb.nam,.string rb.pw,.bool rb.hh,.string rb.host,.bool rb.hp,.int .i64 (rb.port:Int),.bool rb.op,.string rb.opath,.slice rb.so rb.sn rb.sc,.bool rb.hq,.string rb.q,.bool rb.hf,.string rb.fr]] w fun e w'=>Zfc e w' (Zay u (tl left) base) (cs.length+30002)∧Nx w w':=by
 have HU:=Za h1;have HBS:=Za h2;have HTB:=Za ht
 have HD:=Za (show Zay u (tl left) base=if tl rb.sch=tl ru.sch∧countSl false (tl left)<2 then ZV u (tl left) base else Zs u ((tl left).drop (countSl true (tl left)))by rw[h1.usch,h2.usch];rfl)
 clear h1 h2 ht;have hk:=Zdz true (tl left);rw[tl_length]at hk;generalize hkk:countSl true (tl left)=k at *;have HK:=Za hkk;clear hkk;generalize hjj:countSl false (tl left)=j at *;have HJ:=Za hjj;clear hjj
 have HFH:=Za (fun w1 (hn:Nx w w1)=>ZbE ru u bs (left.extract k left.size) w1 (HU.out.on hn) (HTB.out.on hn) (by rw[Zac];omega))
 rw[ZaE]at HFH
 by_cases hq:tl rb.sch=tl ru.sch
 ·have hq':=ZuA hq
  by_cases hj:j<2
  ·have HE:=Za (HD.out.trans (if_pos ⟨hq,hj⟩))
   have hji:(j:Int)<2:=by omega
   clear HD hq
   go_enter Tryz.func225,Tryz.ntmps225
   go_wp2_with (first|(go_at_call 226;refine(Zp _ _ _ (Zg (by omega))).mono ?_;rintro e w' ⟨rfl,rfl⟩;rw[HJ.out])|fail)
   refine(Ze0 ru rb u base bs cs left _ (HU.out.on (((Nx.rfl.alloc _).alloc _).alloc _)) (HBS.out.on (((Nx.rfl.alloc _).alloc _).alloc _)) hcs hbs hl (HTB.out.on (((Nx.rfl.alloc _).alloc _).alloc _))).mono ?_
   rintro e w1 ⟨⟨r,ds,rfl,hr,hdl⟩,hn⟩;have HR:=Za hr;clear hr;obtain⟨g1,g2,g3,g4⟩:=ZX (ru:=ru) (Nx.then (show Nx _ _ from Nx.rfl) hn);have HUB:=Za g1;have HBB:=Za g2;have HZ:=Za g3;have HN:=Za g4;clear g1 g2 g3 g4 hn;obtain⟨z0,z1,z2,z3,z4,z5,z6,z7,z8,z9,z10,z11,z12,z13⟩:=HZ.out.cells;have zf0:=HZ.out.free 0;have zf1:=HZ.out.free 1;have zf2:=HZ.out.free 2;have zf3:=HZ.out.free 3;have zf4:=HZ.out.free 4;have zf5:=HZ.out.free 5;have zf6:=HZ.out.free 6;have zf7:=HZ.out.free 7;have zf8:=HZ.out.free 8;have zf9:=HZ.out.free 9;have zf10:=HZ.out.free 10;have zf11:=HZ.out.free 11;have zf12:=HZ.out.free 12;have zf13:=HZ.out.free 13;go_wp2
   exact Z9 (rb:=w.heap.size+1+1) Tryz.results225 rfl rfl (RecB.put HZ.out _ _ _ _ _ _ _ _ _ _ _ _ _ _) rfl ⟨⟨r,ds,(by rw[HE.out];first|done|rfl),(by rw[HE.out];exact HR.out.ks (Ks.then Ks.rfl (Zq HZ.out.ty (by decide) _ _ _ _ _ _ _ _ _ _ _ _ _ _))),by omega⟩,(Zd HN.out (by omega) _ _ _ _ _ _ _ _ _ _ _ _ _ _)⟩
  ·have HE:=Za (HD.out.trans (if_neg (fun h=>hj h.2)))
   have hji:2≤(j:Int):=by omega
   clear HD hq
   go_enter Tryz.func225,Tryz.ntmps225
   go_wp2_with fail
   refine(Zp left false _ (Zg (by omega))).mono ?_
   rintro e w' ⟨rfl,rfl⟩;rw[HJ.out]
   go_wp2_with (go_at_call 226;refine(Zp left true _ (Zg (by omega))).mono ?_;rintro e w' ⟨rfl,rfl⟩;rw[HK.out])
   go_region_with (go_at_call 228;refine(HFH.out _ (((Nx.rfl.alloc _).alloc _).alloc _).drew).mono ?_;rintro e w1 ⟨⟨r,ds,rfl,hr,hdl⟩,hn⟩;have HR:=Za hr;clear hr;obtain⟨g1,g2,g3,g4⟩:=ZX (ru:=ru) (Nx.then (show Nx _ _ from Nx.rfl.drew) hn);have HUB:=Za g1;have HBB:=Za g2;have HZ:=Za g3;have HN:=Za g4;clear g1 g2 g3 g4 hn;obtain⟨z0,z1,z2,z3,z4,z5,z6,z7,z8,z9,z10,z11,z12,z13⟩:=HZ.out.cells;have zf0:=HZ.out.free 0;have zf1:=HZ.out.free 1;have zf2:=HZ.out.free 2;have zf3:=HZ.out.free 3;have zf4:=HZ.out.free 4;have zf5:=HZ.out.free 5;have zf6:=HZ.out.free 6;have zf7:=HZ.out.free 7;have zf8:=HZ.out.free 8;have zf9:=HZ.out.free 9;have zf10:=HZ.out.free 10;have zf11:=HZ.out.free 11;have zf12:=HZ.out.free 12;have zf13:=HZ.out.free 13)
   all_goals go_wp2
   all_goals exact Z9 (rb:=w.heap.size+1+1) Tryz.results225 rfl rfl (RecB.put HZ.out _ _ _ _ _ _ _ _ _ _ _ _ _ _) rfl ⟨⟨r,ds,(by rw[HE.out];first|done|rfl),(by rw[HE.out];exact HR.out.ks (Ks.then Ks.rfl (Zq HZ.out.ty (by decide) _ _ _ _ _ _ _ _ _ _ _ _ _ _))),by omega⟩,(Zd HN.out (by omega) _ _ _ _ _ _ _ _ _ _ _ _ _ _)⟩
 ·have hq':=ZuB hq
  have HE:=Za (HD.out.trans (if_neg (fun h=>hq h.1)))
  clear HD hq
  go_enter Tryz.func225,Tryz.ntmps225
  go_wp2_with (go_at_call 226;refine(Zp _ true _ (Zg (by omega))).mono ?_;rintro e w' ⟨rfl,rfl⟩;rw[HK.out])
  go_region_with (go_at_call 228;refine(HFH.out _ (((Nx.rfl.alloc _).alloc _).alloc _).drew).mono ?_;rintro e w1 ⟨⟨r,ds,rfl,hr,hdl⟩,hn⟩;have HR:=Za hr;clear hr;obtain⟨g1,g2,g3,g4⟩:=ZX (ru:=ru) (Nx.then (show Nx _ _ from Nx.rfl.drew) hn);have HUB:=Za g1;have HBB:=Za g2;have HZ:=Za g3;have HN:=Za g4;clear g1 g2 g3 g4 hn;obtain⟨z0,z1,z2,z3,z4,z5,z6,z7,z8,z9,z10,z11,z12,z13⟩:=HZ.out.cells;have zf0:=HZ.out.free 0;have zf1:=HZ.out.free 1;have zf2:=HZ.out.free 2;have zf3:=HZ.out.free 3;have zf4:=HZ.out.free 4;have zf5:=HZ.out.free 5;have zf6:=HZ.out.free 6;have zf7:=HZ.out.free 7;have zf8:=HZ.out.free 8;have zf9:=HZ.out.free 9;have zf10:=HZ.out.free 10;have zf11:=HZ.out.free 11;have zf12:=HZ.out.free 12;have zf13:=HZ.out.free 13)
  all_goals go_wp2
  all_goals exact Z9 (rb:=w.heap.size+1+1) Tryz.results225 rfl rfl (RecB.put HZ.out _ _ _ _ _ _ _ _ _ _ _ _ _ _) rfl ⟨⟨r,ds,(by rw[HE.out];first|done|rfl),(by rw[HE.out];exact HR.out.ks (Ks.then Ks.rfl (Zq HZ.out.ty (by decide) _ _ _ _ _ _ _ _ _ _ _ _ _ _))),by omega⟩,(Zd HN.out (by omega) _ _ _ _ _ _ _ _ _ _ _ _ _ _)⟩
def ZQ(u:U)(left:List UInt8)(base:U):U×Int:=
 if u.sch=Zw then Zcv u left base else if Zb u.sch=true then Zay u left base
 else if countSl false left=0 then({ u with op:=true,opath:=encB (tl (ZaN 0)) (clean left) },0)
 else if countSl false left=1 then({ u with segs:=Zbg (left.drop 1) u.sch },0)else Zs u (left.drop 2)
theorem ZiI(ru rb:Rc)(u base:U)(bs cs:LA)(left:BA)(w:World)(h1:RcIs w ru u bs)(h2:RcIs w rb base cs)(hcs:cs.length≤60000)(hbs:bs.length≤0)(hl:left.size≤30000)(ht:Tb w):Calls Tryz.prog 191 #[.agg #[.string ru.sch,.string ru.nam,.string ru.pw,.bool ru.hh,.string ru.host,.bool ru.hp,.int .i64 (ru.port:Int),.bool ru.op,.string ru.opath,.slice ru.so ru.sn ru.sc,.bool ru.hq,.string ru.q,.bool ru.hf,.string ru.fr],.string left,.agg #[.string rb.sch,.string rb.nam,.string rb.pw,.bool rb.hh,.string rb.host,.bool rb.hp,.int .i64 (rb.port:Int),.bool rb.op,.string rb.opath,.slice rb.so rb.sn rb.sc,.bool rb.hq,.string rb.q,.bool rb.hf,.string rb.fr]] w fun e w'=>Zfc e w' (ZQ u (tl left) base) (cs.length+30002)∧Nx w w':=by
 have HU:=Za h1;have HBS:=Za h2;have HTB:=Za ht
 have HD:=Za (show ZQ u (tl left) base=if tl ru.sch=Zw then Zcv u (tl left) base else if Zb (tl ru.sch)=true then Zay u (tl left) base
  else if countSl false (tl left)=0 then({ u with op:=true,opath:=encB (tl (ZaN 0)) (clean (tl left)) },0)
  else if countSl false (tl left)=1 then({ u with segs:=Zbg ((tl left).drop 1) (tl ru.sch) },0)else Zs u ((tl left).drop 2)by rw[h1.usch];rfl)
 clear h1 h2 ht
 by_cases hf:tl ru.sch=Zw
 ·have HE:=Za (HD.out.trans (if_pos hf))
  have hfe:=eqB hf;unfold Zw at hfe;clear HD hf
  go_enter Tryz.func191,Tryz.ntmps191
  go_wp2_with fail
  refine(ZiG ru rb u base bs cs left _ (HU.out.on (((Nx.rfl.alloc _).alloc _).alloc _)) (HBS.out.on (((Nx.rfl.alloc _).alloc _).alloc _)) hcs hl (HTB.out.on (((Nx.rfl.alloc _).alloc _).alloc _))).mono ?_
  rintro e w1 ⟨⟨r,ds,rfl,hr,hdl⟩,hn⟩;have HR:=Za hr;clear hr;obtain⟨g1,g2,g3,g4⟩:=ZX (ru:=ru) (Nx.then (show Nx _ _ from Nx.rfl) hn);have HUB:=Za g1;have HBB:=Za g2;have HZ:=Za g3;have HN:=Za g4;clear g1 g2 g3 g4 hn;obtain⟨z0,z1,z2,z3,z4,z5,z6,z7,z8,z9,z10,z11,z12,z13⟩:=HZ.out.cells;have zf0:=HZ.out.free 0;have zf1:=HZ.out.free 1;have zf2:=HZ.out.free 2;have zf3:=HZ.out.free 3;have zf4:=HZ.out.free 4;have zf5:=HZ.out.free 5;have zf6:=HZ.out.free 6;have zf7:=HZ.out.free 7;have zf8:=HZ.out.free 8;have zf9:=HZ.out.free 9;have zf10:=HZ.out.free 10;have zf11:=HZ.out.free 11;have zf12:=HZ.out.free 12;have zf13:=HZ.out.free 13;go_wp2
  exact Z9 (rb:=w.heap.size+1+1) Tryz.results191 rfl rfl (RecB.put HZ.out _ _ _ _ _ _ _ _ _ _ _ _ _ _) rfl ⟨⟨r,ds,(by rw[HE.out];first|done|rfl),(by rw[HE.out];exact HR.out.ks (Ks.then Ks.rfl (Zq HZ.out.ty (by decide) _ _ _ _ _ _ _ _ _ _ _ _ _ _))),by omega⟩,(Zd HN.out (by omega) _ _ _ _ _ _ _ _ _ _ _ _ _ _)⟩
 ·have HD2:=Za (HD.out.trans (if_neg hf))
  have hfe:=neB hf;unfold Zw at hfe;clear HD hf
  cases hsp:Zb (tl ru.sch)
  ·have HD3:=Za (HD2.out.trans (if_neg (by rw[hsp];decide)))
   have HSP:=Za hsp;clear HD2 hsp;have hk:=Zdz false (tl left);rw[tl_length]at hk;generalize hkk:countSl false (tl left)=k at *;have HK:=Za hkk;clear hkk
   by_cases hk0:k=0
   ·have HE:=Za (HD3.out.trans (if_pos hk0))
    have hkb:((k:Int)==0)=true:=by rw[hk0];rfl
    clear HD3 hk0
    go_enter Tryz.func191,Tryz.ntmps191
    go_wp2_with (first|(go_at_call 189;refine(Z6 _ _).mono ?_;rintro e w' ⟨rfl,rfl⟩;rw[HSP.out])|(go_at_call 226;refine(Zp _ _ _ (Zg (by omega))).mono ?_;rintro e w' ⟨rfl,rfl⟩;rw[HK.out])|fail)
    refine(Zaw left 0 _ (by omega)).mono ?_
    rintro e w1 ⟨en,rfl,hen,hn⟩
    have hel:en.size≤300000:=by rw[←tl_length,hen];exact Zbc _ _ (by rw[tl_length];exact hl)
    have HEN:=Za hen;clear hen
    obtain⟨g1,g2,g3,g4⟩:=ZX (ru:={ ru with op:=true }) (Nx.then (show Nx _ _ from Nx.rfl) hn)
    have HUB:=Za g1;have HBB:=Za g2;have HZ:=Za g3;have HN:=Za g4;clear g1 g2 g3 g4 hn;obtain⟨a0,a1,a2,a3,a4,a5,a6,a7,a8,a9,a10,a11,a12,a13⟩:=HUB.out.cells;have af8:=HUB.out.free 8;obtain⟨z0,z1,z2,z3,z4,z5,z6,z7,z8,z9,z10,z11,z12,z13⟩:=HZ.out.cells;have zf0:=HZ.out.free 0;have zf1:=HZ.out.free 1;have zf2:=HZ.out.free 2;have zf3:=HZ.out.free 3;have zf4:=HZ.out.free 4;have zf5:=HZ.out.free 5;have zf6:=HZ.out.free 6;have zf7:=HZ.out.free 7;have zf8:=HZ.out.free 8;have zf9:=HZ.out.free 9;have zf10:=HZ.out.free 10;have zf11:=HZ.out.free 11;have zf12:=HZ.out.free 12;have zf13:=HZ.out.free 13;have HU2:=Za (HU.out.on HN.out);go_wp2
    refine Z9 (rb:=w.heap.size+1+1) Tryz.results191 rfl rfl (RecB.put (HZ.out.far (by omega) 8 _) _ _ _ _ _ _ _ _ _ _ _ _ _ _) rfl ⟨⟨{ ru with op:=true,opath:=en },bs,(by rw[HE.out];first|done|rfl),?_,by omega⟩,(Zd (Below.setCell HN.out (Xc _) _) (by omega) _ _ _ _ _ _ _ _ _ _ _ _ _ _)⟩
    exact { eq:=by rw[HE.out,←HU.out.eq];simp only[Rc.u];rw[HEN.out]
            seg:=HU2.out.seg.ks (Ks.then (Ks.then Ks.rfl (ZW HUB.out.ty (by decide) 8 _)) (Zq (HZ.out.ty.set w.heap.size 8 _) (by decide) _ _ _ _ _ _ _ _ _ _ _ _ _ _))
            lsch:=HU2.out.lsch
            lnam:=HU2.out.lnam
            lpw:=HU2.out.lpw
            lhost:=HU2.out.lhost
            lport:=HU2.out.lport
            lopath:=hel
            lsegs:=HU2.out.lsegs
            lseg:=HU2.out.lseg
            lq:=HU2.out.lq
            lfr:=HU2.out.lfr }
   ·have HD4:=Za (HD3.out.trans (if_neg hk0))
    have hkb:((k:Int)==0)=false:=beq_eq_false_iff_ne.2 (by omega)
    clear HD3
    by_cases hke:k=1
    ·have HE:=Za (HD4.out.trans (if_pos hke))
     have hkb1:((k:Int)==1)=true:=by rw[hke];rfl
     have hl1:1≤left.size:=by omega
     have HPR:=Za (fun w1=>ZaF (left.extract 1 left.size) ru.sch w1 (by rw[Zac];omega))
     rw[ZaE]at HPR;clear HD4 hke hk0
     go_enter Tryz.func191,Tryz.ntmps191
     go_wp2_with (first|(go_at_call 189;refine(Z6 _ _).mono ?_;rintro e w' ⟨rfl,rfl⟩;rw[HSP.out])|(go_at_call 226;refine(Zp _ _ _ (Zg (by omega))).mono ?_;rintro e w' ⟨rfl,rfl⟩;rw[HK.out]))
     go_region_with (go_at_call 227;refine(HPR.out _).mono ?_;rintro e w1 ⟨v3,ds,rfl,ho,hds,hdl,hn⟩;obtain⟨ao,n,cap,rfl⟩:=ZK ho;have HO:=Za (Za5 ho);have HDS:=Za hds;have HSH:=Za (ZaO hds (Zaq (by rw[List.length_drop,tl_length];omega)));rw[Zac]at hdl;clear ho hds;obtain⟨g1,g2,g3,g4⟩:=ZX (ru:=ru) (Nx.then (show Nx _ _ from Nx.rfl.drew) hn);have HUB:=Za g1;have HBB:=Za g2;have HZ:=Za g3;have HN:=Za g4;clear g1 g2 g3 g4 hn;obtain⟨a0,a1,a2,a3,a4,a5,a6,a7,a8,a9,a10,a11,a12,a13⟩:=HUB.out.cells;have af9:=HUB.out.free 9;obtain⟨z0,z1,z2,z3,z4,z5,z6,z7,z8,z9,z10,z11,z12,z13⟩:=HZ.out.cells;have zf0:=HZ.out.free 0;have zf1:=HZ.out.free 1;have zf2:=HZ.out.free 2;have zf3:=HZ.out.free 3;have zf4:=HZ.out.free 4;have zf5:=HZ.out.free 5;have zf6:=HZ.out.free 6;have zf7:=HZ.out.free 7;have zf8:=HZ.out.free 8;have zf9:=HZ.out.free 9;have zf10:=HZ.out.free 10;have zf11:=HZ.out.free 11;have zf12:=HZ.out.free 12;have zf13:=HZ.out.free 13)
     all_goals go_wp2
     all_goals (
      refine Z9 (rb:=w.heap.size+1+1) Tryz.results191 rfl rfl (RecB.put (HZ.out.far (by omega) 9 _) _ _ _ _ _ _ _ _ _ _ _ _ _ _) rfl ⟨⟨{ ru with so:=ao,sn:=n,sc:=cap },ds,(by rw[HE.out];first|done|rfl),?_,by omega⟩,(Zd (Below.setCell HN.out (Xc _) _) (by omega) _ _ _ _ _ _ _ _ _ _ _ _ _ _)⟩
      exact { eq:=by rw[HE.out,←HU.out.eq];simp only[Rc.u];rw[HDS.out]
              seg:=HO.out.ks (Ks.then (Ks.then Ks.rfl (ZW HUB.out.ty (by decide) 9 _)) (Zq (HZ.out.ty.set w.heap.size 9 _) (by decide) _ _ _ _ _ _ _ _ _ _ _ _ _ _))
              lsch:=HU.out.lsch
              lnam:=HU.out.lnam
              lpw:=HU.out.lpw
              lhost:=HU.out.lhost
              lport:=HU.out.lport
              lopath:=HU.out.lopath
              lsegs:=by omega
              lseg:=HSH.out
              lq:=HU.out.lq
              lfr:=HU.out.lfr })
    ·have HE:=Za (HD4.out.trans (if_neg hke))
     have hkb1:((k:Int)==1)=false:=beq_eq_false_iff_ne.2 (by omega)
     have hl2:2≤left.size:=by omega
     have HFH:=Za (fun w1 (hn:Nx w w1)=>ZbE ru u bs (left.extract 2 left.size) w1 (HU.out.on hn) (HTB.out.on hn) (by rw[Zac];omega))
     rw[ZaE]at HFH;clear HD4 hke hk0
     go_enter Tryz.func191,Tryz.ntmps191
     go_wp2_with (first|(go_at_call 189;refine(Z6 _ _).mono ?_;rintro e w' ⟨rfl,rfl⟩;rw[HSP.out])|(go_at_call 226;refine(Zp _ _ _ (Zg (by omega))).mono ?_;rintro e w' ⟨rfl,rfl⟩;rw[HK.out]))
     go_region_with (go_at_call 228;refine(HFH.out _ (((Nx.rfl.alloc _).alloc _).alloc _).drew).mono ?_;rintro e w1 ⟨⟨r,ds,rfl,hr,hdl⟩,hn⟩;have HR:=Za hr;clear hr;obtain⟨g1,g2,g3,g4⟩:=ZX (ru:=ru) (Nx.then (show Nx _ _ from Nx.rfl.drew) hn);have HUB:=Za g1;have HBB:=Za g2;have HZ:=Za g3;have HN:=Za g4;clear g1 g2 g3 g4 hn;obtain⟨z0,z1,z2,z3,z4,z5,z6,z7,z8,z9,z10,z11,z12,z13⟩:=HZ.out.cells;have zf0:=HZ.out.free 0;have zf1:=HZ.out.free 1;have zf2:=HZ.out.free 2;have zf3:=HZ.out.free 3;have zf4:=HZ.out.free 4;have zf5:=HZ.out.free 5;have zf6:=HZ.out.free 6;have zf7:=HZ.out.free 7;have zf8:=HZ.out.free 8;have zf9:=HZ.out.free 9;have zf10:=HZ.out.free 10;have zf11:=HZ.out.free 11;have zf12:=HZ.out.free 12;have zf13:=HZ.out.free 13)
     all_goals go_wp2
     all_goals exact Z9 (rb:=w.heap.size+1+1) Tryz.results191 rfl rfl (RecB.put HZ.out _ _ _ _ _ _ _ _ _ _ _ _ _ _) rfl ⟨⟨r,ds,(by rw[HE.out];first|done|rfl),(by rw[HE.out];exact HR.out.ks (Ks.then Ks.rfl (Zq HZ.out.ty (by decide) _ _ _ _ _ _ _ _ _ _ _ _ _ _))),by omega⟩,(Zd HN.out (by omega) _ _ _ _ _ _ _ _ _ _ _ _ _ _)⟩
  ·have HE:=Za (HD2.out.trans (if_pos hsp))
   have HSP:=Za hsp;clear HD2 hsp
   go_enter Tryz.func191,Tryz.ntmps191
   go_wp2_with (first|(go_at_call 189;refine(Z6 _ _).mono ?_;rintro e w' ⟨rfl,rfl⟩;rw[HSP.out])|fail)
   refine(ZiH ru rb u base bs cs left _ (HU.out.on (((Nx.rfl.alloc _).alloc _).alloc _)) (HBS.out.on (((Nx.rfl.alloc _).alloc _).alloc _)) hcs hbs hl (HTB.out.on (((Nx.rfl.alloc _).alloc _).alloc _))).mono ?_
   rintro e w1 ⟨⟨r,ds,rfl,hr,hdl⟩,hn⟩;have HR:=Za hr;clear hr;obtain⟨g1,g2,g3,g4⟩:=ZX (ru:=ru) (Nx.then (show Nx _ _ from Nx.rfl) hn);have HUB:=Za g1;have HBB:=Za g2;have HZ:=Za g3;have HN:=Za g4;clear g1 g2 g3 g4 hn;obtain⟨z0,z1,z2,z3,z4,z5,z6,z7,z8,z9,z10,z11,z12,z13⟩:=HZ.out.cells;have zf0:=HZ.out.free 0;have zf1:=HZ.out.free 1;have zf2:=HZ.out.free 2;have zf3:=HZ.out.free 3;have zf4:=HZ.out.free 4;have zf5:=HZ.out.free 5;have zf6:=HZ.out.free 6;have zf7:=HZ.out.free 7;have zf8:=HZ.out.free 8;have zf9:=HZ.out.free 9;have zf10:=HZ.out.free 10;have zf11:=HZ.out.free 11;have zf12:=HZ.out.free 12;have zf13:=HZ.out.free 13;go_wp2
   exact Z9 (rb:=w.heap.size+1+1) Tryz.results191 rfl rfl (RecB.put HZ.out _ _ _ _ _ _ _ _ _ _ _ _ _ _) rfl ⟨⟨r,ds,(by rw[HE.out];first|done|rfl),(by rw[HE.out];exact HR.out.ks (Ks.then Ks.rfl (Zq HZ.out.ty (by decide) _ _ _ _ _ _ _ _ _ _ _ _ _ _))),by omega⟩,(Zd HN.out (by omega) _ _ _ _ _ _ _ _ _ _ _ _ _ _)⟩
theorem Zez(l:LB):(Zax l).1.length≤l.length∧(Zax l).2.1.length≤l.length:=by
 unfold Zax;have h:=Z8 (isB 58) l
 split
 ·exact⟨by show(Zae (bcut (isB 58) l).1).length≤_;rw[ZjU];omega,by show(bcut (isB 58) l).2.1.length≤_;omega⟩
 ·exact⟨by simp,Xc _⟩
def ZbI(sch:List UInt8)(hq:Bool)(q:List UInt8):U:={ zeroU with sch:=sch,hq:=hq,q:=encB (tl (ZaN (Zbr sch))) (clean q) }
def ZbY(sch rest:List UInt8)(found:Bool)(base:U):U×Int:=
 if sch=[]then(zeroU,2)
 else if found=true then ZQ (ZbI sch (bcut (isB 63) rest).2.2 (bcut (isB 63) rest).2.1) (bcut (isB 63) rest).1 base
 else ZV (ZbI sch (bcut (isB 63) rest).2.2 (bcut (isB 63) rest).2.1) (bcut (isB 63) rest).1 base
def ZaT(l:List UInt8)(hf:Bool)(base:U):U×Int:=
 if(Zax l).2.2=true then ZbY (Zax l).1 (Zax l).2.1 true base
 else if base.op=true then ZbQ (Zax l).2.1 hf base else ZbY base.sch (Zax l).2.1 false base
theorem ZiJ{w:World}{sc q:BA}{l:LB}(hq:Bool)(h:tl q=encB (tl (ZaN (Zbr (tl sc)))) (clean l))(h1:sc.size≤300000)(h2:q.size≤300000):RcIs w { rz with sch:=sc,hq:=hq,q:=q } (ZbI (tl sc) hq l) []:=
 ⟨by unfold ZbI;rw[←h];rfl,SlAt.nil w,h1,Xb _,Xb _,Xb _,Xb _,Xb _,Xb _,(fun b hb=>by cases hb),h2,Xb _⟩
theorem Zg1(w:World)(sc:BA)(hq:Bool):RecB (w.alloc (Obj.cells #[.string sc,.string ⟨#[]⟩,.string ⟨#[]⟩,.bool false,.string ⟨#[]⟩,.bool false,.int .i64 0,.bool false,.string ⟨#[]⟩,.slice none 0 0,.bool hq,.string ⟨#[]⟩,.bool false,.string ⟨#[]⟩] 101)) w.heap.size { rz with sch:=sc,hq:=hq }:=heap_alloc_new w _
theorem Zl5(s:BA)(hf:Bool)(rb:Rc)(base:U)(cs:LA)(w:World)(h2:RcIs w rb base cs)(hcs:cs.length≤60000)(hl:s.size≤30000)(ht:Tb w):Calls Tryz.prog 142 #[.string s,.bool hf,.agg #[.string rb.sch,.string rb.nam,.string rb.pw,.bool rb.hh,.string rb.host,.bool rb.hp,.int .i64 (rb.port:Int),.bool rb.op,.string rb.opath,.slice rb.so rb.sn rb.sc,.bool rb.hq,.string rb.q,.bool rb.hf,.string rb.fr]] w fun e w'=>Zfc e w' (ZaT (tl s) hf base) (cs.length+30002)∧Nx w w':=by
 have HBS:=Za h2;have HTB:=Za ht;have hc:=Zez (tl s)
 have HD:=Za (show ZaT (tl s) hf base=if(Zax (tl s)).2.2=true then ZbY (Zax (tl s)).1 (Zax (tl s)).2.1 true base
  else if rb.op=true then ZbQ (Zax (tl s)).2.1 hf base else ZbY (tl rb.sch) (Zax (tl s)).2.1 false base by rw[h2.usch,show rb.op=base.op by rw[←h2.eq];rfl];rfl)
 clear h2 ht
 go_enter Tryz.func142,Tryz.ntmps142
 go_wp2_with fail
 refine(Zl3 s _ (by omega)).mono ?_
 rintro e w1 ⟨⟨sc,re,rfl,hsc,hre⟩,hn1⟩;rw[←hsc,←hre]at HD hc;rw[tl_length,tl_length,tl_length]at hc
 have hscl:sc.size≤30000:=by omega
 have hrel:re.size≤30000:=by omega
 obtain⟨g1,g2,g3⟩:=Zcb hn1;have HBB:=Za g1;have HZ:=Za g2;have HN:=Za g3;have HB1:=Za (HBS.out.on HN.out);clear hsc hre hn1 g1 g2 g3 hc;generalize (Zax (tl s)).2.2=found at *;obtain⟨b0,b1,b2,b3,b4,b5,b6,b7,b8,b9,b10,b11,b12,b13⟩:=HBB.out.cells;obtain⟨z0,z1,z2,z3,z4,z5,z6,z7,z8,z9,z10,z11,z12,z13⟩:=HZ.out.cells;have zf0:=HZ.out.free 0;have zf1:=HZ.out.free 1;have zf2:=HZ.out.free 2;have zf3:=HZ.out.free 3;have zf4:=HZ.out.free 4;have zf5:=HZ.out.free 5;have zf6:=HZ.out.free 6;have zf7:=HZ.out.free 7;have zf8:=HZ.out.free 8;have zf9:=HZ.out.free 9;have zf10:=HZ.out.free 10;have zf11:=HZ.out.free 11;have zf12:=HZ.out.free 12;have zf13:=HZ.out.free 13
 cases found
 ·have HD1:=Za (HD.out.trans (if_neg (by decide)))
  clear HD
  cases hop:rb.op
  ·have HD2:=Za (HD1.out.trans (if_neg (by rw[hop];decide)))
   have hrs:=HBS.out.lsch;rw[hop]at b7;clear HD1 hop
   have HRD:=Za (show ZbY (tl rb.sch) (tl re) false base=if tl rb.sch=[]then(zeroU,2)else if false=true then ZQ (ZbI (tl rb.sch) (bcut (isB 63) (tl re)).2.2 (bcut (isB 63) (tl re)).2.1) (bcut (isB 63) (tl re)).1 base else ZV (ZbI (tl rb.sch) (bcut (isB 63) (tl re)).2.2 (bcut (isB 63) (tl re)).2.1) (bcut (isB 63) (tl re)).1 base from rfl)
   by_cases hs0:(rb.sch).size=0
   ·have HE:=Za (HD2.out.trans (HRD.out.trans (if_pos (Zz hs0))))
    have hs0':=Zf hs0;clear HD2 HRD hs0;go_wp2
    refine Z9 (rb:=w.heap.size+1) Tryz.results142 rfl rfl (RecB.put HZ.out _ _ _ _ _ _ _ _ _ _ _ _ _ _) rfl ⟨⟨rz,[],(by rw[HE.out];first|done|rfl),(by rw[HE.out];exact Zc6 _),by simp⟩,(Zd HN.out (by omega) _ _ _ _ _ _ _ _ _ _ _ _ _ _)⟩
   ·have HD3:=Za (HD2.out.trans (HRD.out.trans (if_neg (ZcC hs0))))
    have hs0':=Ze hs0;clear HD2 HRD hs0;have hc2:=Z8 (isB 63) (tl re);go_wp2_with fail
    refine(ZcN re 63 _ (Zg (by omega))).mono ?_
    rintro e w2 ⟨⟨lf,qu,rfl,hlf,hqu⟩,hn2⟩;rw[←hlf,←hqu]at HD3 hc2;rw[tl_length,tl_length,tl_length]at hc2
    have hlfl:lf.size≤30000:=by omega
    have hqul:qu.size≤30000:=by omega
    have HBB2:=Za (HBB.out.on hn2);have HZ2:=Za (HZ.out.on hn2);have HN2:=Za (HN.out.then hn2);clear hlf hqu hn2 hc2;generalize (bcut (isB 63) (tl re)).2.2=hasq at *;clear b0 b1 b2 b3 b4 b5 b6 b7 b8 b9 b10 b11 b12 b13 z0 z1 z2 z3 z4 z5 z6 z7 z8 z9 z10 z11 z12 z13 zf0 zf1 zf2 zf3 zf4 zf5 zf6 zf7 zf8 zf9 zf10 zf11 zf12 zf13;have hlb:w.heap.size<w2.heap.size:=(Xa.1 HBB2.out).1;have hlz:w.heap.size+1<w2.heap.size:=(Xa.1 HZ2.out).1
    go_wp2_with (first|(go_at_call 189;refine(Z6 _ _).mono ?_;rintro e w' ⟨rfl,rfl⟩)|(go_at_call 190;refine(ZeX _ _).mono ?_;rintro e w' ⟨rfl,rfl⟩)|fail)
    refine(Zaw qu (Zbr (tl rb.sch)) _ (by omega)).mono ?_
    rintro e w3 ⟨en,rfl,hen,hn3⟩
    have hel:en.size≤300000:=by rw[←tl_length,hen];exact Zbc _ _ (by rw[tl_length];exact hqul)
    have HEN:=Za hen;have HU3:=Za ((Zg1 w2 rb.sch hasq).on hn3);have HBB3:=Za ((HBB2.out.on (Nx.rfl.alloc _)).on hn3);have HZ3:=Za ((HZ2.out.on (Nx.rfl.alloc _)).on hn3);have HN3:=Za ((HN2.out.alloc _).then hn3);clear hen hn3;obtain⟨a0,a1,a2,a3,a4,a5,a6,a7,a8,a9,a10,a11,a12,a13⟩:=HU3.out.cells;have af11:=HU3.out.free 11;obtain⟨b0,b1,b2,b3,b4,b5,b6,b7,b8,b9,b10,b11,b12,b13⟩:=HBB3.out.cells
    have HZ4:=Za (HZ3.out.far (q:=w2.heap.size) (by omega) 11 (.string en))
    have HN4:=Za (show Nx w (w3.setCell ⟨w2.heap.size,11,none⟩ (.string en))from Below.setCell (p:=⟨w2.heap.size,11,none⟩) HN3.out (by show w.heap.size≤w2.heap.size;omega) (.string en))
    have HRC:=Za (show RcIs (w3.setCell ⟨w2.heap.size,11,none⟩ (.string en)) { rz with sch:=rb.sch,hq:=hasq,q:=en } (ZbI (tl rb.sch) hasq (tl qu)) []from ZiJ hasq HEN.out (by omega) hel)
    have HE:=Za (HD3.out.trans (if_neg (by decide)))
    clear HD3;go_wp2_with fail
    refine(Ze0 { rz with sch:=rb.sch,hq:=hasq,q:=en } rb _ base [] cs lf _ HRC.out (HBS.out.on HN4.out) hcs (by simp) hlfl (HTB.out.on HN4.out)).mono ?_
    rintro e w5 ⟨⟨r,ds,rfl,hr,hdl⟩,hn5⟩;have HR:=Za hr;have HZ5:=Za (HZ4.out.on hn5);have HN5:=Za (HN4.out.then hn5);clear hr hn5;clear a0 a1 a2 a3 a4 a5 a6 a7 a8 a9 a10 a11 a12 a13 af11 b0 b1 b2 b3 b4 b5 b6 b7 b8 b9 b10 b11 b12 b13;obtain⟨z0,z1,z2,z3,z4,z5,z6,z7,z8,z9,z10,z11,z12,z13⟩:=HZ5.out.cells;have zf0:=HZ5.out.free 0;have zf1:=HZ5.out.free 1;have zf2:=HZ5.out.free 2;have zf3:=HZ5.out.free 3;have zf4:=HZ5.out.free 4;have zf5:=HZ5.out.free 5;have zf6:=HZ5.out.free 6;have zf7:=HZ5.out.free 7;have zf8:=HZ5.out.free 8;have zf9:=HZ5.out.free 9;have zf10:=HZ5.out.free 10;have zf11:=HZ5.out.free 11;have zf12:=HZ5.out.free 12;have zf13:=HZ5.out.free 13;go_wp2
    exact Z9 (rb:=w.heap.size+1) Tryz.results142 rfl rfl (RecB.put HZ5.out _ _ _ _ _ _ _ _ _ _ _ _ _ _) rfl ⟨⟨r,ds,(by rw[HE.out];first|done|rfl),(by rw[HE.out];exact HR.out.ks (Ks.then Ks.rfl (Zq HZ5.out.ty (by decide) _ _ _ _ _ _ _ _ _ _ _ _ _ _))),by omega⟩,(Zd HN5.out (by omega) _ _ _ _ _ _ _ _ _ _ _ _ _ _)⟩
  ·have HE:=Za (HD1.out.trans (if_pos hop))
   have HOA:=Za (Zl4 re hf rb base cs w1 HB1.out);rw[hop]at b7 HOA;clear HD1;go_wp2_with fail
   refine HOA.out.mono ?_
   rintro e w5 ⟨⟨r,ds,rfl,hr,hdl⟩,hn5⟩;have HR:=Za hr;have HZ5:=Za (HZ.out.on hn5);have HN5:=Za (HN.out.then hn5);clear hr hn5;clear z0 z1 z2 z3 z4 z5 z6 z7 z8 z9 z10 z11 z12 z13 zf0 zf1 zf2 zf3 zf4 zf5 zf6 zf7 zf8 zf9 zf10 zf11 zf12 zf13 b0 b1 b2 b3 b4 b5 b6 b7 b8 b9 b10 b11 b12 b13;obtain⟨z0,z1,z2,z3,z4,z5,z6,z7,z8,z9,z10,z11,z12,z13⟩:=HZ5.out.cells;have zf0:=HZ5.out.free 0;have zf1:=HZ5.out.free 1;have zf2:=HZ5.out.free 2;have zf3:=HZ5.out.free 3;have zf4:=HZ5.out.free 4;have zf5:=HZ5.out.free 5;have zf6:=HZ5.out.free 6;have zf7:=HZ5.out.free 7;have zf8:=HZ5.out.free 8;have zf9:=HZ5.out.free 9;have zf10:=HZ5.out.free 10;have zf11:=HZ5.out.free 11;have zf12:=HZ5.out.free 12;have zf13:=HZ5.out.free 13;go_wp2
   exact Z9 (rb:=w.heap.size+1) Tryz.results142 rfl rfl (RecB.put HZ5.out _ _ _ _ _ _ _ _ _ _ _ _ _ _) rfl ⟨⟨r,ds,(by rw[HE.out];first|done|rfl),(by rw[HE.out];exact HR.out.ks (Ks.then Ks.rfl (Zq HZ5.out.ty (by decide) _ _ _ _ _ _ _ _ _ _ _ _ _ _))),by omega⟩,(Zd HN5.out (by omega) _ _ _ _ _ _ _ _ _ _ _ _ _ _)⟩
 ·have HD2:=Za (HD.out.trans (if_pos rfl))
  clear HD
  have HRD:=Za (show ZbY (tl sc) (tl re) true base=if tl sc=[]then(zeroU,2)else if true=true then ZQ (ZbI (tl sc) (bcut (isB 63) (tl re)).2.2 (bcut (isB 63) (tl re)).2.1) (bcut (isB 63) (tl re)).1 base else ZV (ZbI (tl sc) (bcut (isB 63) (tl re)).2.2 (bcut (isB 63) (tl re)).2.1) (bcut (isB 63) (tl re)).1 base from rfl)
  by_cases hs0:(sc).size=0
  ·have HE:=Za (HD2.out.trans (HRD.out.trans (if_pos (Zz hs0))))
   have hs0':=Zf hs0;clear HD2 HRD hs0;go_wp2
   refine Z9 (rb:=w.heap.size+1) Tryz.results142 rfl rfl (RecB.put HZ.out _ _ _ _ _ _ _ _ _ _ _ _ _ _) rfl ⟨⟨rz,[],(by rw[HE.out];first|done|rfl),(by rw[HE.out];exact Zc6 _),by simp⟩,(Zd HN.out (by omega) _ _ _ _ _ _ _ _ _ _ _ _ _ _)⟩
  ·have HD3:=Za (HD2.out.trans (HRD.out.trans (if_neg (ZcC hs0))))
   have hs0':=Ze hs0;clear HD2 HRD hs0;have hc2:=Z8 (isB 63) (tl re);go_wp2_with fail
   refine(ZcN re 63 _ (Zg (by omega))).mono ?_
   rintro e w2 ⟨⟨lf,qu,rfl,hlf,hqu⟩,hn2⟩;rw[←hlf,←hqu]at HD3 hc2;rw[tl_length,tl_length,tl_length]at hc2
   have hlfl:lf.size≤30000:=by omega
   have hqul:qu.size≤30000:=by omega
   have HBB2:=Za (HBB.out.on hn2);have HZ2:=Za (HZ.out.on hn2);have HN2:=Za (HN.out.then hn2);clear hlf hqu hn2 hc2;generalize (bcut (isB 63) (tl re)).2.2=hasq at *;clear b0 b1 b2 b3 b4 b5 b6 b7 b8 b9 b10 b11 b12 b13 z0 z1 z2 z3 z4 z5 z6 z7 z8 z9 z10 z11 z12 z13 zf0 zf1 zf2 zf3 zf4 zf5 zf6 zf7 zf8 zf9 zf10 zf11 zf12 zf13;have hlb:w.heap.size<w2.heap.size:=(Xa.1 HBB2.out).1;have hlz:w.heap.size+1<w2.heap.size:=(Xa.1 HZ2.out).1
   go_wp2_with (first|(go_at_call 189;refine(Z6 _ _).mono ?_;rintro e w' ⟨rfl,rfl⟩)|(go_at_call 190;refine(ZeX _ _).mono ?_;rintro e w' ⟨rfl,rfl⟩)|fail)
   refine(Zaw qu (Zbr (tl sc)) _ (by omega)).mono ?_
   rintro e w3 ⟨en,rfl,hen,hn3⟩
   have hel:en.size≤300000:=by rw[←tl_length,hen];exact Zbc _ _ (by rw[tl_length];exact hqul)
   have HEN:=Za hen;have HU3:=Za ((Zg1 w2 sc hasq).on hn3);have HBB3:=Za ((HBB2.out.on (Nx.rfl.alloc _)).on hn3);have HZ3:=Za ((HZ2.out.on (Nx.rfl.alloc _)).on hn3);have HN3:=Za ((HN2.out.alloc _).then hn3);clear hen hn3;obtain⟨a0,a1,a2,a3,a4,a5,a6,a7,a8,a9,a10,a11,a12,a13⟩:=HU3.out.cells;have af11:=HU3.out.free 11;obtain⟨b0,b1,b2,b3,b4,b5,b6,b7,b8,b9,b10,b11,b12,b13⟩:=HBB3.out.cells
   have HZ4:=Za (HZ3.out.far (q:=w2.heap.size) (by omega) 11 (.string en))
   have HN4:=Za (show Nx w (w3.setCell ⟨w2.heap.size,11,none⟩ (.string en))from Below.setCell (p:=⟨w2.heap.size,11,none⟩) HN3.out (by show w.heap.size≤w2.heap.size;omega) (.string en))
   have HRC:=Za (show RcIs (w3.setCell ⟨w2.heap.size,11,none⟩ (.string en)) { rz with sch:=sc,hq:=hasq,q:=en } (ZbI (tl sc) hasq (tl qu)) []from ZiJ hasq HEN.out (by omega) hel)
   have HE:=Za (HD3.out.trans (if_pos (by decide)))
   clear HD3;go_wp2_with fail
   refine(ZiI { rz with sch:=sc,hq:=hasq,q:=en } rb _ base [] cs lf _ HRC.out (HBS.out.on HN4.out) hcs (by simp) hlfl (HTB.out.on HN4.out)).mono ?_
   rintro e w5 ⟨⟨r,ds,rfl,hr,hdl⟩,hn5⟩;have HR:=Za hr;have HZ5:=Za (HZ4.out.on hn5);have HN5:=Za (HN4.out.then hn5);clear hr hn5;clear a0 a1 a2 a3 a4 a5 a6 a7 a8 a9 a10 a11 a12 a13 af11 b0 b1 b2 b3 b4 b5 b6 b7 b8 b9 b10 b11 b12 b13;obtain⟨z0,z1,z2,z3,z4,z5,z6,z7,z8,z9,z10,z11,z12,z13⟩:=HZ5.out.cells;have zf0:=HZ5.out.free 0;have zf1:=HZ5.out.free 1;have zf2:=HZ5.out.free 2;have zf3:=HZ5.out.free 3;have zf4:=HZ5.out.free 4;have zf5:=HZ5.out.free 5;have zf6:=HZ5.out.free 6;have zf7:=HZ5.out.free 7;have zf8:=HZ5.out.free 8;have zf9:=HZ5.out.free 9;have zf10:=HZ5.out.free 10;have zf11:=HZ5.out.free 11;have zf12:=HZ5.out.free 12;have zf13:=HZ5.out.free 13;go_wp2
   exact Z9 (rb:=w.heap.size+1) Tryz.results142 rfl rfl (RecB.put HZ5.out _ _ _ _ _ _ _ _ _ _ _ _ _ _) rfl ⟨⟨r,ds,(by rw[HE.out];first|done|rfl),(by rw[HE.out];exact HR.out.ks (Ks.then Ks.rfl (Zq HZ5.out.ty (by decide) _ _ _ _ _ _ _ _ _ _ _ _ _ _))),by omega⟩,(Zd HN5.out (by omega) _ _ _ _ _ _ _ _ _ _ _ _ _ _)⟩
def wholeText(l:List UInt8):List UInt8:=noBreaks (trimB (clean l))
def Zgv(r:U×Int)(hf:Bool)(f:List UInt8):U×Int:=if r.2≠0 then(zeroU,r.2)else({ r.1 with hf:=hf,fr:=encB (tl (ZaN 1)) (clean f) },0)
def ZD(l:List UInt8)(base:U):U×Int:=
 Zgv (ZaT (bcut (isB 35) (wholeText l)).1 (bcut (isB 35) (wholeText l)).2.2 base) (bcut (isB 35) (wholeText l)).2.2 (bcut (isB 35) (wholeText l)).2.1
theorem ZbJ(s:BA)(rb:Rc)(base:U)(cs:LA)(w:World)(h2:RcIs w rb base cs)(hcs:cs.length≤60000)(hl:s.size≤9000)(ht:Tb w):Calls Tryz.prog 79 #[.string s,.agg #[.string rb.sch,.string rb.nam,.string rb.pw,.bool rb.hh,.string rb.host,.bool rb.hp,.int .i64 (rb.port:Int),.bool rb.op,.string rb.opath,.slice rb.so rb.sn rb.sc,.bool rb.hq,.string rb.q,.bool rb.hf,.string rb.fr]] w fun e w'=>Zfc e w' (ZD (tl s) base) (cs.length+30002)∧Nx w w':=by
 have HBS:=Za h2;have HTB:=Za ht;clear h2 ht
 go_enter Tryz.func79,Tryz.ntmps79
 go_wp2_with fail
 refine(Zbo s _ (by omega)).mono ?_
 rintro e w1 ⟨cl,rfl,hcl,hn1⟩
 have hcll:cl.size≤27000:=by have:=Za9 (tl s);rw[←hcl,tl_length,tl_length]at this;omega
 obtain⟨g1,g2,g3⟩:=Zcb hn1;have HBB:=Za g1;have HZ:=Za g2;have HN:=Za g3;have HCL:=Za hcl;clear hcl hn1 g1 g2 g3
 go_wp2_with (first|(go_at_call 139;refine(ZpY _ _ (by omega)).mono ?_;rintro e w' ⟨tr,rfl,htr,htl,rfl⟩;have HTR:=Za htr;clear htr)|fail)
 refine(ZiC tr _ (by omega)).mono ?_
 rintro e w2 ⟨nb,rfl,hnb,hn2⟩
 have hnbl:nb.size≤27000:=by have:=Zdh (tl tr);rw[←hnb,tl_length,tl_length]at this;omega
 have HWT:=Za (show wholeText (tl s)=tl nb by unfold wholeText;rw[←HCL.out,←HTR.out,←hnb])
 have HBB2:=Za (HBB.out.on hn2);have HZ2:=Za (HZ.out.on hn2);have HN2:=Za (HN.out.then hn2);clear hnb hn2 HBB HZ HN;have hc:=Z8 (isB 35) (tl nb);go_wp2_with fail
 refine(ZcN nb 35 _ (Zg (by omega))).mono ?_
 rintro e w3 ⟨⟨ah,fg,rfl,hah,hfg⟩,hn3⟩;rw[←hah,←hfg,tl_length,tl_length,tl_length]at hc
 have HD:=Za (show ZD (tl s) base=Zgv (ZaT (tl ah) (bcut (isB 35) (tl nb)).2.2 base) (bcut (isB 35) (tl nb)).2.2 (tl fg)by unfold ZD;rw[HWT.out,hah,hfg])
 have HBB3:=Za (HBB2.out.on hn3);have HZ3:=Za (HZ2.out.on hn3);have HN3:=Za (HN2.out.then hn3)
 have hahl:ah.size≤30000:=by omega
 have hfgl:fg.size≤30000:=by omega
 clear hah hfg hn3 hc HBB2 HZ2 HN2;generalize (bcut (isB 35) (tl nb)).2.2=hf at *;obtain⟨b0,b1,b2,b3,b4,b5,b6,b7,b8,b9,b10,b11,b12,b13⟩:=HBB3.out.cells;go_wp2_with fail
 refine(Zl5 ah hf rb base cs _ (HBS.out.on HN3.out) hcs hahl (HTB.out.on HN3.out)).mono ?_
 rintro e w4 ⟨⟨r,ds,rfl,hr,hdl⟩,hn4⟩;have HR:=Za hr;have HZ4:=Za (HZ3.out.on hn4);have HN4:=Za (HN3.out.then hn4);clear hr hn4 HZ3 HN3;clear b0 b1 b2 b3 b4 b5 b6 b7 b8 b9 b10 b11 b12 b13;obtain⟨z0,z1,z2,z3,z4,z5,z6,z7,z8,z9,z10,z11,z12,z13⟩:=HZ4.out.cells;have zf0:=HZ4.out.free 0;have zf1:=HZ4.out.free 1;have zf2:=HZ4.out.free 2;have zf3:=HZ4.out.free 3;have zf4:=HZ4.out.free 4;have zf5:=HZ4.out.free 5;have zf6:=HZ4.out.free 6;have zf7:=HZ4.out.free 7;have zf8:=HZ4.out.free 8;have zf9:=HZ4.out.free 9;have zf10:=HZ4.out.free 10;have zf11:=HZ4.out.free 11;have zf12:=HZ4.out.free 12;have zf13:=HZ4.out.free 13;have hlz:w.heap.size+1<w4.heap.size:=(Xa.1 HZ4.out).1;generalize ZaT (tl ah) hf base=q at *;obtain⟨qu,err⟩:=q;simp only at HR
 have HED:=Za (show Zgv (qu,err) hf (tl fg)=if err≠0 then(zeroU,err)else({ qu with hf:=hf,fr:=encB (tl (ZaN 1)) (clean (tl fg)) },0)from rfl)
 by_cases he:err=0
 ·subst he
  have HE:=Za (HD.out.trans (HED.out.trans (if_neg (by decide))))
  clear HD HED;go_wp2_with fail
  refine(Zaw fg 1 _ (by omega)).mono ?_
  rintro e w5 ⟨en,rfl,hen,hn5⟩
  have hel:en.size≤300000:=by rw[←tl_length,hen];exact Zbc _ _ (by rw[tl_length];exact hfgl)
  have HEN:=Za hen
  have HP5:=Za (((ZaS w4 { r with hf:=hf })).on hn5)
  have HZ5:=Za ((HZ4.out.on (Nx.rfl.alloc _)).on hn5);have HN5:=Za ((HN4.out.alloc _).then hn5);have HR5:=Za ((HR.out.on (Nx.rfl.alloc _)).on hn5);clear hen hn5;clear z0 z1 z2 z3 z4 z5 z6 z7 z8 z9 z10 z11 z12 z13 zf0 zf1 zf2 zf3 zf4 zf5 zf6 zf7 zf8 zf9 zf10 zf11 zf12 zf13;obtain⟨a0,a1,a2,a3,a4,a5,a6,a7,a8,a9,a10,a11,a12,a13⟩:=HP5.out.cells;have af13:=HP5.out.free 13;obtain⟨z0,z1,z2,z3,z4,z5,z6,z7,z8,z9,z10,z11,z12,z13⟩:=HZ5.out.cells;have zf0:=HZ5.out.free 0;have zf1:=HZ5.out.free 1;have zf2:=HZ5.out.free 2;have zf3:=HZ5.out.free 3;have zf4:=HZ5.out.free 4;have zf5:=HZ5.out.free 5;have zf6:=HZ5.out.free 6;have zf7:=HZ5.out.free 7;have zf8:=HZ5.out.free 8;have zf9:=HZ5.out.free 9;have zf10:=HZ5.out.free 10;have zf11:=HZ5.out.free 11;have zf12:=HZ5.out.free 12;have zf13:=HZ5.out.free 13;go_wp2
  refine Z9 (rb:=w.heap.size+1) Tryz.results79 rfl rfl (RecB.put (HZ5.out.far (by omega) 13 _) _ _ _ _ _ _ _ _ _ _ _ _ _ _) rfl ⟨⟨{ r with hf:=hf,fr:=en },ds,(by rw[HE.out];first|done|rfl),?_,by omega⟩,(Zd (Below.setCell HN5.out (by show w.heap.size≤w4.heap.size;omega) _) (by omega) _ _ _ _ _ _ _ _ _ _ _ _ _ _)⟩
  exact { eq:=by rw[HE.out,←HR.out.eq];simp only[Rc.u];rw[HEN.out]
          seg:=HR5.out.seg.ks (Ks.then (Ks.then Ks.rfl (ZW HP5.out.ty (by decide) 13 _)) (Zq (HZ5.out.ty.set w4.heap.size 13 _) (by decide) _ _ _ _ _ _ _ _ _ _ _ _ _ _))
          lsch:=HR.out.lsch
          lnam:=HR.out.lnam
          lpw:=HR.out.lpw
          lhost:=HR.out.lhost
          lport:=HR.out.lport
          lopath:=HR.out.lopath
          lsegs:=HR.out.lsegs
          lseg:=HR.out.lseg
          lq:=HR.out.lq
          lfr:=hel }
 ·have HE:=Za (HD.out.trans (HED.out.trans (if_pos he)))
  have he':(err != 0)=true:=Zd9 (beq_eq_false_iff_ne.2 he);clear HD HED he;go_wp2
  exact Z9 (rb:=w.heap.size+1) Tryz.results79 rfl rfl ((RecB.put HZ4.out _ _ _ _ _ _ _ _ _ _ _ _ _ _).on (Nx.rfl.alloc _)) rfl ⟨⟨rz,[],(by rw[HE.out];first|done|rfl),(by rw[HE.out];exact Zc6 _),by simp⟩,Nx.alloc (Zd HN4.out (by omega) _ _ _ _ _ _ _ _ _ _ _ _ _ _) _⟩
def ZbK(l:List UInt8):U×Int:=ZD l zeroU
theorem ZiK(s:BA)(w:World)(hl:s.size≤9000)(ht:Tb w):Calls Tryz.prog 137 #[.string s] w fun e w'=>Zfc e w' (ZbK (tl s)) 30002∧Nx w w':=by
 have HTB:=Za ht;clear ht
 go_enter Tryz.func137,Tryz.ntmps137
 go_wp2_with fail
 refine(ZbJ s rz zeroU [] _ (Zc6 _) (by simp) hl (HTB.out.on (Nx.rfl.alloc _))).mono ?_
 rintro e w1 ⟨⟨r,ds,rfl,hr,hdl⟩,hn⟩;have HR:=Za hr;have HZ:=Za ((Zd5 w).on hn);have HN:=Za (show Nx w w1 from(Nx.rfl.alloc _).then hn);clear hr hn;obtain⟨z0,z1,z2,z3,z4,z5,z6,z7,z8,z9,z10,z11,z12,z13⟩:=HZ.out.cells;have zf0:=HZ.out.free 0;have zf1:=HZ.out.free 1;have zf2:=HZ.out.free 2;have zf3:=HZ.out.free 3;have zf4:=HZ.out.free 4;have zf5:=HZ.out.free 5;have zf6:=HZ.out.free 6;have zf7:=HZ.out.free 7;have zf8:=HZ.out.free 8;have zf9:=HZ.out.free 9;have zf10:=HZ.out.free 10;have zf11:=HZ.out.free 11;have zf12:=HZ.out.free 12;have zf13:=HZ.out.free 13;go_wp2
 exact Z9 (rb:=w.heap.size) Tryz.results137 rfl rfl (RecB.put HZ.out _ _ _ _ _ _ _ _ _ _ _ _ _ _) rfl ⟨⟨r,ds,rfl,HR.out.ks (Ks.then Ks.rfl (Zq HZ.out.ty (by decide) _ _ _ _ _ _ _ _ _ _ _ _ _ _)),by simpa using hdl⟩,(Zd HN.out (Xc _) _ _ _ _ _ _ _ _ _ _ _ _ _ _)⟩
end Go.Proofs.YtchkhibgbnhjpabGreatDoor
