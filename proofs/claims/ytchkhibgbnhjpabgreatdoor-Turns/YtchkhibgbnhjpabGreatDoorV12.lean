import Derived.Test.YtchkhibgbnhjpabGreatDoorV11
open Array renaming getElem?_modify→Xa
open Nat renaming le_refl→Xb
namespace Go.Proofs.YtchkhibgbnhjpabGreatDoor
open Go.RowKit
set_option maxHeartbeats 16000000
theorem ZX{w w1:World}{ru rb:Rc}(hn:Nx (((w.alloc (Obj.cells #[.string ru.sch,.string ru.nam,.string ru.pw,.bool ru.hh,.string ru.host,.bool ru.hp,.int .i64 (ru.port:Int),.bool ru.op,.string ru.opath,.slice ru.so ru.sn ru.sc,.bool ru.hq,.string ru.q,.bool ru.hf,.string ru.fr] 101)).alloc (Obj.cells #[.string rb.sch,.string rb.nam,.string rb.pw,.bool rb.hh,.string rb.host,.bool rb.hp,.int .i64 (rb.port:Int),.bool rb.op,.string rb.opath,.slice rb.so rb.sn rb.sc,.bool rb.hq,.string rb.q,.bool rb.hf,.string rb.fr] 101)).alloc (Obj.cells #[.string ⟨#[]⟩,.string ⟨#[]⟩,.string ⟨#[]⟩,.bool false,.string ⟨#[]⟩,.bool false,.int .i64 0,.bool false,.string ⟨#[]⟩,.slice none 0 0,.bool false,.string ⟨#[]⟩,.bool false,.string ⟨#[]⟩] 101)) w1):RecB w1 w.heap.size ru∧RecB w1 (w.heap.size+1) rb∧RecB w1 (w.heap.size+1+1) rz∧Nx w w1:=by
 refine⟨((ZaS w ru).on ((Nx.rfl.alloc _).alloc _)).on hn,?_,?_,(((Nx.rfl.alloc _).alloc _).alloc _).then hn⟩
 ·have h:=ZaS (w.alloc (Obj.cells #[.string ru.sch,.string ru.nam,.string ru.pw,.bool ru.hh,.string ru.host,.bool ru.hp,.int .i64 (ru.port:Int),.bool ru.op,.string ru.opath,.slice ru.so ru.sn ru.sc,.bool ru.hq,.string ru.q,.bool ru.hf,.string ru.fr] 101)) rb
  rw[show(w.alloc (Obj.cells #[.string ru.sch,.string ru.nam,.string ru.pw,.bool ru.hh,.string ru.host,.bool ru.hp,.int .i64 (ru.port:Int),.bool ru.op,.string ru.opath,.slice ru.so ru.sn ru.sc,.bool ru.hq,.string ru.q,.bool ru.hf,.string ru.fr] 101)).heap.size=w.heap.size+1 by simp]at h
  exact(h.on (Nx.rfl.alloc _)).on hn
 ·have h:=Zd5 ((w.alloc (Obj.cells #[.string ru.sch,.string ru.nam,.string ru.pw,.bool ru.hh,.string ru.host,.bool ru.hp,.int .i64 (ru.port:Int),.bool ru.op,.string ru.opath,.slice ru.so ru.sn ru.sc,.bool ru.hq,.string ru.q,.bool ru.hf,.string ru.fr] 101)).alloc (Obj.cells #[.string rb.sch,.string rb.nam,.string rb.pw,.bool rb.hh,.string rb.host,.bool rb.hp,.int .i64 (rb.port:Int),.bool rb.op,.string rb.opath,.slice rb.so rb.sn rb.sc,.bool rb.hq,.string rb.q,.bool rb.hf,.string rb.fr] 101))
  rw[show((w.alloc (Obj.cells #[.string ru.sch,.string ru.nam,.string ru.pw,.bool ru.hh,.string ru.host,.bool ru.hp,.int .i64 (ru.port:Int),.bool ru.op,.string ru.opath,.slice ru.so ru.sn ru.sc,.bool ru.hq,.string ru.q,.bool ru.hf,.string ru.fr] 101)).alloc (Obj.cells #[.string rb.sch,.string rb.nam,.string rb.pw,.bool rb.hh,.string rb.host,.bool rb.hp,.int .i64 (rb.port:Int),.bool rb.op,.string rb.opath,.slice rb.so rb.sn rb.sc,.bool rb.hq,.string rb.q,.bool rb.hf,.string rb.fr] 101)).heap.size=w.heap.size+1+1 by simp]at h
  exact h.on hn
theorem Zcb{w w1:World}{ru:Rc}(hn:Nx ((w.alloc (Obj.cells #[.string ru.sch,.string ru.nam,.string ru.pw,.bool ru.hh,.string ru.host,.bool ru.hp,.int .i64 (ru.port:Int),.bool ru.op,.string ru.opath,.slice ru.so ru.sn ru.sc,.bool ru.hq,.string ru.q,.bool ru.hf,.string ru.fr] 101)).alloc (Obj.cells #[.string ⟨#[]⟩,.string ⟨#[]⟩,.string ⟨#[]⟩,.bool false,.string ⟨#[]⟩,.bool false,.int .i64 0,.bool false,.string ⟨#[]⟩,.slice none 0 0,.bool false,.string ⟨#[]⟩,.bool false,.string ⟨#[]⟩] 101)) w1):RecB w1 w.heap.size ru∧RecB w1 (w.heap.size+1) rz∧Nx w w1:=by
 refine⟨((ZaS w ru).on (Nx.rfl.alloc _)).on hn,?_,((Nx.rfl.alloc _).alloc _).then hn⟩
 have h:=Zd5 (w.alloc (Obj.cells #[.string ru.sch,.string ru.nam,.string ru.pw,.bool ru.hh,.string ru.host,.bool ru.hp,.int .i64 (ru.port:Int),.bool ru.op,.string ru.opath,.slice ru.so ru.sn ru.sc,.bool ru.hq,.string ru.q,.bool ru.hf,.string ru.fr] 101))
 rw[show(w.alloc (Obj.cells #[.string ru.sch,.string ru.nam,.string ru.pw,.bool ru.hh,.string ru.host,.bool ru.hp,.int .i64 (ru.port:Int),.bool ru.op,.string ru.opath,.slice ru.so ru.sn ru.sc,.bool ru.hq,.string ru.q,.bool ru.hf,.string ru.fr] 101)).heap.size=w.heap.size+1 by simp]at h
 exact h.on hn
def Zal(u:U)(left:List UInt8)(base:U):U:=
 if left=[]then { u with segs:=base.segs,hq:=u.hq||base.hq,q:=if u.hq=true then u.q else base.q }else { u with segs:=Zcu base.segs left u.sch }
theorem ZgY(ru rb:Rc)(u base:U)(bs cs:LA)(left:BA)(w:World)(h1:RcIs w ru u bs)(h2:RcIs w rb base cs)(hcs:cs.length≤60000)(hl:left.size≤30000):Calls Tryz.prog 229 #[.agg #[.string ru.sch,.string ru.nam,.string ru.pw,.bool ru.hh,.string ru.host,.bool ru.hp,.int .i64 (ru.port:Int),.bool ru.op,.string ru.opath,.slice ru.so ru.sn ru.sc,.bool ru.hq,.string ru.q,.bool ru.hf,.string ru.fr],.string left,.agg #[.string rb.sch,.string rb.nam,.string rb.pw,.bool rb.hh,.string rb.host,.bool rb.hp,.int .i64 (rb.port:Int),.bool rb.op,.string rb.opath,.slice rb.so rb.sn rb.sc,.bool rb.hq,.string rb.q,.bool rb.hf,.string rb.fr]] w fun e w'=>∃(r:Rc) (ds:LA),e=.returned (.agg #[.string r.sch,.string r.nam,.string r.pw,.bool r.hh,.string r.host,.bool r.hp,.int .i64 (r.port:Int),.bool r.op,.string r.opath,.slice r.so r.sn r.sc,.bool r.hq,.string r.q,.bool r.hf,.string r.fr])∧RcIs w' r (Zal u (tl left) base) ds∧ds.length≤cs.length+30001∧Nx w w':=by
 have HU:=Za h1;have HBS:=Za h2;clear h1 h2
 by_cases h0:left.size=0
 ·have HE:=Za (show Zal u (tl left) base={ u with segs:=base.segs,hq:=u.hq||base.hq,q:=if u.hq=true then u.q else base.q }from if_pos (Zz h0))
  have h0':=Zf h0;clear h0
  go_enter Tryz.func229,Tryz.ntmps229
  go_wp2_with fail
  refine(ZkR _ cs _ (HBS.out.seg.on (((Nx.rfl.alloc _).alloc _).alloc _)) (by omega)).mono ?_
  rintro e w1 ⟨v1,rfl,ho,hn⟩;obtain⟨ao,n,cap,rfl⟩:=ZK ho;obtain⟨g1,g2,g3,g4⟩:=ZX hn;have HO:=Za (Za5 ho);have HUB:=Za g1;have HBB:=Za g2;have HZ:=Za g3;have HN:=Za g4;clear ho hn g1 g2 g3 g4;obtain⟨a0,a1,a2,a3,a4,a5,a6,a7,a8,a9,a10,a11,a12,a13⟩:=HUB.out.cells;have af9:=HUB.out.free 9;have af10:=HUB.out.free 10;have af11:=HUB.out.free 11;obtain⟨-,-,-,-,-,-,-,-,-,-,b10,b11,-,-⟩:=HBB.out.cells;obtain⟨z0,z1,z2,z3,z4,z5,z6,z7,z8,z9,z10,z11,z12,z13⟩:=HZ.out.cells;have zf0:=HZ.out.free 0;have zf1:=HZ.out.free 1;have zf2:=HZ.out.free 2;have zf3:=HZ.out.free 3;have zf4:=HZ.out.free 4;have zf5:=HZ.out.free 5;have zf6:=HZ.out.free 6;have zf7:=HZ.out.free 7;have zf8:=HZ.out.free 8;have zf9:=HZ.out.free 9;have zf10:=HZ.out.free 10;have zf11:=HZ.out.free 11;have zf12:=HZ.out.free 12;have zf13:=HZ.out.free 13
  cases hhq:ru.hq
  ·rw[hhq]at a10
   go_wp2
   refine Zc4 (rb:=w.heap.size+1+1) Tryz.results229 rfl (RecB.put (((HZ.out.far (by omega) 9 _).far (by omega) 10 _).far (by omega) 11 _) _ _ _ _ _ _ _ _ _ _ _ _ _ _) rfl ⟨{ ru with so:=ao,sn:=n,sc:=cap,hq:=rb.hq,q:=rb.q },cs,rfl,?_,by omega,(Zd (Below.setCell (Below.setCell (Below.setCell HN.out (Xb _) _) (Xb _) _) (Xb _) _) (by omega) _ _ _ _ _ _ _ _ _ _ _ _ _ _)⟩
   exact { eq:=by rw[HE.out,←HU.out.eq,←HBS.out.eq];simp[Rc.u,hhq]
           seg:=HO.out.ks (Ks.then (Ks.then (Ks.then (Ks.then Ks.rfl (ZW HUB.out.ty (by decide) 9 _)) (ZW (HUB.out.ty.set w.heap.size 9 _) (by decide) 10 _)) (ZW ((HUB.out.ty.set w.heap.size 9 _).set w.heap.size 10 _) (by decide) 11 _)) (Zq (((HZ.out.ty.set w.heap.size 9 _).set w.heap.size 10 _).set w.heap.size 11 _) (by decide) _ _ _ _ _ _ _ _ _ _ _ _ _ _))
           lsch:=HU.out.lsch
           lnam:=HU.out.lnam
           lpw:=HU.out.lpw
           lhost:=HU.out.lhost
           lport:=HU.out.lport
           lopath:=HU.out.lopath
           lsegs:=HBS.out.lsegs
           lseg:=HBS.out.lseg
           lq:=HBS.out.lq
           lfr:=HU.out.lfr }
  ·rw[hhq]at a10
   go_wp2
   refine Zc4 (rb:=w.heap.size+1+1) Tryz.results229 rfl (RecB.put (HZ.out.far (by omega) 9 _) _ _ _ _ _ _ _ _ _ _ _ _ _ _) rfl ⟨{ ru with so:=ao,sn:=n,sc:=cap,hq:=true },cs,rfl,?_,by omega,(Zd (Below.setCell HN.out (Xb _) _) (by omega) _ _ _ _ _ _ _ _ _ _ _ _ _ _)⟩
   exact { eq:=by rw[HE.out,←HU.out.eq,←HBS.out.eq];simp[Rc.u,hhq]
           seg:=HO.out.ks (Ks.then (Ks.then Ks.rfl (ZW HUB.out.ty (by decide) 9 _)) (Zq (HZ.out.ty.set w.heap.size 9 _) (by decide) _ _ _ _ _ _ _ _ _ _ _ _ _ _))
           lsch:=HU.out.lsch
           lnam:=HU.out.lnam
           lpw:=HU.out.lpw
           lhost:=HU.out.lhost
           lport:=HU.out.lport
           lopath:=HU.out.lopath
           lsegs:=HBS.out.lsegs
           lseg:=HBS.out.lseg
           lq:=HU.out.lq
           lfr:=HU.out.lfr }
 ·have HE:=Za (show Zal u (tl left) base={ u with segs:=Zcu base.segs (tl left) u.sch }from if_neg (ZcC h0))
  have h0':=Ze h0;clear h0
  go_enter Tryz.func229,Tryz.ntmps229
  go_wp2_with fail
  refine(ZjW _ cs left ru.sch _ (HBS.out.seg.on (((Nx.rfl.alloc _).alloc _).alloc _)) (by omega) (by omega)).mono ?_
  rintro e w1 ⟨v1,ds,rfl,ho,hds,hdl,hn⟩;obtain⟨ao,n,cap,rfl⟩:=ZK ho;obtain⟨g1,g2,g3,g4⟩:=ZX hn;have HO:=Za (Za5 ho);have HUB:=Za g1;have HZ:=Za g3;have HN:=Za g4;have HDS:=Za hds
  have HSH:=Za (ZaO (hds.trans (by rw[HBS.out.segs])) (ZhI HBS.out.short (by rw[tl_length];exact hl)))
  clear ho hn g1 g2 g3 g4 hds;obtain⟨a0,a1,a2,a3,a4,a5,a6,a7,a8,a9,a10,a11,a12,a13⟩:=HUB.out.cells;have af9:=HUB.out.free 9;obtain⟨z0,z1,z2,z3,z4,z5,z6,z7,z8,z9,z10,z11,z12,z13⟩:=HZ.out.cells;have zf0:=HZ.out.free 0;have zf1:=HZ.out.free 1;have zf2:=HZ.out.free 2;have zf3:=HZ.out.free 3;have zf4:=HZ.out.free 4;have zf5:=HZ.out.free 5;have zf6:=HZ.out.free 6;have zf7:=HZ.out.free 7;have zf8:=HZ.out.free 8;have zf9:=HZ.out.free 9;have zf10:=HZ.out.free 10;have zf11:=HZ.out.free 11;have zf12:=HZ.out.free 12;have zf13:=HZ.out.free 13;go_wp2
  refine Zc4 (rb:=w.heap.size+1+1) Tryz.results229 rfl (RecB.put (HZ.out.far (by omega) 9 _) _ _ _ _ _ _ _ _ _ _ _ _ _ _) rfl ⟨{ ru with so:=ao,sn:=n,sc:=cap },ds,rfl,?_,by omega,(Zd (Below.setCell HN.out (Xb _) _) (by omega) _ _ _ _ _ _ _ _ _ _ _ _ _ _)⟩
  exact { eq:=by rw[HE.out,←HU.out.eq,←HBS.out.eq];simp only[Rc.u];rw[HDS.out]
          seg:=HO.out.ks (Ks.then (Ks.then Ks.rfl (ZW HUB.out.ty (by decide) 9 _)) (Zq (HZ.out.ty.set w.heap.size 9 _) (by decide) _ _ _ _ _ _ _ _ _ _ _ _ _ _))
          lsch:=HU.out.lsch
          lnam:=HU.out.lnam
          lpw:=HU.out.lpw
          lhost:=HU.out.lhost
          lport:=HU.out.lport
          lopath:=HU.out.lopath
          lsegs:=by omega
          lseg:=HSH.out
          lq:=HU.out.lq
          lfr:=HU.out.lfr }
theorem RecB.s1{w:World}{b:Nat}{r:Rc}(h:RecB w b r)(x:BA):RecB (w.setCell ⟨b,1,none⟩ (.string x)) b { r with nam:=x }:=by
 unfold RecB at *
 simp[World.setCell,Xa,h]
theorem RecB.s2{w:World}{b:Nat}{r:Rc}(h:RecB w b r)(x:BA):RecB (w.setCell ⟨b,2,none⟩ (.string x)) b { r with pw:=x }:=by
 unfold RecB at *
 simp[World.setCell,Xa,h]
theorem RecB.s4{w:World}{b:Nat}{r:Rc}(h:RecB w b r)(x:BA):RecB (w.setCell ⟨b,4,none⟩ (.string x)) b { r with host:=x }:=by
 unfold RecB at *
 simp[World.setCell,Xa,h]
theorem RecB.s5{w:World}{b:Nat}{r:Rc}(h:RecB w b r)(x:Bool):RecB (w.setCell ⟨b,5,none⟩ (.bool x)) b { r with hp:=x }:=by
 unfold RecB at *
 simp[World.setCell,Xa,h]
theorem RecB.s8{w:World}{b:Nat}{r:Rc}(h:RecB w b r)(x:BA):RecB (w.setCell ⟨b,8,none⟩ (.string x)) b { r with opath:=x }:=by
 unfold RecB at *
 simp[World.setCell,Xa,h]
theorem RecB.s10{w:World}{b:Nat}{r:Rc}(h:RecB w b r)(x:Bool):RecB (w.setCell ⟨b,10,none⟩ (.bool x)) b { r with hq:=x }:=by
 unfold RecB at *
 simp[World.setCell,Xa,h]
theorem RecB.s11{w:World}{b:Nat}{r:Rc}(h:RecB w b r)(x:BA):RecB (w.setCell ⟨b,11,none⟩ (.string x)) b { r with q:=x }:=by
 unfold RecB at *
 simp[World.setCell,Xa,h]
def ZbQ(rest:List UInt8)(hf:Bool)(base:U):U×Int:=if rest=[]∧hf=true then(base,0)else(zeroU,2)
theorem Zl4(rest:BA)(hf:Bool)(rb:Rc)(base:U)(cs:LA)(w:World)(h2:RcIs w rb base cs):Calls Tryz.prog 188 #[.string rest,.bool hf,.agg #[.string rb.sch,.string rb.nam,.string rb.pw,.bool rb.hh,.string rb.host,.bool rb.hp,.int .i64 (rb.port:Int),.bool rb.op,.string rb.opath,.slice rb.so rb.sn rb.sc,.bool rb.hq,.string rb.q,.bool rb.hf,.string rb.fr]] w fun e w'=>Zfc e w' (ZbQ (tl rest) hf base) cs.length∧Nx w w':=by
 have HBS:=Za h2;clear h2
 by_cases h0:rest.size=0
 ·have h0':=Zf h0
  have HT:=Za (Zz h0);clear h0
  cases hf
  ·have HE:=Za (show ZbQ (tl rest) false base=(zeroU,2)from if_neg (fun h=>by cases h.2))
   go_enter Tryz.func188,Tryz.ntmps188
   go_wp2;have HC:=Za (Zd5 (w.alloc (Obj.cells #[.string rb.sch,.string rb.nam,.string rb.pw,.bool rb.hh,.string rb.host,.bool rb.hp,.int .i64 (rb.port:Int),.bool rb.op,.string rb.opath,.slice rb.so rb.sn rb.sc,.bool rb.hq,.string rb.q,.bool rb.hf,.string rb.fr] 101)))
   rw[show(w.alloc (Obj.cells #[.string rb.sch,.string rb.nam,.string rb.pw,.bool rb.hh,.string rb.host,.bool rb.hp,.int .i64 (rb.port:Int),.bool rb.op,.string rb.opath,.slice rb.so rb.sn rb.sc,.bool rb.hq,.string rb.q,.bool rb.hf,.string rb.fr] 101)).heap.size=w.heap.size+1 by simp]at HC
   exact Z9 (rb:=w.heap.size+1) Tryz.results188 rfl rfl HC.out rfl ⟨⟨rz,[],by rw[HE.out],by rw[HE.out];exact Zc6 _,by simp⟩,(Nx.rfl.alloc _).alloc _⟩
  ·have HE:=Za (show ZbQ (tl rest) true base=(base,0)from if_pos ⟨HT.out,rfl⟩)
   go_enter Tryz.func188,Tryz.ntmps188
   go_wp2;have HC:=Za (ZaS (w.alloc (Obj.cells #[.string rb.sch,.string rb.nam,.string rb.pw,.bool rb.hh,.string rb.host,.bool rb.hp,.int .i64 (rb.port:Int),.bool rb.op,.string rb.opath,.slice rb.so rb.sn rb.sc,.bool rb.hq,.string rb.q,.bool rb.hf,.string rb.fr] 101)) rb)
   rw[show(w.alloc (Obj.cells #[.string rb.sch,.string rb.nam,.string rb.pw,.bool rb.hh,.string rb.host,.bool rb.hp,.int .i64 (rb.port:Int),.bool rb.op,.string rb.opath,.slice rb.so rb.sn rb.sc,.bool rb.hq,.string rb.q,.bool rb.hf,.string rb.fr] 101)).heap.size=w.heap.size+1 by simp]at HC
   exact Z9 (rb:=w.heap.size+1) Tryz.results188 rfl rfl HC.out rfl ⟨⟨rb,cs,by rw[HE.out],by rw[HE.out];exact HBS.out.on ((Nx.rfl.alloc _).alloc _),Xb _⟩,(Nx.rfl.alloc _).alloc _⟩
 ·have h0':=Ze h0
  have HE:=Za (show ZbQ (tl rest) hf base=(zeroU,2)from if_neg (fun h=>ZcC h0 h.1))
  clear h0
  go_enter Tryz.func188,Tryz.ntmps188
  go_wp2;have HC:=Za (Zd5 (w.alloc (Obj.cells #[.string rb.sch,.string rb.nam,.string rb.pw,.bool rb.hh,.string rb.host,.bool rb.hp,.int .i64 (rb.port:Int),.bool rb.op,.string rb.opath,.slice rb.so rb.sn rb.sc,.bool rb.hq,.string rb.q,.bool rb.hf,.string rb.fr] 101)))
  rw[show(w.alloc (Obj.cells #[.string rb.sch,.string rb.nam,.string rb.pw,.bool rb.hh,.string rb.host,.bool rb.hp,.int .i64 (rb.port:Int),.bool rb.op,.string rb.opath,.slice rb.so rb.sn rb.sc,.bool rb.hq,.string rb.q,.bool rb.hf,.string rb.fr] 101)).heap.size=w.heap.size+1 by simp]at HC
  exact Z9 (rb:=w.heap.size+1) Tryz.results188 rfl rfl HC.out rfl ⟨⟨rz,[],by rw[HE.out],by rw[HE.out];exact Zc6 _,by simp⟩,(Nx.rfl.alloc _).alloc _⟩
def ZY(u:U)(t:List UInt8):U×Int:=
 if Zaf (bcut (slB true) t).1=true then({ u with segs:=Zbg t u.sch },0)
 else if(ZH (bcut (slB true) t).1).2≠0 then(zeroU,(ZH (bcut (slB true) t).1).2)
 else({ u with host:=(ZH (bcut (slB true) t).1).1,segs:=Zbg (bcut (slB true) t).2.1 u.sch },0)
theorem ZfS{l:LB}{sp:Bool}(hl:l.length≤30000):(ZI l sp).1.length≤300000:=by
 unfold ZI
 split
 ·unfold Zak
  split
  ·simp
  ·split
   ·have:=Zro (ip6 ((l.take (l.length-1)).drop 1)).1 (Zaz (ip6 ((l.take (l.length-1)).drop 1)).1).1 (Zaz (ip6 ((l.take (l.length-1)).drop 1)).1).2 8 0
    simp only[List.length_append,List.length_cons,List.length_nil];unfold Zfb
    omega
   ·simp
 ·split
  ·unfold ZaA Zc2
   have h1:=Zk4 l;have h2:=ZjU (Zr l)
   split
   ·simp
   ·split
    ·simp
    ·split
     ·show(Zae (Zr l)).length≤300000;omega
     ·split
      ·have:=Zk3 (ip4 (ZdQ (bsplit 46 (Zae (Zr l))))).1.toNat 4
       show(ZjS _ 4).length≤300000
       omega
      ·simp
  ·unfold Zbk
   split
   ·simp
   ·exact Zbc _ _ hl
theorem Zek{l:LB}(hl:l.length≤30000):(ZH l).1.length≤300000:=by
 unfold ZH
 split
 ·simp
 ·split
  ·simp
  ·split
   ·simp
   ·exact ZfS hl
theorem ZhJ(ru:Rc)(u:U)(bs:LA)(t:BA)(w:World)(h1:RcIs w ru u bs)(ht:Tb w)(hl:t.size≤30000):Calls Tryz.prog 254 #[.agg #[.string ru.sch,.string ru.nam,.string ru.pw,.bool ru.hh,.string ru.host,.bool ru.hp,.int .i64 (ru.port:Int),.bool ru.op,.string ru.opath,.slice ru.so ru.sn ru.sc,.bool ru.hq,.string ru.q,.bool ru.hf,.string ru.fr],.string t] w fun e w'=>Zfc e w' (ZY u (tl t)) 30001∧Nx w w':=by
 have HU:=Za h1;have HTB:=Za ht;have hcl:=Z8 (slB true) (tl t)
 have HD:=Za (show ZY u (tl t)=if Zaf (bcut (slB true) (tl t)).1=true then({ u with segs:=Zbg (tl t) u.sch },0)
  else if(ZH (bcut (slB true) (tl t)).1).2≠0 then(zeroU,(ZH (bcut (slB true) (tl t)).1).2)
  else({ u with host:=(ZH (bcut (slB true) (tl t)).1).1,segs:=Zbg (bcut (slB true) (tl t)).2.1 u.sch },0)from rfl)
 clear h1 ht
 go_enter Tryz.func254,Tryz.ntmps254
 go_wp2_with fail
 refine(Zci t true _ (Zg (by omega))).mono ?_
 rintro e w1 ⟨⟨x,y,rfl,hx,hy⟩,hn1⟩;rw[←hx,←hy]at HD hcl;rw[tl_length,tl_length,tl_length]at hcl
 have hxl:x.size≤30000:=by omega
 have hyl:y.size≤30000:=by omega
 obtain⟨g1,g2,g3⟩:=Zcb hn1;have HUB:=Za g1;have HZ:=Za g2;have HN:=Za g3;clear hx hy hn1 g1 g2 g3;generalize (bcut (slB true) (tl t)).2.2=fnd at *
 cases hd:Zaf (tl x)
 ·have HD2:=Za (HD.out.trans (if_neg (by rw[hd];decide)))
  have HDR:=Za hd
  have hfl:=Zek (l:=tl x) (by rw[tl_length];exact hxl)
  clear HD hd
  go_wp2_with (first|(go_at_call 288;refine(Zb9 _ _).mono ?_;rintro e w' ⟨rfl,rfl⟩;rw[HDR.out])|fail)
  refine(ZiD x _ (by omega) (HTB.out.on HN.out)).mono ?_
  rintro e w2 ⟨fh,rfl,hfh,hn2⟩
  have hfs:fh.size≤300000:=by rw[←tl_length,hfh];exact hfl
  rw[←hfh]at HD2;have HUB2:=Za (HUB.out.on hn2);have HZ2:=Za (HZ.out.on hn2);have HN2:=Za (HN.out.then hn2);clear hfh hn2 hfl HUB HZ HN;generalize (ZH (tl x)).2=err at *
  by_cases he:err=0
  ·subst he
   have HE:=Za (HD2.out.trans (if_neg (by decide)))
   clear HD2;obtain⟨a0,a1,a2,a3,a4,a5,a6,a7,a8,a9,a10,a11,a12,a13⟩:=HUB2.out.cells;have af4:=HUB2.out.free 4;go_wp2_with fail
   refine(ZaF y ru.sch _ (by omega)).mono ?_
   rintro e w3 ⟨v3,ds,rfl,ho,hds,hdl,hn3⟩;obtain⟨ao,n,cap,rfl⟩:=ZK ho;have HO:=Za (Za5 ho);have HDS:=Za hds
   have HSH:=Za (ZaO hds (Zaq (by rw[tl_length];exact hyl)))
   have HUB3:=Za ((HUB2.out.s4 fh).on hn3)
   have HZ3:=Za ((HZ2.out.far (q:=w.heap.size) (by omega) 4 (.string fh)).on hn3)
   have HN3:=Za (Nx.then (show Nx w _ from Below.setCell (p:=⟨w.heap.size,4,none⟩) HN2.out (Xb _) (.string fh)) hn3);clear ho hds hn3 HUB2 HZ2 HN2;clear a0 a1 a2 a3 a4 a5 a6 a7 a8 a9 a10 a11 a12 a13 af4;obtain⟨a0,a1,a2,a3,a4,a5,a6,a7,a8,a9,a10,a11,a12,a13⟩:=HUB3.out.cells;have af9:=HUB3.out.free 9;obtain⟨z0,z1,z2,z3,z4,z5,z6,z7,z8,z9,z10,z11,z12,z13⟩:=HZ3.out.cells;have zf0:=HZ3.out.free 0;have zf1:=HZ3.out.free 1;have zf2:=HZ3.out.free 2;have zf3:=HZ3.out.free 3;have zf4:=HZ3.out.free 4;have zf5:=HZ3.out.free 5;have zf6:=HZ3.out.free 6;have zf7:=HZ3.out.free 7;have zf8:=HZ3.out.free 8;have zf9:=HZ3.out.free 9;have zf10:=HZ3.out.free 10;have zf11:=HZ3.out.free 11;have zf12:=HZ3.out.free 12;have zf13:=HZ3.out.free 13;go_wp2
   refine Z9 (rb:=w.heap.size+1) Tryz.results254 rfl rfl (RecB.put (HZ3.out.far (by omega) 9 _) _ _ _ _ _ _ _ _ _ _ _ _ _ _) rfl ⟨⟨{ ru with host:=fh,so:=ao,sn:=n,sc:=cap },ds,by rw[HE.out],?_,by omega⟩,(Zd (Below.setCell HN3.out (Xb _) _) (by omega) _ _ _ _ _ _ _ _ _ _ _ _ _ _)⟩
   exact { eq:=by rw[HE.out,←HU.out.eq];simp only[Rc.u];rw[HDS.out]
           seg:=HO.out.ks (Ks.then (Ks.then Ks.rfl (ZW HUB3.out.ty (by decide) 9 _)) (Zq (HZ3.out.ty.set w.heap.size 9 _) (by decide) _ _ _ _ _ _ _ _ _ _ _ _ _ _))
           lsch:=HU.out.lsch
           lnam:=HU.out.lnam
           lpw:=HU.out.lpw
           lhost:=hfs
           lport:=HU.out.lport
           lopath:=HU.out.lopath
           lsegs:=by omega
           lseg:=HSH.out
           lq:=HU.out.lq
           lfr:=HU.out.lfr }
  ·have HE:=Za (HD2.out.trans (if_pos he))
   have he':(err != 0)=true:=Zd9 (beq_eq_false_iff_ne.2 he);clear HD2 he;obtain⟨z0,z1,z2,z3,z4,z5,z6,z7,z8,z9,z10,z11,z12,z13⟩:=HZ2.out.cells;have zf0:=HZ2.out.free 0;have zf1:=HZ2.out.free 1;have zf2:=HZ2.out.free 2;have zf3:=HZ2.out.free 3;have zf4:=HZ2.out.free 4;have zf5:=HZ2.out.free 5;have zf6:=HZ2.out.free 6;have zf7:=HZ2.out.free 7;have zf8:=HZ2.out.free 8;have zf9:=HZ2.out.free 9;have zf10:=HZ2.out.free 10;have zf11:=HZ2.out.free 11;have zf12:=HZ2.out.free 12;have zf13:=HZ2.out.free 13;go_wp2
   refine Z9 (rb:=w.heap.size+1) Tryz.results254 rfl rfl (RecB.put HZ2.out _ _ _ _ _ _ _ _ _ _ _ _ _ _) rfl ⟨⟨rz,[],by rw[HE.out];rfl,by rw[HE.out];exact Zc6 _,by simp⟩,(Zd HN2.out (by omega) _ _ _ _ _ _ _ _ _ _ _ _ _ _)⟩
 ·have HE:=Za (HD.out.trans (if_pos hd))
  have HDR:=Za hd;clear HD hd;obtain⟨a0,a1,a2,a3,a4,a5,a6,a7,a8,a9,a10,a11,a12,a13⟩:=HUB.out.cells;have af9:=HUB.out.free 9
  go_wp2_with (first|(go_at_call 288;refine(Zb9 _ _).mono ?_;rintro e w' ⟨rfl,rfl⟩;rw[HDR.out])|fail)
  refine(ZaF t ru.sch _ (by omega)).mono ?_
  rintro e w3 ⟨v3,ds,rfl,ho,hds,hdl,hn3⟩;obtain⟨ao,n,cap,rfl⟩:=ZK ho;have HO:=Za (Za5 ho);have HDS:=Za hds
  have HSH:=Za (ZaO hds (Zaq (by rw[tl_length];exact hl)))
  have HUB3:=Za (HUB.out.on hn3);have HZ3:=Za (HZ.out.on hn3);have HN3:=Za (HN.out.then hn3);clear ho hds hn3 HUB HZ HN;clear a0 a1 a2 a3 a4 a5 a6 a7 a8 a9 a10 a11 a12 a13 af9;obtain⟨a0,a1,a2,a3,a4,a5,a6,a7,a8,a9,a10,a11,a12,a13⟩:=HUB3.out.cells;have af9:=HUB3.out.free 9;obtain⟨z0,z1,z2,z3,z4,z5,z6,z7,z8,z9,z10,z11,z12,z13⟩:=HZ3.out.cells;have zf0:=HZ3.out.free 0;have zf1:=HZ3.out.free 1;have zf2:=HZ3.out.free 2;have zf3:=HZ3.out.free 3;have zf4:=HZ3.out.free 4;have zf5:=HZ3.out.free 5;have zf6:=HZ3.out.free 6;have zf7:=HZ3.out.free 7;have zf8:=HZ3.out.free 8;have zf9:=HZ3.out.free 9;have zf10:=HZ3.out.free 10;have zf11:=HZ3.out.free 11;have zf12:=HZ3.out.free 12;have zf13:=HZ3.out.free 13;go_wp2
  refine Z9 (rb:=w.heap.size+1) Tryz.results254 rfl rfl (RecB.put (HZ3.out.far (by omega) 9 _) _ _ _ _ _ _ _ _ _ _ _ _ _ _) rfl ⟨⟨{ ru with so:=ao,sn:=n,sc:=cap },ds,by rw[HE.out],?_,by omega⟩,(Zd (Below.setCell HN3.out (Xb _) _) (by omega) _ _ _ _ _ _ _ _ _ _ _ _ _ _)⟩
  exact { eq:=by rw[HE.out,←HU.out.eq];simp only[Rc.u];rw[HDS.out]
          seg:=HO.out.ks (Ks.then (Ks.then Ks.rfl (ZW HUB3.out.ty (by decide) 9 _)) (Zq (HZ3.out.ty.set w.heap.size 9 _) (by decide) _ _ _ _ _ _ _ _ _ _ _ _ _ _))
          lsch:=HU.out.lsch
          lnam:=HU.out.lnam
          lpw:=HU.out.lpw
          lhost:=HU.out.lhost
          lport:=HU.out.lport
          lopath:=HU.out.lopath
          lsegs:=by omega
          lseg:=HSH.out
          lq:=HU.out.lq
          lfr:=HU.out.lfr }
theorem RcIs.whh{w:World}{r:Rc}{u:U}{bs:LA}(h:RcIs w r u bs)(x:Bool):RcIs w { r with hh:=x } { u with hh:=x } bs:={ h with eq:=by rw[←h.eq];rfl }
theorem RcIs.whost{w:World}{r:Rc}{u:U}{bs:LA}(h:RcIs w r u bs)(x:BA)(hx:x.size≤300000):RcIs w { r with host:=x } { u with host:=tl x } bs:={ h with eq:=by rw[←h.eq];rfl,lhost:=hx }
theorem Zuy{s:BA}{l:LB}(h:(s.toList==l)=false):(s.toList != l)=true:=by simp only[bne,h];rfl
theorem Zuz{s:BA}{l:LB}(h:(s.toList==l)=true):(s.toList != l)=false:=by simp only[bne,h];rfl
def Zcv(u:U)(left:List UInt8)(base:U):U×Int:=
 if 1<countSl true left then ZY { u with hh:=true } (left.drop 2)
 else if base.sch≠Zw then({ u with hh:=true,segs:=Zbg (left.drop (countSl true left)) u.sch },0)
 else if countSl true left=1 then({ u with hh:=true,host:=base.host,segs:=ZaK base.segs (left.drop 1) },0)
 else if ZaP left=true then({ u with hh:=true,host:=base.host,segs:=Zbg left u.sch },0)
 else(Zal { u with hh:=true,host:=base.host } left base,0)
theorem ZiG(ru rb:Rc)(u base:U)(bs cs:LA)(left:BA)(w:World)(h1:RcIs w ru u bs)(h2:RcIs w rb base cs)(hcs:cs.length≤60000)(hl:left.size≤30000)(ht:Tb w):Calls Tryz.prog 224 #[.agg #[.string ru.sch,.string ru.nam,.string ru.pw,.bool ru.hh,.string ru.host,.bool ru.hp,.int .i64 (ru.port:Int),.bool ru.op,.string ru.opath,.slice ru.so ru.sn ru.sc,.bool ru.hq,.string ru.q,.bool ru.hf,.string ru.fr],.string left,.agg #[.string rb.sch,.string rb.nam,.string rb.pw,.bool rb.hh,.string rb.host,.bool rb.hp,.int .i64 (rb.port:Int),.bool rb.op,.string rb.opath,.slice rb.so rb.sn rb.sc,.bool rb.hq,.string rb.q,.bool rb.hf,.string rb.fr]] w fun e w'=>Zfc e w' (Zcv u (tl left) base) (cs.length+30002)∧Nx w w':=by
 have HU:=Za h1;have HBS:=Za h2;have HTB:=Za ht;have hk:=Zdz true (tl left);rw[tl_length]at hk
 have HD:=Za (show Zcv u (tl left) base=if 1<countSl true (tl left)then ZY { u with hh:=true } ((tl left).drop 2)
  else if tl rb.sch≠Zw then({ u with hh:=true,segs:=Zbg ((tl left).drop (countSl true (tl left))) u.sch },0)
  else if countSl true (tl left)=1 then({ u with hh:=true,host:=base.host,segs:=ZaK base.segs ((tl left).drop 1) },0)
  else if ZaP (tl left)=true then({ u with hh:=true,host:=base.host,segs:=Zbg (tl left) u.sch },0)
  else(Zal { u with hh:=true,host:=base.host } (tl left) base,0)by rw[h2.usch];rfl)
 clear h1 h2 ht;generalize hkk:countSl true (tl left)=k at *;have HK:=Za hkk;clear hkk
 by_cases hk1:1<k
 ·have HE:=Za (HD.out.trans (if_pos hk1))
  have hki:1<(k:Int):=by omega
  have hl2:2≤left.size:=by omega
  have HFH:=Za (fun w1 (hn:Nx w w1)=>ZhJ { ru with hh:=true } { u with hh:=true } bs (left.extract 2 left.size) w1 ((HU.out.on hn).whh true) (HTB.out.on hn) (by rw[Zac];omega))
  rw[ZaE]at HFH;clear HD
  go_enter Tryz.func224,Tryz.ntmps224
  go_wp2_with (go_at_call 226;refine(Zp _ _ _ (Zg (by omega))).mono ?_;rintro e w' ⟨rfl,rfl⟩;rw[HK.out])
  go_region_with (go_at_call 254;refine(HFH.out _ (((Nx.rfl.alloc _).alloc _).alloc _).drew).mono ?_;rintro e w1 ⟨⟨r,ds,rfl,hr,hdl⟩,hn⟩;have HR:=Za hr;clear hr;obtain⟨g1,g2,g3,g4⟩:=ZX (ru:={ ru with hh:=true }) (Nx.then (show Nx _ _ from Nx.rfl.drew) hn);have HUB:=Za g1;have HBB:=Za g2;have HZ:=Za g3;have HN:=Za g4;clear g1 g2 g3 g4 hn;obtain⟨z0,z1,z2,z3,z4,z5,z6,z7,z8,z9,z10,z11,z12,z13⟩:=HZ.out.cells;have zf0:=HZ.out.free 0;have zf1:=HZ.out.free 1;have zf2:=HZ.out.free 2;have zf3:=HZ.out.free 3;have zf4:=HZ.out.free 4;have zf5:=HZ.out.free 5;have zf6:=HZ.out.free 6;have zf7:=HZ.out.free 7;have zf8:=HZ.out.free 8;have zf9:=HZ.out.free 9;have zf10:=HZ.out.free 10;have zf11:=HZ.out.free 11;have zf12:=HZ.out.free 12;have zf13:=HZ.out.free 13)
  all_goals go_wp2
  all_goals exact Z9 (rb:=w.heap.size+1+1) Tryz.results224 rfl rfl (RecB.put HZ.out _ _ _ _ _ _ _ _ _ _ _ _ _ _) rfl ⟨⟨r,ds,by rw[HE.out],by rw[HE.out];exact HR.out.ks (Ks.then Ks.rfl (Zq HZ.out.ty (by decide) _ _ _ _ _ _ _ _ _ _ _ _ _ _)),by omega⟩,(Zd HN.out (by omega) _ _ _ _ _ _ _ _ _ _ _ _ _ _)⟩
 ·have HD2:=Za (HD.out.trans (if_neg hk1))
  have hki:(k:Int)≤1:=by omega
  clear HD
  by_cases hf:tl rb.sch=Zw
  ·have HD3:=Za (HD2.out.trans (if_neg (fun h=>h hf)))
   have hfe:=eqB hf;unfold Zw at hfe;have hfn:=Zuz hfe;clear HD2 hf
   by_cases hke:k=1
   ·have HE:=Za (HD3.out.trans (if_pos hke))
    have hkb:((k:Int)==1)=true:=by rw[hke];rfl
    have hl1:1≤left.size:=by omega
    have HPR:=Za (fun w1 (hn:Nx w w1)=>ZjY _ cs (left.extract 1 left.size) w1 (HBS.out.seg.on hn) (by rw[Zac];omega))
    rw[ZaE,HBS.out.segs]at HPR;clear HD3 hke
    go_enter Tryz.func224,Tryz.ntmps224
    go_wp2_with (go_at_call 226;refine(Zp _ _ _ (Zg (by omega))).mono ?_;rintro e w' ⟨rfl,rfl⟩;rw[HK.out])
    go_region_with (go_at_call 255;refine(HPR.out _ (((Nx.rfl.alloc _).alloc _).alloc _).drew).mono ?_;rintro e w1 ⟨v3,ds,rfl,ho,hds,hdl,hn⟩;obtain⟨ao,n,cap,rfl⟩:=ZK ho;have HO:=Za (Za5 ho);have HDS:=Za hds;have HSH:=Za (ZaO hds (Zgu HBS.out.short (by rw[List.length_drop,tl_length];omega)));rw[Zac]at hdl;clear ho hds;obtain⟨g1,g2,g3,g4⟩:=ZX (ru:={ ru with hh:=true,host:=rb.host }) (Nx.then (show Nx _ _ from Nx.rfl.drew) hn);have HUB:=Za g1;have HBB:=Za g2;have HZ:=Za g3;have HN:=Za g4;clear g1 g2 g3 g4 hn;obtain⟨a0,a1,a2,a3,a4,a5,a6,a7,a8,a9,a10,a11,a12,a13⟩:=HUB.out.cells;have af9:=HUB.out.free 9;obtain⟨z0,z1,z2,z3,z4,z5,z6,z7,z8,z9,z10,z11,z12,z13⟩:=HZ.out.cells;have zf0:=HZ.out.free 0;have zf1:=HZ.out.free 1;have zf2:=HZ.out.free 2;have zf3:=HZ.out.free 3;have zf4:=HZ.out.free 4;have zf5:=HZ.out.free 5;have zf6:=HZ.out.free 6;have zf7:=HZ.out.free 7;have zf8:=HZ.out.free 8;have zf9:=HZ.out.free 9;have zf10:=HZ.out.free 10;have zf11:=HZ.out.free 11;have zf12:=HZ.out.free 12;have zf13:=HZ.out.free 13)
    all_goals go_wp2
    all_goals (
     refine Z9 (rb:=w.heap.size+1+1) Tryz.results224 rfl rfl (RecB.put (HZ.out.far (by omega) 9 _) _ _ _ _ _ _ _ _ _ _ _ _ _ _) rfl ⟨⟨{ ru with hh:=true,host:=rb.host,so:=ao,sn:=n,sc:=cap },ds,by rw[HE.out],?_,by omega⟩,(Zd (Below.setCell HN.out (Xb _) _) (by omega) _ _ _ _ _ _ _ _ _ _ _ _ _ _)⟩
     exact { eq:=by rw[HE.out,←HU.out.eq,←HBS.out.eq];simp only[Rc.u];rw[HDS.out,←HBS.out.eq];rfl
             seg:=HO.out.ks (Ks.then (Ks.then Ks.rfl (ZW HUB.out.ty (by decide) 9 _)) (Zq (HZ.out.ty.set w.heap.size 9 _) (by decide) _ _ _ _ _ _ _ _ _ _ _ _ _ _))
             lsch:=HU.out.lsch
             lnam:=HU.out.lnam
             lpw:=HU.out.lpw
             lhost:=HBS.out.lhost
             lport:=HU.out.lport
             lopath:=HU.out.lopath
             lsegs:=by omega
             lseg:=HSH.out
             lq:=HU.out.lq
             lfr:=HU.out.lfr })
   ·have HD4:=Za (HD3.out.trans (if_neg hke))
    have hkb:((k:Int)==1)=false:=beq_eq_false_iff_ne.2 (by omega)
    clear HD3 hke
    go_enter Tryz.func224,Tryz.ntmps224
    go_wp2_with (first|(go_at_call 226;refine(Zp _ _ _ (Zg (by omega))).mono ?_;rintro e w' ⟨rfl,rfl⟩;rw[HK.out])|fail)
    refine(Zcq left _ (Zg (by omega))).mono ?_
    rintro e w0 ⟨rfl,hn⟩
    obtain⟨g1,g2,g3,g4⟩:=ZX (ru:={ ru with hh:=true,host:=rb.host }) (Nx.then (show Nx _ _ from Nx.rfl) hn)
    have HUB:=Za g1;have HBB:=Za g2;have HZ:=Za g3;have HN:=Za g4;clear g1 g2 g3 g4 hn;obtain⟨a0,a1,a2,a3,a4,a5,a6,a7,a8,a9,a10,a11,a12,a13⟩:=HUB.out.cells;have af9:=HUB.out.free 9;obtain⟨z0,z1,z2,z3,z4,z5,z6,z7,z8,z9,z10,z11,z12,z13⟩:=HZ.out.cells;have zf0:=HZ.out.free 0;have zf1:=HZ.out.free 1;have zf2:=HZ.out.free 2;have zf3:=HZ.out.free 3;have zf4:=HZ.out.free 4;have zf5:=HZ.out.free 5;have zf6:=HZ.out.free 6;have zf7:=HZ.out.free 7;have zf8:=HZ.out.free 8;have zf9:=HZ.out.free 9;have zf10:=HZ.out.free 10;have zf11:=HZ.out.free 11;have zf12:=HZ.out.free 12;have zf13:=HZ.out.free 13;obtain⟨b0,b1,b2,b3,b4,b5,b6,b7,b8,b9,b10,b11,b12,b13⟩:=HBB.out.cells
    cases hd:ZaP (tl left)
    ·have HE:=Za (HD4.out.trans (if_neg (by rw[hd];decide)))
     have HRC:=Za (((HU.out.on HN.out).whh true).whost rb.host HBS.out.lhost);have HBC:=Za (HBS.out.on HN.out);clear HD4 hd;go_wp2_with fail
     refine(ZgY { ru with hh:=true,host:=rb.host } rb _ base bs cs left _ HRC.out HBC.out hcs hl).mono ?_
     rintro e w1 ⟨r,ds,rfl,hr,hdl,hn1⟩;have HR:=Za hr;have HUB1:=Za (HUB.out.on hn1);have HZ1:=Za (HZ.out.on hn1);have HN1:=Za (HN.out.then hn1)
     have HEB:=Za (show base.host=tl rb.host by rw[←HBS.out.eq];rfl)
     clear hr hn1;clear a0 a1 a2 a3 a4 a5 a6 a7 a8 a9 a10 a11 a12 a13 b0 b1 b2 b3 b4 b5 b6 b7 b8 b9 b10 b11 b12 b13 z0 z1 z2 z3 z4 z5 z6 z7 z8 z9 z10 z11 z12 z13 zf0 zf1 zf2 zf3 zf4 zf5 zf6 zf7 zf8 zf9 zf10 zf11 zf12 zf13 af9;obtain⟨z0,z1,z2,z3,z4,z5,z6,z7,z8,z9,z10,z11,z12,z13⟩:=HZ1.out.cells;have zf0:=HZ1.out.free 0;have zf1:=HZ1.out.free 1;have zf2:=HZ1.out.free 2;have zf3:=HZ1.out.free 3;have zf4:=HZ1.out.free 4;have zf5:=HZ1.out.free 5;have zf6:=HZ1.out.free 6;have zf7:=HZ1.out.free 7;have zf8:=HZ1.out.free 8;have zf9:=HZ1.out.free 9;have zf10:=HZ1.out.free 10;have zf11:=HZ1.out.free 11;have zf12:=HZ1.out.free 12;have zf13:=HZ1.out.free 13;go_wp2
     exact Z9 (rb:=w.heap.size+1+1) Tryz.results224 rfl rfl (RecB.put HZ1.out _ _ _ _ _ _ _ _ _ _ _ _ _ _) rfl ⟨⟨r,ds,by rw[HE.out],by rw[HE.out,HEB.out];exact HR.out.ks (Ks.then Ks.rfl (Zq HZ1.out.ty (by decide) _ _ _ _ _ _ _ _ _ _ _ _ _ _)),by omega⟩,(Zd HN1.out (by omega) _ _ _ _ _ _ _ _ _ _ _ _ _ _)⟩
    ·have HE:=Za (HD4.out.trans (if_pos hd))
     clear HD4 hd;go_wp2_with fail
     refine(ZaF left ru.sch _ (by omega)).mono ?_
     rintro e w3 ⟨v3,ds,rfl,ho,hds,hdl,hn3⟩;obtain⟨ao,n,cap,rfl⟩:=ZK ho;have HO:=Za (Za5 ho);have HDS:=Za hds
     have HSH:=Za (ZaO hds (Zaq (by rw[tl_length];exact hl)))
     have HUB3:=Za (HUB.out.on hn3);have HZ3:=Za (HZ.out.on hn3);have HN3:=Za (HN.out.then hn3);clear ho hds hn3;clear a0 a1 a2 a3 a4 a5 a6 a7 a8 a9 a10 a11 a12 a13 b0 b1 b2 b3 b4 b5 b6 b7 b8 b9 b10 b11 b12 b13 z0 z1 z2 z3 z4 z5 z6 z7 z8 z9 z10 z11 z12 z13 zf0 zf1 zf2 zf3 zf4 zf5 zf6 zf7 zf8 zf9 zf10 zf11 zf12 zf13 af9;obtain⟨a0,a1,a2,a3,a4,a5,a6,a7,a8,a9,a10,a11,a12,a13⟩:=HUB3.out.cells;have af9:=HUB3.out.free 9;obtain⟨z0,z1,z2,z3,z4,z5,z6,z7,z8,z9,z10,z11,z12,z13⟩:=HZ3.out.cells;have zf0:=HZ3.out.free 0;have zf1:=HZ3.out.free 1;have zf2:=HZ3.out.free 2;have zf3:=HZ3.out.free 3;have zf4:=HZ3.out.free 4;have zf5:=HZ3.out.free 5;have zf6:=HZ3.out.free 6;have zf7:=HZ3.out.free 7;have zf8:=HZ3.out.free 8;have zf9:=HZ3.out.free 9;have zf10:=HZ3.out.free 10;have zf11:=HZ3.out.free 11;have zf12:=HZ3.out.free 12;have zf13:=HZ3.out.free 13;go_wp2
     refine Z9 (rb:=w.heap.size+1+1) Tryz.results224 rfl rfl (RecB.put (HZ3.out.far (by omega) 9 _) _ _ _ _ _ _ _ _ _ _ _ _ _ _) rfl ⟨⟨{ ru with hh:=true,host:=rb.host,so:=ao,sn:=n,sc:=cap },ds,by rw[HE.out],?_,by omega⟩,(Zd (Below.setCell HN3.out (Xb _) _) (by omega) _ _ _ _ _ _ _ _ _ _ _ _ _ _)⟩
     exact { eq:=by rw[HE.out,←HU.out.eq,←HBS.out.eq];simp only[Rc.u];rw[HDS.out]
             seg:=HO.out.ks (Ks.then (Ks.then Ks.rfl (ZW HUB3.out.ty (by decide) 9 _)) (Zq (HZ3.out.ty.set w.heap.size 9 _) (by decide) _ _ _ _ _ _ _ _ _ _ _ _ _ _))
             lsch:=HU.out.lsch
             lnam:=HU.out.lnam
             lpw:=HU.out.lpw
             lhost:=HBS.out.lhost
             lport:=HU.out.lport
             lopath:=HU.out.lopath
             lsegs:=by omega
             lseg:=HSH.out
             lq:=HU.out.lq
             lfr:=HU.out.lfr }
  ·have HE:=Za (HD2.out.trans (if_pos hf))
   have hfe:=neB hf;unfold Zw at hfe;have hfn:=Zuy hfe
   have HPR:=Za (fun w1=>ZaF (left.extract k left.size) ru.sch w1 (by rw[Zac];omega))
   rw[ZaE]at HPR;clear HD2 hf
   go_enter Tryz.func224,Tryz.ntmps224
   go_wp2_with (go_at_call 226;refine(Zp _ _ _ (Zg (by omega))).mono ?_;rintro e w' ⟨rfl,rfl⟩;rw[HK.out])
   go_region_with (go_at_call 227;refine(HPR.out _).mono ?_;rintro e w1 ⟨v3,ds,rfl,ho,hds,hdl,hn⟩;obtain⟨ao,n,cap,rfl⟩:=ZK ho;have HO:=Za (Za5 ho);have HDS:=Za hds;have HSH:=Za (ZaO hds (Zaq (by rw[List.length_drop,tl_length];omega)));rw[Zac]at hdl;clear ho hds;obtain⟨g1,g2,g3,g4⟩:=ZX (ru:={ ru with hh:=true }) (Nx.then (show Nx _ _ from Nx.rfl.drew) hn);have HUB:=Za g1;have HBB:=Za g2;have HZ:=Za g3;have HN:=Za g4;clear g1 g2 g3 g4 hn;obtain⟨a0,a1,a2,a3,a4,a5,a6,a7,a8,a9,a10,a11,a12,a13⟩:=HUB.out.cells;have af9:=HUB.out.free 9;obtain⟨z0,z1,z2,z3,z4,z5,z6,z7,z8,z9,z10,z11,z12,z13⟩:=HZ.out.cells;have zf0:=HZ.out.free 0;have zf1:=HZ.out.free 1;have zf2:=HZ.out.free 2;have zf3:=HZ.out.free 3;have zf4:=HZ.out.free 4;have zf5:=HZ.out.free 5;have zf6:=HZ.out.free 6;have zf7:=HZ.out.free 7;have zf8:=HZ.out.free 8;have zf9:=HZ.out.free 9;have zf10:=HZ.out.free 10;have zf11:=HZ.out.free 11;have zf12:=HZ.out.free 12;have zf13:=HZ.out.free 13)
   all_goals go_wp2
   all_goals (
    refine Z9 (rb:=w.heap.size+1+1) Tryz.results224 rfl rfl (RecB.put (HZ.out.far (by omega) 9 _) _ _ _ _ _ _ _ _ _ _ _ _ _ _) rfl ⟨⟨{ ru with hh:=true,so:=ao,sn:=n,sc:=cap },ds,by rw[HE.out],?_,by omega⟩,(Zd (Below.setCell HN.out (Xb _) _) (by omega) _ _ _ _ _ _ _ _ _ _ _ _ _ _)⟩
    exact { eq:=by rw[HE.out,←HU.out.eq];simp only[Rc.u];rw[HDS.out]
            seg:=HO.out.ks (Ks.then (Ks.then Ks.rfl (ZW HUB.out.ty (by decide) 9 _)) (Zq (HZ.out.ty.set w.heap.size 9 _) (by decide) _ _ _ _ _ _ _ _ _ _ _ _ _ _))
            lsch:=HU.out.lsch
            lnam:=HU.out.lnam
            lpw:=HU.out.lpw
            lhost:=HU.out.lhost
            lport:=HU.out.lport
            lopath:=HU.out.lopath
            lsegs:=by omega
            lseg:=HSH.out
            lq:=HU.out.lq
            lfr:=HU.out.lfr })
end Go.Proofs.YtchkhibgbnhjpabGreatDoor
