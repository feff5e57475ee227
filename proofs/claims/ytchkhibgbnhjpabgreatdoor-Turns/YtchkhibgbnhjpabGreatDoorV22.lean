import Derived.Test.YtchkhibgbnhjpabGreatDoorV19
open Array renaming getElem?_modify→Xa
namespace Go.Proofs.YtchkhibgbnhjpabGreatDoor
open Go.RowKit
set_option maxHeartbeats 32000000
set_option maxRecDepth 8000
def C11(w:World)(b:Nat)(v0 v1 v2 v3 v4 v5 v6 v7 v8 v9 v10:Value):Prop:=w.heap[b]?=some (Obj.cells #[v0,v1,v2,v3,v4,v5,v6,v7,v8,v9,v10] 66 (0,0))
theorem C11.on{w w':World}{b:Nat}{v0 v1 v2 v3 v4 v5 v6 v7 v8 v9 v10:Value}(h:C11 w b v0 v1 v2 v3 v4 v5 v6 v7 v8 v9 v10)(hb:Nx w w'):C11 w' b v0 v1 v2 v3 v4 v5 v6 v7 v8 v9 v10:=(hb.block b (Array.getElem?_eq_some_iff.1 h).1).trans h
theorem C11.far{w:World}{b q:Nat}{v0 v1 v2 v3 v4 v5 v6 v7 v8 v9 v10:Value}(h:C11 w b v0 v1 v2 v3 v4 v5 v6 v7 v8 v9 v10)(hq:q≠b)(i:Nat)(u:Value):C11 (w.setCell ⟨q,i,none⟩ u) b v0 v1 v2 v3 v4 v5 v6 v7 v8 v9 v10:=by unfold C11 at *;simp only[World.setCell,Xa,if_neg hq];exact h
theorem C11.cells{w:World}{b:Nat}{v0 v1 v2 v3 v4 v5 v6 v7 v8 v9 v10:Value}(h:C11 w b v0 v1 v2 v3 v4 v5 v6 v7 v8 v9 v10):w.cell? ⟨b,0,none⟩=some v0∧w.cell? ⟨b,1,none⟩=some v1∧w.cell? ⟨b,2,none⟩=some v2∧w.cell? ⟨b,3,none⟩=some v3∧w.cell? ⟨b,4,none⟩=some v4∧w.cell? ⟨b,5,none⟩=some v5∧w.cell? ⟨b,6,none⟩=some v6∧w.cell? ⟨b,7,none⟩=some v7∧w.cell? ⟨b,8,none⟩=some v8∧w.cell? ⟨b,9,none⟩=some v9∧w.cell? ⟨b,10,none⟩=some v10:=by
 unfold C11 at h
 refine⟨?_,?_,?_,?_,?_,?_,?_,?_,?_,?_,?_⟩<;>simp[World.cell?,h]
theorem C11.free{w:World}{b:Nat}{v0 v1 v2 v3 v4 v5 v6 v7 v8 v9 v10:Value}(h:C11 w b v0 v1 v2 v3 v4 v5 v6 v7 v8 v9 v10)(i:Nat):w.frozen? ⟨b,i,none⟩=false:=by
 unfold C11 at h
 simp[World.frozen?,h]
theorem C11.set0{w:World}{b:Nat}{v0 v1 v2 v3 v4 v5 v6 v7 v8 v9 v10:Value}(h:C11 w b v0 v1 v2 v3 v4 v5 v6 v7 v8 v9 v10)(u:Value):C11 (w.setCell ⟨b,0,none⟩ u) b u v1 v2 v3 v4 v5 v6 v7 v8 v9 v10:=by
 unfold C11 at *
 simp[World.setCell,Xa,h]
theorem C11.set1{w:World}{b:Nat}{v0 v1 v2 v3 v4 v5 v6 v7 v8 v9 v10:Value}(h:C11 w b v0 v1 v2 v3 v4 v5 v6 v7 v8 v9 v10)(u:Value):C11 (w.setCell ⟨b,1,none⟩ u) b v0 u v2 v3 v4 v5 v6 v7 v8 v9 v10:=by
 unfold C11 at *
 simp[World.setCell,Xa,h]
theorem C11.set2{w:World}{b:Nat}{v0 v1 v2 v3 v4 v5 v6 v7 v8 v9 v10:Value}(h:C11 w b v0 v1 v2 v3 v4 v5 v6 v7 v8 v9 v10)(u:Value):C11 (w.setCell ⟨b,2,none⟩ u) b v0 v1 u v3 v4 v5 v6 v7 v8 v9 v10:=by
 unfold C11 at *
 simp[World.setCell,Xa,h]
theorem C11.set3{w:World}{b:Nat}{v0 v1 v2 v3 v4 v5 v6 v7 v8 v9 v10:Value}(h:C11 w b v0 v1 v2 v3 v4 v5 v6 v7 v8 v9 v10)(u:Value):C11 (w.setCell ⟨b,3,none⟩ u) b v0 v1 v2 u v4 v5 v6 v7 v8 v9 v10:=by
 unfold C11 at *
 simp[World.setCell,Xa,h]
theorem C11.set4{w:World}{b:Nat}{v0 v1 v2 v3 v4 v5 v6 v7 v8 v9 v10:Value}(h:C11 w b v0 v1 v2 v3 v4 v5 v6 v7 v8 v9 v10)(u:Value):C11 (w.setCell ⟨b,4,none⟩ u) b v0 v1 v2 v3 u v5 v6 v7 v8 v9 v10:=by
 unfold C11 at *
 simp[World.setCell,Xa,h]
theorem C11.set5{w:World}{b:Nat}{v0 v1 v2 v3 v4 v5 v6 v7 v8 v9 v10:Value}(h:C11 w b v0 v1 v2 v3 v4 v5 v6 v7 v8 v9 v10)(u:Value):C11 (w.setCell ⟨b,5,none⟩ u) b v0 v1 v2 v3 v4 u v6 v7 v8 v9 v10:=by
 unfold C11 at *
 simp[World.setCell,Xa,h]
theorem C11.set6{w:World}{b:Nat}{v0 v1 v2 v3 v4 v5 v6 v7 v8 v9 v10:Value}(h:C11 w b v0 v1 v2 v3 v4 v5 v6 v7 v8 v9 v10)(u:Value):C11 (w.setCell ⟨b,6,none⟩ u) b v0 v1 v2 v3 v4 v5 u v7 v8 v9 v10:=by
 unfold C11 at *
 simp[World.setCell,Xa,h]
theorem C11.set7{w:World}{b:Nat}{v0 v1 v2 v3 v4 v5 v6 v7 v8 v9 v10:Value}(h:C11 w b v0 v1 v2 v3 v4 v5 v6 v7 v8 v9 v10)(u:Value):C11 (w.setCell ⟨b,7,none⟩ u) b v0 v1 v2 v3 v4 v5 v6 u v8 v9 v10:=by
 unfold C11 at *
 simp[World.setCell,Xa,h]
theorem C11.set8{w:World}{b:Nat}{v0 v1 v2 v3 v4 v5 v6 v7 v8 v9 v10:Value}(h:C11 w b v0 v1 v2 v3 v4 v5 v6 v7 v8 v9 v10)(u:Value):C11 (w.setCell ⟨b,8,none⟩ u) b v0 v1 v2 v3 v4 v5 v6 v7 u v9 v10:=by
 unfold C11 at *
 simp[World.setCell,Xa,h]
theorem C11.set9{w:World}{b:Nat}{v0 v1 v2 v3 v4 v5 v6 v7 v8 v9 v10:Value}(h:C11 w b v0 v1 v2 v3 v4 v5 v6 v7 v8 v9 v10)(u:Value):C11 (w.setCell ⟨b,9,none⟩ u) b v0 v1 v2 v3 v4 v5 v6 v7 v8 u v10:=by
 unfold C11 at *
 simp[World.setCell,Xa,h]
theorem C11.set10{w:World}{b:Nat}{v0 v1 v2 v3 v4 v5 v6 v7 v8 v9 v10:Value}(h:C11 w b v0 v1 v2 v3 v4 v5 v6 v7 v8 v9 v10)(u:Value):C11 (w.setCell ⟨b,10,none⟩ u) b v0 v1 v2 v3 v4 v5 v6 v7 v8 v9 u:=by
 unfold C11 at *
 simp[World.setCell,Xa,h]
theorem C11.put{w:World}{b:Nat}{v0 v1 v2 v3 v4 v5 v6 v7 v8 v9 v10:Value}(h:C11 w b v0 v1 v2 v3 v4 v5 v6 v7 v8 v9 v10)(x0 x1 x2 x3 x4 x5 x6 x7 x8 x9 x10:Value):C11 (((((((((((w.setCell ⟨b,0,none⟩ x0).setCell ⟨b,1,none⟩ x1).setCell ⟨b,2,none⟩ x2).setCell ⟨b,3,none⟩ x3).setCell ⟨b,4,none⟩ x4).setCell ⟨b,5,none⟩ x5).setCell ⟨b,6,none⟩ x6).setCell ⟨b,7,none⟩ x7).setCell ⟨b,8,none⟩ x8).setCell ⟨b,9,none⟩ x9).setCell ⟨b,10,none⟩ x10) b x0 x1 x2 x3 x4 x5 x6 x7 x8 x9 x10:=(((((((((((h.set0 x0).set1 x1).set2 x2).set3 x3).set4 x4).set5 x5).set6 x6).set7 x7).set8 x8).set9 x9).set10 x10)
theorem Zkl{B:Nat}{a w:World}{b:Nat}(h:Below B a w)(hb:B≤b)(x0 x1 x2 x3 x4 x5 x6 x7 x8 x9 x10:Value):Below B a (((((((((((w.setCell ⟨b,0,none⟩ x0).setCell ⟨b,1,none⟩ x1).setCell ⟨b,2,none⟩ x2).setCell ⟨b,3,none⟩ x3).setCell ⟨b,4,none⟩ x4).setCell ⟨b,5,none⟩ x5).setCell ⟨b,6,none⟩ x6).setCell ⟨b,7,none⟩ x7).setCell ⟨b,8,none⟩ x8).setCell ⟨b,9,none⟩ x9).setCell ⟨b,10,none⟩ x10):=((((((((((((h.setCell hb _).setCell hb _).setCell hb _).setCell hb _).setCell hb _).setCell hb _).setCell hb _).setCell hb _).setCell hb _).setCell hb _).setCell hb _))
theorem ZqS{fn:Func}{R:Ending→World→Prop}{a:Act}{W:World}{c:Tmp}{rb:Nat}{v0 v1 v2 v3 v4 v5 v6 v7 v8 v9 v10:Value}(hres:fn.results=#[.cell c 66])(hc:a.tmps[c]?.getD undef=.pointer (some ⟨rb,0,none⟩))
  (hC:C11 W rb v0 v1 v2 v3 v4 v5 v6 v7 v8 v9 v10) (hd:a.defers=[]) (hR:R (.returned (.agg #[v0,v1,v2,v3,v4,v5,v6,v7,v8,v9,v10])) W):bodyPost Tryz.prog fn R .ret a W:=by
 obtain⟨y0,y1,y2,y3,y4,y5,y6,y7,y8,y9,y10⟩:=hC.cells
 exact bodyPost_ret (v:=.agg #[v0,v1,v2,v3,v4,v5,v6,v7,v8,v9,v10]) (by simp[results,hres,hc,go_sem,y0,y1,y2,y3,y4,y5,y6,y7,y8,y9,y10]) hd hR
theorem Zo8(w:World)(r:Rc):C11 (((w.alloc (Obj.cells #[.string ⟨#[]⟩,.string ⟨#[]⟩,.string ⟨#[]⟩,.string ⟨#[]⟩,.string ⟨#[]⟩,.string ⟨#[]⟩,.string ⟨#[]⟩,.string ⟨#[]⟩,.string ⟨#[]⟩,.string ⟨#[]⟩,.string ⟨#[]⟩] 66)).alloc (Obj.cells #[.string r.sch,.string r.nam,.string r.pw,.bool r.hh,.string r.host,.bool r.hp,.int .i64 (r.port:Int),.bool r.op,.string r.opath,.slice r.so r.sn r.sc,.bool r.hq,.string r.q,.bool r.hf,.string r.fr] 101)).alloc (Obj.cells #[.string ⟨#[]⟩,.string ⟨#[]⟩,.string ⟨#[]⟩,.string ⟨#[]⟩,.string ⟨#[]⟩,.string ⟨#[]⟩,.string ⟨#[]⟩,.string ⟨#[]⟩,.string ⟨#[]⟩,.string ⟨#[]⟩,.string ⟨#[]⟩] 66)) w.heap.size (.string ⟨#[]⟩) (.string ⟨#[]⟩) (.string ⟨#[]⟩) (.string ⟨#[]⟩) (.string ⟨#[]⟩) (.string ⟨#[]⟩) (.string ⟨#[]⟩) (.string ⟨#[]⟩) (.string ⟨#[]⟩) (.string ⟨#[]⟩) (.string ⟨#[]⟩)∧RecB (((w.alloc (Obj.cells #[.string ⟨#[]⟩,.string ⟨#[]⟩,.string ⟨#[]⟩,.string ⟨#[]⟩,.string ⟨#[]⟩,.string ⟨#[]⟩,.string ⟨#[]⟩,.string ⟨#[]⟩,.string ⟨#[]⟩,.string ⟨#[]⟩,.string ⟨#[]⟩] 66)).alloc (Obj.cells #[.string r.sch,.string r.nam,.string r.pw,.bool r.hh,.string r.host,.bool r.hp,.int .i64 (r.port:Int),.bool r.op,.string r.opath,.slice r.so r.sn r.sc,.bool r.hq,.string r.q,.bool r.hf,.string r.fr] 101)).alloc (Obj.cells #[.string ⟨#[]⟩,.string ⟨#[]⟩,.string ⟨#[]⟩,.string ⟨#[]⟩,.string ⟨#[]⟩,.string ⟨#[]⟩,.string ⟨#[]⟩,.string ⟨#[]⟩,.string ⟨#[]⟩,.string ⟨#[]⟩,.string ⟨#[]⟩] 66)) (w.heap.size+1) r∧C11 (((w.alloc (Obj.cells #[.string ⟨#[]⟩,.string ⟨#[]⟩,.string ⟨#[]⟩,.string ⟨#[]⟩,.string ⟨#[]⟩,.string ⟨#[]⟩,.string ⟨#[]⟩,.string ⟨#[]⟩,.string ⟨#[]⟩,.string ⟨#[]⟩,.string ⟨#[]⟩] 66)).alloc (Obj.cells #[.string r.sch,.string r.nam,.string r.pw,.bool r.hh,.string r.host,.bool r.hp,.int .i64 (r.port:Int),.bool r.op,.string r.opath,.slice r.so r.sn r.sc,.bool r.hq,.string r.q,.bool r.hf,.string r.fr] 101)).alloc (Obj.cells #[.string ⟨#[]⟩,.string ⟨#[]⟩,.string ⟨#[]⟩,.string ⟨#[]⟩,.string ⟨#[]⟩,.string ⟨#[]⟩,.string ⟨#[]⟩,.string ⟨#[]⟩,.string ⟨#[]⟩,.string ⟨#[]⟩,.string ⟨#[]⟩] 66)) (w.heap.size+1+1) (.string ⟨#[]⟩) (.string ⟨#[]⟩) (.string ⟨#[]⟩) (.string ⟨#[]⟩) (.string ⟨#[]⟩) (.string ⟨#[]⟩) (.string ⟨#[]⟩) (.string ⟨#[]⟩) (.string ⟨#[]⟩) (.string ⟨#[]⟩) (.string ⟨#[]⟩)∧Nx w (((w.alloc (Obj.cells #[.string ⟨#[]⟩,.string ⟨#[]⟩,.string ⟨#[]⟩,.string ⟨#[]⟩,.string ⟨#[]⟩,.string ⟨#[]⟩,.string ⟨#[]⟩,.string ⟨#[]⟩,.string ⟨#[]⟩,.string ⟨#[]⟩,.string ⟨#[]⟩] 66)).alloc (Obj.cells #[.string r.sch,.string r.nam,.string r.pw,.bool r.hh,.string r.host,.bool r.hp,.int .i64 (r.port:Int),.bool r.op,.string r.opath,.slice r.so r.sn r.sc,.bool r.hq,.string r.q,.bool r.hf,.string r.fr] 101)).alloc (Obj.cells #[.string ⟨#[]⟩,.string ⟨#[]⟩,.string ⟨#[]⟩,.string ⟨#[]⟩,.string ⟨#[]⟩,.string ⟨#[]⟩,.string ⟨#[]⟩,.string ⟨#[]⟩,.string ⟨#[]⟩,.string ⟨#[]⟩,.string ⟨#[]⟩] 66)):=by
 refine⟨C11.on (C11.on (heap_alloc_new w _) (Nx.rfl.alloc _)) (Nx.rfl.alloc _),RecB.on ?_ (Nx.rfl.alloc _),?_,((Nx.rfl.alloc _).alloc _).alloc _⟩
 ·have h:=ZaS (w.alloc (Obj.cells #[.string ⟨#[]⟩,.string ⟨#[]⟩,.string ⟨#[]⟩,.string ⟨#[]⟩,.string ⟨#[]⟩,.string ⟨#[]⟩,.string ⟨#[]⟩,.string ⟨#[]⟩,.string ⟨#[]⟩,.string ⟨#[]⟩,.string ⟨#[]⟩] 66)) r
  rw[show((w.alloc (Obj.cells #[.string ⟨#[]⟩,.string ⟨#[]⟩,.string ⟨#[]⟩,.string ⟨#[]⟩,.string ⟨#[]⟩,.string ⟨#[]⟩,.string ⟨#[]⟩,.string ⟨#[]⟩,.string ⟨#[]⟩,.string ⟨#[]⟩,.string ⟨#[]⟩] 66))).heap.size=w.heap.size+1 by simp]at h
  exact h
 ·have h:C11 (((w.alloc (Obj.cells #[.string ⟨#[]⟩,.string ⟨#[]⟩,.string ⟨#[]⟩,.string ⟨#[]⟩,.string ⟨#[]⟩,.string ⟨#[]⟩,.string ⟨#[]⟩,.string ⟨#[]⟩,.string ⟨#[]⟩,.string ⟨#[]⟩,.string ⟨#[]⟩] 66)).alloc (Obj.cells #[.string r.sch,.string r.nam,.string r.pw,.bool r.hh,.string r.host,.bool r.hp,.int .i64 (r.port:Int),.bool r.op,.string r.opath,.slice r.so r.sn r.sc,.bool r.hq,.string r.q,.bool r.hf,.string r.fr] 101)).alloc (Obj.cells #[.string ⟨#[]⟩,.string ⟨#[]⟩,.string ⟨#[]⟩,.string ⟨#[]⟩,.string ⟨#[]⟩,.string ⟨#[]⟩,.string ⟨#[]⟩,.string ⟨#[]⟩,.string ⟨#[]⟩,.string ⟨#[]⟩,.string ⟨#[]⟩] 66)) (((w.alloc (Obj.cells #[.string ⟨#[]⟩,.string ⟨#[]⟩,.string ⟨#[]⟩,.string ⟨#[]⟩,.string ⟨#[]⟩,.string ⟨#[]⟩,.string ⟨#[]⟩,.string ⟨#[]⟩,.string ⟨#[]⟩,.string ⟨#[]⟩,.string ⟨#[]⟩] 66)).alloc (Obj.cells #[.string r.sch,.string r.nam,.string r.pw,.bool r.hh,.string r.host,.bool r.hp,.int .i64 (r.port:Int),.bool r.op,.string r.opath,.slice r.so r.sn r.sc,.bool r.hq,.string r.q,.bool r.hf,.string r.fr] 101))).heap.size (.string ⟨#[]⟩) (.string ⟨#[]⟩) (.string ⟨#[]⟩) (.string ⟨#[]⟩) (.string ⟨#[]⟩) (.string ⟨#[]⟩) (.string ⟨#[]⟩) (.string ⟨#[]⟩) (.string ⟨#[]⟩) (.string ⟨#[]⟩) (.string ⟨#[]⟩):=heap_alloc_new _ _
  rw[show(((w.alloc (Obj.cells #[.string ⟨#[]⟩,.string ⟨#[]⟩,.string ⟨#[]⟩,.string ⟨#[]⟩,.string ⟨#[]⟩,.string ⟨#[]⟩,.string ⟨#[]⟩,.string ⟨#[]⟩,.string ⟨#[]⟩,.string ⟨#[]⟩,.string ⟨#[]⟩] 66)).alloc (Obj.cells #[.string r.sch,.string r.nam,.string r.pw,.bool r.hh,.string r.host,.bool r.hp,.int .i64 (r.port:Int),.bool r.op,.string r.opath,.slice r.so r.sn r.sc,.bool r.hq,.string r.q,.bool r.hf,.string r.fr] 101))).heap.size=w.heap.size+1+1 by simp]at h
  exact h
def ZmF(e:Ending)(u:U):Prop:=∃t0 t1 t2 t3 t4 t5 t6 t7 t8 t9 t10:ByteArray,e=.returned (.agg #[.string t0,.string t1,.string t2,.string t3,.string t4,.string t5,.string t6,.string t7,.string t8,.string t9,.string t10])∧tl t0=Zdg u∧tl t1=ZZ u∧tl t2=Zad u∧tl t3=u.nam∧tl t4=u.pw∧tl t5=Zl u∧tl t6=u.host∧tl t7=ZC u∧tl t8=pathU u∧tl t9=Z4 u∧tl t10=ZbX u∧t5.size≤200000000000∧t8.size≤200000000000
theorem ZeL(pb:Nat)(r:Rc)(u:U)(bs:LA)(w:World)(h0:UrlB w pb r)(h:RcIs w r u bs)(ht:Tb w)(hpl:u.sch=[98,108,111,98]→(pathU u).length≤9000):Calls Tryz.prog 30 #[.pointer (some ⟨pb,0,none⟩)] w fun e w'=>ZmF e u∧Nx w w':=by
 have HRC:=Za h;have HTB:=Za ht;have HPL:=Za hpl;have HU:=Za h0
 have HM3:=Za (show tl r.nam=u.nam by rw[←h.eq];rfl)
 have HM4:=Za (show tl r.pw=u.pw by rw[←h.eq];rfl)
 have HM6:=Za (show tl r.host=u.host by rw[←h.eq];rfl)
 have HUN:=Za (UrlB.on h0 (Nx.rfl.alloc (Obj.cells #[.string ⟨#[]⟩,.string ⟨#[]⟩,.string ⟨#[]⟩,.string ⟨#[]⟩,.string ⟨#[]⟩,.string ⟨#[]⟩,.string ⟨#[]⟩,.string ⟨#[]⟩,.string ⟨#[]⟩,.string ⟨#[]⟩,.string ⟨#[]⟩] 66)));obtain⟨a0,a1,a2,a3,a4,a5,a6,a7,a8,a9,a10,a11,a12,a13⟩:=HUN.out.cells;clear h ht h0 hpl
 go_enter Tryz.func30,Tryz.ntmps30
 go_upto_region 5 with fail;obtain⟨hz,hb,ha,hn⟩:=Zo8 w r;generalize (((w.alloc (Obj.cells #[.string ⟨#[]⟩,.string ⟨#[]⟩,.string ⟨#[]⟩,.string ⟨#[]⟩,.string ⟨#[]⟩,.string ⟨#[]⟩,.string ⟨#[]⟩,.string ⟨#[]⟩,.string ⟨#[]⟩,.string ⟨#[]⟩,.string ⟨#[]⟩] 66)).alloc (Obj.cells #[.string r.sch,.string r.nam,.string r.pw,.bool r.hh,.string r.host,.bool r.hp,.int .i64 (r.port:Int),.bool r.op,.string r.opath,.slice r.so r.sn r.sc,.bool r.hq,.string r.q,.bool r.hf,.string r.fr] 101)).alloc (Obj.cells #[.string ⟨#[]⟩,.string ⟨#[]⟩,.string ⟨#[]⟩,.string ⟨#[]⟩,.string ⟨#[]⟩,.string ⟨#[]⟩,.string ⟨#[]⟩,.string ⟨#[]⟩,.string ⟨#[]⟩,.string ⟨#[]⟩,.string ⟨#[]⟩] 66))=w0 at *;have HZ0:=Za hz;have HB0:=Za hb;have HA0:=Za ha;have HN0:=Za hn;clear hz hb ha hn HU HUN a0 a1 a2 a3 a4 a5 a6 a7 a8 a9 a10 a11 a12 a13;obtain⟨c0,c1,c2,c3,c4,c5,c6,c7,c8,c9,c10,c11,c12,c13⟩:=HB0.out.cells
 go_upto_region 6 with(go_at_call 81;refine(Zk5 r u bs _ (HRC.out.on HN0.out) (HTB.out.on HN0.out)).mono ?_;rintro e w' ⟨t0,rfl,hti,hn⟩;have HT0:=Za hti;have HA':=Za (HA0.out.on hn);have HB':=Za (RecB.on HB0.out hn);have HZ':=Za (HZ0.out.on hn);have HN':=Za (show Nx w w' from HN0.out.then hn);have fr:=HA'.out.free 0;obtain⟨b0,b1,b2,b3,b4,b5,b6,b7,b8,b9,b10⟩:=HA'.out.cells;clear hti hn c0 c1 c2 c3 c4 c5 c6 c7 c8 c9 c10 c11 c12 c13 HA0 HB0 HZ0 HN0)
 have HA1:=Za (HA'.out.set0 (.string t0))
 have HB1:=Za (RecB.far HB'.out (show w.heap.size+1+1≠w.heap.size+1 by omega) 0 (.string t0))
 have HZ1:=Za (HZ'.out.far (show w.heap.size+1+1≠w.heap.size by omega) 0 (.string t0))
 have HN1:=Za (show Nx w (w'.setCell ⟨w.heap.size+1+1,0,none⟩ (.string t0))from HN'.out.setCell (show w.heap.size≤w.heap.size+1+1 by omega) _)
 clear fr b0 b1 b2 b3 b4 b5 b6 b7 b8 b9 b10 HA' HB' HZ' HN';generalize w'.setCell ⟨w.heap.size+1+1,0,none⟩ (.string t0)=w1 at *;obtain⟨c0,c1,c2,c3,c4,c5,c6,c7,c8,c9,c10,c11,c12,c13⟩:=HB1.out.cells
 go_upto_region 7 with(go_at_call 82;refine(Zmr r u bs _ (HRC.out.on HN1.out) (HTB.out.on HN1.out) HPL.out).mono ?_;rintro e w' ⟨t1,rfl,hti,hs1,hn⟩;have HT1:=Za hti;have HA':=Za (HA1.out.on hn);have HB':=Za (RecB.on HB1.out hn);have HZ':=Za (HZ1.out.on hn);have HN':=Za (show Nx w w' from HN1.out.then hn);have fr:=HA'.out.free 1;obtain⟨b0,b1,b2,b3,b4,b5,b6,b7,b8,b9,b10⟩:=HA'.out.cells;clear hti hn hs1 c0 c1 c2 c3 c4 c5 c6 c7 c8 c9 c10 c11 c12 c13 HA1 HB1 HZ1 HN1)
 have HA2:=Za (HA'.out.set1 (.string t1))
 have HB2:=Za (RecB.far HB'.out (show w.heap.size+1+1≠w.heap.size+1 by omega) 1 (.string t1))
 have HZ2:=Za (HZ'.out.far (show w.heap.size+1+1≠w.heap.size by omega) 1 (.string t1))
 have HN2:=Za (show Nx w (w'.setCell ⟨w.heap.size+1+1,1,none⟩ (.string t1))from HN'.out.setCell (show w.heap.size≤w.heap.size+1+1 by omega) _)
 clear fr b0 b1 b2 b3 b4 b5 b6 b7 b8 b9 b10 HA' HB' HZ' HN';generalize w'.setCell ⟨w.heap.size+1+1,1,none⟩ (.string t1)=w2 at *;obtain⟨c0,c1,c2,c3,c4,c5,c6,c7,c8,c9,c10,c11,c12,c13⟩:=HB2.out.cells
 go_upto_region 8 with(go_at_call 83;refine(ZeV r u bs _ (HRC.out.on HN2.out)).mono ?_;rintro e w' ⟨t2,rfl,hti,hn⟩;have HT2:=Za hti;have HA':=Za (HA2.out.on hn);have HB':=Za (RecB.on HB2.out hn);have HZ':=Za (HZ2.out.on hn);have HN':=Za (show Nx w w' from HN2.out.then hn);have fr:=HA'.out.free 2;obtain⟨b0,b1,b2,b3,b4,b5,b6,b7,b8,b9,b10⟩:=HA'.out.cells;clear hti hn c0 c1 c2 c3 c4 c5 c6 c7 c8 c9 c10 c11 c12 c13 HA2 HB2 HZ2 HN2)
 have HA3:=Za (HA'.out.set2 (.string t2))
 have HB3:=Za (RecB.far HB'.out (show w.heap.size+1+1≠w.heap.size+1 by omega) 2 (.string t2))
 have HZ3:=Za (HZ'.out.far (show w.heap.size+1+1≠w.heap.size by omega) 2 (.string t2))
 have HN3:=Za (show Nx w (w'.setCell ⟨w.heap.size+1+1,2,none⟩ (.string t2))from HN'.out.setCell (show w.heap.size≤w.heap.size+1+1 by omega) _)
 clear fr b0 b1 b2 b3 b4 b5 b6 b7 b8 b9 b10 HA' HB' HZ' HN';generalize w'.setCell ⟨w.heap.size+1+1,2,none⟩ (.string t2)=w3 at *;obtain⟨c0,c1,c2,c3,c4,c5,c6,c7,c8,c9,c10,c11,c12,c13⟩:=HB3.out.cells;have fr:=HA3.out.free 3;obtain⟨b0,b1,b2,b3,b4,b5,b6,b7,b8,b9,b10⟩:=HA3.out.cells;go_upto_region 9 with fail;have HA':=HA3;have HB':=HB3;have HZ':=HZ3;have HN':=HN3;clear c0 c1 c2 c3 c4 c5 c6 c7 c8 c9 c10 c11 c12 c13 HA3 HB3 HZ3 HN3;have HA4:=Za (HA'.out.set3 (.string r.nam))
 have HB4:=Za (RecB.far HB'.out (show w.heap.size+1+1≠w.heap.size+1 by omega) 3 (.string r.nam))
 have HZ4:=Za (HZ'.out.far (show w.heap.size+1+1≠w.heap.size by omega) 3 (.string r.nam))
 have HN4:=Za (show Nx w (w3.setCell ⟨w.heap.size+1+1,3,none⟩ (.string r.nam))from HN'.out.setCell (show w.heap.size≤w.heap.size+1+1 by omega) _)
 clear fr b0 b1 b2 b3 b4 b5 b6 b7 b8 b9 b10 HA' HB' HZ' HN';generalize w3.setCell ⟨w.heap.size+1+1,3,none⟩ (.string r.nam)=w4 at *;obtain⟨c0,c1,c2,c3,c4,c5,c6,c7,c8,c9,c10,c11,c12,c13⟩:=HB4.out.cells;have fr:=HA4.out.free 4;obtain⟨b0,b1,b2,b3,b4,b5,b6,b7,b8,b9,b10⟩:=HA4.out.cells;go_upto_region 10 with fail;have HA':=HA4;have HB':=HB4;have HZ':=HZ4;have HN':=HN4;clear c0 c1 c2 c3 c4 c5 c6 c7 c8 c9 c10 c11 c12 c13 HA4 HB4 HZ4 HN4;have HA5:=Za (HA'.out.set4 (.string r.pw))
 have HB5:=Za (RecB.far HB'.out (show w.heap.size+1+1≠w.heap.size+1 by omega) 4 (.string r.pw))
 have HZ5:=Za (HZ'.out.far (show w.heap.size+1+1≠w.heap.size by omega) 4 (.string r.pw))
 have HN5:=Za (show Nx w (w4.setCell ⟨w.heap.size+1+1,4,none⟩ (.string r.pw))from HN'.out.setCell (show w.heap.size≤w.heap.size+1+1 by omega) _)
 clear fr b0 b1 b2 b3 b4 b5 b6 b7 b8 b9 b10 HA' HB' HZ' HN';generalize w4.setCell ⟨w.heap.size+1+1,4,none⟩ (.string r.pw)=w5 at *;obtain⟨c0,c1,c2,c3,c4,c5,c6,c7,c8,c9,c10,c11,c12,c13⟩:=HB5.out.cells
 go_upto_region 11 with(go_at_call 84;refine(Zde r u bs _ (HRC.out.on HN5.out) (HTB.out.on HN5.out)).mono ?_;rintro e w' ⟨t5,rfl,hti,hs5,hn⟩;have HT5:=Za hti;have HA':=Za (HA5.out.on hn);have HB':=Za (RecB.on HB5.out hn);have HZ':=Za (HZ5.out.on hn);have HN':=Za (show Nx w w' from HN5.out.then hn);have fr:=HA'.out.free 5;obtain⟨b0,b1,b2,b3,b4,b5,b6,b7,b8,b9,b10⟩:=HA'.out.cells;clear hti hn c0 c1 c2 c3 c4 c5 c6 c7 c8 c9 c10 c11 c12 c13 HA5 HB5 HZ5 HN5)
 have HA6:=Za (HA'.out.set5 (.string t5))
 have HB6:=Za (RecB.far HB'.out (show w.heap.size+1+1≠w.heap.size+1 by omega) 5 (.string t5))
 have HZ6:=Za (HZ'.out.far (show w.heap.size+1+1≠w.heap.size by omega) 5 (.string t5))
 have HN6:=Za (show Nx w (w'.setCell ⟨w.heap.size+1+1,5,none⟩ (.string t5))from HN'.out.setCell (show w.heap.size≤w.heap.size+1+1 by omega) _)
 clear fr b0 b1 b2 b3 b4 b5 b6 b7 b8 b9 b10 HA' HB' HZ' HN';generalize w'.setCell ⟨w.heap.size+1+1,5,none⟩ (.string t5)=w6 at *;obtain⟨c0,c1,c2,c3,c4,c5,c6,c7,c8,c9,c10,c11,c12,c13⟩:=HB6.out.cells;have fr:=HA6.out.free 6;obtain⟨b0,b1,b2,b3,b4,b5,b6,b7,b8,b9,b10⟩:=HA6.out.cells;go_upto_region 12 with fail;have HA':=HA6;have HB':=HB6;have HZ':=HZ6;have HN':=HN6;clear c0 c1 c2 c3 c4 c5 c6 c7 c8 c9 c10 c11 c12 c13 HA6 HB6 HZ6 HN6;have HA7:=Za (HA'.out.set6 (.string r.host))
 have HB7:=Za (RecB.far HB'.out (show w.heap.size+1+1≠w.heap.size+1 by omega) 6 (.string r.host))
 have HZ7:=Za (HZ'.out.far (show w.heap.size+1+1≠w.heap.size by omega) 6 (.string r.host))
 have HN7:=Za (show Nx w (w6.setCell ⟨w.heap.size+1+1,6,none⟩ (.string r.host))from HN'.out.setCell (show w.heap.size≤w.heap.size+1+1 by omega) _)
 clear fr b0 b1 b2 b3 b4 b5 b6 b7 b8 b9 b10 HA' HB' HZ' HN';generalize w6.setCell ⟨w.heap.size+1+1,6,none⟩ (.string r.host)=w7 at *;obtain⟨c0,c1,c2,c3,c4,c5,c6,c7,c8,c9,c10,c11,c12,c13⟩:=HB7.out.cells
 go_upto_region 13 with(go_at_call 85;refine(ZeW r u bs _ (HRC.out.on HN7.out) (HTB.out.on HN7.out)).mono ?_;rintro e w' ⟨t7,rfl,hti,hs7,hn⟩;have HT7:=Za hti;have HA':=Za (HA7.out.on hn);have HB':=Za (RecB.on HB7.out hn);have HZ':=Za (HZ7.out.on hn);have HN':=Za (show Nx w w' from HN7.out.then hn);have fr:=HA'.out.free 7;obtain⟨b0,b1,b2,b3,b4,b5,b6,b7,b8,b9,b10⟩:=HA'.out.cells;clear hti hn hs7 c0 c1 c2 c3 c4 c5 c6 c7 c8 c9 c10 c11 c12 c13 HA7 HB7 HZ7 HN7)
 have HA8:=Za (HA'.out.set7 (.string t7))
 have HB8:=Za (RecB.far HB'.out (show w.heap.size+1+1≠w.heap.size+1 by omega) 7 (.string t7))
 have HZ8:=Za (HZ'.out.far (show w.heap.size+1+1≠w.heap.size by omega) 7 (.string t7))
 have HN8:=Za (show Nx w (w'.setCell ⟨w.heap.size+1+1,7,none⟩ (.string t7))from HN'.out.setCell (show w.heap.size≤w.heap.size+1+1 by omega) _)
 clear fr b0 b1 b2 b3 b4 b5 b6 b7 b8 b9 b10 HA' HB' HZ' HN';generalize w'.setCell ⟨w.heap.size+1+1,7,none⟩ (.string t7)=w8 at *;obtain⟨c0,c1,c2,c3,c4,c5,c6,c7,c8,c9,c10,c11,c12,c13⟩:=HB8.out.cells
 go_upto_region 14 with(go_at_call 86;refine(Zdf r u bs _ (HRC.out.on HN8.out)).mono ?_;rintro e w' ⟨t8,rfl,hti,hs8,hn⟩;have HT8:=Za hti;have HA':=Za (HA8.out.on hn);have HB':=Za (RecB.on HB8.out hn);have HZ':=Za (HZ8.out.on hn);have HN':=Za (show Nx w w' from HN8.out.then hn);have fr:=HA'.out.free 8;obtain⟨b0,b1,b2,b3,b4,b5,b6,b7,b8,b9,b10⟩:=HA'.out.cells;clear hti hn c0 c1 c2 c3 c4 c5 c6 c7 c8 c9 c10 c11 c12 c13 HA8 HB8 HZ8 HN8)
 have HA9:=Za (HA'.out.set8 (.string t8))
 have HB9:=Za (RecB.far HB'.out (show w.heap.size+1+1≠w.heap.size+1 by omega) 8 (.string t8))
 have HZ9:=Za (HZ'.out.far (show w.heap.size+1+1≠w.heap.size by omega) 8 (.string t8))
 have HN9:=Za (show Nx w (w'.setCell ⟨w.heap.size+1+1,8,none⟩ (.string t8))from HN'.out.setCell (show w.heap.size≤w.heap.size+1+1 by omega) _)
 clear fr b0 b1 b2 b3 b4 b5 b6 b7 b8 b9 b10 HA' HB' HZ' HN';generalize w'.setCell ⟨w.heap.size+1+1,8,none⟩ (.string t8)=w9 at *;obtain⟨c0,c1,c2,c3,c4,c5,c6,c7,c8,c9,c10,c11,c12,c13⟩:=HB9.out.cells
 go_upto_region 15 with(go_at_call 87;refine(Zl2 r u bs _ (HRC.out.on HN9.out)).mono ?_;rintro e w' ⟨t9,rfl,hti,hn⟩;have HT9:=Za hti;have HA':=Za (HA9.out.on hn);have HB':=Za (RecB.on HB9.out hn);have HZ':=Za (HZ9.out.on hn);have HN':=Za (show Nx w w' from HN9.out.then hn);have fr:=HA'.out.free 9;obtain⟨b0,b1,b2,b3,b4,b5,b6,b7,b8,b9,b10⟩:=HA'.out.cells;clear hti hn c0 c1 c2 c3 c4 c5 c6 c7 c8 c9 c10 c11 c12 c13 HA9 HB9 HZ9 HN9)
 have HA10:=Za (HA'.out.set9 (.string t9))
 have HB10:=Za (RecB.far HB'.out (show w.heap.size+1+1≠w.heap.size+1 by omega) 9 (.string t9))
 have HZ10:=Za (HZ'.out.far (show w.heap.size+1+1≠w.heap.size by omega) 9 (.string t9))
 have HN10:=Za (show Nx w (w'.setCell ⟨w.heap.size+1+1,9,none⟩ (.string t9))from HN'.out.setCell (show w.heap.size≤w.heap.size+1+1 by omega) _)
 clear fr b0 b1 b2 b3 b4 b5 b6 b7 b8 b9 b10 HA' HB' HZ' HN';generalize w'.setCell ⟨w.heap.size+1+1,9,none⟩ (.string t9)=w10 at *;obtain⟨c0,c1,c2,c3,c4,c5,c6,c7,c8,c9,c10,c11,c12,c13⟩:=HB10.out.cells
 go_upto_region 16 with(go_at_call 88;refine(ZpW r u bs _ (HRC.out.on HN10.out)).mono ?_;rintro e w' ⟨t10,rfl,hti,hn⟩;have HT10:=Za hti;have HA':=Za (HA10.out.on hn);have HB':=Za (RecB.on HB10.out hn);have HZ':=Za (HZ10.out.on hn);have HN':=Za (show Nx w w' from HN10.out.then hn);have fr:=HA'.out.free 10;obtain⟨b0,b1,b2,b3,b4,b5,b6,b7,b8,b9,b10⟩:=HA'.out.cells;clear hti hn c0 c1 c2 c3 c4 c5 c6 c7 c8 c9 c10 c11 c12 c13 HA10 HB10 HZ10 HN10)
 have HA11:=Za (HA'.out.set10 (.string t10))
 have HB11:=Za (RecB.far HB'.out (show w.heap.size+1+1≠w.heap.size+1 by omega) 10 (.string t10))
 have HZ11:=Za (HZ'.out.far (show w.heap.size+1+1≠w.heap.size by omega) 10 (.string t10))
 have HN11:=Za (show Nx w (w'.setCell ⟨w.heap.size+1+1,10,none⟩ (.string t10))from HN'.out.setCell (show w.heap.size≤w.heap.size+1+1 by omega) _)
 clear fr b0 b1 b2 b3 b4 b5 b6 b7 b8 b9 b10 HA' HB' HZ' HN';generalize w'.setCell ⟨w.heap.size+1+1,10,none⟩ (.string t10)=w11 at *;obtain⟨b0,b1,b2,b3,b4,b5,b6,b7,b8,b9,b10⟩:=HA11.out.cells;obtain⟨z0,z1,z2,z3,z4,z5,z6,z7,z8,z9,z10⟩:=HZ11.out.cells;have zf0:=HZ11.out.free 0;have zf1:=HZ11.out.free 1;have zf2:=HZ11.out.free 2;have zf3:=HZ11.out.free 3;have zf4:=HZ11.out.free 4;have zf5:=HZ11.out.free 5;have zf6:=HZ11.out.free 6;have zf7:=HZ11.out.free 7;have zf8:=HZ11.out.free 8;have zf9:=HZ11.out.free 9;have zf10:=HZ11.out.free 10;go_wp2
 exact ZqS (rb:=w.heap.size) Tryz.results30 rfl (C11.put HZ11.out _ _ _ _ _ _ _ _ _ _ _) rfl ⟨⟨t0,t1,t2,r.nam,r.pw,t5,r.host,t7,t8,t9,t10,rfl,HT0.out,HT1.out,HT2.out,HM3.out,HM4.out,HT5.out,HM6.out,HT7.out,HT8.out,HT9.out,HT10.out,by omega,by omega⟩,Zkl HN11.out (Nat.le_refl _) _ _ _ _ _ _ _ _ _ _ _⟩
end Go.Proofs.YtchkhibgbnhjpabGreatDoor
