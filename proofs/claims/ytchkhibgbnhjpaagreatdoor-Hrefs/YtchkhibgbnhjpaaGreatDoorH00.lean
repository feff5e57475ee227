import Derived.Test.YtchkhibgbnhjpaaGreatDoorK42
import Derived.Deep.Cut
namespace Go.Proofs.YtchkhibgbnhjpaaGreatDoor
open Go.RowKit
theorem URB.lt {w:World} {ub rb:Nat} {v:Value} (h:URB w ub rb v):ub < w.heap.size:=(Array.getElem?_eq_some_iff.1 h).1
theorem URB.s0 {w:World} {ub rb:Nat} {v:Value} (h:URB w ub rb v) (qb:Nat):URB (w.setCell ⟨ub,0,none⟩ (.pointer (some ⟨qb,0,none⟩))) ub qb v:=by
 unfold URB at *
 simp only [World.setCell,Array.getElem?_modify,if_pos,h]
 rfl
theorem URB.but {w w':World} {ub rb qb:Nat} {v:Value} (h:URB w ub rb v) (hb:But qb w w') (hn:ub≠qb):URB w' ub rb v:=(hb.block ub (Array.getElem?_eq_some_iff.1 h).1 hn).trans h
def Zw5 (m:RU) (p:List Int):RU:=
 if (schemeOf (flat p++[58])).2.2=false∨Zg (schemeOf (flat p++[58])).1≠Zg m.sch then m
 else if (schemeOf (flat p++[58])).1=ZD∧(m.user≠[]∨m.pass≠[]∨0≤m.port) then m
 else if m.sch=ZD∧m.his=true∧m.htx=[] then m
 else { m with sch:=(schemeOf (flat p++[58])).1,port:=Zt1 (schemeOf (flat p++[58])).1 m.port }
def Zwj (m:RU) (p:List Int):RU:=
 if p.takeWhile numeral≠[]∧value (p.takeWhile numeral)≤65535 then { m with port:=Zt1 m.sch (value (p.takeWhile numeral)) } else m
def Zw6 (m:RU) (p:List Int):RU:=if p=[] then { m with port:=-1 } else Zwj m (flat p)
def Zw1 (e:Int):Int:=if e=2 then 0 else e
def Zwy (sch:List UInt8):List UInt8:=tl (Zj sch)++[63,35]
def ZwT (m:RU) (p name:List Int) (ports:Bool):RU × Int:=
 if colon name=0∨(0 < colon name∧ports=false) then (m,0)
 else if name=[]∧(Zg m.sch=true∨m.user≠[]∨m.pass≠[]∨0≤m.port) then (m,0)
 else if (hostOf (if 0 < colon name then name.take (colon name).toNat else name) (Zg m.sch)).2.2≠0 then (m,Zw1 (hostOf (if 0 < colon name then name.take (colon name).toNat else name) (Zg m.sch)).2.2)
 else if 0 < colon name then (Zwj (Zfp m (name.take (colon name).toNat)) (p.drop ((colon name).toNat + 1)),0) else (Zfp m name,0)
def ZwK (m:RU) (p:List Int) (ports:Bool):RU × Int:=
 if m.sch=ZD then (if (Zay m (cut p (Zwy m.sch)).1).2≠0 then (m,Zw1 (Zay m (cut p (Zwy m.sch)).1).2) else ((Zay m (cut p (Zwy m.sch)).1).1,0))
 else ZwT m p (cut p (Zwy m.sch)).1 ports
def Zw7 (m:RU) (p:List Int):RU:=
 if Zm p 0 m.sch=true then { m with path:=walked m.sch [] (p.drop 1) }
 else if Zg m.sch=true∨p≠[] then { m with path:=walked m.sch [] p }
 else if m.his=true then { m with path:=[] } else { m with path:=[[]] }
def Zw8 (l:List UInt8):List UInt8:=(l.reverse.dropWhile fun b=>(b.toNat:Int) == 32).reverse
def Zw2 (m:RU):RU:=if m.op=true∧m.hq=false∧m.hf=false then { m with bl:=Zw8 m.bl } else m
def Zxo (c:Int) (p:List Int):List Int:=if p.headD 0=c then p.drop 1 else p
def ZwL (m:RU) (p:List Int):RU:=
 if p=[] then Zw2 { m with hq:=false,q:=[] } else { m with hq:=true,q:=encoded (flat (Zxo 63 p)) (tl (Zof (Zg m.sch))) }
def Zxk (m:RU) (p:List Int):RU:=
 if p=[] then Zw2 { m with hf:=false,fr:=[] } else { m with hf:=true,fr:=encoded (flat (Zxo 35 p)) Zd5 }
def Zwk (m:RU):Prop:=m.htx=[]∨m.sch=ZD
instance (m:RU):Decidable (Zwk m):=by unfold Zwk;infer_instance
def Zxf (m:RU) (k:Int) (l:List UInt8):RU × Int:=
 if k=1 then (if (parseR l none).2≠0 then (m,(parseR l none).2) else ((parseR l none).1,0))
 else if k=2 then (Zw5 m (Zl l),0)
 else if k=3 then (if Zwk m then m else { m with user:=encoded (Zl l) ZgZ },0)
 else if k=4 then (if Zwk m then m else { m with pass:=encoded (Zl l) ZgZ },0)
 else if k=5 then (if m.op=true then (m,0) else ZwK m (flat (Zl l)) true)
 else if k=6 then (if m.op=true then (m,0) else ZwK m (flat (Zl l)) false)
 else if k=7 then (if Zwk m then m else Zw6 m (Zl l),0)
 else if k=8 then (if m.op=true then m else Zw7 m (flat (Zl l)),0)
 else if k=9 then (ZwL m (Zl l),0)
 else if k=10 then (Zxk m (Zl l),0)
 else (m,0)
def Zwg (m:RU) (k:Int) (l:List UInt8) (ps:List (List UInt8 × List UInt8)):List (List UInt8 × List UInt8):=
 if k=1 then (if (parseR l none).2≠0 then ps else ZjY (parseR l none).1) else if k=9 then ZjY (ZwL m (Zl l)) else ps
structure Two (ub rb:Nat) (w w':World):Prop where
 os:w'.os=w.os
 tape:w'.tape=w.tape
 output:w'.output=w.output
 size:w.heap.size≤w'.heap.size
 block:∀ k,k < w.heap.size→k≠ub→k≠rb→w'.heap[k]?=w.heap[k]?
theorem Two.l {ub rb:Nat} {w w':World} (h:But ub w w'):Two ub rb w w':=⟨h.os,h.tape,h.output,h.size,fun k hk h1 _=>h.block k hk h1⟩
theorem Two.nx {ub rb:Nat} {w w':World} (h:Nx w w'):Two ub rb w w':=Two.l (But.nx h)
theorem Two.below {ub rb B:Nat} {a w:World} (h:Two ub rb a w) (h1:B≤ub) (h2:B≤rb) (h3:B≤a.heap.size):Below B a w:=⟨h.os,h.tape,h.output,h.size,fun k hk=>h.block k (by omega) (by omega) (by omega)⟩
def Zxp (e:Ending) (w w':World) (ub rb:Nat) (x:RU × Int) (ls:List (List UInt8 × List UInt8)):Prop:=
 e=.returned (.int .i64 x.2)∧(∃ qb R rs v ps,URB w' ub qb v∧RB w' qb R∧RIs w' R x.1 rs∧PlAt w' v ps∧ps.map tl2=ls∧(qb=rb∨w.heap.size≤qb))∧Two ub rb w w'
theorem ZwM (ub:Nat) (k:Int) (s:ByteArray) (w:World) (hs:s.size≤maxLen) (hl:160 < s.size):
  Calls Tryz.prog 72 #[.pointer (some ⟨ub,0,none⟩),.int .i64 k,.string s] w fun e w'=>e=.returned (.int .i64 1)∧Nx w w':=by
 go_enter Tryz.func72,Tryz.ntmps72
 go_wp2_with fail
 refine (ZfX s _ hs).mono ?_
 rintro e w' ⟨rfl,rfl⟩
 rw [decide_eq_true hl]
 go_wp2
 go_ret
 exact ⟨rfl,Nx.rfl⟩
theorem RIs.bare {w:World} {R:RR} {u:RU} {bs:List ByteArray} (h:RIs w R u bs):Zwk u↔(tl R.htx=[]∨tl R.sch=ZD):=by
 rw [← h.eq]
 exact Iff.rfl
theorem ZwN {s:ByteArray} (h:¬ s.size=0):tl s≠[]:=fun g=>h (by rw [← tl_length,g];rfl)
set_option maxRecDepth 8000 in
set_option maxHeartbeats 8000000 in
theorem Zxg (ub rb:Nat) (v0:Value) (R:RR) (m:RU) (bs:List ByteArray) (ps:List Pq) (s:ByteArray) (w:World) (hu:URB w ub rb v0) (h:RB w rb R) (hr:RIs w R m bs) (hpl:PlAt w v0 ps) (hs:s.size≤160) (hq:(parseR (tl s) none).2=0→(parseR (tl s) none).1.q.length≤90000):
  Calls Tryz.prog 72 #[.pointer (some ⟨ub,0,none⟩),.int .i64 1,.string s] w fun e w'=>Zxp e w w' ub rb (Zxf m 1 (tl s)) (Zwg m 1 (tl s) (ps.map tl2)):=by
 have HU:=Za hu
 have HB:=Za h
 have HR:=Za hr
 have HPL:=Za hpl
 have HBA:=Za hr.bare
 have HQ:=Za hq
 have a0:=hu.cells.1
 clear hu h hr hpl hq
 go_enter Tryz.func72,Tryz.ntmps72
 go_wp2_with fail
 refine (ZfX s _ (by unfold maxLen;omega)).mono ?_
 rintro e w' ⟨rfl,rfl⟩
 rw [decide_eq_false (show ¬ 160 < s.size by omega)]
 go_wp2_with fail
 refine (ZaX s _ (by omega)).mono ?_
 rintro e w1 ⟨pv,rfl,h1,hn1⟩
 have HPV:=Za h1
 have HN1:=Za hn1
 have hlen:=ZaY (tl s)
 rw [tl_length] at hlen
 obtain ⟨c0,c1,c2,c3,c4,c5,c6,c7,c8,c9,c10,c11,c12⟩:=(HB.out.on hn1).cells
 clear h1 hn1 a0
 go_upto_region 6 with fail
 go_cut [10] from 11 (fun b wx=>∃ c:Bool,b=.bool c∧(c=true↔Zwk m)∧wx=w1)
 case first=>
  by_cases e1:R.htx.size=0
  ·have e1':=Zo e1
   have HC:=Za (HBA.out.2 (Or.inl (Zpl e1)))
   clear e1
   go_wp2_with fail
   go_meet
   case rel=>exact ⟨true,rfl,⟨fun _=>HC.out,fun _=>rfl⟩,rfl⟩
  ·have e1':=Zi e1
   by_cases e2:tl R.sch=ZD
   ·have e2':=eqB (s:=R.sch) (l:=[102,105,108,101]) e2
    have HC:=Za (HBA.out.2 (Or.inr e2))
    clear e1 e2
    go_wp2_with fail
    go_meet
    case rel=>exact ⟨true,rfl,⟨fun _=>HC.out,fun _=>rfl⟩,rfl⟩
   ·have e2':=neB (s:=R.sch) (l:=[102,105,108,101]) e2
    have HC:=Za (show ¬ Zwk m from fun g=>by
     rcases HBA.out.1 g with g | g
     ·exact ZwN e1 g
     ·exact e2 g)
    clear e1 e2
    go_wp2_with fail
    go_meet
    case rel=>exact ⟨false,rfl,⟨fun g=>(by cases g),fun g=>absurd g HC.out⟩,rfl⟩
 case rest=>
  obtain ⟨c,rfl,hc,rfl⟩:=hcut
  clear HBA c0 c1 c2 c3 c4 c5 c6 c7 c8 c9 c10 c11 c12
  have HC:=Za hc
  clear hc
  have HE:=Za (show Zxf m 1 (tl s)=if (parseR (tl s) none).2≠0 then (m,(parseR (tl s) none).2) else ((parseR (tl s) none).1,0) from rfl)
  have HL:=Za (show Zwg m 1 (tl s) (ps.map tl2)=if (parseR (tl s) none).2≠0 then ps.map tl2 else ZjY (parseR (tl s) none).1 from rfl)
  have HNW:=Za (show Zie (tl s) (tl (⟨#[]⟩:ByteArray)) false=parseR (tl s) none from (if_neg (by rintro (g | g);rw [tl_length] at g;omega;cases g.1)).trans (if_neg (fun g=>g rfl)))
  have HQ2:Hid ((Zie (tl s) (tl (⟨#[]⟩:ByteArray)) false).2=0→(Zie (tl s) (tl (⟨#[]⟩:ByteArray)) false).1.q.length≤90000):=Za (by rw [HNW.out];exact HQ.out)
  have hsm:s.size≤maxLen:=by unfold maxLen;omega
  clear HC HPV HQ
  go_wp2_with fail
  refine (ZtL s ⟨#[]⟩ false _ hsm (Zd (by decide)) HQ2.out (fun _ g=>by exfalso;revert g;decide +kernel)).mono ?_
  rintro e w2 hx
  rw [HNW.out] at hx
  clear HNW HQ2
  generalize parseR (tl s) none=x at *
  obtain ⟨y,err⟩:=x
  simp only at HE HL
  rcases hx with ⟨he,rfl,hn2⟩ | ⟨he,qu,qb,Q,cs,v,qs,rfl,hU2,hB2,hR2,hP2,hps,hqu,hqb,hn2⟩
  ·simp only at he
   have he1:(err != 0)=true:=bne_iff_ne.2 he
   have HN:=Za (HN1.out.then hn2)
   have HX:=Za (HE.out.trans (if_pos he))
   have HY:=Za (HL.out.trans (if_pos he))
   clear hn2 he HE HL
   go_wp2
   go_ret
   rw [HX.out,HY.out]
   exact ⟨rfl,⟨rb,R,bs,v0,ps,HU.out.on HN.out,HB.out.on HN.out,HR.out.on HN.out,HPL.out.on HN.out,rfl,Or.inl rfl⟩,Two.nx HN.out⟩
  ·simp only at he
   subst he
   replace hR2:RIs w2 Q y cs:=hR2
   replace hps:qs.map tl2=ZjY y:=hps
   have HN:=Za (HN1.out.then hn2)
   have HX:=Za (HE.out.trans (if_neg (fun g=>g rfl)))
   have HY:=Za (HL.out.trans (if_neg (fun g=>g rfl)))
   have hU1:=HU.out.on (HN1.out.then hn2)
   have HU1:=Za hU1
   have HQU:=Za hU2
   have HB2:=Za hB2
   have HR2:=Za hR2
   have HP2:=Za hP2
   have HPS:=Za hps
   have hne:qu≠ub:=by have:=HU.out.lt;have:=HN1.out.size;omega
   have HQB:=Za (show w.heap.size≤qb from Nat.le_trans HN1.out.size hqb)
   obtain ⟨z0,z1⟩:=hU2.cells
   have f0:=hU1.free 0
   have f1:=hU1.free 1
   clear hn2 HE HL hU1 hU2 hB2 hR2 hP2 hps hqu hqb
   obtain ⟨ao,cap,hve,-⟩:=HP2.out
   subst hve
   obtain ⟨b0,b1⟩:=HU1.out.cells
   go_upto_region 13 with fail
   have HBT:Hid (But ub w2 (w2.setCell ⟨ub,0,none⟩ (.pointer (some ⟨qb,0,none⟩)))):=Za ((But.refl ub w2).set 0 _)
   have HU3:=Za (HU1.out.s0 qb)
   have HQU3:=Za (HQU.out.but HBT.out hne)
   clear z0 z1 f0 f1 b0 b1
   generalize w2.setCell ⟨ub,0,none⟩ (.pointer (some ⟨qb,0,none⟩))=w3 at *
   obtain ⟨z0,z1⟩:=HQU3.out.cells
   have f1:=HU3.out.free 1
   obtain ⟨b0,b1⟩:=HU3.out.cells
   go_wp2
   go_ret
   rw [HX.out,HY.out]
   have hbt:But ub w2 (w3.setCell ⟨ub,1,none⟩ (.slice ao qs.length cap)):=HBT.out.set 1 _
   have hkp:=hbt.kpU HU1.out
   exact ⟨rfl,⟨qb,Q,cs,_,qs,HU3.out.s1 _,HB2.out.but hbt (Ne.symm (HU1.out.ne HB2.out)),HR2.out.kpU hkp,HP2.out.kp hkp (by decide),HPS.out,Or.inr HQB.out⟩,Two.l ((But.nx HN.out).then hbt)⟩
end Go.Proofs.YtchkhibgbnhjpaaGreatDoor
