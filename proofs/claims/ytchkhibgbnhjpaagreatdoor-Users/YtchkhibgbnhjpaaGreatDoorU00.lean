import Derived.Test.YtchkhibgbnhjpaaGreatDoorK42
import Derived.Deep.Cut
namespace Go.Proofs.YtchkhibgbnhjpaaGreatDoor
open Go.RowKit
theorem URB.but {w w':World} {ub rb qb:Nat} {v:Value} (h:URB w ub rb v) (hb:But qb w w') (hn:ub≠qb):URB w' ub rb v:=(hb.block ub (Array.getElem?_eq_some_iff.1 h).1 hn).trans h
def Zxi (m:RU) (p:List Int):RU:=
 if (schemeOf (flat p++[58])).2.2=false∨Zg (schemeOf (flat p++[58])).1≠Zg m.sch then m
 else if (schemeOf (flat p++[58])).1=ZD∧(m.user≠[]∨m.pass≠[]∨0≤m.port) then m
 else if m.sch=ZD∧m.his=true∧m.htx=[] then m
 else { m with sch:=(schemeOf (flat p++[58])).1,port:=Zt1 (schemeOf (flat p++[58])).1 m.port }
def Zwu (m:RU) (p:List Int):RU:=
 if p.takeWhile numeral≠[]∧value (p.takeWhile numeral)≤65535 then { m with port:=Zt1 m.sch (value (p.takeWhile numeral)) } else m
def Zxj (m:RU) (p:List Int):RU:=if p=[] then { m with port:=-1 } else Zwu m (flat p)
def Zxe (e:Int):Int:=if e=2 then 0 else e
def ZwJ (sch:List UInt8):List UInt8:=tl (Zj sch)++[63,35]
def Zw4 (m:RU) (p name:List Int) (ports:Bool):RU × Int:=
 if colon name=0∨(0 < colon name∧ports=false) then (m,0)
 else if name=[]∧(Zg m.sch=true∨m.user≠[]∨m.pass≠[]∨0≤m.port) then (m,0)
 else if (hostOf (if 0 < colon name then name.take (colon name).toNat else name) (Zg m.sch)).2.2≠0 then (m,Zxe (hostOf (if 0 < colon name then name.take (colon name).toNat else name) (Zg m.sch)).2.2)
 else if 0 < colon name then (Zwu (Zfp m (name.take (colon name).toNat)) (p.drop ((colon name).toNat + 1)),0) else (Zfp m name,0)
def ZwV (m:RU) (p:List Int) (ports:Bool):RU × Int:=
 if m.sch=ZD then (if (Zay m (cut p (ZwJ m.sch)).1).2≠0 then (m,Zxe (Zay m (cut p (ZwJ m.sch)).1).2) else ((Zay m (cut p (ZwJ m.sch)).1).1,0))
 else Zw4 m p (cut p (ZwJ m.sch)).1 ports
def Zxk (m:RU) (p:List Int):RU:=
 if Zm p 0 m.sch=true then { m with path:=walked m.sch [] (p.drop 1) }
 else if Zg m.sch=true∨p≠[] then { m with path:=walked m.sch [] p }
 else if m.his=true then { m with path:=[] } else { m with path:=[[]] }
def Zxl (l:List UInt8):List UInt8:=(l.reverse.dropWhile fun b=>(b.toNat:Int) == 32).reverse
def Zxf (m:RU):RU:=if m.op=true∧m.hq=false∧m.hf=false then { m with bl:=Zxl m.bl } else m
def ZxC (c:Int) (p:List Int):List Int:=if p.headD 0=c then p.drop 1 else p
def ZwW (m:RU) (p:List Int):RU:=
 if p=[] then Zxf { m with hq:=false,q:=[] } else { m with hq:=true,q:=encoded (flat (ZxC 63 p)) (tl (Zof (Zg m.sch))) }
def Zxx (m:RU) (p:List Int):RU:=
 if p=[] then Zxf { m with hf:=false,fr:=[] } else { m with hf:=true,fr:=encoded (flat (ZxC 35 p)) Zd5 }
def Zwj (m:RU):Prop:=m.htx=[]∨m.sch=ZD
instance (m:RU):Decidable (Zwj m):=by unfold Zwj;infer_instance
def ZwK (m:RU) (k:Int) (l:List UInt8):RU × Int:=
 if k=1 then (if (parseR l none).2≠0 then (m,(parseR l none).2) else ((parseR l none).1,0))
 else if k=2 then (Zxi m (Zl l),0)
 else if k=3 then (if Zwj m then m else { m with user:=encoded (Zl l) ZgZ },0)
 else if k=4 then (if Zwj m then m else { m with pass:=encoded (Zl l) ZgZ },0)
 else if k=5 then (if m.op=true then (m,0) else ZwV m (flat (Zl l)) true)
 else if k=6 then (if m.op=true then (m,0) else ZwV m (flat (Zl l)) false)
 else if k=7 then (if Zwj m then m else Zxj m (Zl l),0)
 else if k=8 then (if m.op=true then m else Zxk m (flat (Zl l)),0)
 else if k=9 then (ZwW m (Zl l),0)
 else if k=10 then (Zxx m (Zl l),0)
 else (m,0)
def Zwh (m:RU) (k:Int) (l:List UInt8) (ps:List (List UInt8 × List UInt8)):List (List UInt8 × List UInt8):=
 if k=1 then (if (parseR l none).2≠0 then ps else ZjY (parseR l none).1) else if k=9 then ZjY (ZwW m (Zl l)) else ps
structure Two (ub rb:Nat) (w w':World):Prop where
 os:w'.os=w.os
 tape:w'.tape=w.tape
 output:w'.output=w.output
 size:w.heap.size≤w'.heap.size
 block:∀ k,k < w.heap.size→k≠ub→k≠rb→w'.heap[k]?=w.heap[k]?
theorem Two.l {ub rb:Nat} {w w':World} (h:But ub w w'):Two ub rb w w':=⟨h.os,h.tape,h.output,h.size,fun k hk h1 _=>h.block k hk h1⟩
theorem Two.r {ub rb:Nat} {w w':World} (h:But rb w w'):Two ub rb w w':=⟨h.os,h.tape,h.output,h.size,fun k hk _ h1=>h.block k hk h1⟩
theorem Two.nx {ub rb:Nat} {w w':World} (h:Nx w w'):Two ub rb w w':=Two.l (But.nx h)
theorem Two.below {ub rb B:Nat} {a w:World} (h:Two ub rb a w) (h1:B≤ub) (h2:B≤rb) (h3:B≤a.heap.size):Below B a w:=⟨h.os,h.tape,h.output,h.size,fun k hk=>h.block k (by omega) (by omega) (by omega)⟩
def Zxy (e:Ending) (w w':World) (ub rb:Nat) (x:RU × Int) (ls:List (List UInt8 × List UInt8)):Prop:=
 e=.returned (.int .i64 x.2)∧(∃ qb R rs v ps,URB w' ub qb v∧RB w' qb R∧RIs w' R x.1 rs∧PlAt w' v ps∧ps.map tl2=ls∧(qb=rb∨w.heap.size≤qb))∧Two ub rb w w'
theorem Zwv (ub:Nat) (k:Int) (s:ByteArray) (w:World) (hs:s.size≤maxLen) (hl:160 < s.size):
  Calls Tryz.prog 72 #[.pointer (some ⟨ub,0,none⟩),.int .i64 k,.string s] w fun e w'=>e=.returned (.int .i64 1)∧Nx w w':=by
 go_enter Tryz.func72,Tryz.ntmps72
 go_wp2_with fail
 refine (ZfX s _ hs).mono ?_
 rintro e w' ⟨rfl,rfl⟩
 rw [decide_eq_true hl]
 go_wp2
 go_ret
 exact ⟨rfl,Nx.rfl⟩
theorem RIs.bare {w:World} {R:RR} {u:RU} {bs:List ByteArray} (h:RIs w R u bs):Zwj u↔(tl R.htx=[]∨tl R.sch=ZD):=by
 rw [← h.eq]
 exact Iff.rfl
theorem Zww {s:ByteArray} (h:¬ s.size=0):tl s≠[]:=fun g=>h (by rw [← tl_length,g];rfl)
set_option maxRecDepth 8000 in
set_option maxHeartbeats 8000000 in
theorem Zxs (ub rb:Nat) (v0:Value) (R:RR) (m:RU) (bs:List ByteArray) (ps:List Pq) (s:ByteArray) (w:World) (hu:URB w ub rb v0) (h:RB w rb R) (hr:RIs w R m bs) (hpl:PlAt w v0 ps) (hs:s.size≤160):
  Calls Tryz.prog 72 #[.pointer (some ⟨ub,0,none⟩),.int .i64 3,.string s] w fun e w'=>Zxy e w w' ub rb (ZwK m 3 (tl s)) (Zwh m 3 (tl s) (ps.map tl2)):=by
 have HU:=Za hu
 have HB:=Za h
 have HR:=Za hr
 have HPL:=Za hpl
 have HBA:=Za hr.bare
 have a0:=hu.cells.1
 clear hu h hr hpl
 go_enter Tryz.func72,Tryz.ntmps72
 go_wp2_with fail
 refine (ZfX s _ (by unfold maxLen;omega)).mono ?_
 rintro e w' ⟨rfl,rfl⟩
 rw [decide_eq_false (show ¬ 160 < s.size by omega)]
 go_wp2_with fail
 refine (ZaX s _ (by omega)).mono ?_
 rintro e w1 ⟨pv,rfl,h1,hn1⟩
 have HPV:=Za h1
 have HN1:=Za hn1
 have hlen:=ZaY (tl s)
 rw [tl_length] at hlen
 obtain ⟨c0,c1,c2,c3,c4,c5,c6,c7,c8,c9,c10,c11,c12⟩:=(HB.out.on hn1).cells
 clear h1 hn1 a0
 go_upto_region 6 with fail
 go_cut [10] from 11 (fun b wx=>∃ c:Bool,b=.bool c∧(c=true↔Zwj m)∧wx=w1)
 case first=>
  by_cases e1:R.htx.size=0
  ·have e1':=Zo e1
   have HC:=Za (HBA.out.2 (Or.inl (Zpl e1)))
   clear e1
   go_wp2_with fail
   go_meet
   case rel=>exact ⟨true,rfl,⟨fun _=>HC.out,fun _=>rfl⟩,rfl⟩
  ·have e1':=Zi e1
   by_cases e2:tl R.sch=ZD
   ·have e2':=eqB (s:=R.sch) (l:=[102,105,108,101]) e2
    have HC:=Za (HBA.out.2 (Or.inr e2))
    clear e1 e2
    go_wp2_with fail
    go_meet
    case rel=>exact ⟨true,rfl,⟨fun _=>HC.out,fun _=>rfl⟩,rfl⟩
   ·have e2':=neB (s:=R.sch) (l:=[102,105,108,101]) e2
    have HC:=Za (show ¬ Zwj m from fun g=>by
     rcases HBA.out.1 g with g | g
     ·exact Zww e1 g
     ·exact e2 g)
    clear e1 e2
    go_wp2_with fail
    go_meet
    case rel=>exact ⟨false,rfl,⟨fun g=>(by cases g),fun g=>absurd g HC.out⟩,rfl⟩
 case rest=>
  obtain ⟨c,rfl,hc,rfl⟩:=hcut
  clear HBA c0 c1 c2 c3 c4 c5 c6 c7 c8 c9 c10 c11 c12
  have HC:=Za hc
  clear hc
  have HE:=Za (show ZwK m 3 (tl s)=(if Zwj m then m else { m with user:=encoded (Zl (tl s)) ZgZ },0) from rfl)
  have HY:=Za (show Zwh m 3 (tl s) (ps.map tl2)=ps.map tl2 from rfl)
  cases c
  ·have HX:=Za (show ZwK m 3 (tl s)=({ m with user:=encoded (Zl (tl s)) ZgZ },0) by rw [HE.out,if_neg (fun g=>by cases HC.out.2 g)])
   clear HE HC
   go_wp2_with fail
   refine (ZV _ (Zl (tl s)) _ _ HPV.out (Zd (by decide)) (by omega) (Zee _)).mono ?_
   rintro e w2 ⟨t,rfl,ht,hn2⟩
   have HN:=Za (HN1.out.then hn2)
   have HT:=Za ht
   have HB2:=Za (HB.out.on (HN1.out.then hn2))
   have f1:=HB2.out.free 1
   obtain ⟨c0,c1,c2,c3,c4,c5,c6,c7,c8,c9,c10,c11,c12⟩:=HB2.out.cells
   clear ht hn2
   go_wp2
   go_ret
   rw [HX.out,HY.out]
   have hbt:But rb w2 (w2.setCell ⟨rb,1,none⟩ (.string t)):=(But.refl rb w2).set 1 _
   have hkp:=hbt.kp HB2.out
   exact ⟨rfl,⟨rb,{ R with user:=t },bs,v0,ps,(HU.out.on HN.out).but hbt ((HU.out.on HN.out).ne HB2.out),HB2.out.s1 t,{ (HR.out.on HN.out).kp hkp with eq:=by rw [← HR.out.eq,show encoded (Zl (tl s)) ZgZ=tl t from HT.out.symm];rfl },(HPL.out.on HN.out).kp hkp (by decide),rfl,Or.inl rfl⟩,Two.r ((But.nx HN.out).then hbt)⟩
  ·have HX:=Za (show ZwK m 3 (tl s)=(m,0) by rw [HE.out,if_pos (HC.out.1 rfl)])
   clear HE HC
   go_wp2
   go_ret
   rw [HX.out,HY.out]
   exact ⟨rfl,⟨rb,R,bs,v0,ps,HU.out.on HN1.out,HB.out.on HN1.out,HR.out.on HN1.out,HPL.out.on HN1.out,rfl,Or.inl rfl⟩,Two.nx HN1.out⟩
set_option maxRecDepth 8000 in
set_option maxHeartbeats 8000000 in
theorem Zxt (ub rb:Nat) (v0:Value) (R:RR) (m:RU) (bs:List ByteArray) (ps:List Pq) (s:ByteArray) (w:World) (hu:URB w ub rb v0) (h:RB w rb R) (hr:RIs w R m bs) (hpl:PlAt w v0 ps) (hs:s.size≤160):
  Calls Tryz.prog 72 #[.pointer (some ⟨ub,0,none⟩),.int .i64 4,.string s] w fun e w'=>Zxy e w w' ub rb (ZwK m 4 (tl s)) (Zwh m 4 (tl s) (ps.map tl2)):=by
 have HU:=Za hu
 have HB:=Za h
 have HR:=Za hr
 have HPL:=Za hpl
 have HBA:=Za hr.bare
 have a0:=hu.cells.1
 clear hu h hr hpl
 go_enter Tryz.func72,Tryz.ntmps72
 go_wp2_with fail
 refine (ZfX s _ (by unfold maxLen;omega)).mono ?_
 rintro e w' ⟨rfl,rfl⟩
 rw [decide_eq_false (show ¬ 160 < s.size by omega)]
 go_wp2_with fail
 refine (ZaX s _ (by omega)).mono ?_
 rintro e w1 ⟨pv,rfl,h1,hn1⟩
 have HPV:=Za h1
 have HN1:=Za hn1
 have hlen:=ZaY (tl s)
 rw [tl_length] at hlen
 obtain ⟨c0,c1,c2,c3,c4,c5,c6,c7,c8,c9,c10,c11,c12⟩:=(HB.out.on hn1).cells
 clear h1 hn1 a0
 go_upto_region 6 with fail
 go_cut [10] from 11 (fun b wx=>∃ c:Bool,b=.bool c∧(c=true↔Zwj m)∧wx=w1)
 case first=>
  by_cases e1:R.htx.size=0
  ·have e1':=Zo e1
   have HC:=Za (HBA.out.2 (Or.inl (Zpl e1)))
   clear e1
   go_wp2_with fail
   go_meet
   case rel=>exact ⟨true,rfl,⟨fun _=>HC.out,fun _=>rfl⟩,rfl⟩
  ·have e1':=Zi e1
   by_cases e2:tl R.sch=ZD
   ·have e2':=eqB (s:=R.sch) (l:=[102,105,108,101]) e2
    have HC:=Za (HBA.out.2 (Or.inr e2))
    clear e1 e2
    go_wp2_with fail
    go_meet
    case rel=>exact ⟨true,rfl,⟨fun _=>HC.out,fun _=>rfl⟩,rfl⟩
   ·have e2':=neB (s:=R.sch) (l:=[102,105,108,101]) e2
    have HC:=Za (show ¬ Zwj m from fun g=>by
     rcases HBA.out.1 g with g | g
     ·exact Zww e1 g
     ·exact e2 g)
    clear e1 e2
    go_wp2_with fail
    go_meet
    case rel=>exact ⟨false,rfl,⟨fun g=>(by cases g),fun g=>absurd g HC.out⟩,rfl⟩
 case rest=>
  obtain ⟨c,rfl,hc,rfl⟩:=hcut
  clear HBA c0 c1 c2 c3 c4 c5 c6 c7 c8 c9 c10 c11 c12
  have HC:=Za hc
  clear hc
  have HE:=Za (show ZwK m 4 (tl s)=(if Zwj m then m else { m with pass:=encoded (Zl (tl s)) ZgZ },0) from rfl)
  have HY:=Za (show Zwh m 4 (tl s) (ps.map tl2)=ps.map tl2 from rfl)
  cases c
  ·have HX:=Za (show ZwK m 4 (tl s)=({ m with pass:=encoded (Zl (tl s)) ZgZ },0) by rw [HE.out,if_neg (fun g=>by cases HC.out.2 g)])
   clear HE HC
   go_wp2_with fail
   refine (ZV _ (Zl (tl s)) _ _ HPV.out (Zd (by decide)) (by omega) (Zee _)).mono ?_
   rintro e w2 ⟨t,rfl,ht,hn2⟩
   have HN:=Za (HN1.out.then hn2)
   have HT:=Za ht
   have HB2:=Za (HB.out.on (HN1.out.then hn2))
   have f1:=HB2.out.free 2
   obtain ⟨c0,c1,c2,c3,c4,c5,c6,c7,c8,c9,c10,c11,c12⟩:=HB2.out.cells
   clear ht hn2
   go_wp2
   go_ret
   rw [HX.out,HY.out]
   have hbt:But rb w2 (w2.setCell ⟨rb,2,none⟩ (.string t)):=(But.refl rb w2).set 2 _
   have hkp:=hbt.kp HB2.out
   exact ⟨rfl,⟨rb,{ R with pass:=t },bs,v0,ps,(HU.out.on HN.out).but hbt ((HU.out.on HN.out).ne HB2.out),HB2.out.s2 t,{ (HR.out.on HN.out).kp hkp with eq:=by rw [← HR.out.eq,show encoded (Zl (tl s)) ZgZ=tl t from HT.out.symm];rfl },(HPL.out.on HN.out).kp hkp (by decide),rfl,Or.inl rfl⟩,Two.r ((But.nx HN.out).then hbt)⟩
  ·have HX:=Za (show ZwK m 4 (tl s)=(m,0) by rw [HE.out,if_pos (HC.out.1 rfl)])
   clear HE HC
   go_wp2
   go_ret
   rw [HX.out,HY.out]
   exact ⟨rfl,⟨rb,R,bs,v0,ps,HU.out.on HN1.out,HB.out.on HN1.out,HR.out.on HN1.out,HPL.out.on HN1.out,rfl,Or.inl rfl⟩,Two.nx HN1.out⟩
end Go.Proofs.YtchkhibgbnhjpaaGreatDoor
