import Derived.Test.YtchkhibgbnhjpabGreatDoorT06
open Array renaming getElem?_eq_some_iff→Xa,getElem?_modify→Xb
namespace Go.Proofs.YtchkhibgbnhjpabGreatDoor
open Go.RowKit
theorem URB.s1{w:World}{ub rb:Nat}{v:Value}(h:URB w ub rb v)(x:Value):URB (w.setCell ⟨ub,1,none⟩ x) ub rb x:=by
 unfold URB at *;simp only[World.setCell,Xb,if_pos,h]
 rfl
theorem URB.s0{w:World}{ub rb:Nat}{v:Value}(h:URB w ub rb v)(qb:Nat):URB (w.setCell ⟨ub,0,none⟩ (.pointer (some ⟨qb,0,none⟩))) ub qb v:=by
 unfold URB at *;simp only[World.setCell,Xb,if_pos,h]
 rfl
theorem URB.but{w w':World}{ub rb qb:Nat}{v:Value}(h:URB w ub rb v)(hb:But qb w w')(hn:ub≠qb):URB w' ub rb v:=(hb.block ub (Xa.1 h).1 hn).trans h
theorem URB.ne{w:World}{ub rb:Nat}{v:Value}{b:Nat}{R:RR}(h:URB w ub rb v)(h2:RB w b R):ub≠b:=by
 rintro rfl;unfold URB at h;unfold RB at h2;rw[h]at h2;simp only[Option.some.injEq,Obj.cells.injEq]at h2
 exact absurd h2.2.1 (by decide)
theorem PlAt.kp{w w':World}{v:Value}{ps:List Pq}{e:TypeId}(h:PlAt w v ps)(hb:Kp e w w')(he:113≠e):PlAt w' v ps:=by
 obtain⟨ao,cap,rfl,h1,h2,h3,h4⟩:=h
 refine⟨ao,cap,rfl,h1,h2,h3,fun a ha=>?_⟩
 obtain⟨b,off,rfl,cs,fz,hh,hc⟩:=h4 a ha;exact⟨b,off,rfl,cs,fz,hb b cs _ fz hh he,hc⟩
structure Two (ub rb:Nat) (w w':World):Prop where
 os:w'.os=w.os
 tape:w'.tape=w.tape
 output:w'.output=w.output
 size:w.heap.size≤w'.heap.size
 block:∀k,k<w.heap.size→k≠ub→k≠rb→w'.heap[k]?=w.heap[k]?
theorem Two.l{ub rb:Nat}{w w':World}(h:But ub w w'):Two ub rb w w':=⟨h.os,h.tape,h.output,h.size,fun k hk h1 _=>h.block k hk h1⟩
theorem Two.r{ub rb:Nat}{w w':World}(h:But rb w w'):Two ub rb w w':=⟨h.os,h.tape,h.output,h.size,fun k hk _ h1=>h.block k hk h1⟩
theorem Two.nx{ub rb:Nat}{w w':World}(h:Nx w w'):Two ub rb w w':=Two.l (But.nx h)
theorem Two.then{ub rb:Nat}{a b c:World}(h:Two ub rb a b)(k:Two ub rb b c):Two ub rb a c:=
 ⟨k.os.trans h.os,k.tape.trans h.tape,k.output.trans h.output,Nat.le_trans h.size k.size,fun i hi h1 h2=>(k.block i (Nat.lt_of_lt_of_le hi h.size) h1 h2).trans (h.block i hi h1 h2)⟩
theorem Two.below{ub rb B:Nat}{a w:World}(h:Two ub rb a w)(h1:B≤ub)(h2:B≤rb)(h3:B≤a.heap.size):Below B a w:=⟨h.os,h.tape,h.output,h.size,fun k hk=>h.block k (by omega) (by omega) (by omega)⟩
theorem RIs.bare{w:World}{R:RR}{u:RU}{bs:LA}(h:RIs w R u bs):ZsD u↔(tl R.htx=[]∨tl R.sch=Zfe):=by rw[←h.eq];exact Iff.rfl
theorem HostC.on{w w':World}{hb:Nat}{is:Bool}{t:BA}(h:HostC w hb is t)(hn:Nx w w'):HostC w' hb is t:=(hn.block hb (Xa.1 h).1).trans h
theorem HostC.but{w w':World}{hb rb:Nat}{is:Bool}{t:BA}(h:HostC w hb is t)(hn:But rb w w')(hne:hb≠rb):HostC w' hb is t:=(hn.block hb (Xa.1 h).1 hne).trans h
end Go.Proofs.YtchkhibgbnhjpabGreatDoor
