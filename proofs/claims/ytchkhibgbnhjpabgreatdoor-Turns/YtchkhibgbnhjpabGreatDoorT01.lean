import Derived.Test.YtchkhibgbnhjpabGreatDoorV22
import Derived.Test.YtchkhibgbnhjpabGreatDoorT00
open Array renaming getElem?_eq_some_iff→Xa
namespace Go.Proofs.YtchkhibgbnhjpabGreatDoor
open Go.RowKit
theorem RB.s12{w:World}{b:Nat}{R:RR}(h:RB w b R)(x:BA):RB (w.setCell ⟨b,12,none⟩ (.string x)) b { R with fr:=x }:=by
 unfold RB at *;simp only[World.setCell,Array.getElem?_modify,if_pos,h]
 rfl
def URB(w:World)(ub rb:Nat)(v:Value):Prop:=w.heap[ub]?=some (Obj.cells #[.pointer (some ⟨rb,0,none⟩),v] 88 (0,0))
theorem URB.on{w w':World}{ub rb:Nat}{v:Value}(h:URB w ub rb v)(hb:Nx w w'):URB w' ub rb v:=(hb.block ub (Xa.1 h).1).trans h
theorem URB.lt{w:World}{ub rb:Nat}{v:Value}(h:URB w ub rb v):ub<w.heap.size:=(Xa.1 h).1
theorem URB.cells{w:World}{ub rb:Nat}{v:Value}(h:URB w ub rb v):w.cell? ⟨ub,0,none⟩=some (.pointer (some ⟨rb,0,none⟩))∧w.cell? ⟨ub,1,none⟩=some v:=by
 unfold URB at h
 constructor<;>simp[World.cell?,h]
theorem URB.free{w:World}{ub rb:Nat}{v:Value}(h:URB w ub rb v)(i:Nat):w.frozen? ⟨ub,i,none⟩=false:=by
 unfold URB at h
 simp[World.frozen?,h]
abbrev OwnP(w:World)(base:Nat)(v:Value)(ps:List Pq):Prop:=w.ownsRow base 113 2 v ps.length (cellsP ps)
theorem Zys(a b:List Pq):cellsP (a++b)=cellsP a++cellsP b:=by simp[cellsP]
theorem Zzl{w:World}{b off:Nat}{x y:Value}(h0:w.cell? ⟨b,off,none⟩=some x)(h1:w.cell? ⟨b,off+1,none⟩=some y):∀(j:Nat) (u:Value),[x,y][j]?=some u→w.cell? ((⟨b,off,none⟩:Addr).add j)=some u:=by
 intro j u hu;rw[Addr.add_lit]
 match j,hu with
 | 0,hu=>simp at hu;subst hu;exact h0
 | 1,hu=>simp at hu;subst hu;exact h1
theorem ZvO{w:World}{base:Nat}{v:Value}{ps:List Pq}(h:OwnP w base v ps):∃ao cp,v=.slice ao ps.length cp:=by
 obtain⟨-,⟨rfl,h3⟩|⟨g,cap,cur,rfl,-⟩⟩:=h
 ·exact⟨none,0,by rw[h3]⟩
 ·exact⟨_,_,rfl⟩
theorem OwnP.at{w:World}{base:Nat}{v:Value}{ps:List Pq}(h:OwnP w base v ps):PlAt w v ps:=by
 obtain⟨-,⟨rfl,h3⟩|⟨g,cap,cur,rfl,hb,hg,hnc,hcm,hcs,ht⟩⟩:=h
 ·have:ps=[]:=List.eq_nil_of_length_eq_zero h3
  subst this;exact PlAt.nil w
 ·refine⟨_,cap,rfl,hnc,hcm,nofun,fun a ha=>⟨g,0,(Option.some.inj ha).symm,cur,_,hg,fun i hi=>?_⟩⟩
  have h1:=ZcD ps i hi
  rw[←ht,List.getElem?_take,List.getElem?_take,if_pos (by omega),if_pos (by omega)]at h1
  rw[Nat.zero_add]
  simpa using h1
theorem PartsAt.kp{w w':World}{v:Value}{ps:List LI}{e:TypeId}(h:PartsAt w v ps)(hb:Kp e w w')(h1:124≠e)(h2:3≠e):PartsAt w' v ps:=by obtain⟨vs,q1,q2⟩:=h;exact⟨vs,q1.kp hb h1,q2.kp hb h2⟩
end Go.Proofs.YtchkhibgbnhjpabGreatDoor
