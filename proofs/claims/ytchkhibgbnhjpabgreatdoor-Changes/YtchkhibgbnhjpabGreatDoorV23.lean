import Derived.Test.YtchkhibgbnhjpabGreatDoorV22
open Array renaming getElem?_eq_some_iff→Xa
namespace Go.Proofs.YtchkhibgbnhjpabGreatDoor
open Go.RowKit
def URB(w:World)(ub rb:Nat)(v:Value):Prop:=w.heap[ub]?=some (Obj.cells #[.pointer (some ⟨rb,0,none⟩),v] 88 (0,0))
theorem URB.on{w w':World}{ub rb:Nat}{v:Value}(h:URB w ub rb v)(hb:Nx w w'):URB w' ub rb v:=(hb.block ub (Xa.1 h).1).trans h
theorem URB.lt{w:World}{ub rb:Nat}{v:Value}(h:URB w ub rb v):ub<w.heap.size:=(Xa.1 h).1
theorem URB.cells{w:World}{ub rb:Nat}{v:Value}(h:URB w ub rb v):w.cell? ⟨ub,0,none⟩=some (.pointer (some ⟨rb,0,none⟩))∧w.cell? ⟨ub,1,none⟩=some v:=by
 unfold URB at h
 constructor<;>simp[World.cell?,h]
theorem URB.free{w:World}{ub rb:Nat}{v:Value}(h:URB w ub rb v)(i:Nat):w.frozen? ⟨ub,i,none⟩=false:=by
 unfold URB at h
 simp[World.frozen?,h]
abbrev OwnP(w:World)(base:Nat)(v:Value)(ps:List Pq):Prop:=w.ownsRow base 113 2 v ps.length (cellsP ps)
theorem Zhi(a b:List Pq):cellsP (a++b)=cellsP a++cellsP b:=by simp[cellsP]
theorem Zjg{w:World}{b off:Nat}{x y:Value}(h0:w.cell? ⟨b,off,none⟩=some x)(h1:w.cell? ⟨b,off+1,none⟩=some y):∀(j:Nat) (u:Value),[x,y][j]?=some u→w.cell? ((⟨b,off,none⟩:Addr).add j)=some u:=by
 intro j u hu;rw[Addr.add_lit]
 match j,hu with
 | 0,hu=>simp at hu;subst hu;exact h0
 | 1,hu=>simp at hu;subst hu;exact h1
theorem ZqT{ops:Array Oper}{rest:List Oper}{o:Oper}{a:Act}{Q:Exit→Act→World→Prop}(w:World)(p:Pq)
  (hgd:o.guard=none) (s x:Operand) (ho:o.op=.call { callee:=.builtin .append,args:=#[s,x],argTypes:=#[68,68] })
  (base:Nat) (v:Value) (ps:List Pq) (hs:a.eval s=v) (hown:OwnP w base v ps) (ab ao c:Nat) (hx:a.eval x=.slice (some ⟨ab,ao,none⟩) 1 c)
  (h0:w.cell? ⟨ab,ao,none⟩=some (.string p.1)) (h1:w.cell? ⟨ab,ao+1,none⟩=some (.string p.2))
  (hn:ps.length<1000000000000) (hbase:base≤w.heap.size)
  (h:∀v' w',OwnP w' base v' (ps++[p])→Below base w w'→Kp 113 w w'→wpList Tryz.prog ops Q rest (a.put o.dst v') w'):wpList Tryz.prog ops Q (o::rest) a w:=by
 obtain⟨i,hi,hz0,hz1,hz2⟩:=info_parts Zhx
 refine wpList_append_own w hgd s x 68 ho base 113 i _ 2 32 Tryz.underlying68 hi hz0 hz1 hz2 rfl (by decide) v ps.length _ hs hown ⟨ab,ao,none⟩ 1 c [.string p.1,.string p.2] hx rfl (Zjg h0 h1) (by simp[Value.oneCell']) (by unfold maxLen;omega) (by omega) hbase ?_
 intro v' w' q1 q2 _
 refine h v' w' ?_ ((Below.refl base w).grown q2 hbase (fun k hk=>(hown.lt k hk).1)) (Zhp hown q2)
 unfold OwnP;rw[List.length_append,Zhi];exact q1
theorem ZcI{ops:Array Oper}{rest:List Oper}{o:Oper}{a:Act}{Q:Exit→Act→World→Prop}(w:World)(p:Pq)
  (hgd:o.guard=none) (s x:Operand) (ho:o.op=.call { callee:=.builtin .append,args:=#[s,x],argTypes:=#[68,68] })
  (base:Nat) (v:Value) (ps:List Pq) (hs:a.eval s=v) (hown:OwnP w base v ps) (hx:a.eval x=.slice (some ⟨w.heap.size,0,none⟩) 1 1)
  (hn:ps.length<1000000000000) (hbase:base≤w.heap.size)
  (h:∀v' w',OwnP w' base v' (ps++[p])→Below base w w'→Kp 113 w w'→wpList Tryz.prog ops Q rest (a.put o.dst v') w'):
  wpList Tryz.prog ops Q (o::rest) a (w.alloc (.cells #[.string p.1,.string p.2] 113)):=
 ZqT _ p hgd s x ho base v ps hs (World.ownsRow.alloc hown _) w.heap.size 0 1 hx (by simp) (by simp) hn (by simp;omega)
  fun v' w' h1 h2 h3=>h v' w' h1 (((Below.refl base w).alloc hbase _).trans h2) ((Kp.rfl.alloc _).then h3)
theorem Zb4{w:World}{base:Nat}{v:Value}{ps:List Pq}(h:OwnP w base v ps):∃ao cp,v=.slice ao ps.length cp:=by
 obtain⟨-,⟨rfl,h3⟩|⟨g,cap,cur,rfl,-⟩⟩:=h
 ·exact⟨none,0,by rw[h3]⟩
 ·exact⟨_,_,rfl⟩
theorem OwnP.at{w:World}{base:Nat}{v:Value}{ps:List Pq}(h:OwnP w base v ps):PlAt w v ps:=by
 obtain⟨-,⟨rfl,h3⟩|⟨g,cap,cur,rfl,hb,hg,hnc,hcm,hcs,ht⟩⟩:=h
 ·have:ps=[]:=List.eq_nil_of_length_eq_zero h3
  subst this;exact PlAt.nil w
 ·refine⟨_,cap,rfl,hnc,hcm,nofun,fun a ha=>⟨g,0,(Option.some.inj ha).symm,cur,_,hg,fun i hi=>?_⟩⟩
  have h1:=ZcD ps i hi
  rw[←ht,List.getElem?_take,List.getElem?_take,if_pos (by omega),if_pos (by omega)]at h1
  rw[Nat.zero_add]
  simpa using h1
theorem PartsAt.kp{w w':World}{v:Value}{ps:List LI}{e:TypeId}(h:PartsAt w v ps)(hb:Kp e w w')(h1:124≠e)(h2:3≠e):PartsAt w' v ps:=by obtain⟨vs,q1,q2⟩:=h;exact⟨vs,q1.kp hb h1,q2.kp hb h2⟩
end Go.Proofs.YtchkhibgbnhjpabGreatDoor
