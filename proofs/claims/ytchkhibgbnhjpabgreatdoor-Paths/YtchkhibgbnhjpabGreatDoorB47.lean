import Derived.Test.YtchkhibgbnhjpabGreatDoorB40
import Derived.Test.YtchkhibgbnhjpabGreatDoorB45
namespace Go.Proofs.YtchkhibgbnhjpabGreatDoor
open Go.RowKit
theorem Zi6(sp:Bool)(p:LI)(hp:∀c∈p,Pt c):ZbC sp (Zb p)=Zb (if(p.takeWhile (slP sp)).length=0 then p else p.drop 1):=by
 cases p with
 | nil=>rfl
 | cons c r=>
  rw[List.takeWhile_cons,bytesOf_cons]
  rcases Z7 (hp c (by simp))with⟨h0,h1,e⟩|⟨h0,e1,e⟩
  ·rw[e,List.singleton_append]
   have:=(ZjH sp).lo c h0 h1
   cases hs:slP sp c
   ·rw[hs]at this
    show(if slB sp (toB c)=true then Zb r else toB c::Zb r)=_
    rw[this]
    simp[bytesOf_cons,e]
   ·rw[hs]at this
    show(if slB sp (toB c)=true then Zb r else toB c::Zb r)=_
    rw[this]
    simp
  ·rw[(ZjH sp).up c h0]
   cases hx:(utf c).map toB with
   | nil=>exact absurd hx e1
   | cons b q=>
    have hb:=(ZjH sp).hi b (e b (by rw[hx];simp))
    show(if slB sp b=true then q++Zb r else b::(q++Zb r))=_
    rw[hb]
    simp[bytesOf_cons,hx]
theorem Ztu(u:U)(l:LB):(if(toR u).op=true then toR u else Ze7 (toR u) (flat (Zj l)))=toR (ZbD u (clean l)):=by
 unfold ZbD;have eo:(toR u).op=u.op:=rfl;rw[eo]
 by_cases ho:u.op=true
 ·rw[if_pos ho,if_pos ho]
 ·rw[if_neg ho,if_neg ho,ZdG l,Zdr (ZaX l)]
  have hsc:=ZnU (ZaX l);generalize flat (Zj l)=p at *
  have hpt:∀c∈p,Pt c:=fun c hc=>(hsc c hc).pt
  unfold Ze7;have es:(toR u).sch=u.sch:=rfl;have eh:(toR u).his=u.hh:=rfl;rw[es,eh,special_eq,ZkD u.sch p hpt,Zal _ p hpt,Zi6 _ p hpt];have hE:=Zr hpt
  by_cases h1:(p.takeWhile (slP (Zc u.sch))).length=0
  ·rw[if_pos h1,if_neg (by rw[decide_eq_true_iff];omega)]
   by_cases h2:p=[]
   ·subst h2
    by_cases h3:Zc u.sch=true
    ·rw[if_pos (Or.inl h3),if_neg (by rintro⟨-,g,-⟩;rw[h3]at g;cases g),Zau _ _ hsc]
     rfl
    ·have h3':Zc u.sch=false:=by simpa using h3
     have c1:¬(Zc u.sch=true∨([]:LI)≠[]):=by rintro(g|g);exact h3 g;exact g rfl
     rw[if_neg c1]
     cases hh:u.hh
     ·rw[if_neg (by decide),if_neg (by rintro⟨-,-,g⟩;cases g)]
      have:Zbe (Zb []) u.sch=[[]]:=by
       rw[←Zau _ [] (fun c hc=>by cases hc)]
       unfold walked;rw[ZeL]
       show Zd0 u.sch [] [[]]=[[]]
       rw[Zd0,Zd0];unfold Zat;rw[show encoded ([]:LI) ZcS=[]from rfl]
       rw[if_pos (by decide),if_neg (by rintro⟨g,-⟩;cases g)]
       rfl
      rw[this]
      rfl
     ·rw[if_pos rfl,if_pos ⟨rfl,h3',rfl⟩]
      rfl
   ·rw[if_pos (Or.inr h2),if_neg (by rintro⟨g,-⟩;exact h2 (hE.1 g)),Zau _ _ hsc]
    rfl
  ·have hp0:p≠[]:=fun e=>h1 (by rw[e];rfl)
   rw[if_neg h1,if_pos (decide_eq_true (by omega)),if_neg (by rintro⟨g,-⟩;exact hp0 (hE.1 g)),Zau _ _ (fun c hc=>hsc c (List.mem_of_mem_drop hc))]
   rfl
theorem Zmp(sp:Bool)(l:LB):(ZbC sp l).length≤l.length:=by
 unfold ZbC
 split
 ·exact Nat.le_refl _
 ·split
  ·simp
  ·exact Nat.le_refl _
theorem ZwV{u:U}(h:Wk u)(l:LB)(hl:l.length≤480):Wk (ZbD u l):=by
 unfold ZbD
 split
 ·exact h
 ·next ho=>
  have ho':u.op=false:=by simpa using ho
  split
  ·refine⟨h.port,fun g=>absurd g ho,h.zop,h.nq,h.pq,h.sp,?_,h.lq⟩
   unfold ZaY;simp only;rw[if_neg ho];exact Nat.zero_le _
  ·refine⟨h.port,fun g=>absurd g ho,h.zop,h.nq,h.pq,h.sp,?_,h.lq⟩
   unfold ZaY;simp only;rw[if_neg ho];have h1:=Zet (ZbC (Zc u.sch) (noBreaks l)) u.sch;have h2:=Zmp (Zc u.sch) (noBreaks l);have h3:=ZaP l;unfold pl at h1
   omega
theorem Zxv{u:U}(h:Wk u)(l:LB)(hl:l.length≤160):ZvL u l (ZnS u 7 l) (Zmm (toR u) 8 l) (ZbS (toR u) 8 l (Zba u.q)):=by
 refine Zg2 (Ztu u l) (ZwV h _ (Zmr hl)) ?_
 show Zba u.q=Zba (ZbD u (clean l)).q
 congr 1
 unfold ZbD
 split
 ·rfl
 ·split<;>rfl
end Go.Proofs.YtchkhibgbnhjpabGreatDoor
