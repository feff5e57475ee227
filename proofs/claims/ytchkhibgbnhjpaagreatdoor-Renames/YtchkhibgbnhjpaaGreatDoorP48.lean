import Derived.Test.YtchkhibgbnhjpaaGreatDoorP40
import Derived.Test.YtchkhibgbnhjpaaGreatDoorP47
open Bool renaming and_eq_true→Xa,not_eq_true'→Xb,not_eq_true→Xc,or_eq_true→Xe
open List renaming isEmpty_iff→Xd
namespace Go.Proofs.YtchkhibgbnhjpaaGreatDoor
open Go.RowKit
theorem ZyB:Sc 58:=⟨by decide,by decide,by decide⟩
theorem ZtB(s:LB):Zjd s (-1)=-1:=by unfold Zjd;split<;>rfl
theorem Zkg(u:U)(s:LB)(hsp:Zb u.sch=true→u.hh=true):Zx u s=true↔¬(Zb s≠Zb u.sch)∧¬(s=Zo∧(u.nam≠[]∨u.pw≠[]∨u.hp=true))∧¬(u.sch=Zo∧u.hh=true∧u.host=[]):=by
 unfold Zx Za2;rw[Xa,Xa,beq_iff_eq]
 have e1:(!(s==Zo&&((!(u.nam.isEmpty&&u.pw.isEmpty))||u.hp)))=true↔¬(s=Zo∧(u.nam≠[]∨u.pw≠[]∨u.hp=true)):=by
  rw[Xb,←Xc,Xa,beq_iff_eq,Xe,Xb,←Xc,Xa,Xd,Xd]
  constructor
  ·rintro h ⟨h1,h2⟩
   refine h ⟨h1,?_⟩
   rcases h2 with h2|h2|h2
   ·exact Or.inl (fun g=>h2 g.1)
   ·exact Or.inl (fun g=>h2 g.2)
   ·exact Or.inr h2
  ·rintro h ⟨h1,h2⟩
   refine h ⟨h1,?_⟩
   rcases h2 with h2|h2
   ·by_cases g:u.nam=[]
    ·exact Or.inr (Or.inl (fun g2=>h2 ⟨g,g2⟩))
    ·exact Or.inl g
   ·exact Or.inr (Or.inr h2)
 have e2:(u.sch != Zo || !u.host.isEmpty)=true↔¬(u.sch=Zo∧u.hh=true∧u.host=[]):=by
  rw[Xe,bne_iff_ne,Xb,←Xc,Xd]
  constructor
  ·rintro(h|h) ⟨h1,-,h2⟩
   ·exact h h1
   ·exact h h2
  ·intro h
   by_cases g:u.sch=Zo
   ·right
    intro g2
    exact h ⟨g,hsp (by rw[g];decide),g2⟩
   ·exact Or.inl g
 rw[e1,e2]
 constructor
 ·rintro⟨⟨a,b⟩,c⟩;exact⟨fun g=>g a.symm,b,c⟩
 ·rintro⟨a,b,c⟩;exact⟨⟨(Classical.not_not.1 a).symm,b⟩,c⟩
theorem Zn0{u:U}(h:Wk u)(l:LB):Zfb (toR u) (Zk l)=toR (Za7 u (clean l)):=by
 have hsc:∀c∈flat (Zk l)++[58],Sc c:=fun c hc=>by
  rcases List.mem_append.1 hc with hc|hc
  ·exact Zla (ZaR l) c hc
  ·rw[List.mem_singleton]at hc;subst hc;exact ZyB
 unfold Zfb Za7;rw[ZdN l,Zdz (ZaR l)]
 have e:Zc (flat (Zk l))++[58]=Zc (flat (Zk l)++[58]):=by rw[ZiA];rfl
 rw[e,ZhA _ (fun c hc=>(hsc c hc).pt)]
 generalize schemeOf (flat (Zk l)++[58])=sx;obtain⟨s,rest,ok⟩:=sx;simp only;rw[special_eq,special_eq];have hm:=Zkg u s h.sp;have epp:=Zps u;have eu:(toR u).user=u.nam∧(toR u).pass=u.pw∧(toR u).sch=u.sch∧(toR u).his=u.hh∧(toR u).htx=u.host:=⟨rfl,rfl,rfl,rfl,rfl⟩
 cases ok
 ·rw[if_pos (Or.inl rfl),if_pos (Or.inl rfl)]
 ·cases hmb:Zx u s
  ·rw[if_pos (show true=false∨false=false from Or.inr rfl)]
   have hn:¬(¬(Zb s≠Zb u.sch)∧¬(s=Zo∧(u.nam≠[]∨u.pw≠[]∨u.hp=true))∧¬(u.sch=Zo∧u.hh=true∧u.host=[])):=fun g=>by have:=hm.2 g;rw[hmb]at this;cases this
   by_cases c1:true=false∨Zb s≠Zb (toR u).sch
   ·rw[if_pos c1]
   ·rw[if_neg c1]
    by_cases c2:s=Zs∧((toR u).user≠[]∨(toR u).pass≠[]∨0≤(toR u).port)
    ·rw[if_pos c2]
    ·rw[if_neg c2]
     by_cases c3:(toR u).sch=Zs∧(toR u).his=true∧(toR u).htx=[]
     ·rw[if_pos c3]
     ·exfalso
      refine hn ⟨fun g=>c1 (Or.inr g),fun g=>c2 ⟨g.1,?_⟩,c3⟩
      rcases g.2 with g|g|g
      ·exact Or.inl g
      ·exact Or.inr (Or.inl g)
      ·exact Or.inr (Or.inr (epp.2 g))
  ·obtain⟨h1,h2,h3⟩:=hm.1 hmb
   have c1:¬(true=false∨Zb s≠Zb (toR u).sch):=by
    rintro(g|g)
    ·cases g
    ·exact h1 g
   have c2:¬(s=Zs∧((toR u).user≠[]∨(toR u).pass≠[]∨0≤(toR u).port)):=by
    rintro⟨g,g2⟩
    refine h2 ⟨g,?_⟩
    rcases g2 with g2|g2|g2
    ·exact Or.inl g2
    ·exact Or.inr (Or.inl g2)
    ·exact Or.inr (Or.inr (epp.1 g2))
   have c3:¬((toR u).sch=Zs∧(toR u).his=true∧(toR u).htx=[]):=h3
   rw[if_neg c1,if_neg c2,if_neg c3,if_neg (by rintro(g|g)<;>cases g)]
   cases hp:u.hp
   ·rw[if_neg (by decide)]
    have:(toR u).port=-1:=by unfold toR;simp[hp]
    rw[this,ZtB];unfold toR
    simp
   ·rw[if_pos rfl]
    have:(toR u).port=(u.port:Int):=by unfold toR;simp[hp]
    rw[this,ZsF s _ (by omega)]
    unfold Zal;simp only
    by_cases c4:(ZI s).2=true∧(u.port:Int)=(ZI s).1
    ·rw[if_pos c4,if_pos c4]
     unfold toR
     simp
    ·rw[if_neg c4,if_neg c4]
     unfold toR
     simp
theorem ZvF{u:U}(h:Wk u)(l:LB):Wk (Za7 u l):=by
 unfold Za7
 split
 ·exact h
 ·next hc=>
  generalize (ZW (noBreaks l++[58])).1=s at *
  have hm:Zx u s=true:=by
   cases g:Zx u s with
   | true=>rfl
   | false=>exact absurd (Or.inr g) hc
  have hsp:=((Zkg u s h.sp).1 hm).1;have hs:Zb s=Zb u.sch:=Classical.not_not.1 hsp
  have hw:Wk { u with sch:=s }:=⟨h.port,h.opq,h.zop,h.nq,h.pq,fun g=>h.sp (by rw[←hs];exact g),h.path,h.lq⟩
  split
  ·next hp=>exact ZtF hw (by have:=h.port hp;omega)
  ·exact hw
theorem ZxP{u:U}(h:Wk u)(l:LB):ZtG u l (Zk9 u 1 l) (Zjf (toR u) 2 l) (Za6 (toR u) 2 l (Za1 u.q)):=by
 refine Zkh (Zn0 h l) (ZvF h _) ?_
 show Za1 u.q=Za1 (Za7 u (clean l)).q
 congr 1
 unfold Za7
 split
 ·rfl
 ·split
  ·rw[Zv0]
  ·rfl
end Go.Proofs.YtchkhibgbnhjpaaGreatDoor
