import Derived.Test.YtchkhibgbnhjpabGreatDoorV11
open List renaming getD_eq_getElem?_getD→Xa,drop_of_length_le→Xb,getElem?_eq_getElem→Xc,dropWhile_cons→Xd,any_eq_false→Xe,length_take→Xf,not_mem_nil→Xg,length_cons→Xh,drop_eq_getElem_cons→Xi,map_cons→Xj,append_eq_nil_iff→Xk,mem_cons→Xl,reverse_cons→Xn,length_drop→Xo,singleton_append→Xq,mem_singleton→Xs,cons_append→Xt,any_eq_true→Xu,mem_flatMap→Xv,nil_append→Xx,drop_zero→Xy,mem_map→Xz,reverse_singleton→XA,reverse_reverse→XB,mem_of_mem_take→XC,mem_of_mem_drop→XD,reverse_append→XE,map_congr_left→XF,append_assoc→XG,flatMap_cons→XH,length_set→XI,take_left'→XJ,mem_append→XK,take_zero→XL,all_cons→XM
open Nat renaming mod_eq_of_lt→Xp,le_refl→Xr,sub_self→XN
open UInt8 renaming toNat_ofNat'→Xm,toNat_inj→Xw
namespace Go.Proofs.YtchkhibgbnhjpabGreatDoor
open Go.RowKit
structure Asc (p:UInt8→Bool) (P:Int→Bool):Prop where
 lo:∀c:Int,0≤c→c<128→p (toB c)=P c
 hi:∀b:UInt8,128≤b.toNat→p b=false
 up:∀c:Int,128≤c→P c=false
theorem Zel{c:Int}(h:Pt c):(0≤c∧c<128∧(utf c).map toB=[toB c])∨(128≤c∧(utf c).map toB≠[]∧∀b∈(utf c).map toB,128≤b.toNat):=by
 by_cases hc:c<128
 ·exact Or.inl ⟨h.1,hc,by rw[Zs6 hc];rfl⟩
 ·refine Or.inr ⟨by omega,?_,?_⟩
  ·unfold utf
   rw[if_neg hc]
   split
   ·simp
   ·split<;>simp
  ·intro b hb
   obtain⟨x,hx,rfl⟩:=Xz.1 hb
   have h1:=ZkV (by omega) h.2 hx
   have h2:=Zbx (n:=x) (by omega) h1.2
   omega
theorem bytesOf_cons(c:Int)(l:LI):Zn (c::l)=(utf c).map toB++Zn l:=by simp[Zn]
section
variable {p:UInt8→Bool} {P:Int→Bool} (h:Asc p P)
include h
theorem Asc.filter(l:List Int)(hl:∀c∈l,Pt c):(Zn l).filter (fun b=>!p b)=Zn (l.filter fun c=>!P c):=by
 induction l with
 | nil=>rfl
 | cons c r ih=>
  rw[bytesOf_cons,List.filter_append,ih (fun x hx=>hl x (by simp[hx]))]
  rcases Zel (hl c (by simp))with⟨h0,h1,e⟩|⟨h0,-,e⟩
  ·rw[e]
   have hp:=h.lo c h0 h1
   cases hc:P c
   ·rw[hc]at hp
    simp[List.filter,hp,hc,bytesOf_cons,e]
   ·rw[hc]at hp
    simp[List.filter,hp,hc]
  ·have hc:=h.up c h0
   have:((utf c).map toB).filter (fun b=>!p b)=(utf c).map toB:=List.filter_eq_self.2 fun b hb=>by rw[h.hi b (e b hb)];rfl
   rw[this]
   simp[List.filter,hc,bytesOf_cons]
theorem Asc.dropWhile(l:List Int)(hl:∀c∈l,Pt c):(Zn l).dropWhile p=Zn (l.dropWhile P):=by
 induction l with
 | nil=>rfl
 | cons c r ih=>
  rcases Zel (hl c (by simp))with⟨h0,h1,e⟩|⟨h0,e1,e⟩
  ·have hp:=h.lo c h0 h1
   rw[bytesOf_cons,e,Xq,Xd,Xd,hp]
   split
   ·exact ih (fun x hx=>hl x (by simp[hx]))
   ·rw[bytesOf_cons,e];rfl
  ·have hc:=h.up c h0
   rw[Xd,if_neg (by rw[hc];decide),bytesOf_cons]
   cases hx:(utf c).map toB with
   | nil=>exact absurd hx e1
   | cons b q=>
    have hb:=h.hi b (e b (by rw[hx];simp))
    rw[Xt,Xd,if_neg (by rw[hb];decide)]
theorem Asc.dropEnd'(r:List Int)(hl:∀c∈r,Pt c):((Zn r.reverse).reverse.dropWhile p).reverse=Zn (r.dropWhile P).reverse:=by
 induction r with
 | nil=>rfl
 | cons c r ih=>
  have ih':=ih (fun x hx=>hl x (by simp[hx]))
  rw[Xn,Xd,bytesOf_snoc,XE]
  rcases Zel (hl c (by simp))with⟨h0,h1,e⟩|⟨h0,e1,e⟩
  ·have hp:=h.lo c h0 h1
   rw[e,XA,Xq,Xd,hp]
   split
   ·exact ih'
   ·rw[Xn,XB,Xn,bytesOf_snoc,e]
  ·have hc:=h.up c h0
   rw[if_neg (by rw[hc];decide),Xn,bytesOf_snoc]
   rcases List.eq_nil_or_concat ((utf c).map toB)with hx|⟨q,b,hx⟩
   ·exact absurd hx e1
   ·have hb:=h.hi b (e b (by rw[hx];simp))
    rw[hx,List.concat_eq_append,XE,XA,Xq,Xt,Xd,if_neg (by rw[hb];decide)]
    simp
theorem Asc.dropEnd(l:List Int)(hl:∀c∈l,Pt c):((Zn l).reverse.dropWhile p).reverse=Zn (l.reverse.dropWhile P).reverse:=by
 have h1:=Asc.dropEnd' h l.reverse (fun c hc=>hl c (List.mem_reverse.1 hc))
 rw[XB]at h1;exact h1
theorem Asc.all(l:List Int)(hl:∀c∈l,Pt c):(Zn l).all p=l.all P:=by
 induction l with
 | nil=>rfl
 | cons c r ih=>
  rw[bytesOf_cons,List.all_append,XM,ih (fun x hx=>hl x (by simp[hx]))]
  rcases Zel (hl c (by simp))with⟨h0,h1,e⟩|⟨h0,e1,e⟩
  ·rw[e];simp[h.lo c h0 h1]
  ·rw[h.up c h0]
   cases hx:(utf c).map toB with
   | nil=>exact absurd hx e1
   | cons b q=>rw[XM,h.hi b (e b (by rw[hx];simp))];rfl
theorem Asc.any(l:List Int)(hl:∀c∈l,Pt c):(Zn l).any p=l.any P:=by
 induction l with
 | nil=>rfl
 | cons c r ih=>
  rw[bytesOf_cons,List.any_append,List.any_cons,ih (fun x hx=>hl x (by simp[hx]))]
  rcases Zel (hl c (by simp))with⟨h0,h1,e⟩|⟨h0,e1,e⟩
  ·rw[e];simp[h.lo c h0 h1]
  ·rw[h.up c h0]
   have:((utf c).map toB).any p=false:=Xe.2 fun b hb=>by rw[h.hi b (e b hb)];decide
   rw[this]
end
def Zfd(gs:List (List UInt8)):List UInt8:=gs.flatMap fun g=>[58]++g
def Zgw:List (List UInt8)→List UInt8
 | []=>[]
 | g::r=>g++Zfd r
abbrev hx(x:Int):List UInt8:=ZdR x.toNat
theorem ZcG(g:LB)(r:List LB):Zfd (g::r)=[58]++g++Zfd r:=by simp[Zfd]
theorem Zr8(ns:LI)(hl:ns.length=8)(st ln:Nat):∀f i,st+ln≤i→st<i→8≤i+f→ZfN ns st ln f i=if i=st+ln then Zgw ((ns.drop i).map hx)else Zfd ((ns.drop i).map hx):=by
 intro f
 induction f with
 | zero=>
  intro i h1 h2 h3
  rw[ZfN,Xb (by omega)]
  split<;>rfl
 | succ f ih=>
  intro i h1 h2 h3;rw[ZfN]
  by_cases h8:8≤i
  ·rw[if_pos h8,Xb (by omega)]
   split<;>rfl
  ·have hi:i<ns.length:=by omega
   have ihh:=ih (i+1) (by omega) (by omega) (by omega)
   rw[if_neg (by omega:¬i+1=st+ln)]at ihh
   rw[if_neg h8,if_neg (by omega),ihh,Xi hi,Xj,Xa,Xc hi]
   by_cases he:i=st+ln
   ·rw[if_neg (fun h=>h.2 he),if_pos he];rfl
   ·rw[if_pos ⟨by omega,he⟩,if_neg he,ZcG];rfl
theorem Zp1(ns:LI)(hl:ns.length=8)(st ln:Nat)(hst:st<8)(hln:1≤ln):∀f i,i≤st→8≤i+f →
  ZfN ns st ln f i=(if i=0 then Zgw (((ns.take st).drop i).map hx)else Zfd (((ns.take st).drop i).map hx))++([58,58]++Zgw ((ns.drop (st+ln)).map hx)):=by
 intro f
 induction f with
 | zero=>intro i h1 h2;omega
 | succ f ih=>
  intro i h1 h2
  rw[ZfN,if_neg (by omega)]
  by_cases he:i=st
  ·have hb:=Zr8 ns hl st ln f (i+ln) (by omega) (by omega) (by omega)
   rw[if_pos (by omega:i+ln=st+ln)]at hb
   rw[if_pos he,hb,Xb (by rw[Xf];omega:(ns.take st).length≤i)]
   subst he
   split<;>rfl
  ·have hi:i<(ns.take st).length:=by rw[Xf];omega
   have ihh:=ih (i+1) (by omega) (by omega)
   rw[if_neg (by omega:¬i+1=0)]at ihh
   rw[if_neg he,ihh,Xi hi,Xj,List.getElem_take,Xa,Xc (by omega:i<ns.length)]
   by_cases h0:i=0
   ·subst h0
    rw[if_neg (by omega),if_pos rfl,Zgw]
    simp
   ·rw[if_pos ⟨by omega,by omega⟩,if_neg h0,ZcG]
    simp
theorem Ztc(ns:LI)(hl:ns.length=8)(st ln:Nat)(hst:8≤st):∀f i,8≤i+f →
  ZfN ns st ln f i=if i=0 then Zgw ((ns.drop i).map hx)else Zfd ((ns.drop i).map hx):=by
 intro f
 induction f with
 | zero=>
  intro i h2
  rw[ZfN,Xb (by omega)]
  split<;>rfl
 | succ f ih=>
  intro i h2;rw[ZfN]
  by_cases h8:8≤i
  ·rw[if_pos h8,Xb (by omega)]
   split<;>rfl
  ·have hi:i<ns.length:=by omega
   have ihh:=ih (i+1) (by omega)
   rw[if_neg (by omega:¬i+1=0)]at ihh
   rw[if_neg h8,if_neg (by omega),ihh,Xi hi,Xj,Xa,Xc hi]
   by_cases he:i=0
   ·rw[if_neg (by omega),if_pos he];rfl
   ·rw[if_pos ⟨by omega,by omega⟩,if_neg he,ZcG];rfl
def Ztd(ns:List Int)(st ln:Nat):Prop:=(st=8∧ln=1)∨(st+ln≤8∧1≤ln∧∀k,st≤k→k<st+ln→ns.getD k 0=0)
theorem Zt1(ns:LI)(hl:ns.length=8):∀(rest:LI) i st ln run,rest=ns.drop i→run≤i→i≤8→1≤ln→(∀k,i-run≤k→k<i→ns.getD k 0=0)→((st=8∧ln=1)∨(st+ln≤8∧∀k,st≤k→k<st+ln→ns.getD k 0=0))→Ztd ns (ZhE i st ln run rest).1 (ZhE i st ln run rest).2:=by
 intro rest
 induction rest with
 | nil=>
  intro i st ln run h1 h2 h3 h4 h5 h6;rw[ZhE];rcases h6 with h|⟨h,k⟩
  ·exact Or.inl h
  ·exact Or.inr ⟨h,h4,k⟩
 | cons x r ih=>
  intro i st ln run h1 h2 h3 h4 h5 h6
  have hi:i<ns.length:=by
   rcases Nat.lt_or_ge i ns.length with h|h
   ·exact h
   ·rw[Xb h]at h1;cases h1
  rw[Xi hi]at h1;obtain⟨hx0,hr⟩:=List.cons.inj h1
  have hrun:∀k,i+1-(if x=0 then run+1 else 0)≤k→k<i+1→ns.getD k 0=0:=by
   intro k k1 k2
   split at k1
   ·next hz=>
    by_cases hk:k=i
    ·subst hk;rw[Xa,Xc hi,←hx0];exact hz
    ·exact h5 k (by omega) (by omega)
   ·omega
  have hrl:(if x=0 then run+1 else 0)≤i+1:=by split<;>omega
  rw[ZhE]
  generalize (if x=0 then run+1 else 0)=run' at *
  split
  ·refine ih (i+1) _ _ _ hr hrl (by omega) (by omega) hrun (Or.inr ⟨by omega,fun k k1 k2=>hrun k k1 (by omega)⟩)
  ·exact ih (i+1) _ _ _ hr hrl (by omega) h4 hrun h6
theorem Zl6(ns:LI)(hl:ns.length=8):Ztd ns (Zaz ns).1 (Zaz ns).2:=
 Zt1 ns hl ns 0 8 1 0 rfl (Xr _) (by omega) (Xr _) (fun k _ h=>absurd h (Nat.not_lt_zero _)) (Or.inl ⟨rfl,rfl⟩)
def NG:List UInt8→Prop
 | []=>True
 | c::r=>(c=58→∃d q,r=d::q∧d≠58)∧NG r
theorem Zk6:∀(l:LB),NG l→cutGap l=([],[],false)
 | [],_=>rfl
 | [_],_=>rfl
 | c::d::r,h=>by
  rw[cutGap,if_neg,Zk6 (d::r) h.2,if_neg (by decide)]
  rintro⟨h1,h2⟩;obtain⟨e,q,he,hne⟩:=h.1 h1
  cases he
  exact hne h2
theorem Zrp:∀(a r:LB),NG a→cutGap (a++([58,58]++r))=(a,r,true)
 | [],r,_=>by simp[cutGap]
 | [c],r,h=>by
  have hc:¬c=58:=fun e=>by obtain⟨d,q,hq,-⟩:=h.1 e;cases hq
  show cutGap (c::58::58::r)=_
  rw[cutGap,if_neg (fun e=>hc e.1)]
  simp[cutGap]
 | c::d::a,r,h=>by
  have ih:=Zrp (d::a) r h.2
  show cutGap (c::d::(a++([58,58]++r)))=_
  rw[cutGap,if_neg]
  ·rw[show d::(a++([58,58]++r))=(d::a)++([58,58]++r)from rfl,ih]
   simp
  ·rintro⟨h1,h2⟩
   obtain⟨e,q,he,hne⟩:=h.1 h1
   cases he
   exact hne h2
def Zr9(g:List UInt8):Prop:=g≠[]∧∀b∈g,b≠58
theorem Zrq{g l:LB}(h:∀b∈g,b≠58)(hl:NG l):NG (g++l):=by
 induction g with
 | nil=>exact hl
 | cons c r ih=>exact⟨fun e=>absurd e (h c (by simp)),ih (fun b hb=>h b (by simp[hb]))⟩
theorem Zsa{gs:List LB}(h:∀g∈gs,Zr9 g):NG (Zfd gs):=by
 induction gs with
 | nil=>exact True.intro
 | cons g r ih=>
  rw[ZcG,XG]
  show NG (58::(g++Zfd r))
  obtain⟨hn,hb⟩:=h g (by simp)
  refine⟨fun _=>?_,Zrq (g:=g) hb (ih fun q hq=>h q (by simp[hq]))⟩
  cases g with
  | nil=>exact absurd rfl hn
  | cons d q=>exact⟨d,q++Zfd r,rfl,hb d (by simp)⟩
theorem ZnY{gs:List LB}(h:∀g∈gs,Zr9 g):NG (Zgw gs):=by
 cases gs with
 | nil=>exact True.intro
 | cons g r=>exact Zrq (h g (by simp)).2 (Zsa fun q hq=>h q (by simp[hq]))
theorem Zrr{b:UInt8}:isB 58 b=true↔b=58:=by
 unfold isB;rw[beq_iff_eq]
 constructor
 ·intro h
  have h2:b.toNat=(58:UInt8).toNat:=by show b.toNat=58;omega
  exact Xw.1 h2
 ·intro h;subst h;rfl
theorem ZcH(g l:LB)(n:Int)(h:∀b∈g,isB n b=false):bsplit n (g++l)=match bsplit n l with | []=>[g]|p::q=>(g++p)::q:=by
 induction g with
 | nil=>
  obtain⟨p,q,hpq⟩:=Zb7 n l;rw[Xx,hpq]
  rfl
 | cons c r ih=>
  rw[Xt,bsplit,if_neg (by rw[h c (by simp)];decide),ih (fun b hb=>h b (by simp[hb]))]
  obtain⟨p,q,hpq⟩:=Zb7 n l;rw[hpq]
  rfl
theorem Zl7{gs:List LB}(h:∀g∈gs,Zr9 g):bsplit 58 (Zfd gs)=[]::gs:=by
 induction gs with
 | nil=>rfl
 | cons g r ih=>
  have hb:∀b∈g,isB 58 b=false:=fun b hb=>by
   cases hh:isB 58 b
   ·rfl
   ·exact absurd (Zrr.1 hh) ((h g (by simp)).2 b hb)
  rw[ZcG,XG]
  show bsplit 58 (58::(g++Zfd r))=_
  rw[bsplit,if_pos (by decide),ZcH g _ 58 hb,ih (fun q hq=>h q (by simp[hq]))]
  simp
theorem Zl8{g:LB}{r:List LB}(h:∀q∈g::r,Zr9 q):bsplit 58 (Zgw (g::r))=g::r:=by
 have hb:∀b∈g,isB 58 b=false:=fun b hb=>by
  cases hh:isB 58 b
  ·rfl
  ·exact absurd (Zrr.1 hh) ((h g (by simp)).2 b hb)
 rw[Zgw,ZcH g _ 58 hb,Zl7 (fun q hq=>h q (by simp[hq]))]
 simp
theorem Zk7{d:Nat}(h:d≤15):ZL ((Zcs d).toNat:Int) 16=((d:Int),true)∧Zcs d≠58∧Zcs d≠46:=by
 match d,h with
 | 0,_=>decide
 | 1,_=>decide
 | 2,_=>decide
 | 3,_=>decide
 | 4,_=>decide
 | 5,_=>decide
 | 6,_=>decide
 | 7,_=>decide
 | 8,_=>decide
 | 9,_=>decide
 | 10,_=>decide
 | 11,_=>decide
 | 12,_=>decide
 | 13,_=>decide
 | 14,_=>decide
 | 15,_=>decide
theorem Zp2(n:Nat):(ZdR n).length≤4:=by unfold ZdR;(repeat' split)<;>simp
theorem hexD_ne(n:Nat):ZdR n≠[]:=by unfold ZdR;(repeat' split)<;>simp
theorem Zk8{n:Nat}(h:n≤65535):∀b∈ZdR n,b≠58∧b≠46:=by
 intro b hb
 have key:∀d,d≤15→b=Zcs d→b≠58∧b≠46:=fun d hd e=>by subst e;exact(Zk7 hd).2
 unfold ZdR at hb
 (repeat' split at hb)<;>simp only[Xl,Xg,or_false]at hb
 ·exact key _ (by omega) hb
 ·rcases hb with hb|hb<;>exact key _ (by omega) hb
 ·rcases hb with hb|hb|hb<;>exact key _ (by omega) hb
 ·rcases hb with hb|hb|hb|hb<;>exact key _ (by omega) hb
theorem Zbd(n d:Nat)(hd:d≤15)(hn:n≤65535)(r:LB):Z3 16 65535 (n:Int) (Zcs d::r)=Z3 16 65535 ((n*16+d:Nat):Int) r:=by
 rw[Z3,(Zk7 hd).1,if_pos rfl,if_pos (by omega)]
 simp
theorem Zp3{n:Nat}(h:n≤65535):Zv (ZdR n) 16 65535=((n:Int),true):=by
 unfold Zv;rw[if_neg (hexD_ne n)]
 have key:Z3 16 65535 0 (ZdR n)=some (n:Int):=by
  show Z3 16 65535 ((0:Nat):Int) (ZdR n)=_
  unfold ZdR
  split
  ·rw[Zbd 0 n (by omega) (by omega),Z3];simp
  split
  ·rw[Zbd 0 _ (by omega) (by omega),Zbd _ _ (by omega) (by omega),Z3];congr 1;omega
  split
  ·rw[Zbd 0 _ (by omega) (by omega),Zbd _ _ (by omega) (by omega),Zbd _ _ (by omega) (by omega),Z3];congr 1;omega
  ·rw[Zbd 0 _ (by omega) (by omega),Zbd _ _ (by omega) (by omega),Zbd _ _ (by omega) (by omega),Zbd _ _ (by omega) (by omega),Z3];congr 1;omega
 rw[key]
 show(if(65535:Int)<n then _ else _)=_
 rw[if_neg (by omega)]
theorem Zrs{x:Int}(h:0≤x∧x≤65535):Zr9 (hx x):=⟨hexD_ne _,fun b hb=>(Zk8 (by omega) b hb).1⟩
theorem Zte{x:Int}(h:0≤x∧x≤65535)(g:LI×Nat):Zbi g (hx x)=Zfj g x:=by
 have:=Zp3 (n:=x.toNat) (by omega)
 unfold Zbi;rw[this,if_neg]
 ·congr 1;show((x.toNat:Nat):Int)=x;omega
 ·rintro(e|e)
  ·cases e
  ·have:(hx x).length≤4:=Zp2 x.toNat
   omega
theorem Zp4{l:LB}(h:∀b∈l,b≠46):Zx 46 l=false:=by
 cases hh:Zx 46 l
 ·rfl
 ·exfalso
  unfold Zx at hh;obtain⟨b,hb,he⟩:=Xu.1 hh
  refine h b hb (Xw.1 ?_)
  have:=of_decide_eq_true (p:=(b.toNat:Int)=46) (by simpa using he)
  show b.toNat=46
  omega
theorem Zfn:∀(xs zs:LI) (n:Nat),n+xs.length≤zs.length→putGo zs n xs=zs.take n++xs++zs.drop (n+xs.length):=by
 intro xs
 induction xs with
 | nil=>intro zs n h;rw[putGo];simp
 | cons x r ih=>
  intro zs n h;simp only[Xh]at h
  rw[putGo,ih (zs.set n x) (n+1) (by rw[XI];omega)]
  rw[List.take_set,List.drop_set,if_pos (by omega),List.take_succ_eq_append_getElem (by omega)]
  have:(zs.take n++[zs[n]]).set n x=zs.take n++[x]:=by
   rw[List.set_append_right _ _ (by rw[Xf];omega)]
   rw[Xf,Nat.min_eq_left (by omega),XN]
   rfl
  rw[this,Xh,show n+1+r.length=n+(r.length+1)by omega]
  simp
theorem Zp5(en:Bool):∀(xs zs:LI) (n:Nat),GOk xs→n+xs.length≤8→grpGo en (zs,n) (xs.map hx)=some (putGo zs n xs,n+xs.length):=by
 intro xs
 induction xs with
 | nil=>intro zs n _ _;rfl
 | cons x r ih=>
  intro zs n h hl;simp only[Xh]at hl
  have hx0:=h x (by simp)
  have ha:Zbi (zs,n) (hx x)=((zs.set n x,n+1),true):=by rw[Zte hx0];unfold Zfj;rw[if_pos (by show n<8;omega)]
  rw[Xj,grpGo,Zp4 (fun b hb=>(Zk8 (by omega) b hb).2),if_neg (by rintro⟨-,-,e⟩;cases e),ha,if_pos rfl,ih _ _ (fun y hy=>h y (by simp[hy])) (by omega),putGo,Xh]
  congr 2;omega
theorem ZeA(en:Bool)(xs:LI)(h:GOk xs)(hl:xs.length≤8):ZB (Zgw (xs.map hx)) en=((putGo zeros8 0 xs,xs.length),true):=by
 cases xs with
 | nil=>rfl
 | cons x r=>
  have hg:∀q∈(x::r).map hx,Zr9 q:=fun q hq=>by
   obtain⟨y,hy,rfl⟩:=Xz.1 hq;exact Zrs (h y hy)
  have hs:=Zl8 (g:=hx x) (r:=r.map hx) hg
  have hgo:=Zp5 en (x::r) zeros8 0 h (by simpa using hl)
  unfold ZB;rw[if_neg,Xj,hs]
  ·rw[show zeroG=(zeros8,0)from rfl,←Xj,hgo]
   simp
  ·rw[Xj,Zgw]
   intro e;exact hexD_ne _ (Xk.1 e).1
theorem Zp6{a b:LI}{n:Nat}(h:∀k,k<n→(a.getD k 0)=0)(hl:a.length=n)(hb:b=List.replicate n 0):a=b:=by
 subst hb
 refine List.ext_getElem (by simp[hl]) fun i h1 h2=>?_
 have:=h i (by omega)
 rw[Xa,Xc h1]at this
 simpa using this
theorem Zp7{ns:LI}(hl:ns.length=8)(h:GOk ns):ip6 (Zfb ns)=(ns,true):=by
 have hok:=Zl6 ns hl;unfold Zfb;generalize (Zaz ns).1=st at *;generalize (Zaz ns).2=ln at *
 have hgr:∀xs:LI,GOk xs→∀q∈xs.map hx,Zr9 q:=fun xs hxs q hq=>by
  obtain⟨y,hy,rfl⟩:=Xz.1 hq;exact Zrs (hxs y hy)
 by_cases h8:8≤st
 ·have ht:=Ztc ns hl st ln h8 8 0 (by omega)
  rw[if_pos rfl,Xy]at ht;rw[ht];unfold ip6;rw[Zk6 _ (ZnY (hgr ns h)),if_pos rfl];unfold ZfL
  rw[ZeA true ns h (by omega),if_neg (by rintro(e|e);cases e;exact e hl),Zfn ns zeros8 0 (by rw[hl];decide),hl]
  simp[zeros8]
 ·rcases hok with⟨e,-⟩|⟨h1,h2,h3⟩
  ·omega
  ·have ht:=Zp1 ns hl st ln (by omega) h2 8 0 (by omega) (by omega)
   rw[if_pos rfl,Xy]at ht;rw[ht]
   have ga:GOk (ns.take st):=fun x hx=>h x (XC hx)
   have gb:GOk (ns.drop (st+ln)):=fun x hx=>h x (XD hx)
   have la:(ns.take st).length=st:=by rw[Xf];omega
   have lb:(ns.drop (st+ln)).length=8-(st+ln):=by rw[Xo];omega
   unfold ip6
   rw[Zrp _ _ (ZnY (hgr _ ga)),if_neg (by intro e;cases e)]
   simp only
   rw[ZeA false _ ga (by omega),ZeA true _ gb (by omega)]
   simp only
   rw[la,lb,if_neg (by rintro(e|e|e);cases e;cases e;omega),Zfn (ns.drop (st+ln)) zeros8 0 (by rw[lb];show 0+_≤8;omega)]
   have hz:zeros8.length=8:=rfl;rw[XL,Xx,XJ lb]
   rw[Zfn (ns.take st) zeros8 0 (by rw[la,hz];omega),XL,Xx,la]
   rw[show 8-(8-(st+ln))=st+ln by omega]
   have l3:(ns.take st++zeros8.drop (0+st)).length=8:=by rw[List.length_append,la,Xo,hz];omega
   rw[Zfn _ _ _ (by rw[lb,l3];omega),lb,show st+ln+(8-(st+ln))=8 by omega,Xb (Nat.le_of_eq l3),List.append_nil]
   refine Prod.ext ?_ rfl
   show List.take (st+ln) (ns.take st++zeros8.drop (0+st))++ns.drop (st+ln)=ns
   conv=>rhs;rw[←List.take_append_drop (st+ln) ns]
   congr 1
   rw[List.take_append,List.take_of_length_le (by omega:(ns.take st).length≤st+ln),la,show st+ln-st=ln by omega]
   have hsplit:ns.take (st+ln)=ns.take st++(ns.drop st).take ln:=by rw[List.take_add]
   rw[hsplit]
   congr 1
   have hrep:zeros8.drop (0+st)=List.replicate (8-st) 0:=by
    show(List.replicate 8 (0:Int)).drop (0+st)=_
    rw[List.drop_replicate];congr 1;omega
   symm
   refine Zp6 (n:=ln) (fun k hk=>?_) (by rw[Xf,Xo];omega) ?_
   ·have:=h3 (st+k) (by omega) (by omega)
    rw[Xa]at this ⊢;rw[List.getElem?_take,if_pos hk,List.getElem?_drop];exact this
   ·rw[hrep,List.take_replicate];congr 1;omega
def Pr(l:List UInt8):Prop:=∀b∈l,32≤b.toNat∧b.toNat≤126
theorem pr_nil:Pr []:=fun b hb=>by cases hb
theorem Zar{a b:LB}(ha:Pr a)(hb:Pr b):Pr (a++b):=fun x hx=>(XK.1 hx).elim (ha x) (hb x)
theorem ZaX{c:UInt8}(h1:32≤c.toNat)(h2:c.toNat≤126):Pr [c]:=fun b hb=>by rw[Xs]at hb;subst hb;exact⟨h1,h2⟩
theorem ZcR{c:UInt8}{l:LB}(h1:32≤c.toNat)(h2:c.toNat≤126)(h:Pr l):Pr (c::l):=Zar (a:=[c]) (ZaX h1 h2) h
theorem ZhL{n:Nat}(h1:32≤n)(h2:n≤126):32≤(UInt8.ofNat n).toNat∧(UInt8.ofNat n).toNat≤126:=by rw[Xm,Xp (by omega)];exact⟨h1,h2⟩
theorem Zrt{n:Int}(h1:32≤n)(h2:n≤126):32≤(toB n).toNat∧(toB n).toNat≤126:=ZhL (by omega) (by omega)
theorem Zg2{n:Int}(h0:0≤n)(h1:n<16):32≤capital n∧capital n≤126:=by unfold capital;split<;>omega
theorem Zg3(set:LB)(b:UInt8):Pr (ZN set b):=by
 have hb:=b.toNat_lt;unfold ZN
 split
 ·have h1:=Zg2 (n:=(b.toNat:Int)/16) (by omega) (by omega)
  have h2:=Zg2 (n:=(b.toNat:Int)%16) (by omega) (by omega)
  have k1:=Zrt h1.1 h1.2;have k2:=Zrt h2.1 h2.2
  exact ZcR (by decide) (by decide) (ZcR k1.1 k1.2 (ZaX k2.1 k2.2))
 ·next h=>
  refine ZaX ?_ ?_
  ·have:¬(b.toNat:Int)<32:=fun hh=>h (Or.inl hh)
   omega
  ·have:¬126<(b.toNat:Int):=fun hh=>h (Or.inr (Or.inl hh))
   omega
theorem ZcS(set l:LB):Pr (encB set l):=by intro b hb;unfold encB at hb;obtain⟨c,-,hc⟩:=Xv.1 hb;exact Zg3 set c b hc
theorem Zsb{d:Nat}(h:d≤9):48≤(Zea d).toNat∧(Zea d).toNat≤57:=by unfold Zea;rw[Xm,Xp (by omega)];omega
def Dg(l:List UInt8):Prop:=∀b∈l,48≤b.toNat∧b.toNat≤57
theorem Dg.pr{l:LB}(h:Dg l):Pr l:=fun b hb=>by have:=h b hb;omega
theorem Zcw{n:Nat}(h:n≤99999):Dg (Za8 n):=by
 intro b hb
 have key:∀d,d≤9→b=Zea d→48≤b.toNat∧b.toNat≤57:=fun d hd e=>by subst e;exact Zsb hd
 unfold Za8 at hb
 (repeat' split at hb)<;>simp only[Xl,Xg,or_false]at hb
 ·exact key _ (by omega) hb
 ·rcases hb with hb|hb<;>exact key _ (by omega) hb
 ·rcases hb with hb|hb|hb<;>exact key _ (by omega) hb
 ·rcases hb with hb|hb|hb|hb<;>exact key _ (by omega) hb
 ·rcases hb with hb|hb|hb|hb|hb<;>exact key _ (by omega) hb
theorem Zsc(v:Nat):∀k,Pr (ZjS v k):=by
 intro k
 induction k with
 | zero=>exact pr_nil
 | succ k ih=>
  rw[ZjS]
  have:v/256^k%256<256:=Nat.mod_lt _ (by decide)
  refine Zar (Zcw (by omega)).pr ?_
  split
  ·exact Zar (ZaX (by decide) (by decide)) ih
  ·exact ih
theorem Zsd{d:Nat}(h:d≤15):32≤(Zcs d).toNat∧(Zcs d).toNat≤126:=by
 unfold Zcs
 split
 ·exact ZhL (by omega) (by omega)
 ·exact ZhL (by omega) (by omega)
theorem Zse{n:Nat}(h:n≤65535):Pr (ZdR n):=by
 intro b hb
 have key:∀d,d≤15→b=Zcs d→32≤b.toNat∧b.toNat≤126:=fun d hd e=>by subst e;exact Zsd hd
 unfold ZdR at hb
 (repeat' split at hb)<;>simp only[Xl,Xg,or_false]at hb
 ·exact key _ (by omega) hb
 ·rcases hb with hb|hb<;>exact key _ (by omega) hb
 ·rcases hb with hb|hb|hb<;>exact key _ (by omega) hb
 ·rcases hb with hb|hb|hb|hb<;>exact key _ (by omega) hb
theorem Zt2{ns:LI}(h:GOk ns)(st ln:Nat):∀f i,Pr (ZfN ns st ln f i):=by
 intro f
 induction f with
 | zero=>intro i;exact pr_nil
 | succ f ih=>
  intro i;rw[ZfN]
  split
  ·exact pr_nil
  split
  ·exact Zar (ZcR (by decide) (by decide) (ZaX (by decide) (by decide))) (ih _)
  ·refine Zar (Zar ?_ (Zse ?_)) (ih _)
   ·split
    ·exact ZaX (by decide) (by decide)
    ·exact pr_nil
   ·by_cases hi:i<ns.length
    ·have:=h ns[i] (List.getElem_mem hi)
     rw[Xa,Xc hi];simp only[Option.getD_some]
     omega
    ·rw[Xa,List.getElem?_eq_none (by omega)]
     simp
theorem Zj1{l:LB}(h1:beyondB l=false)(h2:plainDom l=true):Pr l:=by
 intro b hb;unfold beyondB at h1;unfold plainDom at h2
 have h3:(l.any Zig)=false:=by
  cases h:l.any Zig
  ·rfl
  ·rw[h]at h2;simp at h2
 have k1:=Xe.1 h1 b hb;have k2:=Xe.1 h3 b hb;unfold Zig at k2;simp only[Bool.or_eq_true,decide_eq_true_eq,beq_iff_eq,not_or]at k1 k2
 omega
theorem Zk9(l:LB)(sp:Bool):Pr (ZI l sp).1:=by
 unfold ZI
 split
 ·unfold Zak
  split
  ·exact pr_nil
  split
  ·refine Zar (Zar (ZaX (by decide) (by decide)) ?_) (ZaX (by decide) (by decide))
   exact Zt2 (Zk1 _) _ _ _ _
  ·exact pr_nil
 split
 ·unfold ZaA
  split
  ·exact pr_nil
  next hb=>
   split
   ·exact pr_nil
   next hp=>
    unfold Zc2
    split
    ·refine Zj1 ?_ ?_
     ·cases h:beyondB (Zae (Zr l))
      ·rfl
      ·rw[h]at hb;simp at hb
     ·cases h:plainDom (Zae (Zr l))
      ·exact absurd h hp
      ·rfl
    split
    ·exact Zsc _ _
    ·exact pr_nil
 ·unfold Zbk
  split
  ·exact pr_nil
  ·exact ZcS _ _
theorem decD_ne(n:Nat):Za8 n≠[]:=by unfold Za8;(repeat' split)<;>simp
theorem ZnZ(want:Int):∀l lo hi sz,sz≤Z7 want lo hi sz l:=by
 intro l
 induction l with
 | nil=>intro lo hi sz;rw[Z7];exact Xr _
 | cons c r ih=>
  intro lo hi sz;rw[Z7]
  split
  ·exact Nat.le_trans (Nat.le_succ _) (ih _ _ _)
  ·exact Xr _
theorem ZhM{l:LB}(h:l≠[]):clean l≠[]:=by
 cases l with
 | nil=>exact absurd rfl h
 | cons c r=>
  conv=>lhs;unfold clean
  intro e;have e1:=(Xk.1 e).1
  split at e1
  ·have h1:1≤(measure (c::r)).1:=by show 1≤Z7 _ _ _ 1 r;exact ZnZ _ _ _ _ _
   have:=congrArg List.length e1;rw[Xf]at this;simp only[Xh,List.length_nil]at this
   omega
  ·cases e1
theorem Zn0{set l:LB}(h:l≠[]):encB set l≠[]:=by
 cases l with
 | nil=>exact absurd rfl h
 | cons c r=>
  unfold encB;rw[XH];intro e;have e1:=(Xk.1 e).1;unfold ZN at e1
  split at e1<;>cases e1
theorem Zp8{l:LB}{sp:Bool}(h:l≠[])(h0:(ZI l sp).2=0):(ZI l sp).1≠[]:=by
 unfold ZI at h0 ⊢
 split
 ·next hb=>
  rw[if_pos hb]at h0;unfold Zak at h0 ⊢
  split
  ·next hc=>rw[if_pos hc]at h0;cases h0
  split
  ·simp
  ·next hc hd=>rw[if_neg hc,if_neg hd]at h0;cases h0
 next hb=>
  rw[if_neg hb]at h0
  split
  ·next hs=>
   rw[if_pos hs]at h0;unfold ZaA at h0 ⊢
   split
   ·next hc=>rw[if_pos hc]at h0;cases h0
   next hc=>
    rw[if_neg hc]at h0
    split
    ·next hd=>rw[if_pos hd]at h0;cases h0
    next hd=>
     rw[if_neg hd]at h0;unfold Zc2 at h0 ⊢
     split
     ·intro e
      have e':Zae (Zr l)=[]:=e;rw[e']at hd
      exact hd (by decide)
     split
     ·show Zct _≠[]
      unfold Zct;rw[ZjS];intro e;exact decD_ne _ (Xk.1 e).1
     ·next h1 h2=>rw[if_neg h1,if_neg h2]at h0;cases h0
  ·next hs=>
   rw[if_neg hs]at h0;unfold Zbk at h0 ⊢
   split
   ·next hc=>rw[if_pos hc]at h0;cases h0
   ·exact Zn0 (ZhM h)
theorem Zcc:∀ {l:LB},(∀b∈l,b.toNat<128)→clean l=l:=by
 intro l
 induction l with
 | nil=>intro _;exact clean_nil
 | cons c r ih=>
  intro h
  have hf:follow (c.toNat:Int)=(1,0,0):=if_pos (by have:=h c (by simp);omega)
  have hg:∀q:LB,Z7 1 0 0 1 q=1:=fun q=>by
   cases q with
   | nil=>rfl
   | cons a b=>rw[Z7,if_neg (by rintro⟨e,-⟩;exact absurd e (by decide))]
  have hm:measure (c::r)=(1,true):=by
   rw[measure,hf];simp only;rw[hg]
   rfl
  rw[Zb1,hm];simp only[if_true,XN,Xy]
  rw[ih (fun b hb=>h b (by simp[hb]))]
  rfl
def Asis(set l:List UInt8):Prop:=∀b∈l,32≤b.toNat∧b.toNat≤126∧Zx (b.toNat:Int) set=false
theorem Zn1{set l:LB}(h:Asis set l):encB set l=l:=by
 induction l with
 | nil=>rfl
 | cons c r ih=>
  have hc:=h c (by simp)
  unfold encB at ih ⊢
  rw[XH,ih (fun b hb=>h b (by simp[hb]))]
  unfold ZN;rw[if_neg]
  ·rfl
  ·rintro(e|e|e)
   ·omega
   ·omega
   ·rw[hc.2.2]at e;cases e
theorem Asis.clean{set l:LB}(h:Asis set l):encB set (Go.Proofs.YtchkhibgbnhjpabGreatDoor.clean l)=l:=by rw[Zcc (fun b hb=>by have:=h b hb;omega),Zn1 h]
def Zgx(set:List UInt8):Prop:=∀n:Nat,n=37∨(48≤n∧n≤57)∨(65≤n∧n≤70)→Zx (n:Int) set=false
theorem Zao{n:Int}(h0:0≤n)(h1:n<16):(48≤(toB (capital n)).toNat∧(toB (capital n)).toNat≤57)∨(65≤(toB (capital n)).toNat∧(toB (capital n)).toNat≤70):=by
 unfold capital toB
 split
 ·left;rw[Xm,Xp (by omega)];omega
 ·right;rw[Xm,Xp (by omega)];omega
theorem ZbL{set:LB}(hs:Zgx set)(l:LB):Asis set (encB set l):=by
 intro b hb;obtain⟨c,-,hc⟩:=Xv.1 hb;have hp:=Zg3 set c b hc
 refine⟨hp.1,hp.2,?_⟩
 have hcl:=c.toNat_lt;unfold ZN at hc
 split at hc
 ·simp only[Xl,Xg,or_false]at hc
  rcases hc with rfl|rfl|rfl
  ·exact hs 37 (Or.inl rfl)
  ·exact hs _ (Or.inr (Zao (by omega) (by omega)))
  ·exact hs _ (Or.inr (Zao (by omega) (by omega)))
 ·next hn=>
  rw[Xs]at hc;subst hc
  cases ha:Zx (b.toNat:Int) set
  ·rfl
  ·exact absurd (Or.inr (Or.inr ha)) hn
theorem ZdI{set:LB}(h:∀b∈set,¬(b.toNat=37∨(48≤b.toNat∧b.toNat≤57)∨(65≤b.toNat∧b.toNat≤70))):Zgx set:=by
 intro n hn
 cases ha:Zx (n:Int) set
 ·rfl
 ·exfalso
  unfold Zx at ha;obtain⟨b,hb,he⟩:=Xu.1 ha
  have:b.toNat=n:=by have:=of_decide_eq_true (p:=(b.toNat:Int)=n) (by simpa using he);omega
  exact h b hb (by rw[this];exact hn)
theorem Ztf:Zgx (tl (ZaN 0)):=ZdI (by decide)
theorem Ztg:Zgx (tl (ZaN 1)):=ZdI (by decide)
theorem Zth:Zgx (tl (ZaN 2)):=ZdI (by decide)
theorem Zti:Zgx (tl (ZaN 3)):=ZdI (by decide)
theorem Ztj:Zgx (tl (ZaN 4)):=ZdI (by decide)
theorem Zla:Zgx (tl (ZaN 5)):=ZdI (by decide)
theorem Zsf{set:LB}(hs:Zgx set)(l:LB):encB set (clean (encB set l))=encB set l:=(ZbL hs l).clean
theorem Zg4:∀ {l:LB},(∀b∈l,b≠37)→Zr l=l:=by
 intro l
 induction l with
 | nil=>intro _;exact Zb6
 | cons c r ih=>
  intro h
  have hc:(Zbw (c::r)).2=false:=by
   unfold Zbw
   split
   ·next e=>
    cases e
    rw[if_neg (fun e=>h c (by simp) e.1)]
   ·rfl
  rw[Zbh,hc,if_neg (by decide),ih (fun b hb=>h b (by simp[hb]))]
theorem Zp9(b:UInt8):Zik (Zik b)=Zik b:=by
 by_cases h:65≤b.toNat∧b.toNat≤90
 ·have:=ZkN h.1 h.2
  exact Zc9 (by omega)
 ·rw[Zc9 h,Zc9 h]
theorem Zn2(l:LB):Zae (Zae l)=Zae l:=by
 unfold Zae;rw[List.map_map]
 exact XF fun b _=>Zp9 b
theorem Zlb{l:LB}(h:∀b∈l,¬(65≤b.toNat∧b.toNat≤90)):Zae l=l:=by
 unfold Zae
 conv=>rhs;rw[←List.map_id l]
 exact XF fun b hb=>Zc9 (h b hb)
theorem Ze1{l:LB}(h:plainDom l=true):∀b∈l,Zig b=false:=by
 intro b hb;unfold plainDom at h;rw[Bool.and_eq_true]at h
 have h3:(l.any Zig)=false:=by
  cases hh:l.any Zig
  ·rfl
  ·rw[hh]at h;exact absurd h.1 (by decide)
 have:=Xe.1 h3 b hb
 simpa using this
theorem ZiL{b:UInt8}(h:Zig b=false):b≠37∧b≠91:=by
 constructor
 ·rintro rfl;exact absurd h (by decide)
 ·rintro rfl;exact absurd h (by decide)
theorem ZfV{l:LB}(h:∀b∈l,b≠91):¬((l.getD 0 0).toNat:Int)=91:=by
 cases l with
 | nil=>decide
 | cons c r=>
  intro e
  refine h c (by simp) (Xw.1 ?_)
  have e':(c.toNat:Int)=91:=e
  show c.toNat=91
  omega
theorem Zl9{l:LB}(h0:(ZaA l).2=0)(he:ZbP (ZdQ (bsplit 46 (Zae (Zr l))))=false):ZI (ZaA l).1 true=((ZaA l).1,0):=by
 unfold ZaA at h0 ⊢
 split at h0
 ·cases h0
 next h1=>
  split at h0
  ·cases h0
  next h2=>
   rw[if_neg h1,if_neg h2];have hd:Zc2 (Zae (Zr l)) (ZdQ (bsplit 46 (Zae (Zr l))))=(Zae (Zr l),0):=if_pos he;rw[hd]
   have hp:plainDom (Zae (Zr l))=true:=by simpa using h2
   have hb:=Ze1 hp
   have hx:Zae (Zr (Zae (Zr l)))=Zae (Zr l):=by rw[Zg4 (fun b hb'=>(ZiL (hb b hb')).1),Zn2]
   show ZI (Zae (Zr l)) true=_
   unfold ZI
   rw[if_neg (ZfV fun b hb'=>(ZiL (hb b hb')).2),if_pos rfl]
   unfold ZaA;rw[hx,if_neg h1,if_neg h2,hd]
theorem ZfW:∀(n:Nat) (l:LB),l.length≤n→∀b∈clean l,b∈l∨128≤b.toNat:=by
 intro n
 induction n with
 | zero=>
  intro l hl b hb
  have:l=[]:=List.length_eq_zero_iff.1 (by omega)
  subst this;rw[clean_nil]at hb
  cases hb
 | succ n ih=>
  intro l hl b hb
  cases l with
  | nil=>rw[clean_nil]at hb;cases hb
  | cons c r=>
   rw[Zb1]at hb;rcases XK.1 hb with hb|hb
   ·split at hb
    ·exact Or.inl (XC hb)
    ·right
     simp only[Xl,Xg,or_false]at hb;rcases hb with rfl|rfl|rfl<;>decide
   ·simp only[Xh]at hl
    rcases ih (r.drop ((measure (c::r)).1 - 1)) (by rw[Xo];omega) b hb with h|h
    ·exact Or.inl (List.mem_cons_of_mem _ (XD h))
    ·exact Or.inr h
theorem Zsg{b:UInt8}(h:Zx (b.toNat:Int) ZdN=true):b.toNat≤124∧¬(b.toNat=37∨(48≤b.toNat∧b.toNat≤57)∨(65≤b.toNat∧b.toNat≤70)):=by
 unfold Zx at h;obtain⟨c,hc,he⟩:=Xu.1 h
 have e:c.toNat=b.toNat:=by have:=of_decide_eq_true (p:=(c.toNat:Int)=b.toNat) (by simpa using he);omega
 have key:∀c∈ZdN,c.toNat≤124∧¬(c.toNat=37∨(48≤c.toNat∧c.toNat≤57)∨(65≤c.toNat∧c.toNat≤70)):=by decide
 rw[←e];exact key c hc
theorem ZiM{set l:LB}(h:(l.any fun b=>Zx b.toNat ZdN)=false):((encB set (clean l)).any fun b=>Zx b.toNat ZdN)=false:=by
 rw[Xe];intro b hb ha;have hf:=Zsg ha;obtain⟨c,hcm,hc⟩:=Xv.1 hb;have hcl:=c.toNat_lt;unfold ZN at hc
 split at hc
 ·simp only[Xl,Xg,or_false]at hc
  rcases hc with rfl|rfl|rfl
  ·exact hf.2 (Or.inl rfl)
  ·exact hf.2 (Or.inr (Zao (by omega) (by omega)))
  ·exact hf.2 (Or.inr (Zao (by omega) (by omega)))
 ·rw[Xs]at hc
  subst hc;rcases ZfW _ l (Xr _) b hcm with h1|h1
  ·exact Xe.1 h b h1 ha
  ·omega
theorem Zn3{l:LB}(h0:(Zbk l).2=0):ZI (Zbk l).1 false=((Zbk l).1,0):=by
 unfold Zbk at h0 ⊢
 split at h0
 ·cases h0
 next h1=>
  rw[if_neg h1]
  have hf:(l.any fun b=>Zx b.toNat ZdN)=false:=by simpa using h1
  have h2:=ZiM (set:=tl (ZaN 0)) hf
  show ZI (encB (tl (ZaN 0)) (clean l)) false=_
  unfold ZI
  rw[if_neg (ZfV fun b hb e=>Xe.1 h2 b hb (by rw[e];decide)),if_neg (by decide)]
  unfold Zbk
  rw[if_neg (by rw[h2];decide),Zsf Ztf]
theorem Zn4:∀(xs zs:LI) (n:Nat),(putGo zs n xs).length=zs.length:=by
 intro xs
 induction xs with
 | nil=>intro zs n;rw[putGo]
 | cons x r ih=>intro zs n;rw[putGo,ih,XI]
theorem Zn5(en:Bool)(ps:List LB):∀g q,grpGo en g ps=some q→q.1.length=g.1.length:=by
 induction ps with
 | nil=>intro g q h;rw[grpGo]at h;cases h;rfl
 | cons p r ih=>
  intro g q h;rw[grpGo]at h
  split at h
  ·split at h
   ·rw[ih _ _ h,ZgS]
   ·cases h
  ·split at h
   ·rw[ih _ _ h,ZdG]
   ·cases h
theorem ZfX(l:LB)(en:Bool):(ZB l en).1.1.length=8:=by
 unfold ZB
 split
 ·rfl
 ·split
  ·rfl
  ·next h=>rw[Zn5 _ _ _ _ h];rfl
theorem Zsh(l:LB):(ip6 l).1.length=8:=by
 unfold ip6
 split
 ·unfold ZfL
  split
  ·rfl
  ·exact ZfX _ _
 split
 ·rfl
 ·rw[Zn4];exact ZfX _ _
theorem ZiN{l:LB}(sp:Bool)(h0:(Zak l).2=0):ZI (Zak l).1 sp=((Zak l).1,0):=by
 unfold Zak at h0 ⊢
 split at h0
 ·cases h0
 next h1=>
  split at h0
  ·next h2=>
   rw[if_neg h1,if_pos h2];have hl:=Zsh ((l.take (l.length-1)).drop 1);have hg:=Zk1 ((l.take (l.length-1)).drop 1);generalize (ip6 ((l.take (l.length-1)).drop 1)).1=ns at *;have ht:=Zp7 hl hg;generalize hte:Zfb ns=t at ht ⊢
   show ZI ([91]++t++[93]) sp=([91]++t++[93],0)
   have e1:([91]++t++[93]:LB).length-1=t.length+1:=by simp
   have e2:(([91]++t++[93]:LB).getD (([91]++t++[93]:LB).length-1) 0)=93:=by
    rw[e1,Xa,List.getElem?_append_right (by simp)]
    simp
   have e3:(([91]++t++[93]:LB).take (([91]++t++[93]:LB).length-1)).drop 1=t:=by
    rw[e1,XJ (by simp)]
    rfl
   unfold ZI
   rw[if_pos (by rfl)]
   unfold Zak;rw[if_neg,e3,ht,if_pos rfl]
   ·show([91]++Zfb ns++[93],(0:Int))=_
    rw[hte]
   ·rintro(e|e)
    ·simp at e;omega
    ·exact e (by rw[e2];rfl)
  ·cases h0
end Go.Proofs.YtchkhibgbnhjpabGreatDoor
