import Derived.Test.YtchkhibgbnhjpabGreatDoorR18
import Derived.Test.YtchkhibgbnhjpabGreatDoorR19
open List renaming getD_eq_getElem?_getD→Xa,drop_of_length_le→Xb,getElem?_eq_getElem→Xc,dropWhile_cons→Xd,any_eq_false→Xe,length_take→Xf,append_eq_nil_iff→Xg,not_mem_nil→Xh,length_cons→Xi,drop_eq_getElem_cons→Xj,map_cons→Xk,singleton_append→Xl,mem_cons→Xm,reverse_cons→Xo,length_drop→Xp,mem_singleton→Xs,cons_append→Xt,mem_reverse→Xu,any_eq_true→Xv,mem_flatMap→Xw,nil_append→Xy,drop_zero→Xz,all_cons→XA,mem_map→XB,reverse_singleton→XC,reverse_reverse→XD,mem_of_mem_take→XE,mem_of_mem_drop→XF,reverse_append→XG,map_congr_left→XH,append_assoc→XI,flatMap_cons→XJ,length_set→XK,take_left'→XL,mem_append→XM,take_zero→XN
open Nat renaming mod_eq_of_lt→Xq,le_refl→Xr,sub_self→XO
open UInt8 renaming toNat_ofNat'→Xn,toNat_inj→Xx
namespace Go.Proofs.YtchkhibgbnhjpabGreatDoor
open Go.RowKit
structure Asc (p:UInt8→Bool) (P:Int→Bool):Prop where
 lo:∀c:Int,0≤c→c<128→p (toB c)=P c
 hi:∀b:UInt8,128≤b.toNat→p b=false
 up:∀c:Int,128≤c→P c=false
theorem Zad{c:Int}(h:Pt c):(0≤c∧c<128∧(utf c).map toB=[toB c])∨(128≤c∧(utf c).map toB≠[]∧∀b∈(utf c).map toB,128≤b.toNat):=by
 by_cases hc:c<128
 ·exact Or.inl ⟨h.1,hc,by rw[Zpg hc];rfl⟩
 ·refine Or.inr ⟨by omega,?_,?_⟩
  ·unfold utf
   rw[if_neg hc]
   split
   ·simp
   ·split<;>simp
  ·intro b hb
   obtain⟨x,hx,rfl⟩:=XB.1 hb
   have h1:=ZkQ (by omega) h.2 hx
   have h2:=Zbk (n:=x) (by omega) h1.2
   omega
theorem bytesOf_cons(c:Int)(l:LI):Zb (c::l)=(utf c).map toB++Zb l:=by simp[Zb]
theorem ZnQ(a b:LI):Zb (a++b)=Zb a++Zb b:=by simp[Zb]
theorem bytesOf_nil:Zb []=[]:=rfl
theorem Zr{l:LI}(hl:∀c∈l,Pt c):Zb l=[]↔l=[]:=by
 constructor
 ·intro h
  cases l with
  | nil=>rfl
  | cons c r=>
   rw[bytesOf_cons]at h;have h1:=(Xg.1 h).1
   rcases Zad (hl c (by simp))with⟨-,-,e⟩|⟨-,e,-⟩
   ·rw[e]at h1;cases h1
   ·exact absurd h1 e
 ·intro h;rw[h];rfl
section
variable {p:UInt8→Bool} {P:Int→Bool} (h:Asc p P)
include h
theorem Asc.filter(l:List Int)(hl:∀c∈l,Pt c):(Zb l).filter (fun b=>!p b)=Zb (l.filter fun c=>!P c):=by
 induction l with
 | nil=>rfl
 | cons c r ih=>
  rw[bytesOf_cons,List.filter_append,ih (fun x hx=>hl x (by simp[hx]))]
  rcases Zad (hl c (by simp))with⟨h0,h1,e⟩|⟨h0,-,e⟩
  ·rw[e]
   have hp:=h.lo c h0 h1
   cases hc:P c
   ·rw[hc]at hp
    simp[List.filter,hp,hc,bytesOf_cons,e]
   ·rw[hc]at hp
    simp[List.filter,hp,hc]
  ·have hc:=h.up c h0
   have:((utf c).map toB).filter (fun b=>!p b)=(utf c).map toB:=List.filter_eq_self.2 fun b hb=>by rw[h.hi b (e b hb)];rfl
   rw[this]
   simp[List.filter,hc,bytesOf_cons]
theorem Asc.dropWhile(l:List Int)(hl:∀c∈l,Pt c):(Zb l).dropWhile p=Zb (l.dropWhile P):=by
 induction l with
 | nil=>rfl
 | cons c r ih=>
  rcases Zad (hl c (by simp))with⟨h0,h1,e⟩|⟨h0,e1,e⟩
  ·have hp:=h.lo c h0 h1
   rw[bytesOf_cons,e,Xl,Xd,Xd,hp]
   split
   ·exact ih (fun x hx=>hl x (by simp[hx]))
   ·rw[bytesOf_cons,e];rfl
  ·have hc:=h.up c h0
   rw[Xd,if_neg (by rw[hc];decide),bytesOf_cons]
   cases hx:(utf c).map toB with
   | nil=>exact absurd hx e1
   | cons b q=>
    have hb:=h.hi b (e b (by rw[hx];simp))
    rw[Xt,Xd,if_neg (by rw[hb];decide)]
theorem Asc.dropEnd'(r:List Int)(hl:∀c∈r,Pt c):((Zb r.reverse).reverse.dropWhile p).reverse=Zb (r.dropWhile P).reverse:=by
 induction r with
 | nil=>rfl
 | cons c r ih=>
  have ih':=ih (fun x hx=>hl x (by simp[hx]))
  rw[Xo,Xd,bytesOf_snoc,XG]
  rcases Zad (hl c (by simp))with⟨h0,h1,e⟩|⟨h0,e1,e⟩
  ·have hp:=h.lo c h0 h1
   rw[e,XC,Xl,Xd,hp]
   split
   ·exact ih'
   ·rw[Xo,XD,Xo,bytesOf_snoc,e]
  ·have hc:=h.up c h0
   rw[if_neg (by rw[hc];decide),Xo,bytesOf_snoc]
   rcases List.eq_nil_or_concat ((utf c).map toB)with hx|⟨q,b,hx⟩
   ·exact absurd hx e1
   ·have hb:=h.hi b (e b (by rw[hx];simp))
    rw[hx,List.concat_eq_append,XG,XC,Xl,Xt,Xd,if_neg (by rw[hb];decide)]
    simp
theorem Asc.dropEnd(l:List Int)(hl:∀c∈l,Pt c):((Zb l).reverse.dropWhile p).reverse=Zb (l.reverse.dropWhile P).reverse:=by
 have h1:=Asc.dropEnd' h l.reverse (fun c hc=>hl c (Xu.1 hc))
 rw[XD]at h1;exact h1
theorem Asc.all(l:List Int)(hl:∀c∈l,Pt c):(Zb l).all p=l.all P:=by
 induction l with
 | nil=>rfl
 | cons c r ih=>
  rw[bytesOf_cons,List.all_append,XA,ih (fun x hx=>hl x (by simp[hx]))]
  rcases Zad (hl c (by simp))with⟨h0,h1,e⟩|⟨h0,e1,e⟩
  ·rw[e];simp[h.lo c h0 h1]
  ·rw[h.up c h0]
   cases hx:(utf c).map toB with
   | nil=>exact absurd hx e1
   | cons b q=>rw[XA,h.hi b (e b (by rw[hx];simp))];rfl
theorem Asc.any(l:List Int)(hl:∀c∈l,Pt c):(Zb l).any p=l.any P:=by
 induction l with
 | nil=>rfl
 | cons c r ih=>
  rw[bytesOf_cons,List.any_append,List.any_cons,ih (fun x hx=>hl x (by simp[hx]))]
  rcases Zad (hl c (by simp))with⟨h0,h1,e⟩|⟨h0,e1,e⟩
  ·rw[e];simp[h.lo c h0 h1]
  ·rw[h.up c h0]
   have:((utf c).map toB).any p=false:=Xe.2 fun b hb=>by rw[h.hi b (e b hb)];decide
   rw[this]
end
theorem Zbc{c:Int}(h0:0≤c)(h1:c<128):((toB c).toNat:Int)=c:=Zbk h0 (by omega)
theorem Zl8:Asc ZaF (fun c=>decide (c≤32)) where
 lo:=fun c h0 h1=>by unfold ZaF;rw[Zbc h0 h1]
 hi:=fun b hb=>by unfold ZaF;rw[decide_eq_false_iff_not];omega
 up:=fun c hc=>by rw[decide_eq_false_iff_not];omega
theorem ZeN{p:UInt8→Bool}{P:Int→Bool}(h:∀n:Fin 128,p (toB (n.val:Int))=P (n.val:Int))(c:Int)(h0:0≤c)(h1:c<128):p (toB c)=P c:=by
 have:=h ⟨c.toNat,by omega⟩
 rw[show((⟨c.toNat,by omega⟩:Fin 128).val:Int)=c from by simp;omega]at this
 exact this
theorem ZsU:Asc ZdR (fun c=>among c [9,10,13]) where
 lo:=ZeN (by decide)
 hi:=fun b hb=>by unfold ZdR;simp;omega
 up:=fun c hc=>by simp[among];omega
theorem Zeg{α:Type}{p:α→Bool}{l:List α}{c:α}(h:c∈l.dropWhile p):c∈l:=(List.dropWhile_sublist p).subset h
theorem Ziw{l:LI}{c:Int}(h:c∈trimmed l):c∈l:=by unfold trimmed Zet ZkH at h;exact Zeg (Xu.1 (Zeg (Xu.1 h)))
def Zl9(l:List UInt8):List Int:=flat (trimmed (Zk l))
theorem ZsV(l:LB):∀c∈Zl9 l,Sc c:=fun c hc=>Za3 l c (Ziw (List.mem_filter.1 hc).1)
theorem ZqP(l:LI)(hl:∀c∈l,Pt c):trimB (Zb l)=Zb (trimmed l):=by
 unfold trimB trimmed Zet ZkH
 rw[Zl8.dropWhile l hl,Zl8.dropEnd _ (fun c hc=>hl c (Zeg hc))]
theorem ZqQ(l:LI)(hl:∀c∈l,Pt c):noBreaks (Zb l)=Zb (flat l):=by unfold noBreaks flat;exact ZsU.filter l hl
theorem ZnR(l:LB):wholeText l=Zb (Zl9 l):=by
 unfold wholeText Zl9
 rw[←ZaK,ZqP _ (fun c hc=>(Za3 l c hc).pt),ZqQ _ (fun c hc=>(Za3 l c (Ziw hc)).pt)]
theorem ZdS:Asc (fun b=>alpha b.toNat) alpha where
 lo:=ZeN (p:=fun b=>alpha b.toNat) (P:=alpha) (by decide)
 hi:=fun b hb=>by simp[alpha];omega
 up:=fun c hc=>by simp[alpha];omega
theorem ZvO:Asc ZgI Zc9 where
 lo:=ZeN (by decide)
 hi:=fun b hb=>by simp[ZgI,alpha];omega
 up:=fun c hc=>by simp[Zc9,alpha,numeral,among];omega
theorem Zma(a:LI)(hl:∀c∈a,Pt c):Zci (Zb a)=Zl7 a:=by
 cases a with
 | nil=>rfl
 | cons c r=>
  unfold Zl7;rw[List.headD_cons,XA,bytesOf_cons]
  have hr:=ZvO.all r (fun x hx=>hl x (by simp[hx]))
  rcases Zad (hl c (by simp))with⟨h0,h1,e⟩|⟨h0,e1,e⟩
  ·rw[e,Xl]
   show(alpha ((toB c).toNat:Int)&&(Zb r).all ZgI)=_
   rw[Zbc h0 h1,hr]
   cases ha:alpha c
   ·rfl
   ·have:Zc9 c=true:=by unfold Zc9;rw[ha];rfl
    rw[this];rfl
  ·rw[ZdS.up c h0]
   cases hx:(utf c).map toB with
   | nil=>exact absurd hx e1
   | cons b q=>
    show(alpha (b.toNat:Int)&&_)=_
    rw[ZdS.hi b (e b (by rw[hx];simp))];rfl
theorem ZjW:Zve (isB 58) [58]:=Zec 58 (by decide) (by decide) 58 (by decide)
theorem ZsW:Zve (isB 35) [35]:=Zec 35 (by decide) (by decide) 35 (by decide)
theorem ZqR:Zve (isB 63) [63]:=Zec 63 (by decide) (by decide) 63 (by decide)
theorem Zfh(sp:Bool):Zve (slB sp) (if sp then [47,92]else [47]):=by
 cases sp
 ·exact⟨ZeN (P:=fun c=>among c [47]) (by decide),fun b hb=>by simp[slB,ZdI];omega,fun c hc=>by simp[among];omega⟩
 ·exact⟨ZeN (P:=fun c=>among c [47,92]) (by decide),fun b hb=>by simp[slB,ZdI];omega,fun c hc=>by simp[among];omega⟩
theorem Zmb(l:LI)(hl:∀c∈l,Pt c):ZaG (Zb l)=((schemeOf l).1,Zb (schemeOf l).2.1,(schemeOf l).2.2):=by
 have hc:=Zao ZjW l hl;unfold ZaG schemeOf;rw[hc];simp only
 rw[Zma _ (fun c h=>hl c (ZR (Or.inl h)))]
 by_cases h:(cut l [58]).2.2=true∧Zl7 (cut l [58]).1=true
 ·rw[if_pos h,if_pos (by rw[h.1,h.2];rfl)]
 ·rw[if_neg h,if_neg (by simpa using h)]
def ZhK(gs:List (List UInt8)):List UInt8:=gs.flatMap fun g=>[58]++g
def ZhL:List (List UInt8)→List UInt8
 | []=>[]
 | g::r=>g++ZhK r
abbrev hx(x:Int):List UInt8:=Zfz x.toNat
theorem tailC_cons(g:LB)(r:List LB):ZhK (g::r)=[58]++g++ZhK r:=by simp[ZhK]
theorem Zx5(ns:LI)(hl:ns.length=8)(st ln:Nat):∀f i,st+ln≤i→st<i→8≤i+f→Zip ns st ln f i=if i=st+ln then ZhL ((ns.drop i).map hx)else ZhK ((ns.drop i).map hx):=by
 intro f
 induction f with
 | zero=>
  intro i h1 h2 h3
  rw[Zip,Xb (by omega)]
  split<;>rfl
 | succ f ih=>
  intro i h1 h2 h3;rw[Zip]
  by_cases h8:8≤i
  ·rw[if_pos h8,Xb (by omega)]
   split<;>rfl
  ·have hi:i<ns.length:=by omega
   have ihh:=ih (i+1) (by omega) (by omega) (by omega)
   rw[if_neg (by omega:¬i+1=st+ln)]at ihh
   rw[if_neg h8,if_neg (by omega),ihh,Xj hi,Xk,Xa,Xc hi]
   by_cases he:i=st+ln
   ·rw[if_neg (fun h=>h.2 he),if_pos he];rfl
   ·rw[if_pos ⟨by omega,he⟩,if_neg he,tailC_cons];rfl
theorem Zpr(ns:LI)(hl:ns.length=8)(st ln:Nat)(hst:st<8)(hln:1≤ln):∀f i,i≤st→8≤i+f →
  Zip ns st ln f i=(if i=0 then ZhL (((ns.take st).drop i).map hx)else ZhK (((ns.take st).drop i).map hx))++([58,58]++ZhL ((ns.drop (st+ln)).map hx)):=by
 intro f
 induction f with
 | zero=>intro i h1 h2;omega
 | succ f ih=>
  intro i h1 h2
  rw[Zip,if_neg (by omega)]
  by_cases he:i=st
  ·have hb:=Zx5 ns hl st ln f (i+ln) (by omega) (by omega) (by omega)
   rw[if_pos (by omega:i+ln=st+ln)]at hb
   rw[if_pos he,hb,Xb (by rw[Xf];omega:(ns.take st).length≤i)]
   subst he
   split<;>rfl
  ·have hi:i<(ns.take st).length:=by rw[Xf];omega
   have ihh:=ih (i+1) (by omega) (by omega)
   rw[if_neg (by omega:¬i+1=0)]at ihh
   rw[if_neg he,ihh,Xj hi,Xk,List.getElem_take,Xa,Xc (by omega:i<ns.length)]
   by_cases h0:i=0
   ·subst h0
    rw[if_neg (by omega),if_pos rfl,ZhL]
    simp
   ·rw[if_pos ⟨by omega,by omega⟩,if_neg h0,tailC_cons]
    simp
theorem Zxq(ns:LI)(hl:ns.length=8)(st ln:Nat)(hst:8≤st):∀f i,8≤i+f →
  Zip ns st ln f i=if i=0 then ZhL ((ns.drop i).map hx)else ZhK ((ns.drop i).map hx):=by
 intro f
 induction f with
 | zero=>
  intro i h2
  rw[Zip,Xb (by omega)]
  split<;>rfl
 | succ f ih=>
  intro i h2;rw[Zip]
  by_cases h8:8≤i
  ·rw[if_pos h8,Xb (by omega)]
   split<;>rfl
  ·have hi:i<ns.length:=by omega
   have ihh:=ih (i+1) (by omega)
   rw[if_neg (by omega:¬i+1=0)]at ihh
   rw[if_neg h8,if_neg (by omega),ihh,Xj hi,Xk,Xa,Xc hi]
   by_cases he:i=0
   ·rw[if_neg (by omega),if_pos he];rfl
   ·rw[if_pos ⟨by omega,by omega⟩,if_neg he,tailC_cons];rfl
def Zy4(ns:List Int)(st ln:Nat):Prop:=(st=8∧ln=1)∨(st+ln≤8∧1≤ln∧∀k,st≤k→k<st+ln→ns.getD k 0=0)
theorem ZzE(ns:LI)(hl:ns.length=8):∀(rest:LI) i st ln run,rest=ns.drop i→run≤i→i≤8→1≤ln→(∀k,i-run≤k→k<i→ns.getD k 0=0)→((st=8∧ln=1)∨(st+ln≤8∧∀k,st≤k→k<st+ln→ns.getD k 0=0))→Zy4 ns (lrGo i st ln run rest).1 (lrGo i st ln run rest).2:=by
 intro rest
 induction rest with
 | nil=>
  intro i st ln run h1 h2 h3 h4 h5 h6;rw[lrGo];rcases h6 with h|⟨h,k⟩
  ·exact Or.inl h
  ·exact Or.inr ⟨h,h4,k⟩
 | cons x r ih=>
  intro i st ln run h1 h2 h3 h4 h5 h6
  have hi:i<ns.length:=by
   rcases Nat.lt_or_ge i ns.length with h|h
   ·exact h
   ·rw[Xb h]at h1;cases h1
  rw[Xj hi]at h1;obtain⟨hx0,hr⟩:=List.cons.inj h1
  have hrun:∀k,i+1-(if x=0 then run+1 else 0)≤k→k<i+1→ns.getD k 0=0:=by
   intro k k1 k2
   split at k1
   ·next hz=>
    by_cases hk:k=i
    ·subst hk;rw[Xa,Xc hi,←hx0];exact hz
    ·exact h5 k (by omega) (by omega)
   ·omega
  have hrl:(if x=0 then run+1 else 0)≤i+1:=by split<;>omega
  rw[lrGo]
  generalize (if x=0 then run+1 else 0)=run' at *
  split
  ·refine ih (i+1) _ _ _ hr hrl (by omega) (by omega) hrun (Or.inr ⟨by omega,fun k k1 k2=>hrun k k1 (by omega)⟩)
  ·exact ih (i+1) _ _ _ hr hrl (by omega) h4 hrun h6
theorem ZjX(ns:LI)(hl:ns.length=8):Zy4 ns (ZZ ns).1 (ZZ ns).2:=
 ZzE ns hl ns 0 8 1 0 rfl (Xr _) (by omega) (Xr _) (fun k _ h=>absurd h (Nat.not_lt_zero _)) (Or.inl ⟨rfl,rfl⟩)
def NG:List UInt8→Prop
 | []=>True
 | c::r=>(c=58→∃d q,r=d::q∧d≠58)∧NG r
theorem Zps:∀(l:LB),NG l→cutGap l=([],[],false)
 | [],_=>rfl
 | [_],_=>rfl
 | c::d::r,h=>by
  rw[cutGap,if_neg,Zps (d::r) h.2,if_neg (by decide)]
  rintro⟨h1,h2⟩;obtain⟨e,q,he,hne⟩:=h.1 h1
  cases he
  exact hne h2
theorem Zxr:∀(a r:LB),NG a→cutGap (a++([58,58]++r))=(a,r,true)
 | [],r,_=>by simp[cutGap]
 | [c],r,h=>by
  have hc:¬c=58:=fun e=>by obtain⟨d,q,hq,-⟩:=h.1 e;cases hq
  show cutGap (c::58::58::r)=_
  rw[cutGap,if_neg (fun e=>hc e.1)]
  simp[cutGap]
 | c::d::a,r,h=>by
  have ih:=Zxr (d::a) r h.2
  show cutGap (c::d::(a++([58,58]++r)))=_
  rw[cutGap,if_neg]
  ·rw[show d::(a++([58,58]++r))=(d::a)++([58,58]++r)from rfl,ih]
   simp
  ·rintro⟨h1,h2⟩
   obtain⟨e,q,he,hne⟩:=h.1 h1
   cases he
   exact hne h2
def Zx6(g:List UInt8):Prop:=g≠[]∧∀b∈g,b≠58
theorem Zxs{g l:LB}(h:∀b∈g,b≠58)(hl:NG l):NG (g++l):=by
 induction g with
 | nil=>exact hl
 | cons c r ih=>exact⟨fun e=>absurd e (h c (by simp)),ih (fun b hb=>h b (by simp[hb]))⟩
theorem Zx7{gs:List LB}(h:∀g∈gs,Zx6 g):NG (ZhK gs):=by
 induction gs with
 | nil=>exact True.intro
 | cons g r ih=>
  rw[tailC_cons,XI]
  show NG (58::(g++ZhK r))
  obtain⟨hn,hb⟩:=h g (by simp)
  refine⟨fun _=>?_,Zxs (g:=g) hb (ih fun q hq=>h q (by simp[hq]))⟩
  cases g with
  | nil=>exact absurd rfl hn
  | cons d q=>exact⟨d,q++ZhK r,rfl,hb d (by simp)⟩
theorem ZsX{gs:List LB}(h:∀g∈gs,Zx6 g):NG (ZhL gs):=by
 cases gs with
 | nil=>exact True.intro
 | cons g r=>exact Zxs (h g (by simp)).2 (Zx7 fun q hq=>h q (by simp[hq]))
theorem Zxt{b:UInt8}:isB 58 b=true↔b=58:=by
 unfold isB;rw[beq_iff_eq]
 constructor
 ·intro h
  have h2:b.toNat=(58:UInt8).toNat:=by show b.toNat=58;omega
  exact Xx.1 h2
 ·intro h;subst h;rfl
theorem ZdT(g l:LB)(n:Int)(h:∀b∈g,isB n b=false):bsplit n (g++l)=match bsplit n l with | []=>[g]|p::q=>(g++p)::q:=by
 induction g with
 | nil=>
  obtain⟨p,q,hpq⟩:=Zc0 n l;rw[Xy,hpq]
  rfl
 | cons c r ih=>
  rw[Xt,bsplit,if_neg (by rw[h c (by simp)];decide),ih (fun b hb=>h b (by simp[hb]))]
  obtain⟨p,q,hpq⟩:=Zc0 n l;rw[hpq]
  rfl
theorem ZqS{gs:List LB}(h:∀g∈gs,Zx6 g):bsplit 58 (ZhK gs)=[]::gs:=by
 induction gs with
 | nil=>rfl
 | cons g r ih=>
  have hb:∀b∈g,isB 58 b=false:=fun b hb=>by
   cases hh:isB 58 b
   ·rfl
   ·exact absurd (Zxt.1 hh) ((h g (by simp)).2 b hb)
  rw[tailC_cons,XI]
  show bsplit 58 (58::(g++ZhK r))=_
  rw[bsplit,if_pos (by decide),ZdT g _ 58 hb,ih (fun q hq=>h q (by simp[hq]))]
  simp
theorem ZqT{g:LB}{r:List LB}(h:∀q∈g::r,Zx6 q):bsplit 58 (ZhL (g::r))=g::r:=by
 have hb:∀b∈g,isB 58 b=false:=fun b hb=>by
  cases hh:isB 58 b
  ·rfl
  ·exact absurd (Zxt.1 hh) ((h g (by simp)).2 b hb)
 rw[ZhL,ZdT g _ 58 hb,ZqS (fun q hq=>h q (by simp[hq]))]
 simp
theorem Zpt{d:Nat}(h:d≤15):ZL ((Zdh d).toNat:Int) 16=((d:Int),true)∧Zdh d≠58∧Zdh d≠46:=by
 match d,h with
 | 0,_=>decide
 | 1,_=>decide
 | 2,_=>decide
 | 3,_=>decide
 | 4,_=>decide
 | 5,_=>decide
 | 6,_=>decide
 | 7,_=>decide
 | 8,_=>decide
 | 9,_=>decide
 | 10,_=>decide
 | 11,_=>decide
 | 12,_=>decide
 | 13,_=>decide
 | 14,_=>decide
 | 15,_=>decide
theorem ZvP(n:Nat):(Zfz n).length≤4:=by unfold Zfz;(repeat' split)<;>simp
theorem hexD_ne(n:Nat):Zfz n≠[]:=by unfold Zfz;(repeat' split)<;>simp
theorem Zpu{n:Nat}(h:n≤65535):∀b∈Zfz n,b≠58∧b≠46:=by
 intro b hb
 have key:∀d,d≤15→b=Zdh d→b≠58∧b≠46:=fun d hd e=>by subst e;exact(Zpt hd).2
 unfold Zfz at hb
 (repeat' split at hb)<;>simp only[Xm,Xh,or_false]at hb
 ·exact key _ (by omega) hb
 ·rcases hb with hb|hb<;>exact key _ (by omega) hb
 ·rcases hb with hb|hb|hb<;>exact key _ (by omega) hb
 ·rcases hb with hb|hb|hb|hb<;>exact key _ (by omega) hb
theorem ZbI(n d:Nat)(hd:d≤15)(hn:n≤65535)(r:LB):numGo 16 65535 (n:Int) (Zdh d::r)=numGo 16 65535 ((n*16+d:Nat):Int) r:=by
 rw[numGo,(Zpt hd).1,if_pos rfl,if_pos (by omega)]
 simp
theorem ZvQ{n:Nat}(h:n≤65535):Zn (Zfz n) 16 65535=((n:Int),true):=by
 unfold Zn;rw[if_neg (hexD_ne n)]
 have key:numGo 16 65535 0 (Zfz n)=some (n:Int):=by
  show numGo 16 65535 ((0:Nat):Int) (Zfz n)=_
  unfold Zfz
  split
  ·rw[ZbI 0 n (by omega) (by omega),numGo];simp
  split
  ·rw[ZbI 0 _ (by omega) (by omega),ZbI _ _ (by omega) (by omega),numGo];congr 1;omega
  split
  ·rw[ZbI 0 _ (by omega) (by omega),ZbI _ _ (by omega) (by omega),ZbI _ _ (by omega) (by omega),numGo];congr 1;omega
  ·rw[ZbI 0 _ (by omega) (by omega),ZbI _ _ (by omega) (by omega),ZbI _ _ (by omega) (by omega),ZbI _ _ (by omega) (by omega),numGo];congr 1;omega
 rw[key]
 show(if(65535:Int)<n then _ else _)=_
 rw[if_neg (by omega)]
theorem Zxu{x:Int}(h:0≤x∧x≤65535):Zx6 (hx x):=⟨hexD_ne _,fun b hb=>(Zpu (by omega) b hb).1⟩
theorem Zy5{x:Int}(h:0≤x∧x≤65535)(g:LI×Nat):Zbl g (hx x)=ZfN g x:=by
 have:=ZvQ (n:=x.toNat) (by omega)
 unfold Zbl;rw[this,if_neg]
 ·congr 1;show((x.toNat:Nat):Int)=x;omega
 ·rintro(e|e)
  ·cases e
  ·have:(hx x).length≤4:=ZvP x.toNat
   omega
theorem ZvR{l:LB}(h:∀b∈l,b≠46):among 46 l=false:=by
 cases hh:among 46 l
 ·rfl
 ·exfalso
  unfold among at hh;obtain⟨b,hb,he⟩:=Xv.1 hh
  refine h b hb (Xx.1 ?_)
  have:=of_decide_eq_true (p:=(b.toNat:Int)=46) (by simpa using he)
  show b.toNat=46
  omega
theorem Zfi:∀(xs zs:LI) (n:Nat),n+xs.length≤zs.length→putGo zs n xs=zs.take n++xs++zs.drop (n+xs.length):=by
 intro xs
 induction xs with
 | nil=>intro zs n h;rw[putGo];simp
 | cons x r ih=>
  intro zs n h;simp only[Xi]at h
  rw[putGo,ih (zs.set n x) (n+1) (by rw[XK];omega)]
  rw[List.take_set,List.drop_set,if_pos (by omega),List.take_succ_eq_append_getElem (by omega)]
  have:(zs.take n++[zs[n]]).set n x=zs.take n++[x]:=by
   rw[List.set_append_right _ _ (by rw[Xf];omega)]
   rw[Xf,Nat.min_eq_left (by omega),XO]
   rfl
  rw[this,Xi,show n+1+r.length=n+(r.length+1)by omega]
  simp
theorem ZvS(en:Bool):∀(xs zs:LI) (n:Nat),GOk xs→n+xs.length≤8→grpGo en (zs,n) (xs.map hx)=some (putGo zs n xs,n+xs.length):=by
 intro xs
 induction xs with
 | nil=>intro zs n _ _;rfl
 | cons x r ih=>
  intro zs n h hl;simp only[Xi]at hl
  have hx0:=h x (by simp)
  have ha:Zbl (zs,n) (hx x)=((zs.set n x,n+1),true):=by rw[Zy5 hx0];unfold ZfN;rw[if_pos (by show n<8;omega)]
  rw[Xk,grpGo,ZvR (fun b hb=>(Zpu (by omega) b hb).2),if_neg (by rintro⟨-,-,e⟩;cases e),ha,if_pos rfl,ih _ _ (fun y hy=>h y (by simp[hy])) (by omega),putGo,Xi]
  congr 2;omega
theorem ZgL(en:Bool)(xs:LI)(h:GOk xs)(hl:xs.length≤8):Zy (ZhL (xs.map hx)) en=((putGo zeros8 0 xs,xs.length),true):=by
 cases xs with
 | nil=>rfl
 | cons x r=>
  have hg:∀q∈(x::r).map hx,Zx6 q:=fun q hq=>by
   obtain⟨y,hy,rfl⟩:=XB.1 hq;exact Zxu (h y hy)
  have hs:=ZqT (g:=hx x) (r:=r.map hx) hg
  have hgo:=ZvS en (x::r) zeros8 0 h (by simpa using hl)
  unfold Zy;rw[if_neg,Xk,hs]
  ·rw[show zeroG=(zeros8,0)from rfl,←Xk,hgo]
   simp
  ·rw[Xk,ZhL]
   intro e;exact hexD_ne _ (Xg.1 e).1
theorem ZvT{a b:LI}{n:Nat}(h:∀k,k<n→(a.getD k 0)=0)(hl:a.length=n)(hb:b=List.replicate n 0):a=b:=by
 subst hb
 refine List.ext_getElem (by simp[hl]) fun i h1 h2=>?_
 have:=h i (by omega)
 rw[Xa,Xc h1]at this
 simpa using this
theorem ZvU{ns:LI}(hl:ns.length=8)(h:GOk ns):ip6 (Zgd ns)=(ns,true):=by
 have hok:=ZjX ns hl;unfold Zgd;generalize (ZZ ns).1=st at *;generalize (ZZ ns).2=ln at *
 have hgr:∀xs:LI,GOk xs→∀q∈xs.map hx,Zx6 q:=fun xs hxs q hq=>by
  obtain⟨y,hy,rfl⟩:=XB.1 hq;exact Zxu (hxs y hy)
 by_cases h8:8≤st
 ·have ht:=Zxq ns hl st ln h8 8 0 (by omega)
  rw[if_pos rfl,Xz]at ht;rw[ht];unfold ip6;rw[Zps _ (ZsX (hgr ns h)),if_pos rfl];unfold Zhf
  rw[ZgL true ns h (by omega),if_neg (by rintro(e|e);cases e;exact e hl),Zfi ns zeros8 0 (by rw[hl];decide),hl]
  simp[zeros8]
 ·rcases hok with⟨e,-⟩|⟨h1,h2,h3⟩
  ·omega
  ·have ht:=Zpr ns hl st ln (by omega) h2 8 0 (by omega) (by omega)
   rw[if_pos rfl,Xz]at ht;rw[ht]
   have ga:GOk (ns.take st):=fun x hx=>h x (XE hx)
   have gb:GOk (ns.drop (st+ln)):=fun x hx=>h x (XF hx)
   have la:(ns.take st).length=st:=by rw[Xf];omega
   have lb:(ns.drop (st+ln)).length=8-(st+ln):=by rw[Xp];omega
   unfold ip6
   rw[Zxr _ _ (ZsX (hgr _ ga)),if_neg (by intro e;cases e)]
   simp only
   rw[ZgL false _ ga (by omega),ZgL true _ gb (by omega)]
   simp only
   rw[la,lb,if_neg (by rintro(e|e|e);cases e;cases e;omega),Zfi (ns.drop (st+ln)) zeros8 0 (by rw[lb];show 0+_≤8;omega)]
   have hz:zeros8.length=8:=rfl;rw[XN,Xy,XL lb]
   rw[Zfi (ns.take st) zeros8 0 (by rw[la,hz];omega),XN,Xy,la]
   rw[show 8-(8-(st+ln))=st+ln by omega]
   have l3:(ns.take st++zeros8.drop (0+st)).length=8:=by rw[List.length_append,la,Xp,hz];omega
   rw[Zfi _ _ _ (by rw[lb,l3];omega),lb,show st+ln+(8-(st+ln))=8 by omega,Xb (Nat.le_of_eq l3),List.append_nil]
   refine Prod.ext ?_ rfl
   show List.take (st+ln) (ns.take st++zeros8.drop (0+st))++ns.drop (st+ln)=ns
   conv=>rhs;rw[←List.take_append_drop (st+ln) ns]
   congr 1
   rw[List.take_append,List.take_of_length_le (by omega:(ns.take st).length≤st+ln),la,show st+ln-st=ln by omega]
   have hsplit:ns.take (st+ln)=ns.take st++(ns.drop st).take ln:=by rw[List.take_add]
   rw[hsplit]
   congr 1
   have hrep:zeros8.drop (0+st)=List.replicate (8-st) 0:=by
    show(List.replicate 8 (0:Int)).drop (0+st)=_
    rw[List.drop_replicate];congr 1;omega
   symm
   refine ZvT (n:=ln) (fun k hk=>?_) (by rw[Xf,Xp];omega) ?_
   ·have:=h3 (st+k) (by omega) (by omega)
    rw[Xa]at this ⊢;rw[List.getElem?_take,if_pos hk,List.getElem?_drop];exact this
   ·rw[hrep,List.take_replicate];congr 1;omega
def Pr(l:List UInt8):Prop:=∀b∈l,32≤b.toNat∧b.toNat≤126
theorem pr_nil:Pr []:=fun b hb=>by cases hb
theorem ZeO{a b:LB}(ha:Pr a)(hb:Pr b):Pr (a++b):=fun x hx=>(XM.1 hx).elim (ha x) (hb x)
theorem ZeP{c:UInt8}(h1:32≤c.toNat)(h2:c.toNat≤126):Pr [c]:=fun b hb=>by rw[Xs]at hb;subst hb;exact⟨h1,h2⟩
theorem Zix{c:UInt8}{l:LB}(h1:32≤c.toNat)(h2:c.toNat≤126)(h:Pr l):Pr (c::l):=ZeO (a:=[c]) (ZeP h1 h2) h
theorem Zk2{n:Nat}(h1:32≤n)(h2:n≤126):32≤(UInt8.ofNat n).toNat∧(UInt8.ofNat n).toNat≤126:=by rw[Xn,Xq (by omega)];exact⟨h1,h2⟩
theorem Zxv{n:Int}(h1:32≤n)(h2:n≤126):32≤(toB n).toNat∧(toB n).toNat≤126:=Zk2 (by omega) (by omega)
theorem ZjY{n:Int}(h0:0≤n)(h1:n<16):32≤capital n∧capital n≤126:=by unfold capital;split<;>omega
theorem ZjZ(set:LB)(b:UInt8):Pr (ZE set b):=by
 have hb:=b.toNat_lt;unfold ZE
 split
 ·have h1:=ZjY (n:=(b.toNat:Int)/16) (by omega) (by omega)
  have h2:=ZjY (n:=(b.toNat:Int)%16) (by omega) (by omega)
  have k1:=Zxv h1.1 h1.2;have k2:=Zxv h2.1 h2.2
  exact Zix (by decide) (by decide) (Zix k1.1 k1.2 (ZeP k2.1 k2.2))
 ·next h=>
  refine ZeP ?_ ?_
  ·have:¬(b.toNat:Int)<32:=fun hh=>h (Or.inl hh)
   omega
  ·have:¬126<(b.toNat:Int):=fun hh=>h (Or.inr (Or.inl hh))
   omega
theorem Zeh(set l:LB):Pr (encB set l):=by intro b hb;unfold encB at hb;obtain⟨c,-,hc⟩:=Xw.1 hb;exact ZjZ set c b hc
theorem Zx8{d:Nat}(h:d≤9):48≤(ZhI d).toNat∧(ZhI d).toNat≤57:=by unfold ZhI;rw[Xn,Xq (by omega)];omega
def Dg(l:List UInt8):Prop:=∀b∈l,48≤b.toNat∧b.toNat≤57
theorem Dg.pr{l:LB}(h:Dg l):Pr l:=fun b hb=>by have:=h b hb;omega
theorem ZgM{n:Nat}(h:n≤99999):Dg (Zb7 n):=by
 intro b hb
 have key:∀d,d≤9→b=ZhI d→48≤b.toNat∧b.toNat≤57:=fun d hd e=>by subst e;exact Zx8 hd
 unfold Zb7 at hb
 (repeat' split at hb)<;>simp only[Xm,Xh,or_false]at hb
 ·exact key _ (by omega) hb
 ·rcases hb with hb|hb<;>exact key _ (by omega) hb
 ·rcases hb with hb|hb|hb<;>exact key _ (by omega) hb
 ·rcases hb with hb|hb|hb|hb<;>exact key _ (by omega) hb
 ·rcases hb with hb|hb|hb|hb|hb<;>exact key _ (by omega) hb
theorem Zx9(v:Nat):∀k,Pr (ZnG v k):=by
 intro k
 induction k with
 | zero=>exact pr_nil
 | succ k ih=>
  rw[ZnG]
  have:v/256^k%256<256:=Nat.mod_lt _ (by decide)
  refine ZeO (ZgM (by omega)).pr ?_
  split
  ·exact ZeO (ZeP (by decide) (by decide)) ih
  ·exact ih
theorem Zya{d:Nat}(h:d≤15):32≤(Zdh d).toNat∧(Zdh d).toNat≤126:=by
 unfold Zdh
 split
 ·exact Zk2 (by omega) (by omega)
 ·exact Zk2 (by omega) (by omega)
theorem Zyb{n:Nat}(h:n≤65535):Pr (Zfz n):=by
 intro b hb
 have key:∀d,d≤15→b=Zdh d→32≤b.toNat∧b.toNat≤126:=fun d hd e=>by subst e;exact Zya hd
 unfold Zfz at hb
 (repeat' split at hb)<;>simp only[Xm,Xh,or_false]at hb
 ·exact key _ (by omega) hb
 ·rcases hb with hb|hb<;>exact key _ (by omega) hb
 ·rcases hb with hb|hb|hb<;>exact key _ (by omega) hb
 ·rcases hb with hb|hb|hb|hb<;>exact key _ (by omega) hb
theorem ZzF{ns:LI}(h:GOk ns)(st ln:Nat):∀f i,Pr (Zip ns st ln f i):=by
 intro f
 induction f with
 | zero=>intro i;exact pr_nil
 | succ f ih=>
  intro i;rw[Zip]
  split
  ·exact pr_nil
  split
  ·exact ZeO (Zix (by decide) (by decide) (ZeP (by decide) (by decide))) (ih _)
  ·refine ZeO (ZeO ?_ (Zyb ?_)) (ih _)
   ·split
    ·exact ZeP (by decide) (by decide)
    ·exact pr_nil
   ·by_cases hi:i<ns.length
    ·have:=h ns[i] (List.getElem_mem hi)
     rw[Xa,Xc hi];simp only[Option.getD_some]
     omega
    ·rw[Xa,List.getElem?_eq_none (by omega)]
     simp
theorem ZnS{l:LB}(h1:beyondB l=false)(h2:plainDom l=true):Pr l:=by
 intro b hb;unfold beyondB at h1;unfold plainDom at h2
 have h3:(l.any Zjg)=false:=by
  cases h:l.any Zjg
  ·rfl
  ·rw[h]at h2;simp at h2
 have k1:=Xe.1 h1 b hb;have k2:=Xe.1 h3 b hb;unfold Zjg at k2;simp only[Bool.or_eq_true,decide_eq_true_eq,beq_iff_eq,not_or]at k1 k2
 omega
theorem Zpv(l:LB)(sp:Bool):Pr (ZT l sp).1:=by
 unfold ZT
 split
 ·unfold Zar
  split
  ·exact pr_nil
  split
  ·refine ZeO (ZeO (ZeP (by decide) (by decide)) ?_) (ZeP (by decide) (by decide))
   exact ZzF (Zpm _) _ _ _ _
  ·exact pr_nil
 split
 ·unfold ZaB
  split
  ·exact pr_nil
  next hb=>
   split
   ·exact pr_nil
   next hp=>
    unfold Zer
    split
    ·refine ZnS ?_ ?_
     ·cases h:beyondB (lower (Zp l))
      ·rfl
      ·rw[h]at hb;simp at hb
     ·cases h:plainDom (lower (Zp l))
      ·exact absurd h hp
      ·rfl
    split
    ·exact Zx9 _ _
    ·exact pr_nil
 ·unfold Zca
  split
  ·exact pr_nil
  ·exact Zeh _ _
theorem decD_ne(n:Nat):Zb7 n≠[]:=by unfold Zb7;(repeat' split)<;>simp
theorem Zmc(want:Int):∀l lo hi sz,sz≤Zai want lo hi sz l:=by
 intro l
 induction l with
 | nil=>intro lo hi sz;rw[Zai];exact Xr _
 | cons c r ih=>
  intro lo hi sz;rw[Zai]
  split
  ·exact Nat.le_trans (Nat.le_succ _) (ih _ _ _)
  ·exact Xr _
theorem Zk3{l:LB}(h:l≠[]):clean l≠[]:=by
 cases l with
 | nil=>exact absurd rfl h
 | cons c r=>
  conv=>lhs;unfold clean
  intro e;have e1:=(Xg.1 e).1
  split at e1
  ·have h1:1≤(measure (c::r)).1:=by show 1≤Zai _ _ _ 1 r;exact Zmc _ _ _ _ _
   have:=congrArg List.length e1;rw[Xf]at this;simp only[Xi,List.length_nil]at this
   omega
  ·cases e1
theorem ZsY{set l:LB}(h:l≠[]):encB set l≠[]:=by
 cases l with
 | nil=>exact absurd rfl h
 | cons c r=>
  unfold encB;rw[XJ];intro e;have e1:=(Xg.1 e).1;unfold ZE at e1
  split at e1<;>cases e1
theorem ZvV{l:LB}{sp:Bool}(h:l≠[])(h0:(ZT l sp).2=0):(ZT l sp).1≠[]:=by
 unfold ZT at h0 ⊢
 split
 ·next hb=>
  rw[if_pos hb]at h0;unfold Zar at h0 ⊢
  split
  ·next hc=>rw[if_pos hc]at h0;cases h0
  split
  ·simp
  ·next hc hd=>rw[if_neg hc,if_neg hd]at h0;cases h0
 next hb=>
  rw[if_neg hb]at h0
  split
  ·next hs=>
   rw[if_pos hs]at h0;unfold ZaB at h0 ⊢
   split
   ·next hc=>rw[if_pos hc]at h0;cases h0
   next hc=>
    rw[if_neg hc]at h0
    split
    ·next hd=>rw[if_pos hd]at h0;cases h0
    next hd=>
     rw[if_neg hd]at h0;unfold Zer at h0 ⊢
     split
     ·intro e
      have e':lower (Zp l)=[]:=e;rw[e']at hd
      exact hd (by decide)
     split
     ·show Zc5 _≠[]
      unfold Zc5;rw[ZnG];intro e;exact decD_ne _ (Xg.1 e).1
     ·next h1 h2=>rw[if_neg h1,if_neg h2]at h0;cases h0
  ·next hs=>
   rw[if_neg hs]at h0;unfold Zca at h0 ⊢
   split
   ·next hc=>rw[if_pos hc]at h0;cases h0
   ·exact ZsY (Zk3 h)
theorem Zda:∀ {l:LB},(∀b∈l,b.toNat<128)→clean l=l:=by
 intro l
 induction l with
 | nil=>intro _;exact clean_nil
 | cons c r ih=>
  intro h
  have hf:follow (c.toNat:Int)=(1,0,0):=if_pos (by have:=h c (by simp);omega)
  have hg:∀q:LB,Zai 1 0 0 1 q=1:=fun q=>by
   cases q with
   | nil=>rfl
   | cons a b=>rw[Zai,if_neg (by rintro⟨e,-⟩;exact absurd e (by decide))]
  have hm:measure (c::r)=(1,true):=by
   rw[measure,hf];simp only;rw[hg]
   rfl
  rw[ZcS,hm];simp only[if_true,XO,Xz]
  rw[ih (fun b hb=>h b (by simp[hb]))]
  rfl
def Asis(set l:List UInt8):Prop:=∀b∈l,32≤b.toNat∧b.toNat≤126∧among (b.toNat:Int) set=false
theorem ZsZ{set l:LB}(h:Asis set l):encB set l=l:=by
 induction l with
 | nil=>rfl
 | cons c r ih=>
  have hc:=h c (by simp)
  unfold encB at ih ⊢
  rw[XJ,ih (fun b hb=>h b (by simp[hb]))]
  unfold ZE;rw[if_neg]
  ·rfl
  ·rintro(e|e|e)
   ·omega
   ·omega
   ·rw[hc.2.2]at e;cases e
theorem Asis.clean{set l:LB}(h:Asis set l):encB set (Go.Proofs.YtchkhibgbnhjpabGreatDoor.clean l)=l:=by rw[Zda (fun b hb=>by have:=h b hb;omega),ZsZ h]
def Zjl(set:List UInt8):Prop:=∀n:Nat,n=37∨(48≤n∧n≤57)∨(65≤n∧n≤70)→among (n:Int) set=false
theorem Zav{n:Int}(h0:0≤n)(h1:n<16):(48≤(toB (capital n)).toNat∧(toB (capital n)).toNat≤57)∨(65≤(toB (capital n)).toNat∧(toB (capital n)).toNat≤70):=by
 unfold capital toB
 split
 ·left;rw[Xn,Xq (by omega)];omega
 ·right;rw[Xn,Xq (by omega)];omega
theorem Zcx{set:LB}(hs:Zjl set)(l:LB):Asis set (encB set l):=by
 intro b hb;obtain⟨c,-,hc⟩:=Xw.1 hb;have hp:=ZjZ set c b hc
 refine⟨hp.1,hp.2,?_⟩
 have hcl:=c.toNat_lt;unfold ZE at hc
 split at hc
 ·simp only[Xm,Xh,or_false]at hc
  rcases hc with rfl|rfl|rfl
  ·exact hs 37 (Or.inl rfl)
  ·exact hs _ (Or.inr (Zav (by omega) (by omega)))
  ·exact hs _ (Or.inr (Zav (by omega) (by omega)))
 ·next hn=>
  rw[Xs]at hc;subst hc
  cases ha:among (b.toNat:Int) set
  ·rfl
  ·exact absurd (Or.inr (Or.inr ha)) hn
theorem Zfj{set:LB}(h:∀b∈set,¬(b.toNat=37∨(48≤b.toNat∧b.toNat≤57)∨(65≤b.toNat∧b.toNat≤70))):Zjl set:=by
 intro n hn
 cases ha:among (n:Int) set
 ·rfl
 ·exfalso
  unfold among at ha;obtain⟨b,hb,he⟩:=Xv.1 ha
  have:b.toNat=n:=by have:=of_decide_eq_true (p:=(b.toNat:Int)=n) (by simpa using he);omega
  exact h b hb (by rw[this];exact hn)
theorem Zy6:Zjl (tl (ZaD 0)):=Zfj (by decide)
theorem Zy7:Zjl (tl (ZaD 1)):=Zfj (by decide)
theorem Zy8:Zjl (tl (ZaD 2)):=Zfj (by decide)
theorem Zy9:Zjl (tl (ZaD 3)):=Zfj (by decide)
theorem Zza:Zjl (tl (ZaD 4)):=Zfj (by decide)
theorem Zpw:Zjl (tl (ZaD 5)):=Zfj (by decide)
theorem Zyc{set:LB}(hs:Zjl set)(l:LB):encB set (clean (encB set l))=encB set l:=(Zcx hs l).clean
theorem Zj0:∀ {l:LB},(∀b∈l,b≠37)→Zp l=l:=by
 intro l
 induction l with
 | nil=>intro _;exact ZbM
 | cons c r ih=>
  intro h
  have hc:(ZbZ (c::r)).2=false:=by
   unfold ZbZ
   split
   ·next e=>
    cases e
    rw[if_neg (fun e=>h c (by simp) e.1)]
   ·rfl
  rw[Zbj,hc,if_neg (by decide),ih (fun b hb=>h b (by simp[hb]))]
theorem ZvW(b:UInt8):Zd2 (Zd2 b)=Zd2 b:=by
 by_cases h:65≤b.toNat∧b.toNat≤90
 ·have:=ZkI h.1 h.2
  exact ZdJ (by omega)
 ·rw[ZdJ h,ZdJ h]
theorem Zs0(l:LB):lower (lower l)=lower l:=by
 unfold lower;rw[List.map_map]
 exact XH fun b _=>ZvW b
theorem ZvX{l:LB}(h:∀b∈l,¬(65≤b.toNat∧b.toNat≤90)):lower l=l:=by
 unfold lower
 conv=>rhs;rw[←List.map_id l]
 exact XH fun b hb=>ZdJ (h b hb)
theorem Zhn{l:LB}(h:plainDom l=true):∀b∈l,Zjg b=false:=by
 intro b hb;unfold plainDom at h;rw[Bool.and_eq_true]at h
 have h3:(l.any Zjg)=false:=by
  cases hh:l.any Zjg
  ·rfl
  ·rw[hh]at h;exact absurd h.1 (by decide)
 have:=Xe.1 h3 b hb
 simpa using this
theorem Zmd{b:UInt8}(h:Zjg b=false):b≠37∧b≠91:=by
 constructor
 ·rintro rfl;exact absurd h (by decide)
 ·rintro rfl;exact absurd h (by decide)
theorem Ziy{l:LB}(h:∀b∈l,b≠91):¬((l.getD 0 0).toNat:Int)=91:=by
 cases l with
 | nil=>decide
 | cons c r=>
  intro e
  refine h c (by simp) (Xx.1 ?_)
  have e':(c.toNat:Int)=91:=e
  show c.toNat=91
  omega
theorem ZqU{l:LB}(h0:(ZaB l).2=0)(he:Zb3 (Zeq (bsplit 46 (lower (Zp l))))=false):ZT (ZaB l).1 true=((ZaB l).1,0):=by
 unfold ZaB at h0 ⊢
 split at h0
 ·cases h0
 next h1=>
  split at h0
  ·cases h0
  next h2=>
   rw[if_neg h1,if_neg h2];have hd:Zer (lower (Zp l)) (Zeq (bsplit 46 (lower (Zp l))))=(lower (Zp l),0):=if_pos he;rw[hd]
   have hp:plainDom (lower (Zp l))=true:=by simpa using h2
   have hb:=Zhn hp
   have hx:lower (Zp (lower (Zp l)))=lower (Zp l):=by rw[Zj0 (fun b hb'=>(Zmd (hb b hb')).1),Zs0]
   show ZT (lower (Zp l)) true=_
   unfold ZT
   rw[if_neg (Ziy fun b hb'=>(Zmd (hb b hb')).2),if_pos rfl]
   unfold ZaB;rw[hx,if_neg h1,if_neg h2,hd]
theorem Ziz:∀(n:Nat) (l:LB),l.length≤n→∀b∈clean l,b∈l∨128≤b.toNat:=by
 intro n
 induction n with
 | zero=>
  intro l hl b hb
  have:l=[]:=List.length_eq_zero_iff.1 (by omega)
  subst this;rw[clean_nil]at hb
  cases hb
 | succ n ih=>
  intro l hl b hb
  cases l with
  | nil=>rw[clean_nil]at hb;cases hb
  | cons c r=>
   rw[ZcS]at hb;rcases XM.1 hb with hb|hb
   ·split at hb
    ·exact Or.inl (XE hb)
    ·right
     simp only[Xm,Xh,or_false]at hb;rcases hb with rfl|rfl|rfl<;>decide
   ·simp only[Xi]at hl
    rcases ih (r.drop ((measure (c::r)).1 - 1)) (by rw[Xp];omega) b hb with h|h
    ·exact Or.inl (List.mem_cons_of_mem _ (XF h))
    ·exact Or.inr h
theorem Zyd{b:UInt8}(h:among (b.toNat:Int) Zed=true):b.toNat≤124∧¬(b.toNat=37∨(48≤b.toNat∧b.toNat≤57)∨(65≤b.toNat∧b.toNat≤70)):=by
 unfold among at h;obtain⟨c,hc,he⟩:=Xv.1 h
 have e:c.toNat=b.toNat:=by have:=of_decide_eq_true (p:=(c.toNat:Int)=b.toNat) (by simpa using he);omega
 have key:∀c∈Zed,c.toNat≤124∧¬(c.toNat=37∨(48≤c.toNat∧c.toNat≤57)∨(65≤c.toNat∧c.toNat≤70)):=by decide
 rw[←e];exact key c hc
theorem Zme{set l:LB}(h:(l.any fun b=>among b.toNat Zed)=false):((encB set (clean l)).any fun b=>among b.toNat Zed)=false:=by
 rw[Xe];intro b hb ha;have hf:=Zyd ha;obtain⟨c,hcm,hc⟩:=Xw.1 hb;have hcl:=c.toNat_lt;unfold ZE at hc
 split at hc
 ·simp only[Xm,Xh,or_false]at hc
  rcases hc with rfl|rfl|rfl
  ·exact hf.2 (Or.inl rfl)
  ·exact hf.2 (Or.inr (Zav (by omega) (by omega)))
  ·exact hf.2 (Or.inr (Zav (by omega) (by omega)))
 ·rw[Xs]at hc
  subst hc;rcases Ziz _ l (Xr _) b hcm with h1|h1
  ·exact Xe.1 h b h1 ha
  ·omega
theorem Zs1{l:LB}(h0:(Zca l).2=0):ZT (Zca l).1 false=((Zca l).1,0):=by
 unfold Zca at h0 ⊢
 split at h0
 ·cases h0
 next h1=>
  rw[if_neg h1]
  have hf:(l.any fun b=>among b.toNat Zed)=false:=by simpa using h1
  have h2:=Zme (set:=tl (ZaD 0)) hf
  show ZT (encB (tl (ZaD 0)) (clean l)) false=_
  unfold ZT
  rw[if_neg (Ziy fun b hb e=>Xe.1 h2 b hb (by rw[e];decide)),if_neg (by decide)]
  unfold Zca
  rw[if_neg (by rw[h2];decide),Zyc Zy6]
theorem Zs2:∀(xs zs:LI) (n:Nat),(putGo zs n xs).length=zs.length:=by
 intro xs
 induction xs with
 | nil=>intro zs n;rw[putGo]
 | cons x r ih=>intro zs n;rw[putGo,ih,XK]
theorem Zs3(en:Bool)(ps:List LB):∀g q,grpGo en g ps=some q→q.1.length=g.1.length:=by
 induction ps with
 | nil=>intro g q h;rw[grpGo]at h;cases h;rfl
 | cons p r ih=>
  intro g q h;rw[grpGo]at h
  split at h
  ·split at h
   ·rw[ih _ _ h,ZjL]
   ·cases h
  ·split at h
   ·rw[ih _ _ h,Zff]
   ·cases h
theorem ZiA(l:LB)(en:Bool):(Zy l en).1.1.length=8:=by
 unfold Zy
 split
 ·rfl
 ·split
  ·rfl
  ·next h=>rw[Zs3 _ _ _ _ h];rfl
theorem Zye(l:LB):(ip6 l).1.length=8:=by
 unfold ip6
 split
 ·unfold Zhf
  split
  ·rfl
  ·exact ZiA _ _
 split
 ·rfl
 ·rw[Zs2];exact ZiA _ _
theorem Zmf{l:LB}(sp:Bool)(h0:(Zar l).2=0):ZT (Zar l).1 sp=((Zar l).1,0):=by
 unfold Zar at h0 ⊢
 split at h0
 ·cases h0
 next h1=>
  split at h0
  ·next h2=>
   rw[if_neg h1,if_pos h2];have hl:=Zye ((l.take (l.length-1)).drop 1);have hg:=Zpm ((l.take (l.length-1)).drop 1);generalize (ip6 ((l.take (l.length-1)).drop 1)).1=ns at *;have ht:=ZvU hl hg;generalize hte:Zgd ns=t at ht ⊢
   show ZT ([91]++t++[93]) sp=([91]++t++[93],0)
   have e1:([91]++t++[93]:LB).length-1=t.length+1:=by simp
   have e2:(([91]++t++[93]:LB).getD (([91]++t++[93]:LB).length-1) 0)=93:=by
    rw[e1,Xa,List.getElem?_append_right (by simp)]
    simp
   have e3:(([91]++t++[93]:LB).take (([91]++t++[93]:LB).length-1)).drop 1=t:=by
    rw[e1,XL (by simp)]
    rfl
   unfold ZT
   rw[if_pos (by rfl)]
   unfold Zar;rw[if_neg,e3,ht,if_pos rfl]
   ·show([91]++Zgd ns++[93],(0:Int))=_
    rw[hte]
   ·rintro(e|e)
    ·simp at e;omega
    ·exact e (by rw[e2];rfl)
  ·cases h0
end Go.Proofs.YtchkhibgbnhjpabGreatDoor
