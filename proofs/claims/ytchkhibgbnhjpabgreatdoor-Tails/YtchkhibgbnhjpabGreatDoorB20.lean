import Derived.Test.YtchkhibgbnhjpabGreatDoorB18
import Derived.Test.YtchkhibgbnhjpabGreatDoorB19
open List renaming getD_eq_getElem?_getD→Xa,drop_of_length_le→Xb,getElem?_eq_getElem→Xc,dropWhile_cons→Xd,any_eq_false→Xe,length_take→Xf,append_eq_nil_iff→Xg,not_mem_nil→Xh,length_cons→Xi,drop_eq_getElem_cons→Xj,map_cons→Xk,singleton_append→Xl,mem_cons→Xm,reverse_cons→Xo,length_drop→Xp,mem_singleton→Xs,cons_append→Xt,mem_reverse→Xu,any_eq_true→Xv,mem_flatMap→Xw,nil_append→Xy,drop_zero→Xz,all_cons→XA,mem_map→XB,reverse_singleton→XC,reverse_reverse→XD,mem_of_mem_take→XE,mem_of_mem_drop→XF,reverse_append→XG,map_congr_left→XH,append_assoc→XI,flatMap_cons→XJ,length_set→XK,take_left'→XL,mem_append→XM,take_zero→XN
open Nat renaming mod_eq_of_lt→Xq,le_refl→Xr,sub_self→XO
open UInt8 renaming toNat_ofNat'→Xn,toNat_inj→Xx
namespace Go.Proofs.YtchkhibgbnhjpabGreatDoor
open Go.RowKit
structure Asc (p:UInt8→Bool) (P:Int→Bool):Prop where
 lo:∀c:Int,0≤c→c<128→p (toB c)=P c
 hi:∀b:UInt8,128≤b.toNat→p b=false
 up:∀c:Int,128≤c→P c=false
theorem Z7{c:Int}(h:Pt c):(0≤c∧c<128∧(utf c).map toB=[toB c])∨(128≤c∧(utf c).map toB≠[]∧∀b∈(utf c).map toB,128≤b.toNat):=by
 by_cases hc:c<128
 ·exact Or.inl ⟨h.1,hc,by rw[ZmN hc];rfl⟩
 ·refine Or.inr ⟨by omega,?_,?_⟩
  ·unfold utf
   rw[if_neg hc]
   split
   ·simp
   ·split<;>simp
  ·intro b hb
   obtain⟨x,hx,rfl⟩:=XB.1 hb
   have h1:=Zka (by omega) h.2 hx
   have h2:=ZbF (n:=x) (by omega) h1.2
   omega
theorem bytesOf_cons(c:Int)(l:LI):Zb (c::l)=(utf c).map toB++Zb l:=by simp[Zb]
theorem Zm8(a b:LI):Zb (a++b)=Zb a++Zb b:=by simp[Zb]
theorem bytesOf_nil:Zb []=[]:=rfl
theorem Zr{l:LI}(hl:∀c∈l,Pt c):Zb l=[]↔l=[]:=by
 constructor
 ·intro h
  cases l with
  | nil=>rfl
  | cons c r=>
   rw[bytesOf_cons]at h;have h1:=(Xg.1 h).1
   rcases Z7 (hl c (by simp))with⟨-,-,e⟩|⟨-,e,-⟩
   ·rw[e]at h1;cases h1
   ·exact absurd h1 e
 ·intro h;rw[h];rfl
section
variable {p:UInt8→Bool} {P:Int→Bool} (h:Asc p P)
include h
theorem Asc.filter(l:List Int)(hl:∀c∈l,Pt c):(Zb l).filter (fun b=>!p b)=Zb (l.filter fun c=>!P c):=by
 induction l with
 | nil=>rfl
 | cons c r ih=>
  rw[bytesOf_cons,List.filter_append,ih (fun x hx=>hl x (by simp[hx]))]
  rcases Z7 (hl c (by simp))with⟨h0,h1,e⟩|⟨h0,-,e⟩
  ·rw[e]
   have hp:=h.lo c h0 h1
   cases hc:P c
   ·rw[hc]at hp
    simp[List.filter,hp,hc,bytesOf_cons,e]
   ·rw[hc]at hp
    simp[List.filter,hp,hc]
  ·have hc:=h.up c h0
   have:((utf c).map toB).filter (fun b=>!p b)=(utf c).map toB:=List.filter_eq_self.2 fun b hb=>by rw[h.hi b (e b hb)];rfl
   rw[this]
   simp[List.filter,hc,bytesOf_cons]
theorem Asc.dropWhile(l:List Int)(hl:∀c∈l,Pt c):(Zb l).dropWhile p=Zb (l.dropWhile P):=by
 induction l with
 | nil=>rfl
 | cons c r ih=>
  rcases Z7 (hl c (by simp))with⟨h0,h1,e⟩|⟨h0,e1,e⟩
  ·have hp:=h.lo c h0 h1
   rw[bytesOf_cons,e,Xl,Xd,Xd,hp]
   split
   ·exact ih (fun x hx=>hl x (by simp[hx]))
   ·rw[bytesOf_cons,e];rfl
  ·have hc:=h.up c h0
   rw[Xd,if_neg (by rw[hc];decide),bytesOf_cons]
   cases hx:(utf c).map toB with
   | nil=>exact absurd hx e1
   | cons b q=>
    have hb:=h.hi b (e b (by rw[hx];simp))
    rw[Xt,Xd,if_neg (by rw[hb];decide)]
theorem Asc.dropEnd'(r:List Int)(hl:∀c∈r,Pt c):((Zb r.reverse).reverse.dropWhile p).reverse=Zb (r.dropWhile P).reverse:=by
 induction r with
 | nil=>rfl
 | cons c r ih=>
  have ih':=ih (fun x hx=>hl x (by simp[hx]))
  rw[Xo,Xd,bytesOf_snoc,XG]
  rcases Z7 (hl c (by simp))with⟨h0,h1,e⟩|⟨h0,e1,e⟩
  ·have hp:=h.lo c h0 h1
   rw[e,XC,Xl,Xd,hp]
   split
   ·exact ih'
   ·rw[Xo,XD,Xo,bytesOf_snoc,e]
  ·have hc:=h.up c h0
   rw[if_neg (by rw[hc];decide),Xo,bytesOf_snoc]
   rcases List.eq_nil_or_concat ((utf c).map toB)with hx|⟨q,b,hx⟩
   ·exact absurd hx e1
   ·have hb:=h.hi b (e b (by rw[hx];simp))
    rw[hx,List.concat_eq_append,XG,XC,Xl,Xt,Xd,if_neg (by rw[hb];decide)]
    simp
theorem Asc.dropEnd(l:List Int)(hl:∀c∈l,Pt c):((Zb l).reverse.dropWhile p).reverse=Zb (l.reverse.dropWhile P).reverse:=by
 have h1:=Asc.dropEnd' h l.reverse (fun c hc=>hl c (Xu.1 hc))
 rw[XD]at h1;exact h1
theorem Asc.all(l:List Int)(hl:∀c∈l,Pt c):(Zb l).all p=l.all P:=by
 induction l with
 | nil=>rfl
 | cons c r ih=>
  rw[bytesOf_cons,List.all_append,XA,ih (fun x hx=>hl x (by simp[hx]))]
  rcases Z7 (hl c (by simp))with⟨h0,h1,e⟩|⟨h0,e1,e⟩
  ·rw[e];simp[h.lo c h0 h1]
  ·rw[h.up c h0]
   cases hx:(utf c).map toB with
   | nil=>exact absurd hx e1
   | cons b q=>rw[XA,h.hi b (e b (by rw[hx];simp))];rfl
theorem Asc.any(l:List Int)(hl:∀c∈l,Pt c):(Zb l).any p=l.any P:=by
 induction l with
 | nil=>rfl
 | cons c r ih=>
  rw[bytesOf_cons,List.any_append,List.any_cons,ih (fun x hx=>hl x (by simp[hx]))]
  rcases Z7 (hl c (by simp))with⟨h0,h1,e⟩|⟨h0,e1,e⟩
  ·rw[e];simp[h.lo c h0 h1]
  ·rw[h.up c h0]
   have:((utf c).map toB).any p=false:=Xe.2 fun b hb=>by rw[h.hi b (e b hb)];decide
   rw[this]
end
theorem Zbf{c:Int}(h0:0≤c)(h1:c<128):((toB c).toNat:Int)=c:=ZbF h0 (by omega)
theorem Zlw:Asc ZaO (fun c=>decide (c≤32)) where
 lo:=fun c h0 h1=>by unfold ZaO;rw[Zbf h0 h1]
 hi:=fun b hb=>by unfold ZaO;rw[decide_eq_false_iff_not];omega
 up:=fun c hc=>by rw[decide_eq_false_iff_not];omega
theorem ZeV{p:UInt8→Bool}{P:Int→Bool}(h:∀n:Fin 128,p (toB (n.val:Int))=P (n.val:Int))(c:Int)(h0:0≤c)(h1:c<128):p (toB c)=P c:=by
 have:=h ⟨c.toNat,by omega⟩
 rw[show((⟨c.toNat,by omega⟩:Fin 128).val:Int)=c from by simp;omega]at this
 exact this
theorem ZrH:Asc ZdX (fun c=>among c [9,10,13]) where
 lo:=ZeV (by decide)
 hi:=fun b hb=>by unfold ZdX;simp;omega
 up:=fun c hc=>by simp[among];omega
theorem Zem{α:Type}{p:α→Bool}{l:List α}{c:α}(h:c∈l.dropWhile p):c∈l:=(List.dropWhile_sublist p).subset h
theorem Zie{l:LI}{c:Int}(h:c∈trimmed l):c∈l:=by unfold trimmed ZeA Zj4 at h;exact Zem (Xu.1 (Zem (Xu.1 h)))
def Zlx(l:List UInt8):List Int:=flat (trimmed (Zj l))
theorem ZrI(l:LB):∀c∈Zlx l,Sc c:=fun c hc=>ZaX l c (Zie (List.mem_filter.1 hc).1)
theorem ZpS(l:LI)(hl:∀c∈l,Pt c):trimB (Zb l)=Zb (trimmed l):=by
 unfold trimB trimmed ZeA Zj4
 rw[Zlw.dropWhile l hl,Zlw.dropEnd _ (fun c hc=>hl c (Zem hc))]
theorem Zjs(l:LI)(hl:∀c∈l,Pt c):noBreaks (Zb l)=Zb (flat l):=by unfold noBreaks flat;exact ZrH.filter l hl
theorem Zm9(l:LB):wholeText l=Zb (Zlx l):=by
 unfold wholeText Zlx
 rw[←ZaU,ZpS _ (fun c hc=>(ZaX l c hc).pt),Zjs _ (fun c hc=>(ZaX l c (Zie hc)).pt)]
theorem ZdY:Asc (fun b=>alpha b.toNat) alpha where
 lo:=ZeV (p:=fun b=>alpha b.toNat) (P:=alpha) (by decide)
 hi:=fun b hb=>by simp[alpha];omega
 up:=fun c hc=>by simp[alpha];omega
theorem Zub:Asc ZgE Zdj where
 lo:=ZeV (by decide)
 hi:=fun b hb=>by simp[ZgE,alpha];omega
 up:=fun c hc=>by simp[Zdj,alpha,numeral,among];omega
theorem Zly(a:LI)(hl:∀c∈a,Pt c):Zcm (Zb a)=Zlv a:=by
 cases a with
 | nil=>rfl
 | cons c r=>
  unfold Zlv;rw[List.headD_cons,XA,bytesOf_cons]
  have hr:=Zub.all r (fun x hx=>hl x (by simp[hx]))
  rcases Z7 (hl c (by simp))with⟨h0,h1,e⟩|⟨h0,e1,e⟩
  ·rw[e,Xl]
   show(alpha ((toB c).toNat:Int)&&(Zb r).all ZgE)=_
   rw[Zbf h0 h1,hr]
   cases ha:alpha c
   ·rfl
   ·have:Zdj c=true:=by unfold Zdj;rw[ha];rfl
    rw[this];rfl
  ·rw[ZdY.up c h0]
   cases hx:(utf c).map toB with
   | nil=>exact absurd hx e1
   | cons b q=>
    show(alpha (b.toNat:Int)&&_)=_
    rw[ZdY.hi b (e b (by rw[hx];simp))];rfl
theorem Zjt:ZtB (isB 58) [58]:=Zei 58 (by decide) (by decide) 58 (by decide)
theorem ZrJ:ZtB (isB 35) [35]:=Zei 35 (by decide) (by decide) 35 (by decide)
theorem ZpT:ZtB (isB 63) [63]:=Zei 63 (by decide) (by decide) 63 (by decide)
theorem Zfk(sp:Bool):ZtB (slB sp) (if sp then [47,92]else [47]):=by
 cases sp
 ·exact⟨ZeV (P:=fun c=>among c [47]) (by decide),fun b hb=>by simp[slB,Zdv];omega,fun c hc=>by simp[among];omega⟩
 ·exact⟨ZeV (P:=fun c=>among c [47,92]) (by decide),fun b hb=>by simp[slB,Zdv];omega,fun c hc=>by simp[among];omega⟩
theorem Zlz(l:LI)(hl:∀c∈l,Pt c):Zaw (Zb l)=((schemeOf l).1,Zb (schemeOf l).2.1,(schemeOf l).2.2):=by
 have hc:=Zan Zjt l hl;unfold Zaw schemeOf;rw[hc];simp only
 rw[Zly _ (fun c h=>hl c (ZD (Or.inl h)))]
 by_cases h:(cut l [58]).2.2=true∧Zlv (cut l [58]).1=true
 ·rw[if_pos h,if_pos (by rw[h.1,h.2];rfl)]
 ·rw[if_neg h,if_neg (by simpa using h)]
def Zhw(gs:List (List UInt8)):List UInt8:=gs.flatMap fun g=>[58]++g
def Zhx:List (List UInt8)→List UInt8
 | []=>[]
 | g::r=>g++Zhw r
abbrev hx(x:Int):List UInt8:=Zfx x.toNat
theorem tailC_cons(g:LB)(r:List LB):Zhw (g::r)=[58]++g++Zhw r:=by simp[Zhw]
theorem Zwb(ns:LI)(hl:ns.length=8)(st ln:Nat):∀f i,st+ln≤i→st<i→8≤i+f→Zh7 ns st ln f i=if i=st+ln then Zhx ((ns.drop i).map hx)else Zhw ((ns.drop i).map hx):=by
 intro f
 induction f with
 | zero=>
  intro i h1 h2 h3
  rw[Zh7,Xb (by omega)]
  split<;>rfl
 | succ f ih=>
  intro i h1 h2 h3;rw[Zh7]
  by_cases h8:8≤i
  ·rw[if_pos h8,Xb (by omega)]
   split<;>rfl
  ·have hi:i<ns.length:=by omega
   have ihh:=ih (i+1) (by omega) (by omega) (by omega)
   rw[if_neg (by omega:¬i+1=st+ln)]at ihh
   rw[if_neg h8,if_neg (by omega),ihh,Xj hi,Xk,Xa,Xc hi]
   by_cases he:i=st+ln
   ·rw[if_neg (fun h=>h.2 he),if_pos he];rfl
   ·rw[if_pos ⟨by omega,he⟩,if_neg he,tailC_cons];rfl
theorem Zou(ns:LI)(hl:ns.length=8)(st ln:Nat)(hst:st<8)(hln:1≤ln):∀f i,i≤st→8≤i+f →
  Zh7 ns st ln f i=(if i=0 then Zhx (((ns.take st).drop i).map hx)else Zhw (((ns.take st).drop i).map hx))++([58,58]++Zhx ((ns.drop (st+ln)).map hx)):=by
 intro f
 induction f with
 | zero=>intro i h1 h2;omega
 | succ f ih=>
  intro i h1 h2
  rw[Zh7,if_neg (by omega)]
  by_cases he:i=st
  ·have hb:=Zwb ns hl st ln f (i+ln) (by omega) (by omega) (by omega)
   rw[if_pos (by omega:i+ln=st+ln)]at hb
   rw[if_pos he,hb,Xb (by rw[Xf];omega:(ns.take st).length≤i)]
   subst he
   split<;>rfl
  ·have hi:i<(ns.take st).length:=by rw[Xf];omega
   have ihh:=ih (i+1) (by omega) (by omega)
   rw[if_neg (by omega:¬i+1=0)]at ihh
   rw[if_neg he,ihh,Xj hi,Xk,List.getElem_take,Xa,Xc (by omega:i<ns.length)]
   by_cases h0:i=0
   ·subst h0
    rw[if_neg (by omega),if_pos rfl,Zhx]
    simp
   ·rw[if_pos ⟨by omega,by omega⟩,if_neg h0,tailC_cons]
    simp
theorem Zvw(ns:LI)(hl:ns.length=8)(st ln:Nat)(hst:8≤st):∀f i,8≤i+f →
  Zh7 ns st ln f i=if i=0 then Zhx ((ns.drop i).map hx)else Zhw ((ns.drop i).map hx):=by
 intro f
 induction f with
 | zero=>
  intro i h2
  rw[Zh7,Xb (by omega)]
  split<;>rfl
 | succ f ih=>
  intro i h2;rw[Zh7]
  by_cases h8:8≤i
  ·rw[if_pos h8,Xb (by omega)]
   split<;>rfl
  ·have hi:i<ns.length:=by omega
   have ihh:=ih (i+1) (by omega)
   rw[if_neg (by omega:¬i+1=0)]at ihh
   rw[if_neg h8,if_neg (by omega),ihh,Xj hi,Xk,Xa,Xc hi]
   by_cases he:i=0
   ·rw[if_neg (by omega),if_pos he];rfl
   ·rw[if_pos ⟨by omega,by omega⟩,if_neg he,tailC_cons];rfl
def Zxa(ns:List Int)(st ln:Nat):Prop:=(st=8∧ln=1)∨(st+ln≤8∧1≤ln∧∀k,st≤k→k<st+ln→ns.getD k 0=0)
theorem ZxO(ns:LI)(hl:ns.length=8):∀(rest:LI) i st ln run,rest=ns.drop i→run≤i→i≤8→1≤ln→(∀k,i-run≤k→k<i→ns.getD k 0=0)→((st=8∧ln=1)∨(st+ln≤8∧∀k,st≤k→k<st+ln→ns.getD k 0=0))→Zxa ns (lrGo i st ln run rest).1 (lrGo i st ln run rest).2:=by
 intro rest
 induction rest with
 | nil=>
  intro i st ln run h1 h2 h3 h4 h5 h6;rw[lrGo];rcases h6 with h|⟨h,k⟩
  ·exact Or.inl h
  ·exact Or.inr ⟨h,h4,k⟩
 | cons x r ih=>
  intro i st ln run h1 h2 h3 h4 h5 h6
  have hi:i<ns.length:=by
   rcases Nat.lt_or_ge i ns.length with h|h
   ·exact h
   ·rw[Xb h]at h1;cases h1
  rw[Xj hi]at h1;obtain⟨hx0,hr⟩:=List.cons.inj h1
  have hrun:∀k,i+1-(if x=0 then run+1 else 0)≤k→k<i+1→ns.getD k 0=0:=by
   intro k k1 k2
   split at k1
   ·next hz=>
    by_cases hk:k=i
    ·subst hk;rw[Xa,Xc hi,←hx0];exact hz
    ·exact h5 k (by omega) (by omega)
   ·omega
  have hrl:(if x=0 then run+1 else 0)≤i+1:=by split<;>omega
  rw[lrGo]
  generalize (if x=0 then run+1 else 0)=run' at *
  split
  ·refine ih (i+1) _ _ _ hr hrl (by omega) (by omega) hrun (Or.inr ⟨by omega,fun k k1 k2=>hrun k k1 (by omega)⟩)
  ·exact ih (i+1) _ _ _ hr hrl (by omega) h4 hrun h6
theorem Zju(ns:LI)(hl:ns.length=8):Zxa ns (Z0 ns).1 (Z0 ns).2:=
 ZxO ns hl ns 0 8 1 0 rfl (Xr _) (by omega) (Xr _) (fun k _ h=>absurd h (Nat.not_lt_zero _)) (Or.inl ⟨rfl,rfl⟩)
def NG:List UInt8→Prop
 | []=>True
 | c::r=>(c=58→∃d q,r=d::q∧d≠58)∧NG r
theorem Zov:∀(l:LB),NG l→cutGap l=([],[],false)
 | [],_=>rfl
 | [_],_=>rfl
 | c::d::r,h=>by
  rw[cutGap,if_neg,Zov (d::r) h.2,if_neg (by decide)]
  rintro⟨h1,h2⟩;obtain⟨e,q,he,hne⟩:=h.1 h1
  cases he
  exact hne h2
theorem Zvx:∀(a r:LB),NG a→cutGap (a++([58,58]++r))=(a,r,true)
 | [],r,_=>by simp[cutGap]
 | [c],r,h=>by
  have hc:¬c=58:=fun e=>by obtain⟨d,q,hq,-⟩:=h.1 e;cases hq
  show cutGap (c::58::58::r)=_
  rw[cutGap,if_neg (fun e=>hc e.1)]
  simp[cutGap]
 | c::d::a,r,h=>by
  have ih:=Zvx (d::a) r h.2
  show cutGap (c::d::(a++([58,58]++r)))=_
  rw[cutGap,if_neg]
  ·rw[show d::(a++([58,58]++r))=(d::a)++([58,58]++r)from rfl,ih]
   simp
  ·rintro⟨h1,h2⟩
   obtain⟨e,q,he,hne⟩:=h.1 h1
   cases he
   exact hne h2
def Zwc(g:List UInt8):Prop:=g≠[]∧∀b∈g,b≠58
theorem Zvy{g l:LB}(h:∀b∈g,b≠58)(hl:NG l):NG (g++l):=by
 induction g with
 | nil=>exact hl
 | cons c r ih=>exact⟨fun e=>absurd e (h c (by simp)),ih (fun b hb=>h b (by simp[hb]))⟩
theorem Zwd{gs:List LB}(h:∀g∈gs,Zwc g):NG (Zhw gs):=by
 induction gs with
 | nil=>exact True.intro
 | cons g r ih=>
  rw[tailC_cons,XI]
  show NG (58::(g++Zhw r))
  obtain⟨hn,hb⟩:=h g (by simp)
  refine⟨fun _=>?_,Zvy (g:=g) hb (ih fun q hq=>h q (by simp[hq]))⟩
  cases g with
  | nil=>exact absurd rfl hn
  | cons d q=>exact⟨d,q++Zhw r,rfl,hb d (by simp)⟩
theorem ZrK{gs:List LB}(h:∀g∈gs,Zwc g):NG (Zhx gs):=by
 cases gs with
 | nil=>exact True.intro
 | cons g r=>exact Zvy (h g (by simp)).2 (Zwd fun q hq=>h q (by simp[hq]))
theorem Zvz{b:UInt8}:isB 58 b=true↔b=58:=by
 unfold isB;rw[beq_iff_eq]
 constructor
 ·intro h
  have h2:b.toNat=(58:UInt8).toNat:=by show b.toNat=58;omega
  exact Xx.1 h2
 ·intro h;subst h;rfl
theorem ZdZ(g l:LB)(n:Int)(h:∀b∈g,isB n b=false):bsplit n (g++l)=match bsplit n l with | []=>[g]|p::q=>(g++p)::q:=by
 induction g with
 | nil=>
  obtain⟨p,q,hpq⟩:=Zf6 n l;rw[Xy,hpq]
  rfl
 | cons c r ih=>
  rw[Xt,bsplit,if_neg (by rw[h c (by simp)];decide),ih (fun b hb=>h b (by simp[hb]))]
  obtain⟨p,q,hpq⟩:=Zf6 n l;rw[hpq]
  rfl
theorem ZpU{gs:List LB}(h:∀g∈gs,Zwc g):bsplit 58 (Zhw gs)=[]::gs:=by
 induction gs with
 | nil=>rfl
 | cons g r ih=>
  have hb:∀b∈g,isB 58 b=false:=fun b hb=>by
   cases hh:isB 58 b
   ·rfl
   ·exact absurd (Zvz.1 hh) ((h g (by simp)).2 b hb)
  rw[tailC_cons,XI]
  show bsplit 58 (58::(g++Zhw r))=_
  rw[bsplit,if_pos (by decide),ZdZ g _ 58 hb,ih (fun q hq=>h q (by simp[hq]))]
  simp
theorem ZpV{g:LB}{r:List LB}(h:∀q∈g::r,Zwc q):bsplit 58 (Zhx (g::r))=g::r:=by
 have hb:∀b∈g,isB 58 b=false:=fun b hb=>by
  cases hh:isB 58 b
  ·rfl
  ·exact absurd (Zvz.1 hh) ((h g (by simp)).2 b hb)
 rw[Zhx,ZdZ g _ 58 hb,ZpU (fun q hq=>h q (by simp[hq]))]
 simp
theorem Zow{d:Nat}(h:d≤15):ZP ((Zdt d).toNat:Int) 16=((d:Int),true)∧Zdt d≠58∧Zdt d≠46:=by
 match d,h with
 | 0,_=>decide
 | 1,_=>decide
 | 2,_=>decide
 | 3,_=>decide
 | 4,_=>decide
 | 5,_=>decide
 | 6,_=>decide
 | 7,_=>decide
 | 8,_=>decide
 | 9,_=>decide
 | 10,_=>decide
 | 11,_=>decide
 | 12,_=>decide
 | 13,_=>decide
 | 14,_=>decide
 | 15,_=>decide
theorem Zuc(n:Nat):(Zfx n).length≤4:=by unfold Zfx;(repeat' split)<;>simp
theorem hexD_ne(n:Nat):Zfx n≠[]:=by unfold Zfx;(repeat' split)<;>simp
theorem Zox{n:Nat}(h:n≤65535):∀b∈Zfx n,b≠58∧b≠46:=by
 intro b hb
 have key:∀d,d≤15→b=Zdt d→b≠58∧b≠46:=fun d hd e=>by subst e;exact(Zow hd).2
 unfold Zfx at hb
 (repeat' split at hb)<;>simp only[Xm,Xh,or_false]at hb
 ·exact key _ (by omega) hb
 ·rcases hb with hb|hb<;>exact key _ (by omega) hb
 ·rcases hb with hb|hb|hb<;>exact key _ (by omega) hb
 ·rcases hb with hb|hb|hb|hb<;>exact key _ (by omega) hb
theorem ZbM(n d:Nat)(hd:d≤15)(hn:n≤65535)(r:LB):numGo 16 65535 (n:Int) (Zdt d::r)=numGo 16 65535 ((n*16+d:Nat):Int) r:=by
 rw[numGo,(Zow hd).1,if_pos rfl,if_pos (by omega)]
 simp
theorem Zud{n:Nat}(h:n≤65535):Zq (Zfx n) 16 65535=((n:Int),true):=by
 unfold Zq;rw[if_neg (hexD_ne n)]
 have key:numGo 16 65535 0 (Zfx n)=some (n:Int):=by
  show numGo 16 65535 ((0:Nat):Int) (Zfx n)=_
  unfold Zfx
  split
  ·rw[ZbM 0 n (by omega) (by omega),numGo];simp
  split
  ·rw[ZbM 0 _ (by omega) (by omega),ZbM _ _ (by omega) (by omega),numGo];congr 1;omega
  split
  ·rw[ZbM 0 _ (by omega) (by omega),ZbM _ _ (by omega) (by omega),ZbM _ _ (by omega) (by omega),numGo];congr 1;omega
  ·rw[ZbM 0 _ (by omega) (by omega),ZbM _ _ (by omega) (by omega),ZbM _ _ (by omega) (by omega),ZbM _ _ (by omega) (by omega),numGo];congr 1;omega
 rw[key]
 show(if(65535:Int)<n then _ else _)=_
 rw[if_neg (by omega)]
theorem ZvA{x:Int}(h:0≤x∧x≤65535):Zwc (hx x):=⟨hexD_ne _,fun b hb=>(Zox (by omega) b hb).1⟩
theorem Zxb{x:Int}(h:0≤x∧x≤65535)(g:LI×Nat):Zbl g (hx x)=ZfN g x:=by
 have:=Zud (n:=x.toNat) (by omega)
 unfold Zbl;rw[this,if_neg]
 ·congr 1;show((x.toNat:Nat):Int)=x;omega
 ·rintro(e|e)
  ·cases e
  ·have:(hx x).length≤4:=Zuc x.toNat
   omega
theorem Zue{l:LB}(h:∀b∈l,b≠46):among 46 l=false:=by
 cases hh:among 46 l
 ·rfl
 ·exfalso
  unfold among at hh;obtain⟨b,hb,he⟩:=Xv.1 hh
  refine h b hb (Xx.1 ?_)
  have:=of_decide_eq_true (p:=(b.toNat:Int)=46) (by simpa using he)
  show b.toNat=46
  omega
theorem Zfl:∀(xs zs:LI) (n:Nat),n+xs.length≤zs.length→putGo zs n xs=zs.take n++xs++zs.drop (n+xs.length):=by
 intro xs
 induction xs with
 | nil=>intro zs n h;rw[putGo];simp
 | cons x r ih=>
  intro zs n h;simp only[Xi]at h
  rw[putGo,ih (zs.set n x) (n+1) (by rw[XK];omega)]
  rw[List.take_set,List.drop_set,if_pos (by omega),List.take_succ_eq_append_getElem (by omega)]
  have:(zs.take n++[zs[n]]).set n x=zs.take n++[x]:=by
   rw[List.set_append_right _ _ (by rw[Xf];omega)]
   rw[Xf,Nat.min_eq_left (by omega),XO]
   rfl
  rw[this,Xi,show n+1+r.length=n+(r.length+1)by omega]
  simp
theorem Zuf(en:Bool):∀(xs zs:LI) (n:Nat),GOk xs→n+xs.length≤8→grpGo en (zs,n) (xs.map hx)=some (putGo zs n xs,n+xs.length):=by
 intro xs
 induction xs with
 | nil=>intro zs n _ _;rfl
 | cons x r ih=>
  intro zs n h hl;simp only[Xi]at hl
  have hx0:=h x (by simp)
  have ha:Zbl (zs,n) (hx x)=((zs.set n x,n+1),true):=by rw[Zxb hx0];unfold ZfN;rw[if_pos (by show n<8;omega)]
  rw[Xk,grpGo,Zue (fun b hb=>(Zox (by omega) b hb).2),if_neg (by rintro⟨-,-,e⟩;cases e),ha,if_pos rfl,ih _ _ (fun y hy=>h y (by simp[hy])) (by omega),putGo,Xi]
  congr 2;omega
theorem ZgH(en:Bool)(xs:LI)(h:GOk xs)(hl:xs.length≤8):ZB (Zhx (xs.map hx)) en=((putGo zeros8 0 xs,xs.length),true):=by
 cases xs with
 | nil=>rfl
 | cons x r=>
  have hg:∀q∈(x::r).map hx,Zwc q:=fun q hq=>by
   obtain⟨y,hy,rfl⟩:=XB.1 hq;exact ZvA (h y hy)
  have hs:=ZpV (g:=hx x) (r:=r.map hx) hg
  have hgo:=Zuf en (x::r) zeros8 0 h (by simpa using hl)
  unfold ZB;rw[if_neg,Xk,hs]
  ·rw[show zeroG=(zeros8,0)from rfl,←Xk,hgo]
   simp
  ·rw[Xk,Zhx]
   intro e;exact hexD_ne _ (Xg.1 e).1
theorem Zug{a b:LI}{n:Nat}(h:∀k,k<n→(a.getD k 0)=0)(hl:a.length=n)(hb:b=List.replicate n 0):a=b:=by
 subst hb
 refine List.ext_getElem (by simp[hl]) fun i h1 h2=>?_
 have:=h i (by omega)
 rw[Xa,Xc h1]at this
 simpa using this
theorem Zuh{ns:LI}(hl:ns.length=8)(h:GOk ns):ip6 (Zgc ns)=(ns,true):=by
 have hok:=Zju ns hl;unfold Zgc;generalize (Z0 ns).1=st at *;generalize (Z0 ns).2=ln at *
 have hgr:∀xs:LI,GOk xs→∀q∈xs.map hx,Zwc q:=fun xs hxs q hq=>by
  obtain⟨y,hy,rfl⟩:=XB.1 hq;exact ZvA (hxs y hy)
 by_cases h8:8≤st
 ·have ht:=Zvw ns hl st ln h8 8 0 (by omega)
  rw[if_pos rfl,Xz]at ht;rw[ht];unfold ip6;rw[Zov _ (ZrK (hgr ns h)),if_pos rfl];unfold Zg9
  rw[ZgH true ns h (by omega),if_neg (by rintro(e|e);cases e;exact e hl),Zfl ns zeros8 0 (by rw[hl];decide),hl]
  simp[zeros8]
 ·rcases hok with⟨e,-⟩|⟨h1,h2,h3⟩
  ·omega
  ·have ht:=Zou ns hl st ln (by omega) h2 8 0 (by omega) (by omega)
   rw[if_pos rfl,Xz]at ht;rw[ht]
   have ga:GOk (ns.take st):=fun x hx=>h x (XE hx)
   have gb:GOk (ns.drop (st+ln)):=fun x hx=>h x (XF hx)
   have la:(ns.take st).length=st:=by rw[Xf];omega
   have lb:(ns.drop (st+ln)).length=8-(st+ln):=by rw[Xp];omega
   unfold ip6
   rw[Zvx _ _ (ZrK (hgr _ ga)),if_neg (by intro e;cases e)]
   simp only
   rw[ZgH false _ ga (by omega),ZgH true _ gb (by omega)]
   simp only
   rw[la,lb,if_neg (by rintro(e|e|e);cases e;cases e;omega),Zfl (ns.drop (st+ln)) zeros8 0 (by rw[lb];show 0+_≤8;omega)]
   have hz:zeros8.length=8:=rfl;rw[XN,Xy,XL lb]
   rw[Zfl (ns.take st) zeros8 0 (by rw[la,hz];omega),XN,Xy,la]
   rw[show 8-(8-(st+ln))=st+ln by omega]
   have l3:(ns.take st++zeros8.drop (0+st)).length=8:=by rw[List.length_append,la,Xp,hz];omega
   rw[Zfl _ _ _ (by rw[lb,l3];omega),lb,show st+ln+(8-(st+ln))=8 by omega,Xb (Nat.le_of_eq l3),List.append_nil]
   refine Prod.ext ?_ rfl
   show List.take (st+ln) (ns.take st++zeros8.drop (0+st))++ns.drop (st+ln)=ns
   conv=>rhs;rw[←List.take_append_drop (st+ln) ns]
   congr 1
   rw[List.take_append,List.take_of_length_le (by omega:(ns.take st).length≤st+ln),la,show st+ln-st=ln by omega]
   have hsplit:ns.take (st+ln)=ns.take st++(ns.drop st).take ln:=by rw[List.take_add]
   rw[hsplit]
   congr 1
   have hrep:zeros8.drop (0+st)=List.replicate (8-st) 0:=by
    show(List.replicate 8 (0:Int)).drop (0+st)=_
    rw[List.drop_replicate];congr 1;omega
   symm
   refine Zug (n:=ln) (fun k hk=>?_) (by rw[Xf,Xp];omega) ?_
   ·have:=h3 (st+k) (by omega) (by omega)
    rw[Xa]at this ⊢;rw[List.getElem?_take,if_pos hk,List.getElem?_drop];exact this
   ·rw[hrep,List.take_replicate];congr 1;omega
def Pr(l:List UInt8):Prop:=∀b∈l,32≤b.toNat∧b.toNat≤126
theorem pr_nil:Pr []:=fun b hb=>by cases hb
theorem Zgh{a b:LB}(ha:Pr a)(hb:Pr b):Pr (a++b):=fun x hx=>(XM.1 hx).elim (ha x) (hb x)
theorem ZfB{c:UInt8}(h1:32≤c.toNat)(h2:c.toNat≤126):Pr [c]:=fun b hb=>by rw[Xs]at hb;subst hb;exact⟨h1,h2⟩
theorem Zna{c:UInt8}{l:LB}(h1:32≤c.toNat)(h2:c.toNat≤126)(h:Pr l):Pr (c::l):=Zgh (a:=[c]) (ZfB h1 h2) h
theorem Zko{n:Nat}(h1:32≤n)(h2:n≤126):32≤(UInt8.ofNat n).toNat∧(UInt8.ofNat n).toNat≤126:=by rw[Xn,Xq (by omega)];exact⟨h1,h2⟩
theorem ZvB{n:Int}(h1:32≤n)(h2:n≤126):32≤(toB n).toNat∧(toB n).toNat≤126:=Zko (by omega) (by omega)
theorem Zjv{n:Int}(h0:0≤n)(h1:n<16):32≤capital n∧capital n≤126:=by unfold capital;split<;>omega
theorem Zjw(set:LB)(b:UInt8):Pr (Zab set b):=by
 have hb:=b.toNat_lt;unfold Zab
 split
 ·have h1:=Zjv (n:=(b.toNat:Int)/16) (by omega) (by omega)
  have h2:=Zjv (n:=(b.toNat:Int)%16) (by omega) (by omega)
  have k1:=ZvB h1.1 h1.2;have k2:=ZvB h2.1 h2.2
  exact Zna (by decide) (by decide) (Zna k1.1 k1.2 (ZfB k2.1 k2.2))
 ·next h=>
  refine ZfB ?_ ?_
  ·have:¬(b.toNat:Int)<32:=fun hh=>h (Or.inl hh)
   omega
  ·have:¬126<(b.toNat:Int):=fun hh=>h (Or.inr (Or.inl hh))
   omega
theorem Zen(set l:LB):Pr (encB set l):=by intro b hb;unfold encB at hb;obtain⟨c,-,hc⟩:=Xw.1 hb;exact Zjw set c b hc
theorem Zwe{d:Nat}(h:d≤9):48≤(Zhv d).toNat∧(Zhv d).toNat≤57:=by unfold Zhv;rw[Xn,Xq (by omega)];omega
def Dg(l:List UInt8):Prop:=∀b∈l,48≤b.toNat∧b.toNat≤57
theorem Dg.pr{l:LB}(h:Dg l):Pr l:=fun b hb=>by have:=h b hb;omega
theorem ZgI{n:Nat}(h:n≤99999):Dg (Zce n):=by
 intro b hb
 have key:∀d,d≤9→b=Zhv d→48≤b.toNat∧b.toNat≤57:=fun d hd e=>by subst e;exact Zwe hd
 unfold Zce at hb
 (repeat' split at hb)<;>simp only[Xm,Xh,or_false]at hb
 ·exact key _ (by omega) hb
 ·rcases hb with hb|hb<;>exact key _ (by omega) hb
 ·rcases hb with hb|hb|hb<;>exact key _ (by omega) hb
 ·rcases hb with hb|hb|hb|hb<;>exact key _ (by omega) hb
 ·rcases hb with hb|hb|hb|hb|hb<;>exact key _ (by omega) hb
theorem Zwf(v:Nat):∀k,Pr (ZmY v k):=by
 intro k
 induction k with
 | zero=>exact pr_nil
 | succ k ih=>
  rw[ZmY]
  have:v/256^k%256<256:=Nat.mod_lt _ (by decide)
  refine Zgh (ZgI (by omega)).pr ?_
  split
  ·exact Zgh (ZfB (by decide) (by decide)) ih
  ·exact ih
theorem Zwg{d:Nat}(h:d≤15):32≤(Zdt d).toNat∧(Zdt d).toNat≤126:=by
 unfold Zdt
 split
 ·exact Zko (by omega) (by omega)
 ·exact Zko (by omega) (by omega)
theorem Zwh{n:Nat}(h:n≤65535):Pr (Zfx n):=by
 intro b hb
 have key:∀d,d≤15→b=Zdt d→32≤b.toNat∧b.toNat≤126:=fun d hd e=>by subst e;exact Zwg hd
 unfold Zfx at hb
 (repeat' split at hb)<;>simp only[Xm,Xh,or_false]at hb
 ·exact key _ (by omega) hb
 ·rcases hb with hb|hb<;>exact key _ (by omega) hb
 ·rcases hb with hb|hb|hb<;>exact key _ (by omega) hb
 ·rcases hb with hb|hb|hb|hb<;>exact key _ (by omega) hb
theorem ZxP{ns:LI}(h:GOk ns)(st ln:Nat):∀f i,Pr (Zh7 ns st ln f i):=by
 intro f
 induction f with
 | zero=>intro i;exact pr_nil
 | succ f ih=>
  intro i;rw[Zh7]
  split
  ·exact pr_nil
  split
  ·exact Zgh (Zna (by decide) (by decide) (ZfB (by decide) (by decide))) (ih _)
  ·refine Zgh (Zgh ?_ (Zwh ?_)) (ih _)
   ·split
    ·exact ZfB (by decide) (by decide)
    ·exact pr_nil
   ·by_cases hi:i<ns.length
    ·have:=h ns[i] (List.getElem_mem hi)
     rw[Xa,Xc hi];simp only[Option.getD_some]
     omega
    ·rw[Xa,List.getElem?_eq_none (by omega)]
     simp
theorem Znb{l:LB}(h1:beyondB l=false)(h2:plainDom l=true):Pr l:=by
 intro b hb;unfold beyondB at h1;unfold plainDom at h2
 have h3:(l.any ZiQ)=false:=by
  cases h:l.any ZiQ
  ·rfl
  ·rw[h]at h2;simp at h2
 have k1:=Xe.1 h1 b hb;have k2:=Xe.1 h3 b hb;unfold ZiQ at k2;simp only[Bool.or_eq_true,decide_eq_true_eq,beq_iff_eq,not_or]at k1 k2
 omega
theorem Zoy(l:LB)(sp:Bool):Pr (ZT l sp).1:=by
 unfold ZT
 split
 ·unfold Zav
  split
  ·exact pr_nil
  split
  ·refine Zgh (Zgh (ZfB (by decide) (by decide)) ?_) (ZfB (by decide) (by decide))
   exact ZxP (Zop _) _ _ _ _
  ·exact pr_nil
 split
 ·unfold ZaL
  split
  ·exact pr_nil
  next hb=>
   split
   ·exact pr_nil
   next hp=>
    unfold Zey
    split
    ·refine Znb ?_ ?_
     ·cases h:beyondB (lower (ZA l))
      ·rfl
      ·rw[h]at hb;simp at hb
     ·cases h:plainDom (lower (ZA l))
      ·exact absurd h hp
      ·rfl
    split
    ·exact Zwf _ _
    ·exact pr_nil
 ·unfold Zcg
  split
  ·exact pr_nil
  ·exact Zen _ _
theorem decD_ne(n:Nat):Zce n≠[]:=by unfold Zce;(repeat' split)<;>simp
theorem ZlA(want:Int):∀l lo hi sz,sz≤Zaj want lo hi sz l:=by
 intro l
 induction l with
 | nil=>intro lo hi sz;rw[Zaj];exact Xr _
 | cons c r ih=>
  intro lo hi sz;rw[Zaj]
  split
  ·exact Nat.le_trans (Nat.le_succ _) (ih _ _ _)
  ·exact Xr _
theorem Zkp{l:LB}(h:l≠[]):clean l≠[]:=by
 cases l with
 | nil=>exact absurd rfl h
 | cons c r=>
  conv=>lhs;unfold clean
  intro e;have e1:=(Xg.1 e).1
  split at e1
  ·have h1:1≤(measure (c::r)).1:=by show 1≤Zaj _ _ _ 1 r;exact ZlA _ _ _ _ _
   have:=congrArg List.length e1;rw[Xf]at this;simp only[Xi,List.length_nil]at this
   omega
  ·cases e1
theorem ZrL{set l:LB}(h:l≠[]):encB set l≠[]:=by
 cases l with
 | nil=>exact absurd rfl h
 | cons c r=>
  unfold encB;rw[XJ];intro e;have e1:=(Xg.1 e).1;unfold Zab at e1
  split at e1<;>cases e1
theorem Zui{l:LB}{sp:Bool}(h:l≠[])(h0:(ZT l sp).2=0):(ZT l sp).1≠[]:=by
 unfold ZT at h0 ⊢
 split
 ·next hb=>
  rw[if_pos hb]at h0;unfold Zav at h0 ⊢
  split
  ·next hc=>rw[if_pos hc]at h0;cases h0
  split
  ·simp
  ·next hc hd=>rw[if_neg hc,if_neg hd]at h0;cases h0
 next hb=>
  rw[if_neg hb]at h0
  split
  ·next hs=>
   rw[if_pos hs]at h0;unfold ZaL at h0 ⊢
   split
   ·next hc=>rw[if_pos hc]at h0;cases h0
   next hc=>
    rw[if_neg hc]at h0
    split
    ·next hd=>rw[if_pos hd]at h0;cases h0
    next hd=>
     rw[if_neg hd]at h0;unfold Zey at h0 ⊢
     split
     ·intro e
      have e':lower (ZA l)=[]:=e;rw[e']at hd
      exact hd (by decide)
     split
     ·show Zdg _≠[]
      unfold Zdg;rw[ZmY];intro e;exact decD_ne _ (Xg.1 e).1
     ·next h1 h2=>rw[if_neg h1,if_neg h2]at h0;cases h0
  ·next hs=>
   rw[if_neg hs]at h0;unfold Zcg at h0 ⊢
   split
   ·next hc=>rw[if_pos hc]at h0;cases h0
   ·exact ZrL (Zkp h)
theorem Zdk:∀ {l:LB},(∀b∈l,b.toNat<128)→clean l=l:=by
 intro l
 induction l with
 | nil=>intro _;exact clean_nil
 | cons c r ih=>
  intro h
  have hf:follow (c.toNat:Int)=(1,0,0):=if_pos (by have:=h c (by simp);omega)
  have hg:∀q:LB,Zaj 1 0 0 1 q=1:=fun q=>by
   cases q with
   | nil=>rfl
   | cons a b=>rw[Zaj,if_neg (by rintro⟨e,-⟩;exact absurd e (by decide))]
  have hm:measure (c::r)=(1,true):=by
   rw[measure,hf];simp only;rw[hg]
   rfl
  rw[Zc2,hm];simp only[if_true,XO,Xz]
  rw[ih (fun b hb=>h b (by simp[hb]))]
  rfl
def Asis(set l:List UInt8):Prop:=∀b∈l,32≤b.toNat∧b.toNat≤126∧among (b.toNat:Int) set=false
theorem ZrM{set l:LB}(h:Asis set l):encB set l=l:=by
 induction l with
 | nil=>rfl
 | cons c r ih=>
  have hc:=h c (by simp)
  unfold encB at ih ⊢
  rw[XJ,ih (fun b hb=>h b (by simp[hb]))]
  unfold Zab;rw[if_neg]
  ·rfl
  ·rintro(e|e|e)
   ·omega
   ·omega
   ·rw[hc.2.2]at e;cases e
theorem Asis.clean{set l:LB}(h:Asis set l):encB set (Go.Proofs.YtchkhibgbnhjpabGreatDoor.clean l)=l:=by rw[Zdk (fun b hb=>by have:=h b hb;omega),ZrM h]
def ZiW(set:List UInt8):Prop:=∀n:Nat,n=37∨(48≤n∧n≤57)∨(65≤n∧n≤70)→among (n:Int) set=false
theorem Zby{n:Int}(h0:0≤n)(h1:n<16):(48≤(toB (capital n)).toNat∧(toB (capital n)).toNat≤57)∨(65≤(toB (capital n)).toNat∧(toB (capital n)).toNat≤70):=by
 unfold capital toB
 split
 ·left;rw[Xn,Xq (by omega)];omega
 ·right;rw[Xn,Xq (by omega)];omega
theorem ZcG{set:LB}(hs:ZiW set)(l:LB):Asis set (encB set l):=by
 intro b hb;obtain⟨c,-,hc⟩:=Xw.1 hb;have hp:=Zjw set c b hc
 refine⟨hp.1,hp.2,?_⟩
 have hcl:=c.toNat_lt;unfold Zab at hc
 split at hc
 ·simp only[Xm,Xh,or_false]at hc
  rcases hc with rfl|rfl|rfl
  ·exact hs 37 (Or.inl rfl)
  ·exact hs _ (Or.inr (Zby (by omega) (by omega)))
  ·exact hs _ (Or.inr (Zby (by omega) (by omega)))
 ·next hn=>
  rw[Xs]at hc;subst hc
  cases ha:among (b.toNat:Int) set
  ·rfl
  ·exact absurd (Or.inr (Or.inr ha)) hn
theorem Zfm{set:LB}(h:∀b∈set,¬(b.toNat=37∨(48≤b.toNat∧b.toNat≤57)∨(65≤b.toNat∧b.toNat≤70))):ZiW set:=by
 intro n hn
 cases ha:among (n:Int) set
 ·rfl
 ·exfalso
  unfold among at ha;obtain⟨b,hb,he⟩:=Xv.1 ha
  have:b.toNat=n:=by have:=of_decide_eq_true (p:=(b.toNat:Int)=n) (by simpa using he);omega
  exact h b hb (by rw[this];exact hn)
theorem Zxc:ZiW (tl (ZaJ 0)):=Zfm (by decide)
theorem Zxd:ZiW (tl (ZaJ 1)):=Zfm (by decide)
theorem Zxe:ZiW (tl (ZaJ 2)):=Zfm (by decide)
theorem Zxf:ZiW (tl (ZaJ 3)):=Zfm (by decide)
theorem Zxg:ZiW (tl (ZaJ 4)):=Zfm (by decide)
theorem Zoz:ZiW (tl (ZaJ 5)):=Zfm (by decide)
theorem Zwi{set:LB}(hs:ZiW set)(l:LB):encB set (clean (encB set l))=encB set l:=(ZcG hs l).clean
theorem Zjx:∀ {l:LB},(∀b∈l,b≠37)→ZA l=l:=by
 intro l
 induction l with
 | nil=>intro _;exact Zed
 | cons c r ih=>
  intro h
  have hc:(Zdc (c::r)).2=false:=by
   unfold Zdc
   split
   ·next e=>
    cases e
    rw[if_neg (fun e=>h c (by simp) e.1)]
   ·rfl
  rw[ZeK,hc,if_neg (by decide),ih (fun b hb=>h b (by simp[hb]))]
theorem Zuj(b:UInt8):Zd9 (Zd9 b)=Zd9 b:=by
 by_cases h:65≤b.toNat∧b.toNat≤90
 ·have:=Zj5 h.1 h.2
  exact ZdS (by omega)
 ·rw[ZdS h,ZdS h]
theorem ZrN(l:LB):lower (lower l)=lower l:=by
 unfold lower;rw[List.map_map]
 exact XH fun b _=>Zuj b
theorem Zuk{l:LB}(h:∀b∈l,¬(65≤b.toNat∧b.toNat≤90)):lower l=l:=by
 unfold lower
 conv=>rhs;rw[←List.map_id l]
 exact XH fun b hb=>ZdS (h b hb)
theorem Zhf{l:LB}(h:plainDom l=true):∀b∈l,ZiQ b=false:=by
 intro b hb;unfold plainDom at h;rw[Bool.and_eq_true]at h
 have h3:(l.any ZiQ)=false:=by
  cases hh:l.any ZiQ
  ·rfl
  ·rw[hh]at h;exact absurd h.1 (by decide)
 have:=Xe.1 h3 b hb
 simpa using this
theorem ZlB{b:UInt8}(h:ZiQ b=false):b≠37∧b≠91:=by
 constructor
 ·rintro rfl;exact absurd h (by decide)
 ·rintro rfl;exact absurd h (by decide)
theorem Zif{l:LB}(h:∀b∈l,b≠91):¬((l.getD 0 0).toNat:Int)=91:=by
 cases l with
 | nil=>decide
 | cons c r=>
  intro e
  refine h c (by simp) (Xx.1 ?_)
  have e':(c.toNat:Int)=91:=e
  show c.toNat=91
  omega
theorem ZpW{l:LB}(h0:(ZaL l).2=0)(he:Zb5 (Zex (bsplit 46 (lower (ZA l))))=false):ZT (ZaL l).1 true=((ZaL l).1,0):=by
 unfold ZaL at h0 ⊢
 split at h0
 ·cases h0
 next h1=>
  split at h0
  ·cases h0
  next h2=>
   rw[if_neg h1,if_neg h2];have hd:Zey (lower (ZA l)) (Zex (bsplit 46 (lower (ZA l))))=(lower (ZA l),0):=if_pos he;rw[hd]
   have hp:plainDom (lower (ZA l))=true:=by simpa using h2
   have hb:=Zhf hp
   have hx:lower (ZA (lower (ZA l)))=lower (ZA l):=by rw[Zjx (fun b hb'=>(ZlB (hb b hb')).1),ZrN]
   show ZT (lower (ZA l)) true=_
   unfold ZT
   rw[if_neg (Zif fun b hb'=>(ZlB (hb b hb')).2),if_pos rfl]
   unfold ZaL;rw[hx,if_neg h1,if_neg h2,hd]
theorem Zig:∀(n:Nat) (l:LB),l.length≤n→∀b∈clean l,b∈l∨128≤b.toNat:=by
 intro n
 induction n with
 | zero=>
  intro l hl b hb
  have:l=[]:=List.length_eq_zero_iff.1 (by omega)
  subst this;rw[clean_nil]at hb
  cases hb
 | succ n ih=>
  intro l hl b hb
  cases l with
  | nil=>rw[clean_nil]at hb;cases hb
  | cons c r=>
   rw[Zc2]at hb;rcases XM.1 hb with hb|hb
   ·split at hb
    ·exact Or.inl (XE hb)
    ·right
     simp only[Xm,Xh,or_false]at hb;rcases hb with rfl|rfl|rfl<;>decide
   ·simp only[Xi]at hl
    rcases ih (r.drop ((measure (c::r)).1 - 1)) (by rw[Xp];omega) b hb with h|h
    ·exact Or.inl (List.mem_cons_of_mem _ (XF h))
    ·exact Or.inr h
theorem Zwj{b:UInt8}(h:among (b.toNat:Int) Zej=true):b.toNat≤124∧¬(b.toNat=37∨(48≤b.toNat∧b.toNat≤57)∨(65≤b.toNat∧b.toNat≤70)):=by
 unfold among at h;obtain⟨c,hc,he⟩:=Xv.1 h
 have e:c.toNat=b.toNat:=by have:=of_decide_eq_true (p:=(c.toNat:Int)=b.toNat) (by simpa using he);omega
 have key:∀c∈Zej,c.toNat≤124∧¬(c.toNat=37∨(48≤c.toNat∧c.toNat≤57)∨(65≤c.toNat∧c.toNat≤70)):=by decide
 rw[←e];exact key c hc
theorem ZlC{set l:LB}(h:(l.any fun b=>among b.toNat Zej)=false):((encB set (clean l)).any fun b=>among b.toNat Zej)=false:=by
 rw[Xe];intro b hb ha;have hf:=Zwj ha;obtain⟨c,hcm,hc⟩:=Xw.1 hb;have hcl:=c.toNat_lt;unfold Zab at hc
 split at hc
 ·simp only[Xm,Xh,or_false]at hc
  rcases hc with rfl|rfl|rfl
  ·exact hf.2 (Or.inl rfl)
  ·exact hf.2 (Or.inr (Zby (by omega) (by omega)))
  ·exact hf.2 (Or.inr (Zby (by omega) (by omega)))
 ·rw[Xs]at hc
  subst hc;rcases Zig _ l (Xr _) b hcm with h1|h1
  ·exact Xe.1 h b h1 ha
  ·omega
theorem ZrO{l:LB}(h0:(Zcg l).2=0):ZT (Zcg l).1 false=((Zcg l).1,0):=by
 unfold Zcg at h0 ⊢
 split at h0
 ·cases h0
 next h1=>
  rw[if_neg h1]
  have hf:(l.any fun b=>among b.toNat Zej)=false:=by simpa using h1
  have h2:=ZlC (set:=tl (ZaJ 0)) hf
  show ZT (encB (tl (ZaJ 0)) (clean l)) false=_
  unfold ZT
  rw[if_neg (Zif fun b hb e=>Xe.1 h2 b hb (by rw[e];decide)),if_neg (by decide)]
  unfold Zcg
  rw[if_neg (by rw[h2];decide),Zwi Zxc]
theorem ZrP:∀(xs zs:LI) (n:Nat),(putGo zs n xs).length=zs.length:=by
 intro xs
 induction xs with
 | nil=>intro zs n;rw[putGo]
 | cons x r ih=>intro zs n;rw[putGo,ih,XK]
theorem ZrQ(en:Bool)(ps:List LB):∀g q,grpGo en g ps=some q→q.1.length=g.1.length:=by
 induction ps with
 | nil=>intro g q h;rw[grpGo]at h;cases h;rfl
 | cons p r ih=>
  intro g q h;rw[grpGo]at h
  split at h
  ·split at h
   ·rw[ih _ _ h,Zjg]
   ·cases h
  ·split at h
   ·rw[ih _ _ h,Zfh]
   ·cases h
theorem Zih(l:LB)(en:Bool):(ZB l en).1.1.length=8:=by
 unfold ZB
 split
 ·rfl
 ·split
  ·rfl
  ·next h=>rw[ZrQ _ _ _ _ h];rfl
theorem Zwk(l:LB):(ip6 l).1.length=8:=by
 unfold ip6
 split
 ·unfold Zg9
  split
  ·rfl
  ·exact Zih _ _
 split
 ·rfl
 ·rw[ZrP];exact Zih _ _
theorem ZlD{l:LB}(sp:Bool)(h0:(Zav l).2=0):ZT (Zav l).1 sp=((Zav l).1,0):=by
 unfold Zav at h0 ⊢
 split at h0
 ·cases h0
 next h1=>
  split at h0
  ·next h2=>
   rw[if_neg h1,if_pos h2];have hl:=Zwk ((l.take (l.length-1)).drop 1);have hg:=Zop ((l.take (l.length-1)).drop 1);generalize (ip6 ((l.take (l.length-1)).drop 1)).1=ns at *;have ht:=Zuh hl hg;generalize hte:Zgc ns=t at ht ⊢
   show ZT ([91]++t++[93]) sp=([91]++t++[93],0)
   have e1:([91]++t++[93]:LB).length-1=t.length+1:=by simp
   have e2:(([91]++t++[93]:LB).getD (([91]++t++[93]:LB).length-1) 0)=93:=by
    rw[e1,Xa,List.getElem?_append_right (by simp)]
    simp
   have e3:(([91]++t++[93]:LB).take (([91]++t++[93]:LB).length-1)).drop 1=t:=by
    rw[e1,XL (by simp)]
    rfl
   unfold ZT
   rw[if_pos (by rfl)]
   unfold Zav;rw[if_neg,e3,ht,if_pos rfl]
   ·show([91]++Zgc ns++[93],(0:Int))=_
    rw[hte]
   ·rintro(e|e)
    ·simp at e;omega
    ·exact e (by rw[e2];rfl)
  ·cases h0
end Go.Proofs.YtchkhibgbnhjpabGreatDoor
