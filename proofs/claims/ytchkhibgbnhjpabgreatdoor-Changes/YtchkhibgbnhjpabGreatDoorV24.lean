import Derived.Test.YtchkhibgbnhjpabGreatDoorV21
import Derived.Test.YtchkhibgbnhjpabGreatDoorV23
import Derived.Maps.AppendAt
open Array renaming getElem?_eq_some_iff→Xu
open List renaming take_succ_eq_append_getElem→Xa,mem_cons_of_mem→Xb,append_nil→Xd,length_append→Xe,length_filter_le→Xf,length_cons→Xg,mem_reverse→Xh,map_map→Xi,take_of_length_le→Xk,length_map→Xl,map_congr_left→Xm,length_reverse→Xn,mem_cons→Xo,mem_map→Xp,getElem_mem→Xq,map_append→Xs,length_nil→Xt,take_append_drop→Xv,reverse_reverse→Xw,reverse_append→Xx,length_take_le→Xy,flatMap_cons→Xz,filter_congr→XA,not_mem_nil→XB,length_take→XC,mem_append→XD,foldl_cons→XE,filter_map→XF
open Nat renaming le_trans→Xc,zero_le→Xj
open UInt8 renaming toNat_inj→Xr
namespace Go.Proofs.YtchkhibgbnhjpabGreatDoor
open Go.RowKit
set_option maxHeartbeats 4000000
set_option maxRecDepth 8000
def Zbt(c:UInt8):List (List UInt8)→List UInt8
 | []=>[]
 | a::r=>if r=[]then a else a++c::Zbt c r
theorem joinW_snoc(c:UInt8)(l:List LB)(a:LB):Zbt c (l++[a])=if l=[]then a else Zbt c l++c::a:=by
 induction l with
 | nil=>rfl
 | cons x r ih=>
  rw[if_neg (by simp)]
  show(if r++[a]=[]then x else x++c::Zbt c (r++[a]))=_
  rw[if_neg (by simp),ih]
  by_cases hr:r=[]
  ·subst hr;rfl
  ·rw[if_neg hr]
   show _=(if r=[]then x else x++c::Zbt c r)++c::a
   rw[if_neg hr]
   simp
def formB:List UInt8:=tl (ZaN 7)
def ZaG(l:List UInt8):List UInt8:=Zbt 43 ((bsplit 32 l).map fun p=>encB formB (clean p))
def writePr(p:List UInt8×List UInt8):List UInt8:=ZaG p.1++61::ZaG p.2
def ZR(ps:List (List UInt8×List UInt8)):List UInt8:=Zbt 38 (ps.map writePr)
def formByte(b:UInt8):List UInt8:=if b=32 then [43]else ZN formB b
def Cpt(l:List UInt8):Prop:=∃p,l=Zn p∧∀c∈p,Sc c
theorem Zeo(l:LB):Cpt (clean l):=⟨Z1 l,Zi5 l,ZnC l⟩
theorem Cpt.clean{l:LB}(h:Cpt l):clean l=l:=by obtain⟨p,rfl,hp⟩:=h;exact Zee p hp
theorem ZtE(b:UInt8):isB 32 b=true↔b=32:=by
 unfold isB;rw[beq_iff_eq]
 constructor
 ·intro h
  exact Xr.1 (show b.toNat=(32:UInt8).toNat by show b.toNat=32;omega)
 ·rintro rfl;rfl
theorem ZmB(l:LB):Zbt 43 ((bsplit 32 l).map (encB formB))=l.flatMap formByte:=by
 induction l with
 | nil=>rfl
 | cons c r ih=>
  obtain⟨p,q,hpq⟩:=Zb7 32 r;rw[Xz,←ih]
  by_cases hc:isB 32 c=true
  ·rw[show bsplit 32 (c::r)=[]::bsplit 32 r by rw[bsplit,if_pos hc],hpq,formByte,if_pos ((ZtE c).1 hc)]
   show(if(p::q).map (encB formB)=[]then encB formB []else encB formB []++43::Zbt 43 ((p::q).map (encB formB)))=_
   rw[if_neg (by simp)]
   rfl
  ·rw[show bsplit 32 (c::r)=(c::p)::q by rw[bsplit,if_neg hc,hpq],hpq,formByte,if_neg (fun e=>hc ((ZtE c).2 e))]
   show(if q.map (encB formB)=[]then encB formB (c::p)else encB formB (c::p)++43::Zbt 43 (q.map (encB formB)))=ZN formB c++(if q.map (encB formB)=[]then encB formB p else encB formB p++43::Zbt 43 (q.map (encB formB)))
   rw[Zdk]
   split
   ·rfl
   ·rw[List.append_assoc]
theorem ZbC{l:LB}(h:Cpt l):ZaG l=l.flatMap formByte:=by
 rw[←ZmB];unfold ZaG;obtain⟨p,rfl,hp⟩:=h
 have hpt:∀c∈p,Pt c:=fun c hc=>(hp c hc).pt
 rw[Zgq (n:=32) (t:=32) (by decide) (by decide) rfl p hpt,Xi,Xi]
 congr 1
 apply Xm
 intro a ha
 show encB formB (clean (Zn a))=encB formB (Zn a)
 rw[Zee a (fun c hc=>hp c (((Zok p [32]).2 a ha).2 c hc))]
theorem Zjc{b x:UInt8}(h:x∈formByte b):x=43∨x=37∨((48≤x.toNat∧x.toNat≤57)∨(65≤x.toNat∧x.toNat≤70))∨(x=b∧Zx (b.toNat:Int) formB=false):=by
 unfold formByte at h
 split at h
 ·exact Or.inl (by simpa using h)
 ·unfold ZN at h
  split at h
  ·rename_i hq
   have hb:=bb b;simp only[Xo,XB,or_false]at h;rcases h with h|h|h
   ·exact Or.inr (Or.inl h)
   ·subst h;exact Or.inr (Or.inr (Or.inl (Zao (by omega) (by omega))))
   ·subst h;exact Or.inr (Or.inr (Or.inl (Zao (by omega) (by omega))))
  ·rename_i hq
   have hx:x=b:=by simpa using h
   exact Or.inr (Or.inr (Or.inr ⟨hx,by
    cases ha:Zx (b.toNat:Int) formB
    ·rfl
    ·exact absurd (Or.inr (Or.inr ha)) hq⟩))
theorem ZqN{x:UInt8}(h:x=38∨x=61):x≠43∧x≠37∧¬((48≤x.toNat∧x.toNat≤57)∨(65≤x.toNat∧x.toNat≤70))∧Zx (x.toNat:Int) formB=true:=by
 rcases h with rfl|rfl
 ·exact⟨by decide,by decide,by decide,by decide +kernel⟩
 ·exact⟨by decide,by decide,by decide,by decide +kernel⟩
theorem ZeI{l:LB}{x:UInt8}(h:x=38∨x=61):x ∉ l.flatMap formByte:=by
 intro hm;obtain⟨b,-,hb⟩:=List.mem_flatMap.1 hm;obtain⟨h1,h2,h3,h4⟩:=ZqN h;rcases Zjc hb with g|g|g|⟨g,g2⟩
 ·exact h1 g
 ·exact h2 g
 ·exact h3 g
 ·subst g;rw[h4]at g2;cases g2
def backByte(b:UInt8):List UInt8:=if b=32 then [32]else ZN formB b
theorem plus_form(l:LB):Zec (l.flatMap formByte)=l.flatMap backByte:=by
 unfold Zec;rw[List.map_flatMap]
 congr 1
 funext b
 unfold formByte backByte
 split
 ·rfl
 ·have hk:∀x∈ZN formB b,plusB x=x:=by
   intro x hx;unfold plusB;rw[if_neg];intro h43
   have hx43:x=43:=Xr.1 (by rw[h43];rfl)
   have hm:x∈formByte b:=by unfold formByte;rw[if_neg (by assumption)];exact hx
   unfold ZN at hx
   split at hx
   ·have hb:=bb b
    simp only[Xo,XB,or_false]at hx;rcases hx with h|h|h
    ·rw[hx43]at h;exact absurd h (by decide)
    ·have:=Zao (n:=(b.toNat:Int)/16) (by omega) (by omega)
     rw[←h,h43]at this
     omega
    ·have:=Zao (n:=(b.toNat:Int)%16) (by omega) (by omega)
     rw[←h,h43]at this
     omega
   ·rename_i hq
    have hxb:x=b:=by simpa using hx
    apply hq
    right;right
    rw[←hxb,hx43]
    decide +kernel
  calc (ZN formB b).map plusB=(ZN formB b).map id:=Xm hk
   _=ZN formB b:=by simp
theorem ZoY:∀b:UInt8,Zbw [37,toB (capital ((b.toNat:Int)/16)),toB (capital ((b.toNat:Int)%16))]=((b.toNat:Int),true):=by
 have h:∀k:Fin 256,Zbw [37,toB (capital (((UInt8.ofNat k.val).toNat:Int)/16)),toB (capital (((UInt8.ofNat k.val).toNat:Int)%16))]=(((UInt8.ofNat k.val).toNat:Int),true):=by decide +kernel
 intro b;have hb:=h ⟨b.toNat,bb b⟩;simp only[UInt8.ofNat_toNat]at hb;exact hb
theorem coded_ext(x y z:UInt8)(r:LB):Zbw (x::y::z::r)=Zbw [x,y,z]:=rfl
theorem Zlr{b:UInt8}(h:b≠37)(r:LB):(Zbw (b::r)).2=false:=by
 unfold Zbw
 split
 ·rename_i c x y _ e
  simp only[List.cons.injEq]at e
  rw[if_neg (fun g=>h (e.1.trans g.1))]
 ·rfl
theorem ZtF(b:UInt8):toB (b.toNat:Int)=b:=by
 unfold toB
 simp
theorem ZsJ(l:LB):Zr (l.flatMap backByte)=l:=by
 induction l with
 | nil=>exact Zb6
 | cons b r ih=>
  rw[Xz];unfold backByte
  by_cases h32:b=32
  ·rw[if_pos h32]
   show Zr (32::r.flatMap backByte)=_
   rw[Zbh,Zlr (by decide)]
   rw[if_neg (by decide),h32]
   congr 1
  ·rw[if_neg h32]
   unfold ZN
   split
   ·show Zr (37::toB (capital ((b.toNat:Int)/16))::toB (capital ((b.toNat:Int)%16))::r.flatMap backByte)=_
    rw[Zbh,coded_ext,ZoY];rw[if_pos rfl]
    show toB (b.toNat:Int)::Zr (r.flatMap backByte)=_
    rw[ih,ZtF]
   ·rename_i hq
    have hb37:b≠37:=by
     rintro rfl
     exact hq (Or.inr (Or.inr (by decide +kernel)))
    show Zr (b::r.flatMap backByte)=_
    rw[Zbh,Zlr hb37,if_neg (by decide)]
    congr 1
theorem ZdT{l:LB}(h:Cpt l):Zb8 (ZaG l)=l:=by unfold Zb8;rw[ZbC h,plus_form,ZsJ,h.clean]
theorem ZqO(n:Int)(t:UInt8)(ht:isB n t=true):∀ {a:LB} (b:LB),(∀x∈a,isB n x=false)→bcut (isB n) (a++t::b)=(a,b,true):=by
 intro a
 induction a with
 | nil=>intro b _;show bcut (isB n) (t::b)=_;unfold bcut;rw[if_pos ht]
 | cons c r ih=>
  intro b h
  show bcut (isB n) (c::(r++t::b))=_
  unfold bcut
  rw[if_neg (by rw[h c (by simp)];decide),ih b (fun x hx=>h x (Xb _ hx))]
theorem isB_not{n:Int}{t x:UInt8}(ht:(t.toNat:Int)=n)(h:x≠t):isB n x=false:=by
 unfold isB;rw[beq_eq_false_iff_ne];intro e
 exact h (Xr.1 (by omega))
def Zjd(p:List UInt8×List UInt8):Prop:=Cpt p.1∧Cpt p.2
theorem readPr_written{p:LB×LB}(h:Zjd p):ZbV (writePr p)=p:=by
 have hno:∀x∈ZaG p.1,isB 61 x=false:=by
  intro x hx;rw[ZbC h.1]at hx
  exact isB_not (t:=61) rfl (fun e=>ZeI (Or.inr e) (by exact hx))
 unfold ZbV writePr;rw[ZqO 61 61 rfl _ hno]
 show(Zb8 (ZaG p.1),Zb8 (ZaG p.2))=p
 rw[ZdT h.1,ZdT h.2]
theorem Zkj{n:Int}:∀ {a:LB},(∀x∈a,isB n x=false)→bsplit n a=[a]:=by
 intro a
 induction a with
 | nil=>intro _;rfl
 | cons c r ih=>
  intro h;unfold bsplit
  rw[if_neg (by rw[h c (by simp)];decide),ih (fun x hx=>h x (Xb _ hx))]
theorem ZoZ{n:Int}{t:UInt8}(ht:isB n t=true):∀ {a:LB} (b:LB),(∀x∈a,isB n x=false)→bsplit n (a++t::b)=a::bsplit n b:=by
 intro a
 induction a with
 | nil=>
  intro b _
  show bsplit n (t::b)=_
  rw[bsplit,if_pos ht]
 | cons c r ih=>
  intro b h
  show bsplit n (c::(r++t::b))=_
  conv=>lhs;unfold bsplit
  rw[if_neg (by rw[h c (by simp)];decide),ih b (fun x hx=>h x (Xb _ hx))]
theorem Zkk{n:Int}{t:UInt8}(ht:isB n t=true):∀ {ps:List LB},ps≠[]→(∀a∈ps,∀x∈a,isB n x=false)→bsplit n (Zbt t ps)=ps:=by
 intro ps
 induction ps with
 | nil=>intro h _;exact absurd rfl h
 | cons a r ih=>
  intro _ h
  show bsplit n (if r=[]then a else a++t::Zbt t r)=_
  by_cases hr:r=[]
  ·rw[if_pos hr,hr]
   exact Zkj (h a (by simp))
  ·rw[if_neg hr,ZoZ ht _ (h a (by simp)),ih hr (fun b hb=>h b (Xb _ hb))]
theorem ZmC{p:LB×LB}(h:Zjd p):∀x∈writePr p,isB 38 x=false:=by
 intro x hx
 refine isB_not (t:=38) rfl ?_
 rintro rfl;unfold writePr at hx;rw[ZbC h.1,ZbC h.2]at hx;rcases XD.1 hx with g|g
 ·exact ZeI (Or.inl rfl) g
 ·rcases Xo.1 g with g|g
  ·exact absurd g (by decide)
  ·exact ZeI (Or.inl rfl) g
theorem ZmD(p:LB×LB):writePr p≠[]:=by
 unfold writePr
 simp
theorem Zf8{ps:List (LB×LB)}(h:∀p∈ps,Zjd p):Zh (ZR ps)=ps:=by
 by_cases hp:ps=[]
 ·subst hp;decide +kernel
 ·unfold Zh ZR ZdY Ze9
  rw[Zkk (n:=38) rfl (by simpa using hp) (by
   intro a ha;obtain⟨p,hm,rfl⟩:=Xp.1 ha
   exact ZmC (h p hm)),List.filter_eq_self.2 (by
   intro a ha;obtain⟨p,-,rfl⟩:=Xp.1 ha
   cases hq:writePr p with
   | nil=>exact absurd hq (ZmD p)
   | cons _ _=>rfl),Xi]
  conv=>rhs;rw[←List.map_id ps]
  apply Xm
  intro p hm;exact readPr_written (h p hm)
theorem Zje(l:LB):Cpt (Zb8 l):=Zeo _
theorem ZeJ(l:LB):∀p∈Zh l,Zjd p:=by intro p hp;obtain⟨a,-,rfl⟩:=Xp.1 hp;exact⟨Zje _,Zje _⟩
def aheadK(k:Int→Int):List Int→List Int→Bool
 | _,[]=>false
 | [],_::_=>true
 | x::a,y::b=>if x=y then aheadK k a b else decide (k x<k y)
def Zff(c:Int):Int:=if 240≤c then c-2 else if 238≤c then c+5 else c
def ZaH(a b:List UInt8):Bool:=aheadK Zff (a.map fun x=>(x.toNat:Int)) (b.map fun x=>(x.toNat:Int))
def Zfg{α:Type}(lt:α→α→Bool)(acc:List α)(x:α):List α:=(acc.reverse.dropWhile (lt x)).reverse++x::(acc.reverse.takeWhile (lt x)).reverse
def Zav{α:Type}(lt:α→α→Bool)(l:List α):List α:=l.foldl (Zfg lt) []
theorem ZqP{α:Type}(lt:α→α→Bool)(acc:List α)(x:α):(Zfg lt acc x).length=acc.length+1:=by
 unfold Zfg;rw[Xe,Xg,Xn,Xn];have h:=congrArg List.length (List.takeWhile_append_dropWhile (p:=lt x) (l:=acc.reverse));rw[Xe,Xn]at h
 omega
theorem Zo0{α:Type}(lt:α→α→Bool)(l:List α):∀acc:List α,(l.foldl (Zfg lt) acc).length=acc.length+l.length:=by
 induction l with
 | nil=>intro acc;simp
 | cons x r ih=>intro acc;rw[XE,ih,ZqP,Xg];omega
theorem sortI_len{α:Type}(lt:α→α→Bool)(l:List α):(Zav lt l).length=l.length:=by
 unfold Zav;rw[Zo0]
 simp
theorem ZmE{α:Type}(lt:α→α→Bool)(l:List α)(x:α):Zav lt (l++[x])=Zfg lt (Zav lt l) x:=by
 unfold Zav;rw[List.foldl_append]
 rfl
theorem Zo1{α:Type}{lt:α→α→Bool}{S:List α}{x:α}{k:Nat}(hk:k≤S.length)(h1:∀y∈S.drop k,lt x y=true)(h2:∀h:0<k,lt x (S[k-1]'(by omega))=false):Zfg lt S x=S.take k++x::S.drop k:=by
 have e:S.reverse=(S.drop k).reverse++(S.take k).reverse:=by rw[←Xx,Xv]
 have ht:S.reverse.takeWhile (lt x)=(S.drop k).reverse∧S.reverse.dropWhile (lt x)=(S.take k).reverse:=by
  rw[e]
  have hall:∀y∈(S.drop k).reverse,lt x y=true:=fun y hy=>h1 y (Xh.1 hy)
  have hno:(S.take k).reverse.takeWhile (lt x)=[]∧(S.take k).reverse.dropWhile (lt x)=(S.take k).reverse:=by
   rcases Nat.eq_zero_or_pos k with h0|h0
   ·subst h0;exact⟨rfl,rfl⟩
   ·have hs:S.take k=S.take (k-1)++[S[k-1]'(by omega)]:=by
     have h:=Xa (l:=S) (i:=k-1) (by omega)
     rw[show k-1+1=k by omega]at h
     exact h
    rw[hs,Xx]
    show List.takeWhile (lt x) ((S[k-1]'(by omega))::(S.take (k-1)).reverse)=[]∧List.dropWhile (lt x) ((S[k-1]'(by omega))::(S.take (k-1)).reverse)=_
    rw[List.takeWhile_cons_of_neg (by rw[h2 h0];decide),List.dropWhile_cons_of_neg (by rw[h2 h0];decide)]
    exact⟨rfl,rfl⟩
  rw[List.takeWhile_append_of_pos hall,List.dropWhile_append_of_pos hall,hno.1,hno.2,Xd];exact⟨rfl,rfl⟩
 unfold Zfg;rw[ht.1,ht.2,Xw,Xw]
theorem ZqQ{α:Type}{lt:α→α→Bool}{S:List α}{x y:α}(h:y∈Zfg lt S x):y=x∨y∈S:=by
 unfold Zfg at h;rcases XD.1 h with g|g
 ·exact Or.inr (Xh.1 ((List.dropWhile_sublist _).subset (Xh.1 g)))
 ·rcases Xo.1 g with g|g
  ·exact Or.inl g
  ·exact Or.inr (Xh.1 ((List.takeWhile_sublist _).subset (Xh.1 g)))
theorem Zo2{α:Type}{lt:α→α→Bool}{y:α}(a:List α):∀S:List α,y∈a.foldl (Zfg lt) S→y∈S∨y∈a:=by
 induction a with
 | nil=>intro S h;exact Or.inl h
 | cons x r ih=>
  intro S h;rw[XE]at h;rcases ih _ h with g|g
  ·rcases ZqQ g with g|g
   ·exact Or.inr (by rw[g];simp)
   ·exact Or.inl g
  ·exact Or.inr (Xb _ g)
theorem Zep{α:Type}{lt:α→α→Bool}{y:α}{l:List α}(h:y∈Zav lt l):y∈l:=by
 rcases Zo2 l [] h with g|g
 ·cases g
 ·exact g
def ltB(p q:List UInt8×List UInt8):Bool:=ZaH p.1 q.1
theorem Zls{ps:List (LB×LB)}(h:∀p∈ps,Zjd p):∀p∈Zav ltB ps,Zjd p:=fun p hp=>h p (Zep hp)
def ZgA(ls:List (List UInt8)):Nat:=(ls.map fun x=>x.length+1).sum
theorem sumL_cons(a:LB)(r:List LB):ZgA (a::r)=a.length+1+ZgA r:=by simp[ZgA]
theorem Zlt(a b:List LB):ZgA (a++b)=ZgA a+ZgA b:=by simp[ZgA]
theorem Zo3(c:UInt8):∀ {ls:List LB},ls≠[]→(Zbt c ls).length+1=ZgA ls:=by
 intro ls
 induction ls with
 | nil=>intro h;exact absurd rfl h
 | cons a r ih=>
  intro _;rw[sumL_cons]
  show(if r=[]then a else a++c::Zbt c r).length+1=_
  by_cases hr:r=[]
  ·rw[if_pos hr,hr];rfl
  ·rw[if_neg hr,Xe,Xg,←ih hr];omega
theorem ZdL(c:UInt8)(ls:List LB):(Zbt c ls).length≤ZgA ls:=by
 by_cases h:ls=[]
 ·subst h;exact Nat.le_refl _
 ·have:=Zo3 c h;omega
theorem Zo4(ls:List LB)(k:Nat):ZgA (ls.take k)≤ZgA ls:=by
 conv=>rhs;rw[←Xv k ls,Zlt]
 omega
theorem Zhh(n:Int)(l:LB):ZgA (bsplit n l)=l.length+1:=by
 induction l with
 | nil=>rfl
 | cons c r ih=>
  obtain⟨p,q,hpq⟩:=Zb7 n r
  by_cases hc:isB n c=true
  ·rw[show bsplit n (c::r)=[]::bsplit n r by rw[bsplit,if_pos hc],sumL_cons,ih];simp;omega
  ·rw[show bsplit n (c::r)=(c::p)::q by rw[bsplit,if_neg hc,hpq],sumL_cons]
   rw[hpq,sumL_cons]at ih;simp only[Xg]
   omega
theorem ZqR(f:LB→LB)(h:∀x,(f x).length≤9*x.length)(ls:List LB):ZgA (ls.map f)≤9*ZgA ls:=by
 induction ls with
 | nil=>exact Xj _
 | cons a r ih=>
  rw[List.map_cons,sumL_cons,sumL_cons];have:=h a
  omega
theorem ZeK(l:LB):(encB formB (clean l)).length≤9*l.length:=ZtL formB l
theorem Zjf(l:LB):ZgA ((bsplit 32 l).map fun p=>encB formB (clean p))≤9*l.length+9:=by
 have h:=ZqR _ ZeK (bsplit 32 l);rw[Zhh]at h
 omega
theorem ZcY(l:LB):(ZaG l).length≤9*l.length+9:=Xc (ZdL _ _) (Zjf l)
theorem Zd6(p:LB×LB):(writePr p).length≤9*(p.1.length+p.2.length)+19:=by
 unfold writePr;rw[Xe,Xg];have h1:=ZcY p.1;have h2:=ZcY p.2
 omega
theorem Zf9(s:BA)(w:World)(hs:s.size≤1000000):Calls Tryz.prog 204 #[.string s] w fun e w'=>∃r:BA,e=.returned (.string r)∧tl r=ZaG (tl s)∧Nx w w':=by
 go_enter Tryz.func204,Tryz.ntmps204
 go_wp2_with fail
 refine(Zda s 32 _ (by omega)).mono ?_
 rintro e w1 ⟨v,cs,rfl,hv,hcs,hn1⟩
 have hcl:cs.length≤1000001:=by have h:=Zdb 32 (tl s);rw[←hcs,Xl,tl_length]at h;omega
 have HCM:Hid (∀c∈cs,c.size≤1000000):=Za (fun c hc=>by
  have h:=ZgN 32 (tl s) (tl c) (by rw[←hcs];exact Xp.2 ⟨c,hc,rfl⟩)
  rw[tl_length,tl_length]at h
  omega)
 have HN1:=Za hn1
 have HW:=Za (show ZaG (tl s)=Zbt 43 (cs.map fun c=>encB formB (clean (tl c)))by unfold ZaG;rw[←hcs,Xi];rfl)
 have HL:Hid (∀k,ZgA ((cs.take k).map fun c=>encB formB (clean (tl c)))≤9000009):=Za (fun k=>by
  have h:=Zjf (tl s);rw[←hcs,Xi,tl_length]at h
  have h2:=Zo4 (cs.map fun c=>encB formB (clean (tl c))) k
  rw[←List.map_take]at h2
  have h3:ZgA (cs.map fun c=>encB formB (clean (tl c)))≤9*s.size+9:=h
  omega)
 clear hn1 hcs;obtain⟨ao,cap,rfl,hlc,hcap,hnone,hsome⟩:=hv;unfold maxLen at hcap;go_wp2
 go_loopw [4,5] (fun o i wr=>∃(k:Nat) (t:BA),k≤cs.length∧i=.int .i64 k∧o=.string t∧tl t=Zbt 43 ((cs.take k).map fun c=>encB formB (clean (tl c)))∧t.size≤9000009∧Nx w1 wr) (fun _ i _=>cs.length-(intOf i).toNat)
 case atStart=>exact⟨0,_,Xj _,rfl,rfl,rfl,by decide,Nx.rfl⟩
 case round=>
  obtain⟨k,t,hk,rfl,rfl,hE,htl,hnx⟩:=hrel;have HE:=Za hE;have HN:=Za hnx;clear hE
  by_cases hlt:k<cs.length
  ·obtain⟨a,ha⟩:=Zbm hlt hnone
   subst ha;obtain⟨b,off,rfl,hr⟩:=hsome a rfl;have hck:=(hr.on hnx).cell hlt
   have HS:=Za (show(cs.take (k+1)).map (fun c=>encB formB (clean (tl c)))=(cs.take k).map (fun c=>encB formB (clean (tl c)))++[encB formB (clean (tl cs[k]))]by rw[Xa hlt,Xs];rfl)
   have hsz:=HCM.out cs[k] (Xq hlt);have HL1:=Za (HL.out (k+1))
   have HT0:=Za (show((cs.take k).map fun c=>encB formB (clean (tl c)))=[]↔k=0 by
    constructor
    ·intro g
     have:=congrArg List.length g;rw[Xl,XC]at this;simp only[Xt]at this
     omega
    ·rintro rfl;rfl)
   clear hnone hsome hr hnx;generalize cs[k]=c at *
   by_cases h0:0<k
   ·have h0':decide ((0:Int)<(k:Int))=true:=decide_eq_true (by omega)
    go_wp2_with (go_at_call 143;refine(Zaw c 7 _ hsz).mono ?_;rintro e w2 ⟨r,rfl,hr,hn2⟩;have HR:=Za hr;have HN2:=Za (HN.out.then hn2);have hrl:r.size≤9000000:=(by rw[←tl_length,hr];have:=ZeK (tl c);rw[tl_length]at this;exact Xc this (by omega));clear hr hn2)
    go_roundw
    case rel=>exact⟨k+1,t++(⟨#[43]⟩:BA)++r,by omega,by go_num,rfl,by rw[HS.out,joinW_snoc,if_neg (fun g=>by have:=HT0.out.1 g;omega),Zc,Zc,HE.out,HR.out];simp[tl];rfl,by
     have e:tl (t++(⟨#[43]⟩:BA)++r)=Zbt 43 ((cs.take (k+1)).map fun c=>encB formB (clean (tl c))):=by rw[HS.out,joinW_snoc,if_neg (fun g=>by have:=HT0.out.1 g;omega),Zc,Zc,HE.out,HR.out];simp[tl];rfl
     rw[←tl_length,e]
     exact Xc (ZdL _ _) HL1.out,HN2.out⟩
    case measure=>simp[intOf];omega
   ·have h0':decide ((0:Int)<(k:Int))=false:=decide_eq_false (by omega)
    go_wp2_with (go_at_call 143;refine(Zaw c 7 _ hsz).mono ?_;rintro e w2 ⟨r,rfl,hr,hn2⟩;have HR:=Za hr;have HN2:=Za (HN.out.then hn2);have hrl:r.size≤9000000:=(by rw[←tl_length,hr];have:=ZeK (tl c);rw[tl_length]at this;exact Xc this (by omega));clear hr hn2)
    go_roundw
    case rel=>
     have e:tl (t++r)=Zbt 43 ((cs.take (k+1)).map fun c=>encB formB (clean (tl c))):=by
      have hk0:k=0:=by omega
      rw[HS.out,joinW_snoc,if_pos (HT0.out.2 hk0),Zc,HE.out,HR.out,HT0.out.2 hk0]
      rfl
     exact⟨k+1,t++r,by omega,by go_num,rfl,e,by rw[←tl_length,e];exact Xc (ZdL _ _) HL1.out,HN2.out⟩
    case measure=>simp[intOf];omega
  ·have HF:=Za (show tl t=ZaG (tl s)by rw[HE.out,HW.out,Xk (by omega)])
   clear hnx hnone hsome;go_wp2;go_ret;exact⟨t,rfl,HF.out,HN1.out.then HN.out⟩
theorem Zga(n v:BA)(w:World)(hn:n.size≤1000000)(hv:v.size≤1000000):Calls Tryz.prog 157 #[.agg #[.string n,.string v]] w fun e w'=>∃r:BA,e=.returned (.string r)∧tl r=writePr (tl n,tl v)∧Nx w w':=by
 have hpb:PB (w.alloc (Obj.cells #[.string n,.string v] 113)) w.heap.size (.string n) (.string v):=heap_alloc_new w _;have HPB:=Za hpb;clear hpb
 go_enter Tryz.func157,Tryz.ntmps157
 go_wp2_with fail
 refine(Zf9 n _ hn).mono ?_
 rintro e w1 ⟨r1,rfl,hr1,hn1⟩;have HN1:=Za (show Nx w w1 from(Nx.rfl.alloc _).then hn1);have HR1:=Za hr1
 have hl1:r1.size≤9000009:=by rw[←tl_length,hr1];have:=ZcY (tl n);rw[tl_length]at this;omega
 obtain⟨-,p1,-⟩:=(HPB.out.on hn1).facts;clear hr1 hn1;go_wp2_with fail
 refine(Zf9 v _ hv).mono ?_
 rintro e w2 ⟨r2,rfl,hr2,hn2⟩;have HN2:=Za (HN1.out.then hn2);have HR2:=Za hr2
 have hl2:r2.size≤9000009:=by rw[←tl_length,hr2];have:=ZcY (tl v);rw[tl_length]at this;omega
 clear hr2 hn2 p1;go_wp2;go_ret
 exact⟨_,rfl,by rw[Zc,Zc,HR1.out,HR2.out];show _=ZaG (tl n)++61::ZaG (tl v);simp[tl],HN2.out⟩
theorem Ze6(v:Value)(ps:List Pq)(w:World)(hp:PlAt w v ps)(hl:ps.length≤1000000)(hz:∀p∈ps,p.1.size≤1000000∧p.2.size≤1000000):Calls Tryz.prog 108 #[v] w fun e w'=>∃r:BA,e=.returned (.string r)∧tl r=ZR (ps.map tl2)∧Nx w w':=by
 have HZ:=Za hz;clear hz
 have HLN:Hid (∀k,k≤ps.length→ZgA ((ps.take k).map fun p=>writePr (tl2 p))≤18000020*k):=Za (fun k hk=>by
  induction k with
  | zero=>exact Xj _
  | succ k ih=>
   rw[Xa (show k<ps.length by omega),Xs,Zlt]
   have h1:=ih (by omega)
   have h2:=Zd6 (tl2 ps[k]);have h3:=HZ.out ps[k] (Xq _);have h4:(tl2 ps[k]).1.length=ps[k].1.size:=tl_length _;have h5:(tl2 ps[k]).2.length=ps[k].2.size:=tl_length _
   show _+ZgA [writePr (tl2 ps[k])]≤_
   rw[sumL_cons]
   show _+((writePr (tl2 ps[k])).length+1+0)≤_
   omega)
 obtain⟨ao,cap,rfl,hlc,hcap,hnone,hsome⟩:=hp;unfold maxLen at hcap
 go_enter Tryz.func108,Tryz.ntmps108
 go_wp2
 go_loopw [3,4] (fun o i wr=>∃(k:Nat) (t:BA),k≤ps.length∧i=.int .i64 k∧o=.string t∧tl t=Zbt 38 ((ps.take k).map fun p=>writePr (tl2 p))∧t.size≤18000020000000∧Nx w wr) (fun _ i _=>ps.length-(intOf i).toNat)
 case atStart=>exact⟨0,_,Xj _,rfl,rfl,rfl,by decide,Nx.rfl⟩
 case round=>
  obtain⟨k,t,hk,rfl,rfl,hE,htl,hnx⟩:=hrel;have HE:=Za hE;have HN:=Za hnx;clear hE
  by_cases hlt:k<ps.length
  ·obtain⟨a,ha⟩:=Za6 hlt hnone
   subst ha;obtain⟨b,off,rfl,hr⟩:=hsome a rfl;obtain⟨c0,c1⟩:=(hr.on hnx).cell hlt
   have HS:=Za (show(ps.take (k+1)).map (fun p=>writePr (tl2 p))=(ps.take k).map (fun p=>writePr (tl2 p))++[writePr (tl2 ps[k])]by rw[Xa hlt,Xs];rfl)
   obtain⟨hz1,hz2⟩:=HZ.out ps[k] (Xq hlt)
   have HL1:=Za (show ZgA ((ps.take (k+1)).map fun p=>writePr (tl2 p))≤18000020000000 by have:=HLN.out (k+1) (by omega);omega)
   have HT0:=Za (show((ps.take k).map fun p=>writePr (tl2 p))=[]↔k=0 by
    constructor
    ·intro g
     have:=congrArg List.length g;rw[Xl,XC]at this;simp only[Xt]at this
     omega
    ·rintro rfl;rfl)
   clear hnone hsome hr hnx;generalize ps[k]=c at *;obtain⟨cn,cv⟩:=c;simp only at c0 c1 hz1 hz2
   by_cases h0:0<k
   ·have h0':decide ((0:Int)<(k:Int))=true:=decide_eq_true (by omega)
    go_wp2_with fail
    refine(Zga cn cv _ hz1 hz2).mono ?_
    rintro e w2 ⟨r,rfl,hr,hn2⟩;have HN2:=Za (HN.out.then hn2)
    have e1:tl (t++(⟨#[38]⟩:BA)++r)=Zbt 38 ((ps.take (k+1)).map fun p=>writePr (tl2 p)):=by
     rw[HS.out,joinW_snoc,if_neg (fun g=>by have:=HT0.out.1 g;omega),Zc,Zc,HE.out,hr]
     show _=_++38::writePr (tl cn,tl cv)
     simp[tl]
    have e2:(t++(⟨#[38]⟩:BA)++r).size≤18000020000000:=by rw[←tl_length,e1];exact Xc (ZdL _ _) HL1.out
    have hrl:r.size≤18000019:=by rw[←tl_length,hr];have:=Zd6 (tl cn,tl cv);simp only[tl_length]at this;omega
    have HE1:=Za e1;have HE2:=Za e2;clear hr hn2 e1 e2;go_wp2
    go_roundw
    case rel=>exact⟨k+1,t++(⟨#[38]⟩:BA)++r,by omega,by go_num,rfl,HE1.out,HE2.out,HN2.out⟩
    case measure=>simp[intOf];omega
   ·have h0':decide ((0:Int)<(k:Int))=false:=decide_eq_false (by omega)
    go_wp2_with fail
    refine(Zga cn cv _ hz1 hz2).mono ?_
    rintro e w2 ⟨r,rfl,hr,hn2⟩;have HN2:=Za (HN.out.then hn2)
    have e1:tl (t++r)=Zbt 38 ((ps.take (k+1)).map fun p=>writePr (tl2 p)):=by
     have hk0:k=0:=by omega
     rw[HS.out,joinW_snoc,if_pos (HT0.out.2 hk0),Zc,HE.out,hr,HT0.out.2 hk0]
     rfl
    have e2:(t++r).size≤18000020000000:=by rw[←tl_length,e1];exact Xc (ZdL _ _) HL1.out
    have hrl:r.size≤18000019:=by rw[←tl_length,hr];have:=Zd6 (tl cn,tl cv);simp only[tl_length]at this;omega
    have HE1:=Za e1;have HE2:=Za e2;clear hr hn2 e1 e2;go_wp2
    go_roundw
    case rel=>exact⟨k+1,t++r,by omega,by go_num,rfl,HE1.out,HE2.out,HN2.out⟩
    case measure=>simp[intOf];omega
  ·have HF:=Za (show tl t=ZR (ps.map tl2)by
    rw[HE.out,Xk (by omega)]
    unfold ZR;rw[Xi]
    rfl)
   clear hnx hnone hsome;go_wp2;go_ret;exact⟨t,rfl,HF.out,HN.out⟩
def hitP(n v:List UInt8)(valued:Bool)(p:List UInt8×List UInt8):Bool:=p.1==n&&(!valued||p.2==v)
def Zgo(n v:ByteArray)(valued:Bool)(p:Pq):Bool:=p.1.toList==n.toList&&(!valued||p.2.toList==v.toList)
theorem hitQ_eq(n v:BA)(valued:Bool)(p:Pq):Zgo n v valued p=hitP (tl n) (tl v) valued (tl2 p):=by
 unfold Zgo hitP tl2;rw[ByteArray.toList_eq,ByteArray.toList_eq,ByteArray.toList_eq,ByteArray.toList_eq]
 rfl
theorem filter_tl2(n v:BA)(valued:Bool)(ps:List Pq):(ps.filter (Zgo n v valued)).map tl2=(ps.map tl2).filter (hitP (tl n) (tl v) valued):=by
 rw[XF]
 congr 1
 apply XA
 intro p _;exact hitQ_eq n v valued p
theorem Zd7(n v:BA)(valued:Bool)(ps:List Pq):(ps.filter (fun p=>!Zgo n v valued p)).map tl2=(ps.map tl2).filter (fun p=>!hitP (tl n) (tl v) valued p):=by
 rw[XF]
 congr 1
 apply XA
 intro p _
 show(!Zgo n v valued p)=!hitP (tl n) (tl v) valued (tl2 p)
 rw[hitQ_eq n v valued p]
theorem Zcd{α:Type}(f:α→Bool)(l:List α)(k:Nat)(h:k<l.length):(l.take (k+1)).filter f=(l.take k).filter f++if f l[k]then [l[k]]else []:=by
 rw[Xa h,List.filter_append]
 cases hf:f l[k]<;>simp[hf]
def Sep(v v2:Value):Prop:=∀k,v.ownBlock=some k→v2.ownBlock≠some k
theorem Sep.symm{v v2:Value}(h:Sep v v2):Sep v2 v:=fun k h1 h2=>h k h2 h1
theorem Zgb{ops:Array Oper}{rest:List Oper}{o:Oper}{a:Act}{Q:Exit→Act→World→Prop}(w:World)(p:Pq)
  (hgd:o.guard=none) (s x:Operand) (ho:o.op=.call { callee:=.builtin .append,args:=#[s,x],argTypes:=#[68,68] })
  (base:Nat) (v:Value) (ps:List Pq) (hs:a.eval s=v) (hown:OwnP w base v ps) (v2:Value) (qs:List Pq) (hown2:OwnP w base v2 qs) (hsep:Sep v v2) (hx:a.eval x=.slice (some ⟨w.heap.size,0,none⟩) 1 1)
  (hn:ps.length<1000000000000) (hbase:base≤w.heap.size)
  (h:∀v' w',OwnP w' base v' (ps++[p])→OwnP w' base v2 qs→Sep v' v2→Below base w w'→wpList Tryz.prog ops Q rest (a.put o.dst v') w'):
  wpList Tryz.prog ops Q (o::rest) a (w.alloc (.cells #[.string p.1,.string p.2] 113)):=by
 obtain⟨i,hi,hz0,hz1,hz2⟩:=info_parts Zhx;have own1:=World.ownsRow.alloc hown (.cells #[.string p.1,.string p.2] 113);have own2:=World.ownsRow.alloc hown2 (.cells #[.string p.1,.string p.2] 113)
 refine wpList_append_own_at _ hgd s x 68 ho base 113 i _ 2 32 Tryz.underlying68 hi hz0 hz1 hz2 rfl (by decide) v ps.length _ hs own1 ⟨w.heap.size,0,none⟩ 1 1 [.string p.1,.string p.2] hx rfl (Zjg (by simp) (by simp)) (by simp[Value.oneCell']) (by unfold maxLen;omega) (by omega) (by simp;omega) ?_
 intro v' w' q1 q2 _ q3
 have hlt2:∀k,v2.ownBlock=some k→k<(w.alloc (.cells #[.string p.1,.string p.2] 113)).heap.size:=fun k hk=>(own2.lt k hk).2
 refine h v' w' ?_ (own2.kept q2 ?_) ?_ (((Below.refl base w).alloc hbase _).trans ((Below.refl base _).grown q2 (by simp;omega) (fun k hk=>(own1.lt k hk).1)))
 ·unfold OwnP
  rw[Xe,Zhi];exact q1
 ·cases hv:v2.ownBlock with
  | none=>exact Or.inl rfl
  | some k=>exact Or.inr (fun e=>hsep k e.symm hv)
 ·intro k h1 h2
  rcases q3 with q3|q3
  ·exact hsep k (q3 ▸ h1) h2
  ·rw[q3]at h1
   have:=hlt2 k h2;have:=Option.some.inj h1
   omega
theorem ZeM(w:World)(base:Nat)(h:base≤w.heap.size):OwnP (w.alloc (.cells #[] 113)) base (.slice (some ⟨w.heap.size,0,none⟩) 0 0) []:=
 World.ownsRow_made w #[] 0 h (Xj _) rfl
theorem ZeN(v:Value)(ps:List Pq)(n x:BA)(valued:Bool)(w:World)(hp:PlAt w v ps)(hl:ps.length≤1000000)(hn:n.size≤1000000)(hx:x.size≤1000000):Calls Tryz.prog 151 #[v,.string n,.string x,.bool valued] w fun e w'=>∃a b fs os,e=.returned (.tuple #[a,b])∧OwnP w' w.heap.size a fs∧OwnP w' w.heap.size b os∧Sep a b∧fs.map tl2=(ps.map tl2).filter (hitP (clean (tl n)) (clean (tl x)) valued)∧os.map tl2=(ps.map tl2).filter (fun p=>!hitP (clean (tl n)) (clean (tl x)) valued p)∧fs.length≤ps.length∧os.length≤ps.length∧Nx w w':=by
 have HP:=Za hp;obtain⟨ao,cap,rfl,hlc,hcap,hnone,hsome⟩:=hp;unfold maxLen at hcap
 go_enter Tryz.func151,Tryz.ntmps151
 go_wp2_with fail
 refine(Zbo n _ hn).mono ?_
 rintro e w1 ⟨nm,rfl,hnm,hn1⟩;have HN1:=Za hn1;have HNM:=Za hnm;clear hn1 hnm;go_wp2_with fail
 refine(Zbo x _ hx).mono ?_
 rintro e w2 ⟨vl,rfl,hvl,hn2⟩;have HN2:=Za (HN1.out.then hn2);have HVL:=Za hvl;have hz2:=HN2.out.size;clear hn2 hvl HN1;go_wp2
 go_loopw [12,13,14] (fun o1 o2 i wr=>∃k:Nat,k≤ps.length∧i=.int .i64 k∧OwnP wr w.heap.size o1 ((ps.take k).filter (Zgo nm vl valued))∧OwnP wr w.heap.size o2 ((ps.take k).filter (fun p=>!Zgo nm vl valued p))∧Sep o1 o2∧Nx w wr) (fun _ _ i _=>ps.length-(intOf i).toNat)
 case atStart=>
  refine⟨0,Xj _,rfl,World.ownsRow.alloc (ZeM w2 _ hz2) _,(by have h:=ZeM (w2.alloc (.cells #[] 113)) w.heap.size (Xc hz2 (Nx.rfl.alloc _).size);rw[show(w2.alloc (.cells #[] 113)).heap.size=w2.heap.size+1 by simp]at h;exact h),?_,(HN2.out.then (Nx.rfl.alloc _)).then (Nx.rfl.alloc _)⟩
  intro k h1 h2;simp only[Value.ownBlock,Option.some.injEq]at h1 h2
  omega
 case round=>
  obtain⟨k,hk,rfl,hO1,hO2,hsep,hnx⟩:=hrel;have HO1:=Za hO1;have HO2:=Za hO2;have HSP:=Za hsep;have HN:=Za hnx;have hzr:=hnx.size;clear hO1 hO2 hsep
  by_cases hlt:k<ps.length
  ·obtain⟨a,ha⟩:=Za6 hlt hnone
   subst ha;obtain⟨b,off,rfl,hr⟩:=hsome a rfl;obtain⟨c0,c1⟩:=(hr.on hnx).cell hlt;have HS1:=Za (Zcd (Zgo nm vl valued) ps k hlt)
   have HS2:=Za (Zcd (fun p=>!Zgo nm vl valued p) ps k hlt)
   have hl1:((ps.take k).filter (Zgo nm vl valued)).length<1000000000000:=by
    have h1:=Xf (Zgo nm vl valued) (ps.take k);have h2:=Xy k ps
    omega
   have hl2:((ps.take k).filter (fun p=>!Zgo nm vl valued p)).length<1000000000000:=by
    have h1:=Xf (fun p=>!Zgo nm vl valued p) (ps.take k)
    have h2:=Xy k ps
    omega
   clear hnone hsome hr hnx;generalize ps[k]=c at *;obtain⟨cn,cv⟩:=c;simp only at c0 c1
   have HQ:=Za (show Zgo nm vl valued (cn,cv)=(cn.toList==nm.toList&&(!valued||cv.toList==vl.toList))from rfl)
   cases hd1:(cn.toList==nm.toList)
   ·cases valued
    ·skip
     have HM:=Za (show Zgo nm vl false (cn,cv)=false by rw[HQ.out,hd1];rfl)
     clear HQ
     go_wp2_with (at_builtin;go_must (refine Zgb wr (cn,cv) rfl _ _ rfl w.heap.size _ _ rfl HO2.out _ _ HO1.out HSP.out.symm rfl hl2 hzr ?_;intro v' w3 ho2 ho1 hsp hb3;have HA:=Za ho2;have HB:=Za ho1;have HC:=Za hsp;clear ho2 ho1 hsp))
     go_roundw
     case rel=>exact⟨k+1,by omega,by go_num,by rw[HS1.out,HM.out,if_neg (by decide),Xd];exact HB.out,by rw[HS2.out,HM.out,if_pos (by decide)];exact HA.out,HC.out.symm,HN.out.trans hb3⟩
     case measure=>simp[intOf];omega
    ·skip
     have HM:=Za (show Zgo nm vl true (cn,cv)=false by rw[HQ.out,hd1];rfl)
     clear HQ
     go_wp2_with (at_builtin;go_must (refine Zgb wr (cn,cv) rfl _ _ rfl w.heap.size _ _ rfl HO2.out _ _ HO1.out HSP.out.symm rfl hl2 hzr ?_;intro v' w3 ho2 ho1 hsp hb3;have HA:=Za ho2;have HB:=Za ho1;have HC:=Za hsp;clear ho2 ho1 hsp))
     go_roundw
     case rel=>exact⟨k+1,by omega,by go_num,by rw[HS1.out,HM.out,if_neg (by decide),Xd];exact HB.out,by rw[HS2.out,HM.out,if_pos (by decide)];exact HA.out,HC.out.symm,HN.out.trans hb3⟩
     case measure=>simp[intOf];omega
   ·cases valued
    ·skip
     have HM:=Za (show Zgo nm vl false (cn,cv)=true by rw[HQ.out,hd1];rfl)
     clear HQ
     go_wp2_with (at_builtin;go_must (refine Zgb wr (cn,cv) rfl _ _ rfl w.heap.size _ _ rfl HO1.out _ _ HO2.out HSP.out rfl hl1 hzr ?_;intro v' w3 ho1 ho2 hsp hb3;have HA:=Za ho1;have HB:=Za ho2;have HC:=Za hsp;clear ho2 ho1 hsp))
     go_roundw
     case rel=>exact⟨k+1,by omega,by go_num,by rw[HS1.out,HM.out,if_pos rfl];exact HA.out,by rw[HS2.out,HM.out,if_neg (by decide),Xd];exact HB.out,HC.out,HN.out.trans hb3⟩
     case measure=>simp[intOf];omega
    ·cases hd2:(cv.toList==vl.toList)
     ·skip
      have HM:=Za (show Zgo nm vl true (cn,cv)=false by rw[HQ.out,hd1,hd2];rfl)
      clear HQ
      go_wp2_with (at_builtin;go_must (refine Zgb wr (cn,cv) rfl _ _ rfl w.heap.size _ _ rfl HO2.out _ _ HO1.out HSP.out.symm rfl hl2 hzr ?_;intro v' w3 ho2 ho1 hsp hb3;have HA:=Za ho2;have HB:=Za ho1;have HC:=Za hsp;clear ho2 ho1 hsp))
      go_roundw
      case rel=>exact⟨k+1,by omega,by go_num,by rw[HS1.out,HM.out,if_neg (by decide),Xd];exact HB.out,by rw[HS2.out,HM.out,if_pos (by decide)];exact HA.out,HC.out.symm,HN.out.trans hb3⟩
      case measure=>simp[intOf];omega
     ·skip
      have HM:=Za (show Zgo nm vl true (cn,cv)=true by rw[HQ.out,hd1,hd2];rfl)
      clear HQ
      go_wp2_with (at_builtin;go_must (refine Zgb wr (cn,cv) rfl _ _ rfl w.heap.size _ _ rfl HO1.out _ _ HO2.out HSP.out rfl hl1 hzr ?_;intro v' w3 ho1 ho2 hsp hb3;have HA:=Za ho1;have HB:=Za ho2;have HC:=Za hsp;clear ho2 ho1 hsp))
      go_roundw
      case rel=>exact⟨k+1,by omega,by go_num,by rw[HS1.out,HM.out,if_pos rfl];exact HA.out,by rw[HS2.out,HM.out,if_neg (by decide),Xd];exact HB.out,HC.out,HN.out.trans hb3⟩
      case measure=>simp[intOf];omega
  ·have e:ps.take k=ps:=Xk (by omega)
   have HF1:=Za (show OwnP wr w.heap.size _ (ps.filter (Zgo nm vl valued))by have h:=HO1.out;rw[e]at h;exact h)
   have HF2:=Za (show OwnP wr w.heap.size _ (ps.filter (fun p=>!Zgo nm vl valued p))by have h:=HO2.out;rw[e]at h;exact h)
   have HG1:=Za ((filter_tl2 nm vl valued ps).trans (by rw[HNM.out,HVL.out]))
   have HG2:=Za ((Zd7 nm vl valued ps).trans (by rw[HNM.out,HVL.out]))
   clear hnone hsome hnx e;go_wp2;go_ret2;exact⟨_,_,_,_,rfl,HF1.out,HF2.out,HSP.out,HG1.out,HG2.out,Xf _ _,Xf _ _,HN.out⟩
theorem ZqU(v:Value)(ps:List Pq)(n x:BA)(valued:Bool)(w:World)(hp:PlAt w v ps)(hl:ps.length≤1000000)(hn:n.size≤1000000)(hx:x.size≤1000000):Calls Tryz.prog 100 #[v,.string n,.string x,.bool valued] w fun e w'=>e=.returned (.bool (decide (0<((ps.map tl2).filter (hitP (clean (tl n)) (clean (tl x)) valued)).length)))∧Nx w w':=by
 obtain⟨ao,cap,hve,-⟩:=id hp;subst hve
 go_enter Tryz.func100,Tryz.ntmps100
 go_wp2_with fail
 refine(ZeN _ ps n x valued _ hp hl hn hx).mono ?_
 rintro e w1 ⟨a,b,fs,os,rfl,h1,h2,-,h3,-,h5,-,hn1⟩;obtain⟨ao1,cp1,rfl⟩:=Zb4 h1;obtain⟨ao2,cp2,rfl⟩:=Zb4 h2;have HN:=Za hn1
 have HE:=Za (show fs.length=((ps.map tl2).filter (hitP (clean (tl n)) (clean (tl x)) valued)).length by rw[←h3,Xl])
 clear h1 h2 h3 hn1 hp;go_wp2;go_ret
 exact⟨Zi (by rw[HE.out,Bool.eq_iff_iff]<;>simp),HN.out⟩
def Zlu(l:List (List UInt8×List UInt8)):List UInt8:=match l with | []=>[]|p::_=>p.2
theorem ZmG(v:Value)(ps:List Pq)(n:BA)(w:World)(hp:PlAt w v ps)(hl:ps.length≤1000000)(hn:n.size≤1000000):Calls Tryz.prog 98 #[v,.string n] w fun e w'=>∃r:BA,e=.returned (.tuple #[.string r,.bool (decide (0<((ps.map tl2).filter (hitP (clean (tl n)) [] false)).length))])∧tl r=Zlu ((ps.map tl2).filter (hitP (clean (tl n)) [] false))∧Nx w w':=by
 obtain⟨ao,cap,hve,-⟩:=id hp;subst hve;generalize hF:(ps.map tl2).filter (hitP (clean (tl n)) [] false)=F;have HFF:=Za hF;clear hF
 go_enter Tryz.func98,Tryz.ntmps98
 go_wp2_with fail
 refine(ZeN _ ps n ⟨#[]⟩ false _ hp hl hn (by decide)).mono ?_
 rintro e w1 ⟨a,b,fs,os,rfl,h1,h2,-,h3,-,h5,-,hn1⟩;rw[show clean (tl (⟨#[]⟩:BA))=[]from clean_nil,HFF.out]at h3;obtain⟨ao2,cp2,rfl⟩:=Zb4 h2;have hpl:=OwnP.at h1;obtain⟨ao1,cp1,rfl,hlc,hcap,hnone,hsome⟩:=hpl;unfold maxLen at hcap;have HN:=Za hn1
 cases fs with
 | nil=>
  have HF:=Za (show F=[]from h3.symm);clear h1 h2 h3 hn1 hp hnone hsome;simp only[Xt];go_wp2;go_ret2
  exact⟨⟨#[]⟩,by rw[HF.out];rfl,by rw[HF.out];rfl,HN.out⟩
 | cons p r=>
  have HF:=Za (show F=tl2 p::r.map tl2 from h3.symm)
  have hpos:0<(p::r).length:=by simp
  obtain⟨a,ha⟩:=Za6 hpos hnone;subst ha;obtain⟨b,off,rfl,hr⟩:=hsome a rfl;obtain⟨c0,c1⟩:=hr.cell hpos
  have h0':(((p::r).length:Int)==0)=false:=beq_eq_false_iff_ne.2 (by omega)
  simp only[Nat.zero_mul,Nat.add_zero,List.getElem_cons_zero]at c0 c1;clear h1 h2 h3 hn1 hp hnone hsome hr;generalize (p::r).length=m at *;go_wp2;go_ret2
  exact⟨p.2,by rw[HF.out,decide_eq_true (show 0<(tl2 p::r.map tl2).length by simp)];rfl,by rw[HF.out];rfl,HN.out⟩
def FullS(w:World)(nb:Nat)(ss:List ByteArray):Prop:=w.heap[nb]?=some (Obj.cells (ss.map Value.string).toArray 9 (0,0))
theorem FullS.on{w w':World}{nb:Nat}{ss:LA}(h:FullS w nb ss)(hb:Nx w w'):FullS w' nb ss:=(hb.block nb (Xu.1 h).1).trans h
theorem FullS.lt{w:World}{nb:Nat}{ss:LA}(h:FullS w nb ss):nb<w.heap.size:=(Xu.1 h).1
theorem FullS.cell{w:World}{nb:Nat}{ss:LA}(h:FullS w nb ss){k:Nat}(hk:k<ss.length):w.cell? ⟨nb,k,none⟩=some (.string ss[k]):=by
 unfold FullS at h
 simp[World.cell?,h,hk]
theorem FullS.free{w:World}{nb:Nat}{ss:LA}(h:FullS w nb ss)(i:Nat):w.frozen? ⟨nb,i,none⟩=false:=by
 unfold FullS at h
 simp[World.frozen?,h]
theorem FullS.set{w:World}{nb:Nat}{ss:LA}(h:FullS w nb ss)(k:Nat)(n:BA):FullS (w.setCell ⟨nb,k,none⟩ (.string n)) nb (ss.set k n):=by
 unfold FullS at *;simp only[World.setCell,Array.getElem?_modify,if_pos,h]
 simp[List.map_set]
def StrIs(w:World)(base:Nat)(v:Value)(ss:List ByteArray):Prop:=(ss=[]∧v=.slice none 0 0)∨(0<ss.length∧∃nb,base≤nb∧v=.slice (some ⟨nb,0,none⟩) ss.length ss.length∧FullS w nb ss)
end Go.Proofs.YtchkhibgbnhjpabGreatDoor
