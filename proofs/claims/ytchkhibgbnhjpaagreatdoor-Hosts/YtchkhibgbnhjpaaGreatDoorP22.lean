import Derived.Test.YtchkhibgbnhjpaaGreatDoorP21
open Bool renaming and_false→Xm,true_and→Xo
open List renaming mem_cons→Xa,not_mem_nil→Xb,mem_singleton→Xc,mem_append→Xe,drop_zero→Xf,any_eq_false→Xg,getD_eq_getElem?_getD→Xi,length_cons→Xk,append_nil→Xl
open UInt8 renaming toNat_inj→Xd,toNat_add→Xh,ofNat_toNat→Xj
namespace Go.Proofs.YtchkhibgbnhjpaaGreatDoor
open Go.RowKit
theorem Zuw{d:Nat}(h:d≤9):ZS ((ZhS d).toNat:Int) 10=((d:Int),true):=by
 match d,h with
 | 0,_=>decide
 | 1,_=>decide
 | 2,_=>decide
 | 3,_=>decide
 | 4,_=>decide
 | 5,_=>decide
 | 6,_=>decide
 | 7,_=>decide
 | 8,_=>decide
 | 9,_=>decide
theorem ZaL(most:Int)(n d:Nat)(hd:d≤9)(hn:(n:Int)≤most)(r:LB):numGo 10 most (n:Int) (ZhS d::r)=numGo 10 most ((n*10+d:Nat):Int) r:=by
 rw[numGo,Zuw hd,if_pos rfl,if_pos hn]
 simp
theorem ZoJ{n:Nat}{most:Int}(h:n≤65535)(hm:65535≤most):Zu (Zcl n) 10 most=((n:Int),true):=by
 unfold Zu;rw[if_neg (decD_ne n)]
 have key:numGo 10 most 0 (Zcl n)=some (n:Int):=by
  show numGo 10 most ((0:Nat):Int) (Zcl n)=_
  unfold Zcl
  split
  ·rw[ZaL _ 0 n (by omega) (by omega),numGo];simp
  split
  ·rw[ZaL _ 0 _ (by omega) (by omega),ZaL _ _ _ (by omega) (by omega),numGo];congr 1;omega
  split
  ·rw[ZaL _ 0 _ (by omega) (by omega),ZaL _ _ _ (by omega) (by omega),ZaL _ _ _ (by omega) (by omega),numGo];congr 1;omega
  split
  ·rw[ZaL _ 0 _ (by omega) (by omega),ZaL _ _ _ (by omega) (by omega),ZaL _ _ _ (by omega) (by omega),ZaL _ _ _ (by omega) (by omega),numGo];congr 1;omega
  ·rw[ZaL _ 0 _ (by omega) (by omega),ZaL _ _ _ (by omega) (by omega),ZaL _ _ _ (by omega) (by omega),ZaL _ _ _ (by omega) (by omega),ZaL _ _ _ (by omega) (by omega),numGo];congr 1;omega
 rw[key]
 show(if most<(n:Int)then _ else _)=_
 rw[if_neg (by omega)]
theorem ZkI{d:Nat}(h1:1≤d)(h:d≤9):¬((ZhS d).toNat:Int)=48:=by unfold ZhS;rw[UInt8.toNat_ofNat',Nat.mod_eq_of_lt (by omega)];omega
theorem ZrY{n:Nat}(h:n≤65535):(Zcl n).length<2∨¬(((Zcl n).getD 0 0).toNat:Int)=48:=by
 unfold Zcl
 split
 ·left;show 1<2;decide
 split
 ·right;exact ZkI (by omega) (by omega)
 split
 ·right;exact ZkI (by omega) (by omega)
 split
 ·right;exact ZkI (by omega) (by omega)
 ·right;exact ZkI (by omega) (by omega)
theorem ZeA{n:Nat}(h:n≤65535):ZN (Zcl n)=((n:Int),true):=by
 unfold ZN
 rw[if_pos (ZrY h),ZoJ h (by decide)]
theorem Zp5{n:Nat}(h:n≤255):(Zcl n).length≤3:=by
 unfold Zcl
 split
 ·simp
 split
 ·simp
 rw[if_pos (by omega)]
 simp
def dots4(a b c d:Nat):List UInt8:=Zcl a++(46::(Zcl b++(46::(Zcl c++(46::(Zcl d++[]))))))
theorem ZdG(v:Nat):Zdo v=dots4 (v/256^3%256) (v/256^2%256) (v/256^1%256) (v/256^0%256):=rfl
theorem Zgw{n:Nat}(h:n≤255):∀b∈Zcl n,isB 46 b=false:=fun b hb=>by
 have:=Zg5 (n:=n) (by omega) b hb
 unfold isB
 exact beq_eq_false_iff_ne.2 (by omega)
theorem Znl{a b c d:Nat}(ha:a≤255)(hb:b≤255)(hc:c≤255)(hd:d≤255):bsplit 46 (dots4 a b c d)=[Zcl a,Zcl b,Zcl c,Zcl d]:=by
 have step:∀l:LB,bsplit 46 (46::l)=[]::bsplit 46 l:=fun l=>by rw[bsplit,if_pos (by decide)]
 unfold dots4;rw[Zeb _ _ 46 (Zgw ha),step,Zeb _ _ 46 (Zgw hb),step,Zeb _ _ 46 (Zgw hc),step,Zeb _ _ 46 (Zgw hd)]
 simp[bsplit]
theorem ZlR{a b c d:Nat}(ha:a≤255)(hb:b≤255)(hc:c≤255)(hd:d≤255):∀x∈dots4 a b c d,(48≤x.toNat∧x.toNat≤57)∨x.toNat=46:=by
 intro x hx;unfold dots4 at hx;simp only[Xe,Xa,Xb,or_false]at hx;rcases hx with hx|hx|hx|hx|hx|hx|hx
 ·exact Or.inl (Zg5 (n:=a) (by omega) x hx)
 ·subst hx;exact Or.inr rfl
 ·exact Or.inl (Zg5 (n:=b) (by omega) x hx)
 ·subst hx;exact Or.inr rfl
 ·exact Or.inl (Zg5 (n:=c) (by omega) x hx)
 ·subst hx;exact Or.inr rfl
 ·exact Or.inl (Zg5 (n:=d) (by omega) x hx)
theorem Zux{a b c d:Nat}(ha:a≤255)(hb:b≤255)(hc:c≤255)(hd:d≤255):ip4 [Zcl a,Zcl b,Zcl c,Zcl d]=(((a*16777216+b*65536+c*256+d:Nat):Int),true):=by
 unfold ip4
 rw[if_neg (by simp)]
 rw[ip4Go,ZeA (by omega),if_neg (by simp),if_neg (by simp;omega),if_pos (by simp)]
 rw[ip4Go,ZeA (by omega),if_neg (by simp),if_neg (by simp;omega),if_pos (by simp)]
 rw[ip4Go,ZeA (by omega),if_neg (by simp),if_neg (by simp;omega),if_pos (by simp)]
 rw[ip4Go,ZeA (by omega),if_neg (by simp),if_neg (by simp;omega),if_neg (by simp)]
 rw[ip4Go]
 refine Prod.ext ?_ rfl
 show(0:Int)+(a:Int)*(4294967296/256)+(b:Int)*(4294967296/256/256)+(c:Int)*(4294967296/256/256/256)+(d:Int)=_
 omega
theorem Zwz{x:UInt8}(h:(48≤x.toNat∧x.toNat≤57)∨x.toNat=46):Zjc x=false:=by
 have hlt:=x.toNat_lt
 have key:∀n:Nat,n<256→((48≤n∧n≤57)∨n=46)→Zjc (UInt8.ofNat n)=false:=by decide +kernel
 have:=key x.toNat hlt h
 rwa [Xj]at this
theorem Zp6{a b c d:Nat}(ha:a≤255)(hb:b≤255)(hc:c≤255)(hd:d≤255):ZO (dots4 a b c d) true=(Zdo (a*16777216+b*65536+c*256+d),0):=by
 have hm:=ZlR ha hb hc hd;have hs:=Znl ha hb hc hd
 have hne:dots4 a b c d≠[]:=fun e=>decD_ne a (List.append_eq_nil_iff.1 e).1
 generalize dots4 a b c d=l at *
 have h1:ZF l=l:=ZjT fun x hx e=>by subst e;exact absurd (hm 37 hx) (by decide)
 have h2:lower l=l:=Zuv fun x hx e=>by have:=hm x hx;omega
 have h3:beyondB l=false:=by
  unfold beyondB;rw[Xg];intro x hx;have:=hm x hx
  simp;omega
 have h4:Zt5 [Zcl a,Zcl b,Zcl c,Zcl d]=false:=by
  have key:∀n:Nat,n≤255→ZcY (Zcl n)=false:=fun n hn=>by
   unfold ZcY
   rw[decide_eq_false (by have:=Zp5 hn;omega)]
   rfl
  unfold Zt5
  simp[key a ha,key b hb,key c hc,key d hd]
 have h5:plainDom l=true:=by
  unfold plainDom
  have:l.any Zjc=false:=Xg.2 fun x hx=>by rw[Zwz (hm x hx)];decide
  rw[this]
  cases l with
  | nil=>exact absurd rfl hne
  | cons x r=>rfl
 have h6:ZeG [Zcl a,Zcl b,Zcl c,Zcl d]=[Zcl a,Zcl b,Zcl c,Zcl d]:=by
  unfold ZeG
  exact if_neg fun e=>decD_ne d e.2
 have h7:Zcb [Zcl a,Zcl b,Zcl c,Zcl d]=true:=by
  unfold Zcb
  rw[if_neg (by simp)]
  show((Zu (Zcl d) 10 4294967295).2||_)=true
  rw[ZoJ (by omega) (by decide)]
  rfl
 unfold ZO
 rw[if_neg (ZiC fun x hx e=>by subst e;exact absurd (hm 91 hx) (by decide)),if_pos rfl]
 unfold ZaQ
 rw[h1,h2,hs,h3,h4,if_neg (by decide),if_neg (by rw[h5];decide),h6]
 unfold ZeH
 rw[h7,if_neg (by decide),Zux ha hb hc hd,if_pos rfl]
 rfl
theorem Zuy{v:Nat}(h:v<4294967296):ZO (Zdo v) true=(Zdo v,0):=by
 rw[ZdG,Zp6 (by omega) (by omega) (by omega) (by omega),←ZdG]
 congr 2
 omega
theorem Zuz:∀(ps:List LB) (room value:Int),ps≠[]→0≤value→value+room≤4294967296→(ip4Go ps room value).2=true→(ip4Go ps room value).1<4294967296:=by
 intro ps
 induction ps with
 | nil=>intro _ _ h;exact absurd rfl h
 | cons p r ih=>
  intro room value _ h0 h1 h2;rw[ip4Go]at h2 ⊢;have hr:=(ZfS p).1
  split at h2
  ·cases h2
  next e1=>
   rw[if_neg e1]
   split at h2
   ·cases h2
   next e2=>
    rw[if_neg e2]
    have e3:¬room≤(ZN p).1:=fun e=>e2 (Or.inl e)
    split at h2
    ·next e4=>
     rw[if_pos e4]
     have e5:¬255<(ZN p).1:=fun e=>e2 (Or.inr ⟨e4,e⟩)
     have e6:(ZN p).1*(room/256)≤255*(room/256):=Int.mul_le_mul_of_nonneg_right (by omega) (by omega)
     have e7:0≤(ZN p).1*(room/256):=Int.mul_nonneg hr (by omega)
     exact ih _ _ e4 (by omega) (by omega) h2
    ·next e4=>
     rw[if_neg e4];have hnil:r=[]:=Classical.not_not.1 e4;subst hnil;rw[ip4Go]
     show value+(ZN p).1<4294967296
     omega
theorem ZvQ{ps:List LB}(h:(ip4 ps).2=true):(ip4 ps).1.toNat<4294967296:=by
 unfold ip4 at h ⊢
 split at h
 ·cases h
 next h1=>
  rw[if_neg h1]
  have:=Zuz ps 4294967296 0 (fun e=>h1 (Or.inl (by rw[e];rfl))) (Int.le_refl _) (by decide) h
  omega
theorem ZlS{l:LB}{sp:Bool}(h0:(ZO l sp).2=0):ZO (ZO l sp).1 sp=((ZO l sp).1,0):=by
 have hd:ZO l sp=if((l.getD 0 0).toNat:Int)=91 then ZaC l else if sp=true then ZaQ l else Zcn l:=rfl
 by_cases hb:((l.getD 0 0).toNat:Int)=91
 ·rw[if_pos hb]at hd
  rw[hd]at h0 ⊢;exact ZlQ sp h0
 ·rw[if_neg hb]at hd
  cases sp
  ·rw[if_neg (by decide)]at hd
   rw[hd]at h0 ⊢;exact ZrV h0
  ·rw[if_pos rfl]at hd
   rw[hd]at h0 ⊢
   cases he:Zcb (ZeG (bsplit 46 (lower (ZF l))))
   ·exact Zp4 h0 he
   ·unfold ZaQ at h0 ⊢
    split at h0
    ·cases h0
    next h1=>
     split at h0
     ·cases h0
     next h2=>
      rw[if_neg h1,if_neg h2];unfold ZeH at h0 ⊢
      rw[he,if_neg (by decide)]at h0 ⊢
      split at h0
      ·next h3=>
       rw[if_pos h3];exact Zuy (ZvQ h3)
      ·cases h0
def ZlT(l:List UInt8):Prop:=
 (∃t:List UInt8,l=91::(t++[93])∧∀b∈t,b≠35∧b≠47∧b≠63∧b≠64∧b≠91∧b≠92∧b≠93∧b≠32) ∨
 (∀b∈l,b≠35∧b≠47∧b≠58∧b≠63∧b≠64∧b≠91∧b≠92∧b≠93∧b≠32∧b≠124)
theorem hostT_nil:ZlT []:=Or.inr fun b hb=>by cases hb
theorem ZrZ{d:Nat}(h:d≤15):(ZdB d≠35∧ZdB d≠47∧ZdB d≠63∧ZdB d≠64∧ZdB d≠91∧ZdB d≠92∧ZdB d≠93∧ZdB d≠32):=by
 match d,h with
 | 0,_=>decide
 | 1,_=>decide
 | 2,_=>decide
 | 3,_=>decide
 | 4,_=>decide
 | 5,_=>decide
 | 6,_=>decide
 | 7,_=>decide
 | 8,_=>decide
 | 9,_=>decide
 | 10,_=>decide
 | 11,_=>decide
 | 12,_=>decide
 | 13,_=>decide
 | 14,_=>decide
 | 15,_=>decide
def Bk(l:List UInt8):Prop:=∀b∈l,b≠35∧b≠47∧b≠63∧b≠64∧b≠91∧b≠92∧b≠93∧b≠32
theorem Zr0:Bk []:=fun b hb=>by cases hb
theorem Zr1{a b:LB}(ha:Bk a)(hb:Bk b):Bk (a++b):=fun x hx=>(Xe.1 hx).elim (ha x) (hb x)
theorem ZwA{n:Nat}(h:n≤65535):Bk (ZfD n):=by
 intro b hb
 have key:∀d,d≤15→b=ZdB d→b≠35∧b≠47∧b≠63∧b≠64∧b≠91∧b≠92∧b≠93∧b≠32:=fun d hd e=>by subst e;exact ZrZ hd
 unfold ZfD at hb
 (repeat' split at hb)<;>simp only[Xa,Xb,or_false]at hb
 ·exact key _ (by omega) hb
 ·rcases hb with hb|hb<;>exact key _ (by omega) hb
 ·rcases hb with hb|hb|hb<;>exact key _ (by omega) hb
 ·rcases hb with hb|hb|hb|hb<;>exact key _ (by omega) hb
theorem Zyb{ns:LI}(h:GOk ns)(st ln:Nat):∀f i,Bk (Ziv ns st ln f i):=by
 intro f
 induction f with
 | zero=>intro i;exact Zr0
 | succ f ih=>
  intro i;rw[Ziv]
  split
  ·exact Zr0
  split
  ·exact Zr1 (fun b hb=>by simp only[Xa,Xb,or_false]at hb;rcases hb with rfl|rfl<;>decide) (ih _)
  ·refine Zr1 (Zr1 ?_ (ZwA ?_)) (ih _)
   ·split
    ·exact fun b hb=>by simp only[Xa,Xb,or_false]at hb;subst hb;decide
    ·exact Zr0
   ·by_cases hi:i<ns.length
    ·have:=h ns[i] (List.getElem_mem hi)
     rw[Xi,List.getElem?_eq_getElem hi];simp only[Option.getD_some]
     omega
    ·rw[Xi,List.getElem?_eq_none (by omega)]
     simp
theorem Zr2{b:UInt8}(h:among (b.toNat:Int) Zeu=false):b≠35∧b≠47∧b≠58∧b≠63∧b≠64∧b≠91∧b≠92∧b≠93∧b≠32∧b≠124:=by refine⟨?_,?_,?_,?_,?_,?_,?_,?_,?_,?_⟩<;>(rintro rfl;exact absurd h (by decide))
theorem hostL_T{l:LB}{sp:Bool}:ZlT (ZO l sp).1:=by
 unfold ZO
 split
 ·unfold ZaC
  split
  ·exact hostT_nil
  split
  ·exact Or.inl ⟨_,rfl,Zyb (Zoy _) _ _ _ _⟩
  ·exact hostT_nil
 split
 ·unfold ZaQ
  split
  ·exact hostT_nil
  split
  ·exact hostT_nil
  next h1 h2=>
   unfold ZeH
   split
   ·right
    intro b hb
    have hp:plainDom (lower (ZF l))=true:=by simpa using h2
    have:=ZhB hp b hb;unfold Zjc at this;simp only[Bool.or_eq_false_iff]at this;exact Zr2 this.2
   split
   ·right
    intro b hb;rw[ZdG]at hb
    have:=ZlR (by omega) (by omega) (by omega) (by omega) b hb
    refine⟨?_,?_,?_,?_,?_,?_,?_,?_,?_,?_⟩<;>(rintro rfl;exact absurd this (by decide))
   ·exact hostT_nil
 ·unfold Zcn
  split
  ·exact hostT_nil
  next h1=>
   right
   intro b hb
   have hf:(l.any fun b=>among b.toNat Zeu)=false:=by simpa using h1
   have:=Xg.1 (ZlP (set:=tl (ZaO 0)) hf) b hb
   exact Zr2 (by simpa using this)
theorem ZhC{n:Int}{a:LB}(h:∀b∈a,isB n b=false):bcutLast n a=([],a,false):=by
 induction a with
 | nil=>rw[bcutLast]
 | cons c a ih=>
  rw[bcutLast,ih (fun b hb=>h b (by simp[hb])),if_neg (by intro e;cases e),if_neg (by rw[h c (by simp)];decide)]
theorem Znm{n:Int}{a r:LB}{c:UInt8}(h:∀b∈r,isB n b=false)(hc:isB n c=true):bcutLast n (a++c::r)=(a,r,true):=by
 induction a with
 | nil=>rw[List.nil_append,bcutLast,ZhC h,if_neg (by intro e;cases e),if_pos hc]
 | cons x a ih=>rw[List.cons_append,bcutLast,ih,if_pos rfl]
structure Zr3 (sp:Bool) (s:List UInt8):Prop where
 asis:Asis (tl (ZaO 4)) s
 sl:∀b∈s,slB sp b=false
 dots:countDots s=0
def ZwB(f:Bool)(ps:List (List UInt8)):Prop:=f=true→ZR (ps.getD 0 [])=true→(ps.getD 0 []).getD 1 0=58
structure ZfE (f sp:Bool) (ps:List (List UInt8)):Prop where
 each:∀s∈ps,Zr3 sp s
 drv:ZwB f ps
theorem Zh2{c:UInt8}(r:LB)(h:c.toNat<128):clean (c::r)=c::clean r:=by
 have hf:follow (c.toNat:Int)=(1,0,0):=if_pos (by omega)
 have hg:∀q:LB,Zar 1 0 0 1 q=1:=fun q=>by
  cases q with
  | nil=>rfl
  | cons a b=>rw[Zar,if_neg (by rintro⟨e,-⟩;exact absurd e (by decide))]
 have hm:measure (c::r)=(1,true):=by
  rw[measure,hf];simp only;rw[hg]
  rfl
 rw[Zdb,hm]
 simp
theorem ZoK{c:UInt8}(r:LB)(h:128≤c.toNat):∃b m,clean (c::r)=b::m∧128≤b.toNat:=by
 rw[Zdb]
 split
 ·have:=Zeo c r
  obtain⟨n,hn⟩:∃n,(measure (c::r)).1=n+1:=⟨(measure (c::r)).1 - 1,by omega⟩
  rw[hn,List.take_succ_cons];exact⟨c,_,rfl,h⟩
 ·exact⟨239,_,rfl,by decide⟩
abbrev S4:List UInt8:=tl (ZaO 4)
abbrev en4(s:List UInt8):List UInt8:=encB S4 (clean s)
theorem ZiF(set:LB)(c:UInt8)(r:LB):encB set (c::r)=Zaj set c++encB set r:=by simp[encB]
theorem Zf2{c:UInt8}(r:LB)(h1:32≤c.toNat)(h2:c.toNat≤126)(h3:among (c.toNat:Int) S4=false):en4 (c::r)=c::en4 r:=by
 show encB S4 (clean (c::r))=_
 rw[Zh2 r (by omega),ZiF]
 unfold Zaj
 rw[if_neg (by rintro(e|e|e);omega;omega;rw[h3]at e;cases e)]
 rfl
theorem Zgx(c:UInt8)(r:LB):(32≤c.toNat∧c.toNat≤126∧among (c.toNat:Int) S4=false∧en4 (c::r)=c::en4 r)∨(c≠46∧c≠37∧c≠50∧c≠101∧c≠69∧∃x y m,en4 (c::r)=37::x::y::m∧¬(x=50∧y=69)∧y≠101):=by
 by_cases h:32≤c.toNat∧c.toNat≤126∧among (c.toNat:Int) S4=false
 ·exact Or.inl ⟨h.1,h.2.1,h.2.2,Zf2 r h.1 h.2.1 h.2.2⟩
 ·right
  have hc:c≠46∧c≠37∧c≠50∧c≠101∧c≠69:=by refine⟨?_,?_,?_,?_,?_⟩<;>(rintro rfl;exact h (by decide))
  refine⟨hc.1,hc.2.1,hc.2.2.1,hc.2.2.2.1,hc.2.2.2.2,?_⟩
  obtain⟨b,m,hb,hbe,hb46⟩:∃b m,clean (c::r)=b::m∧((b.toNat:Int)<32∨126<(b.toNat:Int)∨among (b.toNat:Int) S4=true)∧b≠46:=by
   by_cases hlo:c.toNat<128
   ·refine⟨c,_,Zh2 r hlo,?_,hc.1⟩
    cases ha:among (c.toNat:Int) S4
    ·by_cases h1:(c.toNat:Int)<32
     ·exact Or.inl h1
     ·exact Or.inr (Or.inl (by have:¬c.toNat≤126:=fun e=>h ⟨by omega,e,ha⟩
                               omega))
    ·exact Or.inr (Or.inr rfl)
   ·obtain⟨b,m,hb,hh⟩:=ZoK r (by omega:128≤c.toNat)
    exact⟨b,m,hb,Or.inr (Or.inl (by omega)),by rintro rfl;exact absurd hh (by decide)⟩
  have hbl:=b.toNat_lt
  refine⟨toB (capital ((b.toNat:Int)/16)),toB (capital ((b.toNat:Int)%16)),encB S4 m,?_,?_,?_⟩
  ·show encB S4 (clean (c::r))=_
   rw[hb,ZiF];unfold Zaj;rw[if_pos hbe]
   rfl
  ·have key:∀n:Nat,n<256→toB (capital ((n:Int)/16))=50∧toB (capital ((n:Int)%16))=69→n=46:=by decide +kernel
   intro e;exact hb46 (Xd.1 (key b.toNat hbl e))
  ·have key:∀n:Nat,n<256→toB (capital ((n:Int)%16))≠101:=by decide +kernel
   exact key b.toNat hbl
theorem Zf3:en4 []=[]:=by show encB S4 (clean [])=[];rw[clean_nil];rfl
theorem ZdH{l:LB}(h1:¬((l.getD 0 0).toNat:Int)=46)(h2:¬(3≤l.length∧((l.getD 0 0).toNat:Int)=37∧((l.getD 1 0).toNat:Int)=50∧(((l.getD 2 0).toNat:Int)=101∨((l.getD 2 0).toNat:Int)=69))):dotSize l=0:=by unfold dotSize;rw[if_neg h1,if_neg h2]
theorem Zbt{b c:UInt8}{n:Nat}(hc:c.toNat=n)(h:(b.toNat:Int)=n):b=c:=Xd.1 (by omega)
theorem ZwC(s:LB):dotSize (en4 s)=dotSize s∧(en4 s).drop (dotSize s)=en4 (s.drop (dotSize s)):=by
 cases s with
 | nil=>rw[Zf3];exact⟨rfl,by simp[Zf3]⟩
 | cons c r=>
  by_cases h46:c=46
  ·subst h46
   have e:=Zf2 (c:=46) r (by decide) (by decide) (by decide)
   have d1:∀q:LB,dotSize (46::q)=1:=fun q=>if_pos rfl
   rw[e,d1,d1];exact⟨rfl,rfl⟩
  ·by_cases h37:c=37
   ·subst h37
    have e:=Zf2 (c:=37) r (by decide) (by decide) (by decide)
    rw[e]
    have d0:∀q:LB,dotSize (37::q)=if 2≤q.length∧((q.getD 0 0).toNat:Int)=50∧(((q.getD 1 0).toNat:Int)=101∨((q.getD 1 0).toNat:Int)=69)then 3 else 0:=by
     intro q;unfold dotSize
     rw[if_neg (show ¬((((37::q:LB)).getD 0 0).toNat:Int)=46 from(by decide:¬((37:UInt8).toNat:Int)=46))]
     by_cases hq:2≤q.length∧((q.getD 0 0).toNat:Int)=50∧(((q.getD 1 0).toNat:Int)=101∨((q.getD 1 0).toNat:Int)=69)
     ·rw[if_pos hq,if_pos ⟨by simp only[Xk];omega,rfl,hq.2⟩]
     ·rw[if_neg hq,if_neg (fun h=>hq ⟨by have:=h.1;simp only[Xk]at this;omega,h.2.2⟩)]
    rw[d0,d0]
    by_cases hq:2≤r.length∧((r.getD 0 0).toNat:Int)=50∧(((r.getD 1 0).toNat:Int)=101∨((r.getD 1 0).toNat:Int)=69)
    ·rw[if_pos hq]
     match r,hq with
     | d::x::q,hq=>
      have hd:d=50:=Zbt rfl hq.2.1;subst hd
      have ed:=Zf2 (c:=50) (x::q) (by decide) (by decide) (by decide)
      rcases hq.2.2 with hx|hx
      ·have hx':x=101:=Zbt rfl hx
       subst hx'
       have ex:=Zf2 (c:=101) q (by decide) (by decide) (by decide)
       rw[ed,ex,if_pos ⟨by simp,rfl,Or.inl rfl⟩]
       exact⟨rfl,rfl⟩
      ·have hx':x=69:=Zbt rfl hx
       subst hx'
       have ex:=Zf2 (c:=69) q (by decide) (by decide) (by decide)
       rw[ed,ex,if_pos ⟨by simp,rfl,Or.inr rfl⟩]
       exact⟨rfl,rfl⟩
    ·rw[if_neg hq]
     have hn:¬(2≤(en4 r).length∧(((en4 r).getD 0 0).toNat:Int)=50∧((((en4 r).getD 1 0).toNat:Int)=101∨(((en4 r).getD 1 0).toNat:Int)=69)):=by
      rintro⟨n1,n2,n3⟩
      cases r with
      | nil=>rw[Zf3]at n1;simp at n1
      | cons d q=>
       rcases Zgx d q with⟨-,-,-,hd⟩|⟨-,-,-,-,-,x,y,m,hd,-,-⟩
       ·rw[hd]at n1 n2 n3
        have n2':(d.toNat:Int)=50:=n2;have n3':(((en4 q).getD 0 0).toNat:Int)=101∨(((en4 q).getD 0 0).toNat:Int)=69:=n3
        cases q with
        | nil=>rw[Zf3]at n1;simp at n1
        | cons z q'=>
         rcases Zgx z q' with⟨-,-,-,hz⟩|⟨-,-,-,-,-,x,y,m,hz,-,-⟩
         ·rw[hz]at n3'
          exact hq ⟨by simp,n2',n3'⟩
         ·rw[hz]at n3'
          rcases n3' with n|n
          ·exact absurd n (show ¬((37:UInt8).toNat:Int)=101 by decide)
          ·exact absurd n (show ¬((37:UInt8).toNat:Int)=69 by decide)
       ·rw[hd]at n2
        exact absurd n2 (show ¬((37:UInt8).toNat:Int)=50 by decide)
     rw[if_neg hn]
     refine⟨rfl,?_⟩
     rw[Xf,Xf,e]
   ·have ds:dotSize (c::r)=0:=by
     refine ZdH (fun e=>h46 (Zbt rfl e)) ?_
     rintro⟨-,e,-⟩;exact h37 (Zbt rfl e)
    rw[ds,Xf,Xf]
    refine⟨?_,rfl⟩
    rcases Zgx c r with⟨-,-,-,he⟩|⟨-,-,-,-,-,x,y,m,he,hxy,hy⟩
    ·rw[he]
     refine ZdH (fun e=>h46 (Zbt rfl e)) ?_
     rintro⟨-,e,-⟩;exact h37 (Zbt rfl e)
    ·rw[he]
     refine ZdH (fun e=>absurd e (by show ¬((37:UInt8).toNat:Int)=46;decide)) ?_
     rintro⟨-,-,e1,e2⟩;have hx:x=50:=Zbt rfl e1;rcases e2 with e2|e2
     ·exact hy (Zbt rfl e2)
     ·exact hxy ⟨hx,Zbt rfl e2⟩
theorem ZiG(s:LB):en4 s=[]↔s=[]:=by
 constructor
 ·intro h
  exact Classical.byContradiction fun hn=>ZrS (ZkH hn) h
 ·rintro rfl;exact Zf3
theorem Zxy:∀m n s,cdGo m n (en4 s)=cdGo m n s:=by
 intro m
 induction m with
 | zero=>intro n s;rfl
 | succ m ih=>
  intro n s;have h:=ZwC s;rw[cdGo,cdGo]
  by_cases hs:s=[]
  ·rw[if_pos hs,if_pos ((ZiG s).2 hs)]
  ·rw[if_neg hs,if_neg (fun e=>hs ((ZiG s).1 e)),h.1]
   split
   ·rfl
   ·rw[h.2,ih]
theorem ZoL(s:LB):countDots (en4 s)=countDots s:=Zxy 3 0 s
theorem ZiH{n:Nat}(h:n=37∨(48≤n∧n≤57)∨(65≤n∧n≤70))(sp:Bool):ZdY sp (n:Int)=false:=by
 unfold ZdY
 have h1:((n:Int)==47)=false:=beq_eq_false_iff_ne.2 (by omega)
 have h2:((n:Int)==92)=false:=beq_eq_false_iff_ne.2 (by omega)
 rw[h1,h2];cases sp<;>rfl
theorem ZoM{n:Nat}(h:93≤n)(sp:Bool):ZdY sp (n:Int)=false:=by
 unfold ZdY
 have h1:((n:Int)==47)=false:=beq_eq_false_iff_ne.2 (by omega)
 have h2:((n:Int)==92)=false:=beq_eq_false_iff_ne.2 (by omega)
 rw[h1,h2];cases sp<;>rfl
theorem Zr4{sp:Bool}{set s:LB}(h:∀b∈s,slB sp b=false):∀b∈encB set (clean s),slB sp b=false:=by
 intro b hb;obtain⟨c,hcm,hc⟩:=List.mem_flatMap.1 hb;have hcl:=c.toNat_lt;unfold Zaj at hc
 split at hc
 ·simp only[Xa,Xb,or_false]at hc
  rcases hc with rfl|rfl|rfl
  ·exact ZiH (Or.inl rfl) sp
  ·exact ZiH (Or.inr (ZbF (by omega) (by omega))) sp
  ·exact ZiH (Or.inr (ZbF (by omega) (by omega))) sp
 ·rw[Xc]at hc
  subst hc;rcases ZiD _ s (Nat.le_refl _) b hcm with h1|h1
  ·exact h b h1
  ·exact ZoM (by omega) sp
theorem Zr5{sp:Bool}{s:LB}(h:∀b∈s,slB sp b=false)(hd:countDots s=0):Zr3 sp (en4 s):=
 ⟨ZcP Zxx _,Zr4 h,by rw[ZoL];exact hd⟩
theorem Zr6(sp:Bool):Zr3 sp []:=⟨fun b hb=>(by cases hb),fun b hb=>(by cases hb),rfl⟩
theorem ZjU{a:UInt8}(h:alpha a.toNat=true):32≤a.toNat∧a.toNat≤126∧among (a.toNat:Int) S4=false:=by
 have key:∀n:Nat,n<256→alpha (n:Int)=true→32≤n∧n≤126∧among (n:Int) S4=false:=by decide +kernel
 exact key a.toNat a.toNat_lt h
theorem Znn{a:UInt8}(h:alpha a.toNat=true)(sp:Bool):slB sp a=false:=by
 have key:∀n:Nat,n<256→alpha (n:Int)=true→ZdY sp (n:Int)=false:=by cases sp<;>decide +kernel
 exact key a.toNat a.toNat_lt h
theorem Zr7{a:UInt8}(h:alpha a.toNat=true):¬((a.toNat:Int)=46)∧¬((a.toNat:Int)=37):=by
 unfold alpha at h;have:=of_decide_eq_true h
 omega
theorem Ze0{l:LB}(h:ZR l=true):∃a b,l=[a,b]∧alpha a.toNat=true∧(b=58∨b=124):=by
 unfold ZR at h
 split at h
 ·next a b=>
  rw[Bool.and_eq_true,Bool.or_eq_true]at h
  refine⟨a,b,rfl,h.1,?_⟩
  rcases h.2 with e|e
  ·exact Or.inl (Zbt rfl (by simpa using e))
  ·exact Or.inr (Zbt rfl (by simpa using e))
 ·cases h
theorem Zno{sp:Bool}{s:LB}(h:ZR s=true):Zr3 sp (s.take 1++[58]):=by
 obtain⟨a,b,rfl,ha,-⟩:=Ze0 h;have h1:=ZjU ha
 show Zr3 sp [a,58]
 refine⟨?_,?_,?_⟩
 ·intro x hx
  simp only[Xa,Xb,or_false]at hx;rcases hx with rfl|rfl
  ·exact h1
  ·decide
 ·intro x hx
  simp only[Xa,Xb,or_false]at hx;rcases hx with rfl|rfl
  ·exact Znn ha sp
  ·cases sp<;>decide
 ·have h2:=Zr7 ha
  have:dotSize [a,58]=0:=ZdH h2.1 (fun e=>h2.2 e.2.1)
  unfold countDots
  rw[cdGo,if_neg (by simp),if_pos this]
theorem Zr8{s:LB}(h:ZR (en4 s)=true):ZR s=true:=by
 obtain⟨a,b,he,ha,hb⟩:=Ze0 h
 cases s with
 | nil=>rw[Zf3]at he;cases he
 | cons c r=>
  rcases Zgx c r with⟨-,-,-,hc⟩|⟨-,-,-,-,-,x,y,m,hc,-,-⟩
  ·rw[hc]at he
   cases r with
   | nil=>rw[Zf3]at he;cases he
   | cons d q=>
    rcases Zgx d q with⟨-,-,-,hd⟩|⟨-,-,-,-,-,x,y,m,hd,-,-⟩
    ·rw[hd]at he
     simp only[List.cons.injEq]at he;obtain⟨rfl,rfl,hq⟩:=he;have:=(ZiG q).1 hq;subst this;unfold ZR;simp only[ha,Xo];rcases hb with rfl|rfl<;>decide
    ·rw[hd]at he
     simp at he
  ·rw[hc]at he
   simp at he
theorem Zr9{f:Bool}{ps:List LB}(h:ZwB f ps)(hn:ps≠[])(t:List LB):ZwB f (ps++t):=by
 cases ps with
 | nil=>exact absurd rfl hn
 | cons x r=>exact h
theorem ZwD{f sp:Bool}{ps:List LB}{s:LB}(h:ZfE f sp ps)(hs:∀b∈s,slB sp b=false)(hd:countDots s=0):ZfE f sp (joinL f ps s):=by
 unfold joinL
 constructor
 ·intro x hx
  rcases Xe.1 hx with hx|hx
  ·exact h.each x hx
  ·rw[Xc]at hx
   subst hx
   split
   ·next hc=>exact Zno hc.2.2
   ·exact Zr5 hs hd
 ·by_cases hn:ps=[]
  ·subst hn
   intro hf hdr
   show((if f=true∧[]=[]∧ZR s=true then s.take 1++[58]else en4 s):LB).getD 1 0=58
   have hdr':ZR (if f=true∧([]:List LB)=[]∧ZR s=true then s.take 1++[58]else en4 s)=true:=hdr
   by_cases hc:ZR s=true
   ·rw[if_pos ⟨hf,rfl,hc⟩]
    obtain⟨a,b,rfl,-,-⟩:=Ze0 hc
    rfl
   ·rw[if_neg (fun e=>hc e.2.2)]at hdr'
    exact absurd (Zr8 hdr') hc
  ·exact Zr9 h.drv hn _
theorem Zsa{f sp:Bool}{ps:List LB}(h:ZfE f sp ps)(n:Nat):ZfE f sp (ps.take n):=by
 constructor
 ·exact fun s hs=>h.each s (List.mem_of_mem_take hs)
 ·intro hf hd
  cases n with
  | zero=>have hd':ZR []=true:=hd;cases hd'
  | succ n=>
   cases ps with
   | nil=>have hd':ZR []=true:=hd;cases hd'
   | cons x r=>exact h.drv hf hd
theorem ZoN{f sp:Bool}{ps:List LB}(h:ZfE f sp ps):ZfE f sp (ZaN f ps):=by
 unfold ZaN
 split
 ·exact h
 ·exact Zsa h _
theorem ZuA{f sp:Bool}{ps:List LB}(h:ZfE f sp ps):ZfE f sp (ps++[[]]):=by
 constructor
 ·intro x hx
  rcases Xe.1 hx with hx|hx
  ·exact h.each x hx
  ·rw[Xc]at hx;subst hx;exact Zr6 sp
 ·by_cases hn:ps=[]
  ·subst hn;intro _ hd;have hd':ZR []=true:=hd;cases hd'
  ·exact Zr9 h.drv hn _
theorem Zxz{f sp:Bool}{ps:List LB}{s:LB}(last:Bool)(h:ZfE f sp ps)(hs:∀b∈s,slB sp b=false):ZfE f sp (ZdR f ps s last):=by
 have h2:ZfE f sp (if countDots s=2 then ZaN f ps else ps):=by
  split
  ·exact ZoN h
  ·exact h
 unfold ZdR
 split
 ·next hd=>exact ZwD h hs hd
 split
 ·exact ZuA h2
 ·exact h2
theorem ZwE{f sp:Bool}:∀(ss ps:List LB),ZfE f sp ps→(∀s∈ss,∀b∈s,slB sp b=false)→ZfE f sp (Zco f ps ss):=by
 intro ss
 induction ss with
 | nil=>intro ps h _;rw[Zco];exact h
 | cons x r ih=>
  intro ps h hs
  cases r with
  | nil=>rw[Zco];exact Zxz true h (hs x (by simp))
  | cons y q=>rw[Zco];exact ih _ (Zxz false h (hs x (by simp))) (fun s hm=>hs s (by simp only[Xa]at hm ⊢;exact Or.inr hm))
theorem Znp{p:UInt8→Bool}:∀(l:LB),∀s∈Zb0 p l,∀b∈s,p b=false:=by
 intro l
 induction l with
 | nil=>intro s hs b hb;rw[Zb0,Xc]at hs;subst hs;cases hb
 | cons c r ih=>
  intro s hs b hb;rw[Zb0]at hs
  split at hs
  ·simp only[Xa]at hs
   rcases hs with rfl|hs
   ·cases hb
   ·exact ih s hs b hb
  ·next hc=>
   obtain⟨x,q,hx⟩:=ZeU p r;rw[hx]at hs ih;simp only[Xa]at hs;rcases hs with rfl|hs
   ·simp only[Xa]at hb
    rcases hb with rfl|hb
    ·simpa using hc
    ·exact ih x (by simp) b hb
   ·exact ih s (by simp[hs]) b hb
theorem Zsb(f sp:Bool):ZfE f sp []:=⟨fun s hs=>(by cases hs),fun _ hd=>(by have hd':ZR []=true:=hd;cases hd')⟩
theorem ZiI{f sp:Bool}{ps:List LB}(t:LB)(h:ZfE f sp ps):ZfE f sp (Zbc f sp ps t):=ZwE _ _ h (Znp t)
theorem Ze1(t sch:LB):ZfE (sch==Zo) (Zb sch) (ZbY t sch):=ZiI t (Zsb _ _)
theorem ZlU{sch:LB}{b:List LB}(t:LB)(h:ZfE (sch==Zo) (Zb sch) b):ZfE (sch==Zo) (Zb sch) (ZcZ b t sch):=ZiI t (ZoN h)
theorem ZuB{b:List LB}(t:LB)(h:ZfE true true b):ZfE true true (ZaS b t):=by
 unfold ZaS
 split
 ·exact Ze1 t Zo
 ·exact ZiI t (Zsa h 1)
theorem Zcf{a b:LB}(h:∀c,among c a=among c b)(l:LI):encoded l a=encoded l b:=by
 unfold encoded
 congr 1
 funext c
 unfold encPt;rw[h c]
theorem among_iff(c:Int)(t:LB):among c t=true↔∃b∈t,(b.toNat:Int)=c:=by
 unfold among
 simp
theorem Zec{a b:LB}(h1:∀x∈a,x∈b)(h2:∀x∈b,x∈a)(c:Int):among c a=among c b:=by
 rw[Bool.eq_iff_iff,among_iff,among_iff]
 constructor
 ·rintro⟨x,hx,e⟩;exact⟨x,h1 x hx,e⟩
 ·rintro⟨x,hx,e⟩;exact⟨x,h2 x hx,e⟩
theorem ZkK(l:LI)(hl:∀c∈l,Sc c):en4 (Zc l)=encoded l Zc5:=by
 show encB S4 (clean (Zc l))=_
 rw[ZbE _ l hl]
 exact Zcf (Zec (by decide) (by decide)) l
theorem Zed(sch:LB):tl (Zn sch)=if Zf sch then [47,92]else [47]:=by
 unfold Zn
 split<;>rfl
theorem special_eq(sch:LB):Zf sch=Zb sch:=by
 unfold Zf ZdO Zb ZI;simp only[Zhm,names6,ZeS];have e1:tl (⟨#[104,116,116,112]⟩:BA)=[104,116,116,112]:=rfl;have e2:tl (⟨#[104,116,116,112,115]⟩:BA)=[104,116,116,112,115]:=rfl;have e3:tl (⟨#[119,115]⟩:BA)=[119,115]:=rfl;have e4:tl (⟨#[119,115,115]⟩:BA)=[119,115,115]:=rfl;have e5:tl (⟨#[102,116,112]⟩:BA)=[102,116,112]:=rfl;have e6:tl (⟨#[102,105,108,101]⟩:BA)=[102,105,108,101]:=rfl;rw[e1,e2,e3,e4,e5,e6]
 by_cases h1:sch=[104,116,116,112]
 ·subst h1;rfl
 by_cases h2:sch=[104,116,116,112,115]
 ·subst h2;rfl
 by_cases h3:sch=[119,115]
 ·subst h3;rfl
 by_cases h4:sch=[119,115,115]
 ·subst h4;rfl
 by_cases h5:sch=[102,116,112]
 ·subst h5;rfl
 by_cases h6:sch=[102,105,108,101]
 ·subst h6;rfl
 rw[if_neg (Ne.symm h1),if_neg (Ne.symm h2),if_neg (Ne.symm h3),if_neg (Ne.symm h4),if_neg (Ne.symm h5),if_neg (Ne.symm h6),if_neg (by rintro(e|e);exact h1 e;exact h3 e),if_neg (by rintro(e|e);exact h2 e;exact h4 e),if_neg h5]
 simp[h6]
theorem Zns(sch:LB)(l:LI)(hl:∀c∈l,Pt c):Zb0 (slB (Zb sch)) (Zc l)=(parts l (tl (Zn sch))).map Zc:=by
 have hs:Zq3 (slB (Zb sch)) (tl (Zn sch)):=by rw[Zed,special_eq];exact Zfo _
 generalize tl (Zn sch)=t at *;generalize hk:l.length=k
 induction k using Nat.strongRecOn generalizing l with
 | ind k ih=>
  rw[Zg0,Zah hs l hl,Zgi]
  cases hc:(cut l t).2.2
  ·simp
  ·simp only[if_true]
   have hlen:=(ZaP l t).2 hc
   rw[ih _ (by omega) (cut l t).2.1 (fun c hm=>hl c (ZC (Or.inr hm))) rfl]
   rfl
theorem ZkL{b c:UInt8}(h:Zel b=c)(hc:c.toNat<65):b=c:=by
 unfold Zel at h
 split at h
 ·next hb=>
  have:=congrArg UInt8.toNat h;rw[Xh]at this;have e:(32:UInt8).toNat=32:=rfl;rw[e]at this
  omega
 ·exact h
theorem ZxA{b:UInt8}(h:Zel b=101):b=101∨b=69:=by
 unfold Zel at h
 split at h
 ·next hb=>
  right
  have:=congrArg UInt8.toNat h;rw[Xh]at this;have e:(32:UInt8).toNat=32:=rfl;have e2:(101:UInt8).toNat=101:=rfl;rw[e,e2]at this
  exact Xd.1 (by have e3:(69:UInt8).toNat=69:=rfl;omega)
 ·exact Or.inl h
theorem lower_cons(c:UInt8)(r:LB):lower (c::r)=Zel c::lower r:=rfl
theorem Zfr{l:LB}:lower l=[]↔l=[]:=by cases l<;>simp[lower]
theorem ZoQ{l t:LB}(h:lower l=46::t):∃r,l=46::r∧lower r=t:=by
 cases l with
 | nil=>cases h
 | cons c r=>
  rw[lower_cons]at h;obtain⟨h1,h2⟩:=List.cons.inj h
  exact⟨r,by rw[ZkL h1 (by decide)],h2⟩
theorem ZoR{l t:LB}(h:lower l=37::50::101::t):∃x r,l=37::50::x::r∧(x=101∨x=69)∧lower r=t:=by
 match l,h with
 | [],h=>cases h
 | [a],h=>rw[lower_cons]at h;cases(List.cons.inj h).2
 | [a,b],h=>rw[lower_cons,lower_cons]at h;cases(List.cons.inj (List.cons.inj h).2).2
 | a::b::x::r,h=>
  rw[lower_cons,lower_cons,lower_cons]at h;obtain⟨h1,h⟩:=List.cons.inj h;obtain⟨h2,h⟩:=List.cons.inj h;obtain⟨h3,h4⟩:=List.cons.inj h
  exact⟨x,r,by rw[ZkL h1 (by decide),ZkL h2 (by decide)],ZxA h3,h4⟩
theorem ZoS(l:LB):(dotSize l=1∧∃r,l=46::r)∨(dotSize l=3∧∃x r,l=37::50::x::r∧(x=101∨x=69))∨(dotSize l=0∧(∀r,l≠46::r)∧∀x r,l=37::50::x::r→¬(x=101∨x=69)):=by
 by_cases h1:((l.getD 0 0).toNat:Int)=46
 ·refine Or.inl ⟨by rw[dotSize,if_pos h1],?_⟩
  cases l with
  | nil=>exact absurd h1 (by decide)
  | cons c r=>exact⟨r,by rw[show c=46 from Zbt (n:=46) rfl h1]⟩
 ·by_cases h2:3≤l.length∧((l.getD 0 0).toNat:Int)=37∧((l.getD 1 0).toNat:Int)=50∧(((l.getD 2 0).toNat:Int)=101∨((l.getD 2 0).toNat:Int)=69)
  ·refine Or.inr (Or.inl ⟨by rw[dotSize,if_neg h1,if_pos h2],?_⟩)
   match l,h2 with
   | a::b::x::r,⟨_,ha,hb,hx⟩=>
    refine⟨x,r,by rw[show a=37 from Zbt (n:=37) rfl ha,show b=50 from Zbt (n:=50) rfl hb],?_⟩
    rcases hx with hx|hx
    ·exact Or.inl (Zbt (n:=101) rfl hx)
    ·exact Or.inr (Zbt (n:=69) rfl hx)
  ·refine Or.inr (Or.inr ⟨by rw[dotSize,if_neg h1,if_neg h2],?_,?_⟩)
   ·rintro r rfl;exact h1 rfl
   ·rintro x r rfl hx
    refine h2 ⟨by simp,rfl,rfl,?_⟩
    rcases hx with rfl|rfl
    ·exact Or.inl rfl
    ·exact Or.inr rfl
theorem ZxB{x:UInt8}(h:x=101∨x=69):Zel x=101:=by rcases h with rfl|rfl<;>rfl
theorem ZoT(r:LB)(hr:r≠[]):(if lower r=[46]then(2:Int)else if lower r=[37,50,101]then 2 else 0)=((cdGo 2 1 r:Nat):Int):=by
 rw[cdGo,if_neg hr];rcases ZoS r with⟨h,q,rfl⟩|⟨h,x,q,rfl,hx⟩|⟨h,h1,h2⟩
 ·have hr1:(if dotSize (46::q)=0 then 0 else cdGo 1 (1+1) ((46::q).drop (dotSize (46::q))))=cdGo 1 2 q:=by rw[h,if_neg (by decide)];rfl
  rw[hr1,cdGo,lower_cons,show Zel 46=46 from rfl]
  cases q with
  | nil=>rfl
  | cons c q=>
   rw[if_neg (by simp[lower]),if_neg (by simp),if_neg (by simp)]
   split<;>rfl
 ·have hr1:(if dotSize (37::50::x::q)=0 then 0 else cdGo 1 (1+1) ((37::50::x::q).drop (dotSize (37::50::x::q))))=cdGo 1 2 q:=by rw[h,if_neg (by decide)];rfl
  rw[hr1,cdGo,lower_cons,lower_cons,lower_cons,ZxB hx,show Zel 37=37 from rfl,show Zel 50=50 from rfl]
  cases q with
  | nil=>rfl
  | cons c q=>
   rw[if_neg (by simp),if_neg (by simp[lower]),if_neg (by simp)]
   split<;>rfl
 ·rw[h,if_pos rfl,if_neg (fun e=>by obtain⟨r',e',-⟩:=ZoQ e;exact h1 r' e'),if_neg (fun e=>by obtain⟨x,r',e',hx,-⟩:=ZoR e;exact h2 x r' e' hx)]
  rfl
theorem ZwF(e:LB):dots e=(countDots e:Int):=by
 unfold dots countDots;rw[cdGo]
 by_cases h0:e=[]
 ·subst h0;rfl
 rw[if_neg h0];rcases ZoS e with⟨h,r,rfl⟩|⟨h,x,r,rfl,hx⟩|⟨h,h1,h2⟩
 ·rw[h,if_neg (by decide),lower_cons,show Zel 46=46 from rfl]
  show Zdm cands (46::lower r)=((cdGo 2 1 r:Nat):Int)
  by_cases hr:r=[]
  ·subst hr;rfl
  ·rw[←ZoT r hr]
   have hn:lower r≠[]:=fun e=>hr (Zfr.1 e)
   simp[Zdm,cands,hn]
 ·rw[h,if_neg (by decide),lower_cons,lower_cons,lower_cons,ZxB hx,show Zel 37=37 from rfl,show Zel 50=50 from rfl]
  show Zdm cands (37::50::101::lower r)=((cdGo 2 1 r:Nat):Int)
  by_cases hr:r=[]
  ·subst hr;rfl
  ·rw[←ZoT r hr]
   have hn:lower r≠[]:=fun e=>hr (Zfr.1 e)
   simp[Zdm,cands,hn]
 ·rw[h,if_pos rfl]
  have n1:∀t,lower e≠46::t:=fun t e'=>by obtain⟨r',e'',-⟩:=ZoQ e';exact h1 r' e''
  have n2:∀t,lower e≠37::50::101::t:=fun t e'=>by obtain⟨x,r',e'',hx,-⟩:=ZoR e';exact h2 x r' e'' hx
  simp[Zdm,cands,n1,n2]
theorem ZoU{b:UInt8}{q:LB}(h:128≤b.toNat):ZR (b::q)=false:=by
 unfold ZR
 split
 ·next a c e=>
  obtain⟨rfl,-⟩:=List.cons.inj e;rw[Zea.hi _ h];rfl
 ·rfl
theorem Zsd{a b:UInt8}{q:LB}(h:128≤b.toNat):ZR (a::b::q)=false:=by
 unfold ZR
 split
 ·next x y e=>
  obtain⟨rfl,e2⟩:=List.cons.inj e;obtain⟨rfl,-⟩:=List.cons.inj e2
  have:((b.toNat:Int)==58||(b.toNat:Int)==124)=false:=by simp;omega
  rw[this,Xm]
 ·rfl
theorem ZoV{c:Int}(h:Pt c):1≤((utf c).map toB).length:=by
 rcases Zae h with⟨-,-,e⟩|⟨-,e,-⟩
 ·rw[e];simp
 ·cases hx:(utf c).map toB with
  | nil=>exact absurd hx e
  | cons b q=>simp
theorem ZcQ(l:LI)(hl:∀c∈l,Pt c):ZR (Zc l)=letter l:=by
 match l,hl with
 | [],_=>rfl
 | [c],hl=>
  rw[bytesOf_cons,bytesOf_nil,Xl]
  rcases Zae (hl c (by simp))with⟨h0,h1,e⟩|⟨h0,e1,e⟩
  ·rw[e];rfl
  ·have hd:ZR ((utf c).map toB)=false:=by
    cases hx:(utf c).map toB with
    | nil=>exact absurd hx e1
    | cons b q=>exact ZoU (e b (by rw[hx];simp))
   rw[hd];rfl
 | [c,d],hl=>
  rw[bytesOf_cons,bytesOf_cons,bytesOf_nil,Xl]
  show _=(alpha c&&(d==58||d==124))
  rcases Zae (hl c (by simp))with⟨h0,h1,e⟩|⟨h0,e1,e⟩
  ·rw[e,List.singleton_append]
   rcases Zae (hl d (by simp))with⟨k0,k1,f⟩|⟨k0,f1,f⟩
   ·rw[f]
    show(alpha ((toB c).toNat:Int)&&(((toB d).toNat:Int)==58||((toB d).toNat:Int)==124))=_
    rw[Zbm h0 h1,Zbm k0 k1]
   ·have hd:(d==58||d==124)=false:=by simp;omega
    rw[hd,Xm]
    cases hx:(utf d).map toB with
    | nil=>exact absurd hx f1
    | cons b q=>exact Zsd (f b (by rw[hx];simp))
  ·rw[Zea.up c h0]
   cases hx:(utf c).map toB with
   | nil=>exact absurd hx e1
   | cons b q=>exact ZoU (e b (by rw[hx];simp))
 | c::d::f::r,hl=>
  have h1:3≤(Zc (c::d::f::r)).length:=by
   rw[bytesOf_cons,bytesOf_cons,bytesOf_cons];simp only[List.length_append]
   have k1:=ZoV (hl c (by simp))
   have k2:=ZoV (hl d (by simp))
   have k3:=ZoV (hl f (by simp))
   omega
  show _=false
  cases hd:ZR (Zc (c::d::f::r))
  ·rfl
  ·have:=Zfm hd;omega
theorem Zef(n base:Int)(_hb:base=8∨base=10∨base=16):ZS n base=if 0≤digit n∧digit n<base then(digit n,true)else(0,false):=by
 unfold ZS digit;simp only
 by_cases a1:48≤n∧n≤57
 ·rw[if_pos a1,if_pos a1]
  by_cases h:base≤n-48
  ·rw[if_pos h,if_neg (by omega)]
  ·rw[if_neg h,if_pos (by omega)]
 rw[if_neg a1,if_neg a1]
 by_cases a2:97≤n∧n≤102
 ·rw[if_pos a2,if_pos a2]
  by_cases h:base≤n-97+10
  ·rw[if_pos h,if_neg (by omega)]
  ·rw[if_neg h,if_pos (by omega)]
   congr 1;omega
 rw[if_neg a2,if_neg a2]
 by_cases a3:65≤n∧n≤70
 ·rw[if_pos a3,if_pos a3]
  by_cases h:base≤n-65+10
  ·rw[if_pos h,if_neg (by omega)]
  ·rw[if_neg h,if_pos (by omega)]
   congr 1;omega
 rw[if_neg a3,if_neg a3,if_pos (by omega),if_neg (by omega)]
def ZvS(n v:Int):Prop:=(n≤4294967295∧v=n)∨(4294967295<n∧4294967295<v)
theorem Zsi(base:Int)(hb:base=8∨base=10∨base=16)(l:LB):∀n v:Int,0≤n→ZvS n v→(numGo base 4294967295 n l=none∧vGo base v l=none)∨∃n' v',numGo base 4294967295 n l=some n'∧vGo base v l=some v'∧ZvS n' v'∧0≤n':=by
 induction l with
 | nil=>intro n v h0 h;exact Or.inr ⟨n,v,rfl,rfl,h,h0⟩
 | cons c r ih=>
  intro n v h0 h;rw[numGo,vGo,Zef _ _ hb];generalize digit (c.toNat:Int)=d at *
  by_cases hd:0≤d∧d<base
  ·have h9:¬(d<0∨base≤d):=by omega
   rw[if_pos hd,if_neg h9];simp only[if_true]
   refine ih _ _ ?_ ?_
   ·split
    ·have:=Int.mul_nonneg h0 (show(0:Int)≤base by omega)
     omega
    ·exact h0
   ·rcases h with⟨h1,rfl⟩|⟨h1,h2⟩
    ·rw[if_pos h1]
     unfold ZeJ
     have:v*base+d≤1099511627776:=by rcases hb with rfl|rfl|rfl<;>omega
     rw[if_neg (by omega)]
     by_cases h3:v*base+d≤4294967295
     ·exact Or.inl ⟨h3,rfl⟩
     ·exact Or.inr ⟨by omega,by omega⟩
    ·rw[if_neg (by omega)]
     refine Or.inr ⟨h1,?_⟩
     unfold ZeJ
     split
     ·omega
     ·rcases hb with rfl|rfl|rfl<;>omega
  ·have h9:d<0∨base≤d:=by omega
   rw[if_neg hd,if_pos h9];exact Or.inl ⟨rfl,rfl⟩
def Znv(x y:Int×Bool):Prop:=(x.2=false∧y.2=false)∨(x.2=true∧y.2=true∧0≤x.1∧((x.1≤4294967295∧y.1=x.1)∨(x.1=4294967296∧4294967295<y.1)))
theorem Zfv(base:Int)(hb:base=8∨base=10∨base=16)(l:LB)(hl:l≠[]):Znv (Zu l base 4294967295) (fin (vGo base 0 l)):=by
 unfold Zu;rw[if_neg hl]
 rcases Zsi base hb l 0 0 (Int.le_refl _) (Or.inl ⟨by decide,rfl⟩)with⟨h1,h2⟩|⟨n,v,h1,h2,h3,h4⟩
 ·rw[h1,h2];exact Or.inl ⟨rfl,rfl⟩
 ·rw[h1,h2]
  simp only[fin];rcases h3 with⟨h5,rfl⟩|⟨h5,h6⟩
  ·rw[if_neg (by omega)];exact Or.inr ⟨rfl,rfl,h4,Or.inl ⟨h5,rfl⟩⟩
  ·rw[if_pos h5];exact Or.inr ⟨rfl,rfl,by decide,Or.inr ⟨by decide,h6⟩⟩
def Low(l:List UInt8):Prop:=∀b∈l,¬(65≤b.toNat∧b.toNat≤90)
theorem Zsj(l:LB):Low (lower l):=by
 intro b hb;obtain⟨c,-,rfl⟩:=List.mem_map.1 hb;unfold Zel
 split
 ·rw[Xh]
  have:(32:UInt8).toNat=32:=rfl
  omega
 ·assumption
theorem Zsk{b c:UInt8}{n:Int}(hc:(c.toNat:Int)=n):((b.toNat:Int)=n)↔b=c:=by
 constructor
 ·intro h;exact Xd.1 (by omega)
 ·intro h;rw[h];exact hc
theorem ZkP(t:LB)(ht:Low t):Znv (ZN t) (valueStr t):=by
 unfold ZN valueStr
 match t,ht with
 | [],_=>exact Or.inl ⟨rfl,rfl⟩
 | [c],_=>
  rw[if_pos (Or.inl (by simp)),if_neg (by simp),if_neg (by simp),if_neg (by simp)]
  exact Zfv 10 (by omega) _ (by simp)
 | c::d::r,ht=>
  rw[if_neg (show ¬(c::d::r:LB)=[]by simp)]
  by_cases hc:c=48
  ·subst hc
   have g1:¬((48::d::r:LB).length<2∨¬(((48::d::r:LB).getD 0 0).toNat:Int)=48):=by
    rintro(h|h)
    ·simp at h;omega
    ·exact h rfl
   rw[if_neg g1]
   by_cases hd:d=120
   ·subst hd
    have g2:¬(¬(((48::120::r:LB).getD 1 0).toNat:Int)=120∧¬(((48::120::r:LB).getD 1 0).toNat:Int)=88):=by rintro⟨h,-⟩;exact h rfl
    have g3:1<(48::120::r:LB).length∧(48::120::r:LB).take 2=[48,120]:=⟨by simp,rfl⟩
    rw[if_neg g2,if_pos g3]
    cases r with
    | nil=>exact Or.inr ⟨rfl,rfl,by decide,Or.inl ⟨by decide,rfl⟩⟩
    | cons e r=>
     rw[if_neg (by simp)]
     exact Zfv 16 (by omega) _ (by simp)
   ·have hd2:¬d=88:=fun e=>ht d (by simp) (by rw[e];decide)
    rw[if_pos ⟨fun h=>hd ((Zsk (c:=120) rfl).1 h),fun h=>hd2 ((Zsk (c:=88) rfl).1 h)⟩,if_neg (by rintro⟨-,h⟩;simp at h;exact hd h),if_pos ⟨by simp,rfl⟩]
    exact Zfv 8 (by omega) _ (by simp)
  ·have g1:(c::d::r:LB).length<2∨¬(((c::d::r:LB).getD 0 0).toNat:Int)=48:=Or.inr (fun h=>hc ((Zsk (c:=48) rfl).1 h))
   rw[if_pos g1,if_neg (by rintro⟨-,h⟩;simp at h;exact hc h.1),if_neg (by rintro⟨-,h⟩;simp at h;exact hc h)]
   exact Zfv 10 (by omega) _ (by simp)
theorem Zjm(most:Int)(l:LB):∀n,(numGo 10 most n l).isSome=l.all fun b=>numeral (b.toNat:Int):=by
 induction l with
 | nil=>intro n;rfl
 | cons c r ih=>
  intro n
  rw[numGo,Zef _ _ (by omega),List.all_cons]
  have hnum:numeral (c.toNat:Int)=decide (0≤digit (c.toNat:Int)∧digit (c.toNat:Int)<10):=by
   unfold numeral digit
   by_cases a1:48≤(c.toNat:Int)∧(c.toNat:Int)≤57
   ·rw[if_pos a1,decide_eq_true a1,decide_eq_true (by omega)]
   ·rw[if_neg a1,decide_eq_false a1]
    split
    ·rw[decide_eq_false (by omega)]
    ·split
     ·rw[decide_eq_false (by omega)]
     ·rw[decide_eq_false (by omega)]
  rw[hnum]
  by_cases hd:0≤digit (c.toNat:Int)∧digit (c.toNat:Int)<10
  ·rw[if_pos hd,decide_eq_true hd]
   simp only[if_true,Xo];exact ih _
  ·rw[if_neg hd,decide_eq_false hd]
   simp
theorem ZgA(most:Int)(l:LB):(Zu l 10 most).2=((l.all fun b=>numeral (b.toNat:Int)) && !l.isEmpty):=by
 unfold Zu
 cases l with
 | nil=>rfl
 | cons c r=>
  rw[if_neg (by simp)]
  have h:=Zjm most (c::r) 0
  cases hn:numGo 10 most 0 (c::r)with
  | none=>rw[hn]at h;simp only[Option.isSome]at h;rw[←h];rfl
  | some n=>rw[hn]at h;simp only[Option.isSome]at h;rw[←h];simp only;split<;>rfl
theorem Zf5:Asc (fun b=>numeral (b.toNat:Int)) numeral where
 lo:=ZdT (p:=fun b=>numeral (b.toNat:Int)) (P:=numeral) (by decide)
 hi:=fun b hb=>by simp[numeral];omega
 up:=fun c hc=>by simp[numeral];omega
theorem by256{P:UInt8→Prop}(h:∀n:Fin 256,P (UInt8.ofNat n.val))(b:UInt8):P b:=by
 have:=h ⟨b.toNat,b.toNat_lt⟩
 rwa [Xj]at this
theorem numeral_low(b:UInt8):numeral ((Zel b).toNat:Int)=numeral (b.toNat:Int):=by256 (P:=fun b=>numeral ((Zel b).toNat:Int)=numeral (b.toNat:Int)) (by decide +kernel) b
theorem ZlW(p:LI)(hp:∀c∈p,Pt c)(most:Int):(Zu (lower (Zc p)) 10 most).2=ZU p:=by
 rw[ZgA];unfold ZU
 have h1:((lower (Zc p)).all fun b=>numeral (b.toNat:Int))=(Zc p).all fun b=>numeral (b.toNat:Int):=by
  unfold lower;rw[List.all_map]
  congr 1
  funext b
  exact numeral_low b
 rw[h1,Zf5.all p hp]
 congr 1
 cases p with
 | nil=>rfl
 | cons c r=>
  have hne:Zc (c::r)≠[]:=fun e=>by have:=(Zp hp).1 e;cases this
  cases hb:Zc (c::r)with
  | nil=>exact absurd hb hne
  | cons x y=>rfl
end Go.Proofs.YtchkhibgbnhjpaaGreatDoor
