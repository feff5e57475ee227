import Derived.Test.YtchkhibgbnhjpabGreatDoorB21
open Bool renaming and_false→Xm,true_and→Xo
open List renaming mem_cons→Xa,not_mem_nil→Xb,mem_singleton→Xc,mem_append→Xe,drop_zero→Xf,any_eq_false→Xg,getD_eq_getElem?_getD→Xi,length_cons→Xk,append_nil→Xl
open UInt8 renaming toNat_inj→Xd,toNat_add→Xh,ofNat_toNat→Xj
namespace Go.Proofs.YtchkhibgbnhjpabGreatDoor
open Go.RowKit
theorem Zul{d:Nat}(h:d≤9):ZP ((Zhv d).toNat:Int) 10=((d:Int),true):=by
 match d,h with
 | 0,_=>decide
 | 1,_=>decide
 | 2,_=>decide
 | 3,_=>decide
 | 4,_=>decide
 | 5,_=>decide
 | 6,_=>decide
 | 7,_=>decide
 | 8,_=>decide
 | 9,_=>decide
theorem ZaG(most:Int)(n d:Nat)(hd:d≤9)(hn:(n:Int)≤most)(r:LB):numGo 10 most (n:Int) (Zhv d::r)=numGo 10 most ((n*10+d:Nat):Int) r:=by
 rw[numGo,Zul hd,if_pos rfl,if_pos hn]
 simp
theorem ZoA{n:Nat}{most:Int}(h:n≤65535)(hm:65535≤most):Zq (Zce n) 10 most=((n:Int),true):=by
 unfold Zq;rw[if_neg (decD_ne n)]
 have key:numGo 10 most 0 (Zce n)=some (n:Int):=by
  show numGo 10 most ((0:Nat):Int) (Zce n)=_
  unfold Zce
  split
  ·rw[ZaG _ 0 n (by omega) (by omega),numGo];simp
  split
  ·rw[ZaG _ 0 _ (by omega) (by omega),ZaG _ _ _ (by omega) (by omega),numGo];congr 1;omega
  split
  ·rw[ZaG _ 0 _ (by omega) (by omega),ZaG _ _ _ (by omega) (by omega),ZaG _ _ _ (by omega) (by omega),numGo];congr 1;omega
  split
  ·rw[ZaG _ 0 _ (by omega) (by omega),ZaG _ _ _ (by omega) (by omega),ZaG _ _ _ (by omega) (by omega),ZaG _ _ _ (by omega) (by omega),numGo];congr 1;omega
  ·rw[ZaG _ 0 _ (by omega) (by omega),ZaG _ _ _ (by omega) (by omega),ZaG _ _ _ (by omega) (by omega),ZaG _ _ _ (by omega) (by omega),ZaG _ _ _ (by omega) (by omega),numGo];congr 1;omega
 rw[key]
 show(if most<(n:Int)then _ else _)=_
 rw[if_neg (by omega)]
theorem Zkq{d:Nat}(h1:1≤d)(h:d≤9):¬((Zhv d).toNat:Int)=48:=by unfold Zhv;rw[UInt8.toNat_ofNat',Nat.mod_eq_of_lt (by omega)];omega
theorem ZrR{n:Nat}(h:n≤65535):(Zce n).length<2∨¬(((Zce n).getD 0 0).toNat:Int)=48:=by
 unfold Zce
 split
 ·left;show 1<2;decide
 split
 ·right;exact Zkq (by omega) (by omega)
 split
 ·right;exact Zkq (by omega) (by omega)
 split
 ·right;exact Zkq (by omega) (by omega)
 ·right;exact Zkq (by omega) (by omega)
theorem Zeo{n:Nat}(h:n≤65535):ZK (Zce n)=((n:Int),true):=by
 unfold ZK
 rw[if_pos (ZrR h),ZoA h (by decide)]
theorem ZpX{n:Nat}(h:n≤255):(Zce n).length≤3:=by
 unfold Zce
 split
 ·simp
 split
 ·simp
 rw[if_pos (by omega)]
 simp
def dots4(a b c d:Nat):List UInt8:=Zce a++(46::(Zce b++(46::(Zce c++(46::(Zce d++[]))))))
theorem Zdz(v:Nat):Zdg v=dots4 (v/256^3%256) (v/256^2%256) (v/256^1%256) (v/256^0%256):=rfl
theorem Zgi{n:Nat}(h:n≤255):∀b∈Zce n,isB 46 b=false:=fun b hb=>by
 have:=ZgI (n:=n) (by omega) b hb
 unfold isB
 exact beq_eq_false_iff_ne.2 (by omega)
theorem Znc{a b c d:Nat}(ha:a≤255)(hb:b≤255)(hc:c≤255)(hd:d≤255):bsplit 46 (dots4 a b c d)=[Zce a,Zce b,Zce c,Zce d]:=by
 have step:∀l:LB,bsplit 46 (46::l)=[]::bsplit 46 l:=fun l=>by rw[bsplit,if_pos (by decide)]
 unfold dots4;rw[ZdZ _ _ 46 (Zgi ha),step,ZdZ _ _ 46 (Zgi hb),step,ZdZ _ _ 46 (Zgi hc),step,ZdZ _ _ 46 (Zgi hd)]
 simp[bsplit]
theorem ZlE{a b c d:Nat}(ha:a≤255)(hb:b≤255)(hc:c≤255)(hd:d≤255):∀x∈dots4 a b c d,(48≤x.toNat∧x.toNat≤57)∨x.toNat=46:=by
 intro x hx;unfold dots4 at hx;simp only[Xe,Xa,Xb,or_false]at hx;rcases hx with hx|hx|hx|hx|hx|hx|hx
 ·exact Or.inl (ZgI (n:=a) (by omega) x hx)
 ·subst hx;exact Or.inr rfl
 ·exact Or.inl (ZgI (n:=b) (by omega) x hx)
 ·subst hx;exact Or.inr rfl
 ·exact Or.inl (ZgI (n:=c) (by omega) x hx)
 ·subst hx;exact Or.inr rfl
 ·exact Or.inl (ZgI (n:=d) (by omega) x hx)
theorem Zum{a b c d:Nat}(ha:a≤255)(hb:b≤255)(hc:c≤255)(hd:d≤255):ip4 [Zce a,Zce b,Zce c,Zce d]=(((a*16777216+b*65536+c*256+d:Nat):Int),true):=by
 unfold ip4
 rw[if_neg (by simp)]
 rw[ip4Go,Zeo (by omega),if_neg (by simp),if_neg (by simp;omega),if_pos (by simp)]
 rw[ip4Go,Zeo (by omega),if_neg (by simp),if_neg (by simp;omega),if_pos (by simp)]
 rw[ip4Go,Zeo (by omega),if_neg (by simp),if_neg (by simp;omega),if_pos (by simp)]
 rw[ip4Go,Zeo (by omega),if_neg (by simp),if_neg (by simp;omega),if_neg (by simp)]
 rw[ip4Go]
 refine Prod.ext ?_ rfl
 show(0:Int)+(a:Int)*(4294967296/256)+(b:Int)*(4294967296/256/256)+(c:Int)*(4294967296/256/256/256)+(d:Int)=_
 omega
theorem Zwl{x:UInt8}(h:(48≤x.toNat∧x.toNat≤57)∨x.toNat=46):ZiQ x=false:=by
 have hlt:=x.toNat_lt
 have key:∀n:Nat,n<256→((48≤n∧n≤57)∨n=46)→ZiQ (UInt8.ofNat n)=false:=by decide +kernel
 have:=key x.toNat hlt h
 rwa [Xj]at this
theorem ZpY{a b c d:Nat}(ha:a≤255)(hb:b≤255)(hc:c≤255)(hd:d≤255):ZT (dots4 a b c d) true=(Zdg (a*16777216+b*65536+c*256+d),0):=by
 have hm:=ZlE ha hb hc hd;have hs:=Znc ha hb hc hd
 have hne:dots4 a b c d≠[]:=fun e=>decD_ne a (List.append_eq_nil_iff.1 e).1
 generalize dots4 a b c d=l at *
 have h1:ZA l=l:=Zjx fun x hx e=>by subst e;exact absurd (hm 37 hx) (by decide)
 have h2:lower l=l:=Zuk fun x hx e=>by have:=hm x hx;omega
 have h3:beyondB l=false:=by
  unfold beyondB;rw[Xg];intro x hx;have:=hm x hx
  simp;omega
 have h4:ZtU [Zce a,Zce b,Zce c,Zce d]=false:=by
  have key:∀n:Nat,n≤255→ZcP (Zce n)=false:=fun n hn=>by
   unfold ZcP
   rw[decide_eq_false (by have:=ZpX hn;omega)]
   rfl
  unfold ZtU
  simp[key a ha,key b hb,key c hc,key d hd]
 have h5:plainDom l=true:=by
  unfold plainDom
  have:l.any ZiQ=false:=Xg.2 fun x hx=>by rw[Zwl (hm x hx)];decide
  rw[this]
  cases l with
  | nil=>exact absurd rfl hne
  | cons x r=>rfl
 have h6:Zex [Zce a,Zce b,Zce c,Zce d]=[Zce a,Zce b,Zce c,Zce d]:=by
  unfold Zex
  exact if_neg fun e=>decD_ne d e.2
 have h7:Zb5 [Zce a,Zce b,Zce c,Zce d]=true:=by
  unfold Zb5
  rw[if_neg (by simp)]
  show((Zq (Zce d) 10 4294967295).2||_)=true
  rw[ZoA (by omega) (by decide)]
  rfl
 unfold ZT
 rw[if_neg (Zif fun x hx e=>by subst e;exact absurd (hm 91 hx) (by decide)),if_pos rfl]
 unfold ZaL
 rw[h1,h2,hs,h3,h4,if_neg (by decide),if_neg (by rw[h5];decide),h6]
 unfold Zey
 rw[h7,if_neg (by decide),Zum ha hb hc hd,if_pos rfl]
 rfl
theorem Zun{v:Nat}(h:v<4294967296):ZT (Zdg v) true=(Zdg v,0):=by
 rw[Zdz,ZpY (by omega) (by omega) (by omega) (by omega),←Zdz]
 congr 2
 omega
theorem Zuo:∀(ps:List LB) (room value:Int),ps≠[]→0≤value→value+room≤4294967296→(ip4Go ps room value).2=true→(ip4Go ps room value).1<4294967296:=by
 intro ps
 induction ps with
 | nil=>intro _ _ h;exact absurd rfl h
 | cons p r ih=>
  intro room value _ h0 h1 h2;rw[ip4Go]at h2 ⊢;have hr:=(ZfL p).1
  split at h2
  ·cases h2
  next e1=>
   rw[if_neg e1]
   split at h2
   ·cases h2
   next e2=>
    rw[if_neg e2]
    have e3:¬room≤(ZK p).1:=fun e=>e2 (Or.inl e)
    split at h2
    ·next e4=>
     rw[if_pos e4]
     have e5:¬255<(ZK p).1:=fun e=>e2 (Or.inr ⟨e4,e⟩)
     have e6:(ZK p).1*(room/256)≤255*(room/256):=Int.mul_le_mul_of_nonneg_right (by omega) (by omega)
     have e7:0≤(ZK p).1*(room/256):=Int.mul_nonneg hr (by omega)
     exact ih _ _ e4 (by omega) (by omega) h2
    ·next e4=>
     rw[if_neg e4];have hnil:r=[]:=Classical.not_not.1 e4;subst hnil;rw[ip4Go]
     show value+(ZK p).1<4294967296
     omega
theorem ZvC{ps:List LB}(h:(ip4 ps).2=true):(ip4 ps).1.toNat<4294967296:=by
 unfold ip4 at h ⊢
 split at h
 ·cases h
 next h1=>
  rw[if_neg h1]
  have:=Zuo ps 4294967296 0 (fun e=>h1 (Or.inl (by rw[e];rfl))) (Int.le_refl _) (by decide) h
  omega
theorem ZlF{l:LB}{sp:Bool}(h0:(ZT l sp).2=0):ZT (ZT l sp).1 sp=((ZT l sp).1,0):=by
 have hd:ZT l sp=if((l.getD 0 0).toNat:Int)=91 then Zav l else if sp=true then ZaL l else Zcg l:=rfl
 by_cases hb:((l.getD 0 0).toNat:Int)=91
 ·rw[if_pos hb]at hd
  rw[hd]at h0 ⊢;exact ZlD sp h0
 ·rw[if_neg hb]at hd
  cases sp
  ·rw[if_neg (by decide)]at hd
   rw[hd]at h0 ⊢;exact ZrO h0
  ·rw[if_pos rfl]at hd
   rw[hd]at h0 ⊢
   cases he:Zb5 (Zex (bsplit 46 (lower (ZA l))))
   ·exact ZpW h0 he
   ·unfold ZaL at h0 ⊢
    split at h0
    ·cases h0
    next h1=>
     split at h0
     ·cases h0
     next h2=>
      rw[if_neg h1,if_neg h2];unfold Zey at h0 ⊢
      rw[he,if_neg (by decide)]at h0 ⊢
      split at h0
      ·next h3=>
       rw[if_pos h3];exact Zun (ZvC h3)
      ·cases h0
def ZlG(l:List UInt8):Prop:=
 (∃t:List UInt8,l=91::(t++[93])∧∀b∈t,b≠35∧b≠47∧b≠63∧b≠64∧b≠91∧b≠92∧b≠93∧b≠32) ∨
 (∀b∈l,b≠35∧b≠47∧b≠58∧b≠63∧b≠64∧b≠91∧b≠92∧b≠93∧b≠32∧b≠124)
theorem hostT_nil:ZlG []:=Or.inr fun b hb=>by cases hb
theorem ZrS{d:Nat}(h:d≤15):(Zdt d≠35∧Zdt d≠47∧Zdt d≠63∧Zdt d≠64∧Zdt d≠91∧Zdt d≠92∧Zdt d≠93∧Zdt d≠32):=by
 match d,h with
 | 0,_=>decide
 | 1,_=>decide
 | 2,_=>decide
 | 3,_=>decide
 | 4,_=>decide
 | 5,_=>decide
 | 6,_=>decide
 | 7,_=>decide
 | 8,_=>decide
 | 9,_=>decide
 | 10,_=>decide
 | 11,_=>decide
 | 12,_=>decide
 | 13,_=>decide
 | 14,_=>decide
 | 15,_=>decide
def Bk(l:List UInt8):Prop:=∀b∈l,b≠35∧b≠47∧b≠63∧b≠64∧b≠91∧b≠92∧b≠93∧b≠32
theorem ZrT:Bk []:=fun b hb=>by cases hb
theorem ZrU{a b:LB}(ha:Bk a)(hb:Bk b):Bk (a++b):=fun x hx=>(Xe.1 hx).elim (ha x) (hb x)
theorem Zwm{n:Nat}(h:n≤65535):Bk (Zfx n):=by
 intro b hb
 have key:∀d,d≤15→b=Zdt d→b≠35∧b≠47∧b≠63∧b≠64∧b≠91∧b≠92∧b≠93∧b≠32:=fun d hd e=>by subst e;exact ZrS hd
 unfold Zfx at hb
 (repeat' split at hb)<;>simp only[Xa,Xb,or_false]at hb
 ·exact key _ (by omega) hb
 ·rcases hb with hb|hb<;>exact key _ (by omega) hb
 ·rcases hb with hb|hb|hb<;>exact key _ (by omega) hb
 ·rcases hb with hb|hb|hb|hb<;>exact key _ (by omega) hb
theorem ZxQ{ns:LI}(h:GOk ns)(st ln:Nat):∀f i,Bk (Zh7 ns st ln f i):=by
 intro f
 induction f with
 | zero=>intro i;exact ZrT
 | succ f ih=>
  intro i;rw[Zh7]
  split
  ·exact ZrT
  split
  ·exact ZrU (fun b hb=>by simp only[Xa,Xb,or_false]at hb;rcases hb with rfl|rfl<;>decide) (ih _)
  ·refine ZrU (ZrU ?_ (Zwm ?_)) (ih _)
   ·split
    ·exact fun b hb=>by simp only[Xa,Xb,or_false]at hb;subst hb;decide
    ·exact ZrT
   ·by_cases hi:i<ns.length
    ·have:=h ns[i] (List.getElem_mem hi)
     rw[Xi,List.getElem?_eq_getElem hi];simp only[Option.getD_some]
     omega
    ·rw[Xi,List.getElem?_eq_none (by omega)]
     simp
theorem ZrV{b:UInt8}(h:among (b.toNat:Int) Zej=false):b≠35∧b≠47∧b≠58∧b≠63∧b≠64∧b≠91∧b≠92∧b≠93∧b≠32∧b≠124:=by refine⟨?_,?_,?_,?_,?_,?_,?_,?_,?_,?_⟩<;>(rintro rfl;exact absurd h (by decide))
theorem hostL_T{l:LB}{sp:Bool}:ZlG (ZT l sp).1:=by
 unfold ZT
 split
 ·unfold Zav
  split
  ·exact hostT_nil
  split
  ·exact Or.inl ⟨_,rfl,ZxQ (Zop _) _ _ _ _⟩
  ·exact hostT_nil
 split
 ·unfold ZaL
  split
  ·exact hostT_nil
  split
  ·exact hostT_nil
  next h1 h2=>
   unfold Zey
   split
   ·right
    intro b hb
    have hp:plainDom (lower (ZA l))=true:=by simpa using h2
    have:=Zhf hp b hb;unfold ZiQ at this;simp only[Bool.or_eq_false_iff]at this;exact ZrV this.2
   split
   ·right
    intro b hb;rw[Zdz]at hb
    have:=ZlE (by omega) (by omega) (by omega) (by omega) b hb
    refine⟨?_,?_,?_,?_,?_,?_,?_,?_,?_,?_⟩<;>(rintro rfl;exact absurd this (by decide))
   ·exact hostT_nil
 ·unfold Zcg
  split
  ·exact hostT_nil
  next h1=>
   right
   intro b hb
   have hf:(l.any fun b=>among b.toNat Zej)=false:=by simpa using h1
   have:=Xg.1 (ZlC (set:=tl (ZaJ 0)) hf) b hb
   exact ZrV (by simpa using this)
theorem Zhg{n:Int}{a:LB}(h:∀b∈a,isB n b=false):bcutLast n a=([],a,false):=by
 induction a with
 | nil=>rw[bcutLast]
 | cons c a ih=>
  rw[bcutLast,ih (fun b hb=>h b (by simp[hb])),if_neg (by intro e;cases e),if_neg (by rw[h c (by simp)];decide)]
theorem Znd{n:Int}{a r:LB}{c:UInt8}(h:∀b∈r,isB n b=false)(hc:isB n c=true):bcutLast n (a++c::r)=(a,r,true):=by
 induction a with
 | nil=>rw[List.nil_append,bcutLast,Zhg h,if_neg (by intro e;cases e),if_pos hc]
 | cons x a ih=>rw[List.cons_append,bcutLast,ih,if_pos rfl]
structure ZrW (sp:Bool) (s:List UInt8):Prop where
 asis:Asis (tl (ZaJ 4)) s
 sl:∀b∈s,slB sp b=false
 dots:countDots s=0
def Zwn(f:Bool)(ps:List (List UInt8)):Prop:=f=true→ZN (ps.getD 0 [])=true→(ps.getD 0 []).getD 1 0=58
structure Zfz (f sp:Bool) (ps:List (List UInt8)):Prop where
 each:∀s∈ps,ZrW sp s
 drv:Zwn f ps
theorem ZhI{c:UInt8}(r:LB)(h:c.toNat<128):clean (c::r)=c::clean r:=by
 have hf:follow (c.toNat:Int)=(1,0,0):=if_pos (by omega)
 have hg:∀q:LB,Zaj 1 0 0 1 q=1:=fun q=>by
  cases q with
  | nil=>rfl
  | cons a b=>rw[Zaj,if_neg (by rintro⟨e,-⟩;exact absurd e (by decide))]
 have hm:measure (c::r)=(1,true):=by
  rw[measure,hf];simp only;rw[hg]
  rfl
 rw[Zc2,hm]
 simp
theorem ZoB{c:UInt8}(r:LB)(h:128≤c.toNat):∃b m,clean (c::r)=b::m∧128≤b.toNat:=by
 rw[Zc2]
 split
 ·have:=Zeb c r
  obtain⟨n,hn⟩:∃n,(measure (c::r)).1=n+1:=⟨(measure (c::r)).1 - 1,by omega⟩
  rw[hn,List.take_succ_cons];exact⟨c,_,rfl,h⟩
 ·exact⟨239,_,rfl,by decide⟩
abbrev S4:List UInt8:=tl (ZaJ 4)
abbrev en4(s:List UInt8):List UInt8:=encB S4 (clean s)
theorem Zii(set:LB)(c:UInt8)(r:LB):encB set (c::r)=Zab set c++encB set r:=by simp[encB]
theorem ZfU{c:UInt8}(r:LB)(h1:32≤c.toNat)(h2:c.toNat≤126)(h3:among (c.toNat:Int) S4=false):en4 (c::r)=c::en4 r:=by
 show encB S4 (clean (c::r))=_
 rw[ZhI r (by omega),Zii]
 unfold Zab
 rw[if_neg (by rintro(e|e|e);omega;omega;rw[h3]at e;cases e)]
 rfl
theorem Zgj(c:UInt8)(r:LB):(32≤c.toNat∧c.toNat≤126∧among (c.toNat:Int) S4=false∧en4 (c::r)=c::en4 r)∨(c≠46∧c≠37∧c≠50∧c≠101∧c≠69∧∃x y m,en4 (c::r)=37::x::y::m∧¬(x=50∧y=69)∧y≠101):=by
 by_cases h:32≤c.toNat∧c.toNat≤126∧among (c.toNat:Int) S4=false
 ·exact Or.inl ⟨h.1,h.2.1,h.2.2,ZfU r h.1 h.2.1 h.2.2⟩
 ·right
  have hc:c≠46∧c≠37∧c≠50∧c≠101∧c≠69:=by refine⟨?_,?_,?_,?_,?_⟩<;>(rintro rfl;exact h (by decide))
  refine⟨hc.1,hc.2.1,hc.2.2.1,hc.2.2.2.1,hc.2.2.2.2,?_⟩
  obtain⟨b,m,hb,hbe,hb46⟩:∃b m,clean (c::r)=b::m∧((b.toNat:Int)<32∨126<(b.toNat:Int)∨among (b.toNat:Int) S4=true)∧b≠46:=by
   by_cases hlo:c.toNat<128
   ·refine⟨c,_,ZhI r hlo,?_,hc.1⟩
    cases ha:among (c.toNat:Int) S4
    ·by_cases h1:(c.toNat:Int)<32
     ·exact Or.inl h1
     ·exact Or.inr (Or.inl (by have:¬c.toNat≤126:=fun e=>h ⟨by omega,e,ha⟩
                               omega))
    ·exact Or.inr (Or.inr rfl)
   ·obtain⟨b,m,hb,hh⟩:=ZoB r (by omega:128≤c.toNat)
    exact⟨b,m,hb,Or.inr (Or.inl (by omega)),by rintro rfl;exact absurd hh (by decide)⟩
  have hbl:=b.toNat_lt
  refine⟨toB (capital ((b.toNat:Int)/16)),toB (capital ((b.toNat:Int)%16)),encB S4 m,?_,?_,?_⟩
  ·show encB S4 (clean (c::r))=_
   rw[hb,Zii];unfold Zab;rw[if_pos hbe]
   rfl
  ·have key:∀n:Nat,n<256→toB (capital ((n:Int)/16))=50∧toB (capital ((n:Int)%16))=69→n=46:=by decide +kernel
   intro e;exact hb46 (Xd.1 (key b.toNat hbl e))
  ·have key:∀n:Nat,n<256→toB (capital ((n:Int)%16))≠101:=by decide +kernel
   exact key b.toNat hbl
theorem ZfV:en4 []=[]:=by show encB S4 (clean [])=[];rw[clean_nil];rfl
theorem ZdA{l:LB}(h1:¬((l.getD 0 0).toNat:Int)=46)(h2:¬(3≤l.length∧((l.getD 0 0).toNat:Int)=37∧((l.getD 1 0).toNat:Int)=50∧(((l.getD 2 0).toNat:Int)=101∨((l.getD 2 0).toNat:Int)=69))):dotSize l=0:=by unfold dotSize;rw[if_neg h1,if_neg h2]
theorem Zbn{b c:UInt8}{n:Nat}(hc:c.toNat=n)(h:(b.toNat:Int)=n):b=c:=Xd.1 (by omega)
theorem Zwo(s:LB):dotSize (en4 s)=dotSize s∧(en4 s).drop (dotSize s)=en4 (s.drop (dotSize s)):=by
 cases s with
 | nil=>rw[ZfV];exact⟨rfl,by simp[ZfV]⟩
 | cons c r=>
  by_cases h46:c=46
  ·subst h46
   have e:=ZfU (c:=46) r (by decide) (by decide) (by decide)
   have d1:∀q:LB,dotSize (46::q)=1:=fun q=>if_pos rfl
   rw[e,d1,d1];exact⟨rfl,rfl⟩
  ·by_cases h37:c=37
   ·subst h37
    have e:=ZfU (c:=37) r (by decide) (by decide) (by decide)
    rw[e]
    have d0:∀q:LB,dotSize (37::q)=if 2≤q.length∧((q.getD 0 0).toNat:Int)=50∧(((q.getD 1 0).toNat:Int)=101∨((q.getD 1 0).toNat:Int)=69)then 3 else 0:=by
     intro q;unfold dotSize
     rw[if_neg (show ¬((((37::q:LB)).getD 0 0).toNat:Int)=46 from(by decide:¬((37:UInt8).toNat:Int)=46))]
     by_cases hq:2≤q.length∧((q.getD 0 0).toNat:Int)=50∧(((q.getD 1 0).toNat:Int)=101∨((q.getD 1 0).toNat:Int)=69)
     ·rw[if_pos hq,if_pos ⟨by simp only[Xk];omega,rfl,hq.2⟩]
     ·rw[if_neg hq,if_neg (fun h=>hq ⟨by have:=h.1;simp only[Xk]at this;omega,h.2.2⟩)]
    rw[d0,d0]
    by_cases hq:2≤r.length∧((r.getD 0 0).toNat:Int)=50∧(((r.getD 1 0).toNat:Int)=101∨((r.getD 1 0).toNat:Int)=69)
    ·rw[if_pos hq]
     match r,hq with
     | d::x::q,hq=>
      have hd:d=50:=Zbn rfl hq.2.1;subst hd
      have ed:=ZfU (c:=50) (x::q) (by decide) (by decide) (by decide)
      rcases hq.2.2 with hx|hx
      ·have hx':x=101:=Zbn rfl hx
       subst hx'
       have ex:=ZfU (c:=101) q (by decide) (by decide) (by decide)
       rw[ed,ex,if_pos ⟨by simp,rfl,Or.inl rfl⟩]
       exact⟨rfl,rfl⟩
      ·have hx':x=69:=Zbn rfl hx
       subst hx'
       have ex:=ZfU (c:=69) q (by decide) (by decide) (by decide)
       rw[ed,ex,if_pos ⟨by simp,rfl,Or.inr rfl⟩]
       exact⟨rfl,rfl⟩
    ·rw[if_neg hq]
     have hn:¬(2≤(en4 r).length∧(((en4 r).getD 0 0).toNat:Int)=50∧((((en4 r).getD 1 0).toNat:Int)=101∨(((en4 r).getD 1 0).toNat:Int)=69)):=by
      rintro⟨n1,n2,n3⟩
      cases r with
      | nil=>rw[ZfV]at n1;simp at n1
      | cons d q=>
       rcases Zgj d q with⟨-,-,-,hd⟩|⟨-,-,-,-,-,x,y,m,hd,-,-⟩
       ·rw[hd]at n1 n2 n3
        have n2':(d.toNat:Int)=50:=n2;have n3':(((en4 q).getD 0 0).toNat:Int)=101∨(((en4 q).getD 0 0).toNat:Int)=69:=n3
        cases q with
        | nil=>rw[ZfV]at n1;simp at n1
        | cons z q'=>
         rcases Zgj z q' with⟨-,-,-,hz⟩|⟨-,-,-,-,-,x,y,m,hz,-,-⟩
         ·rw[hz]at n3'
          exact hq ⟨by simp,n2',n3'⟩
         ·rw[hz]at n3'
          rcases n3' with n|n
          ·exact absurd n (show ¬((37:UInt8).toNat:Int)=101 by decide)
          ·exact absurd n (show ¬((37:UInt8).toNat:Int)=69 by decide)
       ·rw[hd]at n2
        exact absurd n2 (show ¬((37:UInt8).toNat:Int)=50 by decide)
     rw[if_neg hn]
     refine⟨rfl,?_⟩
     rw[Xf,Xf,e]
   ·have ds:dotSize (c::r)=0:=by
     refine ZdA (fun e=>h46 (Zbn rfl e)) ?_
     rintro⟨-,e,-⟩;exact h37 (Zbn rfl e)
    rw[ds,Xf,Xf]
    refine⟨?_,rfl⟩
    rcases Zgj c r with⟨-,-,-,he⟩|⟨-,-,-,-,-,x,y,m,he,hxy,hy⟩
    ·rw[he]
     refine ZdA (fun e=>h46 (Zbn rfl e)) ?_
     rintro⟨-,e,-⟩;exact h37 (Zbn rfl e)
    ·rw[he]
     refine ZdA (fun e=>absurd e (by show ¬((37:UInt8).toNat:Int)=46;decide)) ?_
     rintro⟨-,-,e1,e2⟩;have hx:x=50:=Zbn rfl e1;rcases e2 with e2|e2
     ·exact hy (Zbn rfl e2)
     ·exact hxy ⟨hx,Zbn rfl e2⟩
theorem Zij(s:LB):en4 s=[]↔s=[]:=by
 constructor
 ·intro h
  exact Classical.byContradiction fun hn=>ZrL (Zkp hn) h
 ·rintro rfl;exact ZfV
theorem Zxh:∀m n s,cdGo m n (en4 s)=cdGo m n s:=by
 intro m
 induction m with
 | zero=>intro n s;rfl
 | succ m ih=>
  intro n s;have h:=Zwo s;rw[cdGo,cdGo]
  by_cases hs:s=[]
  ·rw[if_pos hs,if_pos ((Zij s).2 hs)]
  ·rw[if_neg hs,if_neg (fun e=>hs ((Zij s).1 e)),h.1]
   split
   ·rfl
   ·rw[h.2,ih]
theorem ZoC(s:LB):countDots (en4 s)=countDots s:=Zxh 3 0 s
theorem Zik{n:Nat}(h:n=37∨(48≤n∧n≤57)∨(65≤n∧n≤70))(sp:Bool):Zdv sp (n:Int)=false:=by
 unfold Zdv
 have h1:((n:Int)==47)=false:=beq_eq_false_iff_ne.2 (by omega)
 have h2:((n:Int)==92)=false:=beq_eq_false_iff_ne.2 (by omega)
 rw[h1,h2];cases sp<;>rfl
theorem ZoD{n:Nat}(h:93≤n)(sp:Bool):Zdv sp (n:Int)=false:=by
 unfold Zdv
 have h1:((n:Int)==47)=false:=beq_eq_false_iff_ne.2 (by omega)
 have h2:((n:Int)==92)=false:=beq_eq_false_iff_ne.2 (by omega)
 rw[h1,h2];cases sp<;>rfl
theorem ZrX{sp:Bool}{set s:LB}(h:∀b∈s,slB sp b=false):∀b∈encB set (clean s),slB sp b=false:=by
 intro b hb;obtain⟨c,hcm,hc⟩:=List.mem_flatMap.1 hb;have hcl:=c.toNat_lt;unfold Zab at hc
 split at hc
 ·simp only[Xa,Xb,or_false]at hc
  rcases hc with rfl|rfl|rfl
  ·exact Zik (Or.inl rfl) sp
  ·exact Zik (Or.inr (Zby (by omega) (by omega))) sp
  ·exact Zik (Or.inr (Zby (by omega) (by omega))) sp
 ·rw[Xc]at hc
  subst hc;rcases Zig _ s (Nat.le_refl _) b hcm with h1|h1
  ·exact h b h1
  ·exact ZoD (by omega) sp
theorem ZrY{sp:Bool}{s:LB}(h:∀b∈s,slB sp b=false)(hd:countDots s=0):ZrW sp (en4 s):=
 ⟨ZcG Zxg _,ZrX h,by rw[ZoC];exact hd⟩
theorem ZrZ(sp:Bool):ZrW sp []:=⟨fun b hb=>(by cases hb),fun b hb=>(by cases hb),rfl⟩
theorem Zjy{a:UInt8}(h:alpha a.toNat=true):32≤a.toNat∧a.toNat≤126∧among (a.toNat:Int) S4=false:=by
 have key:∀n:Nat,n<256→alpha (n:Int)=true→32≤n∧n≤126∧among (n:Int) S4=false:=by decide +kernel
 exact key a.toNat a.toNat_lt h
theorem Zne{a:UInt8}(h:alpha a.toNat=true)(sp:Bool):slB sp a=false:=by
 have key:∀n:Nat,n<256→alpha (n:Int)=true→Zdv sp (n:Int)=false:=by cases sp<;>decide +kernel
 exact key a.toNat a.toNat_lt h
theorem Zr0{a:UInt8}(h:alpha a.toNat=true):¬((a.toNat:Int)=46)∧¬((a.toNat:Int)=37):=by
 unfold alpha at h;have:=of_decide_eq_true h
 omega
theorem ZeW{l:LB}(h:ZN l=true):∃a b,l=[a,b]∧alpha a.toNat=true∧(b=58∨b=124):=by
 unfold ZN at h
 split at h
 ·next a b=>
  rw[Bool.and_eq_true,Bool.or_eq_true]at h
  refine⟨a,b,rfl,h.1,?_⟩
  rcases h.2 with e|e
  ·exact Or.inl (Zbn rfl (by simpa using e))
  ·exact Or.inr (Zbn rfl (by simpa using e))
 ·cases h
theorem Znf{sp:Bool}{s:LB}(h:ZN s=true):ZrW sp (s.take 1++[58]):=by
 obtain⟨a,b,rfl,ha,-⟩:=ZeW h;have h1:=Zjy ha
 show ZrW sp [a,58]
 refine⟨?_,?_,?_⟩
 ·intro x hx
  simp only[Xa,Xb,or_false]at hx;rcases hx with rfl|rfl
  ·exact h1
  ·decide
 ·intro x hx
  simp only[Xa,Xb,or_false]at hx;rcases hx with rfl|rfl
  ·exact Zne ha sp
  ·cases sp<;>decide
 ·have h2:=Zr0 ha
  have:dotSize [a,58]=0:=ZdA h2.1 (fun e=>h2.2 e.2.1)
  unfold countDots
  rw[cdGo,if_neg (by simp),if_pos this]
theorem Zr1{s:LB}(h:ZN (en4 s)=true):ZN s=true:=by
 obtain⟨a,b,he,ha,hb⟩:=ZeW h
 cases s with
 | nil=>rw[ZfV]at he;cases he
 | cons c r=>
  rcases Zgj c r with⟨-,-,-,hc⟩|⟨-,-,-,-,-,x,y,m,hc,-,-⟩
  ·rw[hc]at he
   cases r with
   | nil=>rw[ZfV]at he;cases he
   | cons d q=>
    rcases Zgj d q with⟨-,-,-,hd⟩|⟨-,-,-,-,-,x,y,m,hd,-,-⟩
    ·rw[hd]at he
     simp only[List.cons.injEq]at he;obtain⟨rfl,rfl,hq⟩:=he;have:=(Zij q).1 hq;subst this;unfold ZN;simp only[ha,Xo];rcases hb with rfl|rfl<;>decide
    ·rw[hd]at he
     simp at he
  ·rw[hc]at he
   simp at he
theorem Zr2{f:Bool}{ps:List LB}(h:Zwn f ps)(hn:ps≠[])(t:List LB):Zwn f (ps++t):=by
 cases ps with
 | nil=>exact absurd rfl hn
 | cons x r=>exact h
theorem Zwp{f sp:Bool}{ps:List LB}{s:LB}(h:Zfz f sp ps)(hs:∀b∈s,slB sp b=false)(hd:countDots s=0):Zfz f sp (joinL f ps s):=by
 unfold joinL
 constructor
 ·intro x hx
  rcases Xe.1 hx with hx|hx
  ·exact h.each x hx
  ·rw[Xc]at hx
   subst hx
   split
   ·next hc=>exact Znf hc.2.2
   ·exact ZrY hs hd
 ·by_cases hn:ps=[]
  ·subst hn
   intro hf hdr
   show((if f=true∧[]=[]∧ZN s=true then s.take 1++[58]else en4 s):LB).getD 1 0=58
   have hdr':ZN (if f=true∧([]:List LB)=[]∧ZN s=true then s.take 1++[58]else en4 s)=true:=hdr
   by_cases hc:ZN s=true
   ·rw[if_pos ⟨hf,rfl,hc⟩]
    obtain⟨a,b,rfl,-,-⟩:=ZeW hc
    rfl
   ·rw[if_neg (fun e=>hc e.2.2)]at hdr'
    exact absurd (Zr1 hdr') hc
  ·exact Zr2 h.drv hn _
theorem Zr3{f sp:Bool}{ps:List LB}(h:Zfz f sp ps)(n:Nat):Zfz f sp (ps.take n):=by
 constructor
 ·exact fun s hs=>h.each s (List.mem_of_mem_take hs)
 ·intro hf hd
  cases n with
  | zero=>have hd':ZN []=true:=hd;cases hd'
  | succ n=>
   cases ps with
   | nil=>have hd':ZN []=true:=hd;cases hd'
   | cons x r=>exact h.drv hf hd
theorem ZoE{f sp:Bool}{ps:List LB}(h:Zfz f sp ps):Zfz f sp (ZaK f ps):=by
 unfold ZaK
 split
 ·exact h
 ·exact Zr3 h _
theorem Zup{f sp:Bool}{ps:List LB}(h:Zfz f sp ps):Zfz f sp (ps++[[]]):=by
 constructor
 ·intro x hx
  rcases Xe.1 hx with hx|hx
  ·exact h.each x hx
  ·rw[Xc]at hx;subst hx;exact ZrZ sp
 ·by_cases hn:ps=[]
  ·subst hn;intro _ hd;have hd':ZN []=true:=hd;cases hd'
  ·exact Zr2 h.drv hn _
theorem Zxi{f sp:Bool}{ps:List LB}{s:LB}(last:Bool)(h:Zfz f sp ps)(hs:∀b∈s,slB sp b=false):Zfz f sp (ZdM f ps s last):=by
 have h2:Zfz f sp (if countDots s=2 then ZaK f ps else ps):=by
  split
  ·exact ZoE h
  ·exact h
 unfold ZdM
 split
 ·next hd=>exact Zwp h hs hd
 split
 ·exact Zup h2
 ·exact h2
theorem Zwq{f sp:Bool}:∀(ss ps:List LB),Zfz f sp ps→(∀s∈ss,∀b∈s,slB sp b=false)→Zfz f sp (Zch f ps ss):=by
 intro ss
 induction ss with
 | nil=>intro ps h _;rw[Zch];exact h
 | cons x r ih=>
  intro ps h hs
  cases r with
  | nil=>rw[Zch];exact Zxi true h (hs x (by simp))
  | cons y q=>rw[Zch];exact ih _ (Zxi false h (hs x (by simp))) (fun s hm=>hs s (by simp only[Xa]at hm ⊢;exact Or.inr hm))
theorem Zng{p:UInt8→Bool}:∀(l:LB),∀s∈ZbT p l,∀b∈s,p b=false:=by
 intro l
 induction l with
 | nil=>intro s hs b hb;rw[ZbT,Xc]at hs;subst hs;cases hb
 | cons c r ih=>
  intro s hs b hb;rw[ZbT]at hs
  split at hs
  ·simp only[Xa]at hs
   rcases hs with rfl|hs
   ·cases hb
   ·exact ih s hs b hb
  ·next hc=>
   obtain⟨x,q,hx⟩:=ZeO p r;rw[hx]at hs ih;simp only[Xa]at hs;rcases hs with rfl|hs
   ·simp only[Xa]at hb
    rcases hb with rfl|hb
    ·simpa using hc
    ·exact ih x (by simp) b hb
   ·exact ih s (by simp[hs]) b hb
theorem Zr4(f sp:Bool):Zfz f sp []:=⟨fun s hs=>(by cases hs),fun _ hd=>(by have hd':ZN []=true:=hd;cases hd')⟩
theorem Zil{f sp:Bool}{ps:List LB}(t:LB)(h:Zfz f sp ps):Zfz f sp (Za4 f sp ps t):=Zwq _ _ h (Zng t)
theorem ZeX(t sch:LB):Zfz (sch==Zv) (Zc sch) (Zbe t sch):=Zil t (Zr4 _ _)
theorem ZlH{sch:LB}{b:List LB}(t:LB)(h:Zfz (sch==Zv) (Zc sch) b):Zfz (sch==Zv) (Zc sch) (ZcQ b t sch):=Zil t (ZoE h)
theorem Zuq{b:List LB}(t:LB)(h:Zfz true true b):Zfz true true (ZaN b t):=by
 unfold ZaN
 split
 ·exact ZeX t Zv
 ·exact Zil t (Zr3 h 1)
theorem Zb9{a b:LB}(h:∀c,among c a=among c b)(l:LI):encoded l a=encoded l b:=by
 unfold encoded
 congr 1
 funext c
 unfold encPt;rw[h c]
theorem among_iff(c:Int)(t:LB):among c t=true↔∃b∈t,(b.toNat:Int)=c:=by
 unfold among
 simp
theorem Zd1{a b:LB}(h1:∀x∈a,x∈b)(h2:∀x∈b,x∈a)(c:Int):among c a=among c b:=by
 rw[Bool.eq_iff_iff,among_iff,among_iff]
 constructor
 ·rintro⟨x,hx,e⟩;exact⟨x,h1 x hx,e⟩
 ·rintro⟨x,hx,e⟩;exact⟨x,h2 x hx,e⟩
theorem Zks(l:LI)(hl:∀c∈l,Sc c):en4 (Zb l)=encoded l ZcS:=by
 show encB S4 (clean (Zb l))=_
 rw[Zbx _ l hl]
 exact Zb9 (Zd1 (by decide) (by decide)) l
theorem ZgK(sch:LB):tl (Zk sch)=if Ze sch then [47,92]else [47]:=by
 unfold Zk
 split<;>rfl
theorem special_eq(sch:LB):Ze sch=Zc sch:=by
 unfold Ze ZdJ Zc ZJ;simp only[Zg3,names6,ZeN];have e1:tl (⟨#[104,116,116,112]⟩:BA)=[104,116,116,112]:=rfl;have e2:tl (⟨#[104,116,116,112,115]⟩:BA)=[104,116,116,112,115]:=rfl;have e3:tl (⟨#[119,115]⟩:BA)=[119,115]:=rfl;have e4:tl (⟨#[119,115,115]⟩:BA)=[119,115,115]:=rfl;have e5:tl (⟨#[102,116,112]⟩:BA)=[102,116,112]:=rfl;have e6:tl (⟨#[102,105,108,101]⟩:BA)=[102,105,108,101]:=rfl;rw[e1,e2,e3,e4,e5,e6]
 by_cases h1:sch=[104,116,116,112]
 ·subst h1;rfl
 by_cases h2:sch=[104,116,116,112,115]
 ·subst h2;rfl
 by_cases h3:sch=[119,115]
 ·subst h3;rfl
 by_cases h4:sch=[119,115,115]
 ·subst h4;rfl
 by_cases h5:sch=[102,116,112]
 ·subst h5;rfl
 by_cases h6:sch=[102,105,108,101]
 ·subst h6;rfl
 rw[if_neg (Ne.symm h1),if_neg (Ne.symm h2),if_neg (Ne.symm h3),if_neg (Ne.symm h4),if_neg (Ne.symm h5),if_neg (Ne.symm h6),if_neg (by rintro(e|e);exact h1 e;exact h3 e),if_neg (by rintro(e|e);exact h2 e;exact h4 e),if_neg h5]
 simp[h6]
theorem Znj(sch:LB)(l:LI)(hl:∀c∈l,Pt c):ZbT (slB (Zc sch)) (Zb l)=(parts l (tl (Zk sch))).map Zb:=by
 have hs:ZtB (slB (Zc sch)) (tl (Zk sch)):=by rw[ZgK,special_eq];exact Zfk _
 generalize tl (Zk sch)=t at *;generalize hk:l.length=k
 induction k using Nat.strongRecOn generalizing l with
 | ind k ih=>
  rw[ZgD,Zan hs l hl,ZeL]
  cases hc:(cut l t).2.2
  ·simp
  ·simp only[if_true]
   have hlen:=(Zbk l t).2 hc
   rw[ih _ (by omega) (cut l t).2.1 (fun c hm=>hl c (ZD (Or.inr hm))) rfl]
   rfl
theorem Zkt{b c:UInt8}(h:Zd9 b=c)(hc:c.toNat<65):b=c:=by
 unfold Zd9 at h
 split at h
 ·next hb=>
  have:=congrArg UInt8.toNat h;rw[Xh]at this;have e:(32:UInt8).toNat=32:=rfl;rw[e]at this
  omega
 ·exact h
theorem Zxj{b:UInt8}(h:Zd9 b=101):b=101∨b=69:=by
 unfold Zd9 at h
 split at h
 ·next hb=>
  right
  have:=congrArg UInt8.toNat h;rw[Xh]at this;have e:(32:UInt8).toNat=32:=rfl;have e2:(101:UInt8).toNat=101:=rfl;rw[e,e2]at this
  exact Xd.1 (by have e3:(69:UInt8).toNat=69:=rfl;omega)
 ·exact Or.inl h
theorem lower_cons(c:UInt8)(r:LB):lower (c::r)=Zd9 c::lower r:=rfl
theorem Zfn{l:LB}:lower l=[]↔l=[]:=by cases l<;>simp[lower]
theorem ZoH{l t:LB}(h:lower l=46::t):∃r,l=46::r∧lower r=t:=by
 cases l with
 | nil=>cases h
 | cons c r=>
  rw[lower_cons]at h;obtain⟨h1,h2⟩:=List.cons.inj h
  exact⟨r,by rw[Zkt h1 (by decide)],h2⟩
theorem ZoI{l t:LB}(h:lower l=37::50::101::t):∃x r,l=37::50::x::r∧(x=101∨x=69)∧lower r=t:=by
 match l,h with
 | [],h=>cases h
 | [a],h=>rw[lower_cons]at h;cases(List.cons.inj h).2
 | [a,b],h=>rw[lower_cons,lower_cons]at h;cases(List.cons.inj (List.cons.inj h).2).2
 | a::b::x::r,h=>
  rw[lower_cons,lower_cons,lower_cons]at h;obtain⟨h1,h⟩:=List.cons.inj h;obtain⟨h2,h⟩:=List.cons.inj h;obtain⟨h3,h4⟩:=List.cons.inj h
  exact⟨x,r,by rw[Zkt h1 (by decide),Zkt h2 (by decide)],Zxj h3,h4⟩
theorem ZoJ(l:LB):(dotSize l=1∧∃r,l=46::r)∨(dotSize l=3∧∃x r,l=37::50::x::r∧(x=101∨x=69))∨(dotSize l=0∧(∀r,l≠46::r)∧∀x r,l=37::50::x::r→¬(x=101∨x=69)):=by
 by_cases h1:((l.getD 0 0).toNat:Int)=46
 ·refine Or.inl ⟨by rw[dotSize,if_pos h1],?_⟩
  cases l with
  | nil=>exact absurd h1 (by decide)
  | cons c r=>exact⟨r,by rw[show c=46 from Zbn (n:=46) rfl h1]⟩
 ·by_cases h2:3≤l.length∧((l.getD 0 0).toNat:Int)=37∧((l.getD 1 0).toNat:Int)=50∧(((l.getD 2 0).toNat:Int)=101∨((l.getD 2 0).toNat:Int)=69)
  ·refine Or.inr (Or.inl ⟨by rw[dotSize,if_neg h1,if_pos h2],?_⟩)
   match l,h2 with
   | a::b::x::r,⟨_,ha,hb,hx⟩=>
    refine⟨x,r,by rw[show a=37 from Zbn (n:=37) rfl ha,show b=50 from Zbn (n:=50) rfl hb],?_⟩
    rcases hx with hx|hx
    ·exact Or.inl (Zbn (n:=101) rfl hx)
    ·exact Or.inr (Zbn (n:=69) rfl hx)
  ·refine Or.inr (Or.inr ⟨by rw[dotSize,if_neg h1,if_neg h2],?_,?_⟩)
   ·rintro r rfl;exact h1 rfl
   ·rintro x r rfl hx
    refine h2 ⟨by simp,rfl,rfl,?_⟩
    rcases hx with rfl|rfl
    ·exact Or.inl rfl
    ·exact Or.inr rfl
theorem Zxk{x:UInt8}(h:x=101∨x=69):Zd9 x=101:=by rcases h with rfl|rfl<;>rfl
theorem ZoK(r:LB)(hr:r≠[]):(if lower r=[46]then(2:Int)else if lower r=[37,50,101]then 2 else 0)=((cdGo 2 1 r:Nat):Int):=by
 rw[cdGo,if_neg hr];rcases ZoJ r with⟨h,q,rfl⟩|⟨h,x,q,rfl,hx⟩|⟨h,h1,h2⟩
 ·have hr1:(if dotSize (46::q)=0 then 0 else cdGo 1 (1+1) ((46::q).drop (dotSize (46::q))))=cdGo 1 2 q:=by rw[h,if_neg (by decide)];rfl
  rw[hr1,cdGo,lower_cons,show Zd9 46=46 from rfl]
  cases q with
  | nil=>rfl
  | cons c q=>
   rw[if_neg (by simp[lower]),if_neg (by simp),if_neg (by simp)]
   split<;>rfl
 ·have hr1:(if dotSize (37::50::x::q)=0 then 0 else cdGo 1 (1+1) ((37::50::x::q).drop (dotSize (37::50::x::q))))=cdGo 1 2 q:=by rw[h,if_neg (by decide)];rfl
  rw[hr1,cdGo,lower_cons,lower_cons,lower_cons,Zxk hx,show Zd9 37=37 from rfl,show Zd9 50=50 from rfl]
  cases q with
  | nil=>rfl
  | cons c q=>
   rw[if_neg (by simp),if_neg (by simp[lower]),if_neg (by simp)]
   split<;>rfl
 ·rw[h,if_pos rfl,if_neg (fun e=>by obtain⟨r',e',-⟩:=ZoH e;exact h1 r' e'),if_neg (fun e=>by obtain⟨x,r',e',hx,-⟩:=ZoI e;exact h2 x r' e' hx)]
  rfl
theorem Zwr(e:LB):dots e=(countDots e:Int):=by
 unfold dots countDots;rw[cdGo]
 by_cases h0:e=[]
 ·subst h0;rfl
 rw[if_neg h0];rcases ZoJ e with⟨h,r,rfl⟩|⟨h,x,r,rfl,hx⟩|⟨h,h1,h2⟩
 ·rw[h,if_neg (by decide),lower_cons,show Zd9 46=46 from rfl]
  show Zde cands (46::lower r)=((cdGo 2 1 r:Nat):Int)
  by_cases hr:r=[]
  ·subst hr;rfl
  ·rw[←ZoK r hr]
   have hn:lower r≠[]:=fun e=>hr (Zfn.1 e)
   simp[Zde,cands,hn]
 ·rw[h,if_neg (by decide),lower_cons,lower_cons,lower_cons,Zxk hx,show Zd9 37=37 from rfl,show Zd9 50=50 from rfl]
  show Zde cands (37::50::101::lower r)=((cdGo 2 1 r:Nat):Int)
  by_cases hr:r=[]
  ·subst hr;rfl
  ·rw[←ZoK r hr]
   have hn:lower r≠[]:=fun e=>hr (Zfn.1 e)
   simp[Zde,cands,hn]
 ·rw[h,if_pos rfl]
  have n1:∀t,lower e≠46::t:=fun t e'=>by obtain⟨r',e'',-⟩:=ZoH e';exact h1 r' e''
  have n2:∀t,lower e≠37::50::101::t:=fun t e'=>by obtain⟨x,r',e'',hx,-⟩:=ZoI e';exact h2 x r' e'' hx
  simp[Zde,cands,n1,n2]
theorem ZoL{b:UInt8}{q:LB}(h:128≤b.toNat):ZN (b::q)=false:=by
 unfold ZN
 split
 ·next a c e=>
  obtain⟨rfl,-⟩:=List.cons.inj e;rw[ZdY.hi _ h];rfl
 ·rfl
theorem Zr6{a b:UInt8}{q:LB}(h:128≤b.toNat):ZN (a::b::q)=false:=by
 unfold ZN
 split
 ·next x y e=>
  obtain⟨rfl,e2⟩:=List.cons.inj e;obtain⟨rfl,-⟩:=List.cons.inj e2
  have:((b.toNat:Int)==58||(b.toNat:Int)==124)=false:=by simp;omega
  rw[this,Xm]
 ·rfl
theorem ZoM{c:Int}(h:Pt c):1≤((utf c).map toB).length:=by
 rcases Z7 h with⟨-,-,e⟩|⟨-,e,-⟩
 ·rw[e];simp
 ·cases hx:(utf c).map toB with
  | nil=>exact absurd hx e
  | cons b q=>simp
theorem ZcH(l:LI)(hl:∀c∈l,Pt c):ZN (Zb l)=letter l:=by
 match l,hl with
 | [],_=>rfl
 | [c],hl=>
  rw[bytesOf_cons,bytesOf_nil,Xl]
  rcases Z7 (hl c (by simp))with⟨h0,h1,e⟩|⟨h0,e1,e⟩
  ·rw[e];rfl
  ·have hd:ZN ((utf c).map toB)=false:=by
    cases hx:(utf c).map toB with
    | nil=>exact absurd hx e1
    | cons b q=>exact ZoL (e b (by rw[hx];simp))
   rw[hd];rfl
 | [c,d],hl=>
  rw[bytesOf_cons,bytesOf_cons,bytesOf_nil,Xl]
  show _=(alpha c&&(d==58||d==124))
  rcases Z7 (hl c (by simp))with⟨h0,h1,e⟩|⟨h0,e1,e⟩
  ·rw[e,List.singleton_append]
   rcases Z7 (hl d (by simp))with⟨k0,k1,f⟩|⟨k0,f1,f⟩
   ·rw[f]
    show(alpha ((toB c).toNat:Int)&&(((toB d).toNat:Int)==58||((toB d).toNat:Int)==124))=_
    rw[Zbf h0 h1,Zbf k0 k1]
   ·have hd:(d==58||d==124)=false:=by simp;omega
    rw[hd,Xm]
    cases hx:(utf d).map toB with
    | nil=>exact absurd hx f1
    | cons b q=>exact Zr6 (f b (by rw[hx];simp))
  ·rw[ZdY.up c h0]
   cases hx:(utf c).map toB with
   | nil=>exact absurd hx e1
   | cons b q=>exact ZoL (e b (by rw[hx];simp))
 | c::d::f::r,hl=>
  have h1:3≤(Zb (c::d::f::r)).length:=by
   rw[bytesOf_cons,bytesOf_cons,bytesOf_cons];simp only[List.length_append]
   have k1:=ZoM (hl c (by simp))
   have k2:=ZoM (hl d (by simp))
   have k3:=ZoM (hl f (by simp))
   omega
  show _=false
  cases hd:ZN (Zb (c::d::f::r))
  ·rfl
  ·have:=Zfi hd;omega
theorem Zd2(n base:Int)(_hb:base=8∨base=10∨base=16):ZP n base=if 0≤digit n∧digit n<base then(digit n,true)else(0,false):=by
 unfold ZP digit;simp only
 by_cases a1:48≤n∧n≤57
 ·rw[if_pos a1,if_pos a1]
  by_cases h:base≤n-48
  ·rw[if_pos h,if_neg (by omega)]
  ·rw[if_neg h,if_pos (by omega)]
 rw[if_neg a1,if_neg a1]
 by_cases a2:97≤n∧n≤102
 ·rw[if_pos a2,if_pos a2]
  by_cases h:base≤n-97+10
  ·rw[if_pos h,if_neg (by omega)]
  ·rw[if_neg h,if_pos (by omega)]
   congr 1;omega
 rw[if_neg a2,if_neg a2]
 by_cases a3:65≤n∧n≤70
 ·rw[if_pos a3,if_pos a3]
  by_cases h:base≤n-65+10
  ·rw[if_pos h,if_neg (by omega)]
  ·rw[if_neg h,if_pos (by omega)]
   congr 1;omega
 rw[if_neg a3,if_neg a3,if_pos (by omega),if_neg (by omega)]
def ZvE(n v:Int):Prop:=(n≤4294967295∧v=n)∨(4294967295<n∧4294967295<v)
theorem Zsb(base:Int)(hb:base=8∨base=10∨base=16)(l:LB):∀n v:Int,0≤n→ZvE n v→(numGo base 4294967295 n l=none∧vGo base v l=none)∨∃n' v',numGo base 4294967295 n l=some n'∧vGo base v l=some v'∧ZvE n' v'∧0≤n':=by
 induction l with
 | nil=>intro n v h0 h;exact Or.inr ⟨n,v,rfl,rfl,h,h0⟩
 | cons c r ih=>
  intro n v h0 h;rw[numGo,vGo,Zd2 _ _ hb];generalize digit (c.toNat:Int)=d at *
  by_cases hd:0≤d∧d<base
  ·have h9:¬(d<0∨base≤d):=by omega
   rw[if_pos hd,if_neg h9];simp only[if_true]
   refine ih _ _ ?_ ?_
   ·split
    ·have:=Int.mul_nonneg h0 (show(0:Int)≤base by omega)
     omega
    ·exact h0
   ·rcases h with⟨h1,rfl⟩|⟨h1,h2⟩
    ·rw[if_pos h1]
     unfold ZeB
     have:v*base+d≤1099511627776:=by rcases hb with rfl|rfl|rfl<;>omega
     rw[if_neg (by omega)]
     by_cases h3:v*base+d≤4294967295
     ·exact Or.inl ⟨h3,rfl⟩
     ·exact Or.inr ⟨by omega,by omega⟩
    ·rw[if_neg (by omega)]
     refine Or.inr ⟨h1,?_⟩
     unfold ZeB
     split
     ·omega
     ·rcases hb with rfl|rfl|rfl<;>omega
  ·have h9:d<0∨base≤d:=by omega
   rw[if_neg hd,if_pos h9];exact Or.inl ⟨rfl,rfl⟩
def Znm(x y:Int×Bool):Prop:=(x.2=false∧y.2=false)∨(x.2=true∧y.2=true∧0≤x.1∧((x.1≤4294967295∧y.1=x.1)∨(x.1=4294967296∧4294967295<y.1)))
theorem Zfr(base:Int)(hb:base=8∨base=10∨base=16)(l:LB)(hl:l≠[]):Znm (Zq l base 4294967295) (fin (vGo base 0 l)):=by
 unfold Zq;rw[if_neg hl]
 rcases Zsb base hb l 0 0 (Int.le_refl _) (Or.inl ⟨by decide,rfl⟩)with⟨h1,h2⟩|⟨n,v,h1,h2,h3,h4⟩
 ·rw[h1,h2];exact Or.inl ⟨rfl,rfl⟩
 ·rw[h1,h2]
  simp only[fin];rcases h3 with⟨h5,rfl⟩|⟨h5,h6⟩
  ·rw[if_neg (by omega)];exact Or.inr ⟨rfl,rfl,h4,Or.inl ⟨h5,rfl⟩⟩
  ·rw[if_pos h5];exact Or.inr ⟨rfl,rfl,by decide,Or.inr ⟨by decide,h6⟩⟩
def Low(l:List UInt8):Prop:=∀b∈l,¬(65≤b.toNat∧b.toNat≤90)
theorem Zsc(l:LB):Low (lower l):=by
 intro b hb;obtain⟨c,-,rfl⟩:=List.mem_map.1 hb;unfold Zd9
 split
 ·rw[Xh]
  have:(32:UInt8).toNat=32:=rfl
  omega
 ·assumption
theorem Zsd{b c:UInt8}{n:Int}(hc:(c.toNat:Int)=n):((b.toNat:Int)=n)↔b=c:=by
 constructor
 ·intro h;exact Xd.1 (by omega)
 ·intro h;rw[h];exact hc
theorem Zkx(t:LB)(ht:Low t):Znm (ZK t) (valueStr t):=by
 unfold ZK valueStr
 match t,ht with
 | [],_=>exact Or.inl ⟨rfl,rfl⟩
 | [c],_=>
  rw[if_pos (Or.inl (by simp)),if_neg (by simp),if_neg (by simp),if_neg (by simp)]
  exact Zfr 10 (by omega) _ (by simp)
 | c::d::r,ht=>
  rw[if_neg (show ¬(c::d::r:LB)=[]by simp)]
  by_cases hc:c=48
  ·subst hc
   have g1:¬((48::d::r:LB).length<2∨¬(((48::d::r:LB).getD 0 0).toNat:Int)=48):=by
    rintro(h|h)
    ·simp at h;omega
    ·exact h rfl
   rw[if_neg g1]
   by_cases hd:d=120
   ·subst hd
    have g2:¬(¬(((48::120::r:LB).getD 1 0).toNat:Int)=120∧¬(((48::120::r:LB).getD 1 0).toNat:Int)=88):=by rintro⟨h,-⟩;exact h rfl
    have g3:1<(48::120::r:LB).length∧(48::120::r:LB).take 2=[48,120]:=⟨by simp,rfl⟩
    rw[if_neg g2,if_pos g3]
    cases r with
    | nil=>exact Or.inr ⟨rfl,rfl,by decide,Or.inl ⟨by decide,rfl⟩⟩
    | cons e r=>
     rw[if_neg (by simp)]
     exact Zfr 16 (by omega) _ (by simp)
   ·have hd2:¬d=88:=fun e=>ht d (by simp) (by rw[e];decide)
    rw[if_pos ⟨fun h=>hd ((Zsd (c:=120) rfl).1 h),fun h=>hd2 ((Zsd (c:=88) rfl).1 h)⟩,if_neg (by rintro⟨-,h⟩;simp at h;exact hd h),if_pos ⟨by simp,rfl⟩]
    exact Zfr 8 (by omega) _ (by simp)
  ·have g1:(c::d::r:LB).length<2∨¬(((c::d::r:LB).getD 0 0).toNat:Int)=48:=Or.inr (fun h=>hc ((Zsd (c:=48) rfl).1 h))
   rw[if_pos g1,if_neg (by rintro⟨-,h⟩;simp at h;exact hc h.1),if_neg (by rintro⟨-,h⟩;simp at h;exact hc h)]
   exact Zfr 10 (by omega) _ (by simp)
theorem ZiY(most:Int)(l:LB):∀n,(numGo 10 most n l).isSome=l.all fun b=>numeral (b.toNat:Int):=by
 induction l with
 | nil=>intro n;rfl
 | cons c r ih=>
  intro n
  rw[numGo,Zd2 _ _ (by omega),List.all_cons]
  have hnum:numeral (c.toNat:Int)=decide (0≤digit (c.toNat:Int)∧digit (c.toNat:Int)<10):=by
   unfold numeral digit
   by_cases a1:48≤(c.toNat:Int)∧(c.toNat:Int)≤57
   ·rw[if_pos a1,decide_eq_true a1,decide_eq_true (by omega)]
   ·rw[if_neg a1,decide_eq_false a1]
    split
    ·rw[decide_eq_false (by omega)]
    ·split
     ·rw[decide_eq_false (by omega)]
     ·rw[decide_eq_false (by omega)]
  rw[hnum]
  by_cases hd:0≤digit (c.toNat:Int)∧digit (c.toNat:Int)<10
  ·rw[if_pos hd,decide_eq_true hd]
   simp only[if_true,Xo];exact ih _
  ·rw[if_neg hd,decide_eq_false hd]
   simp
theorem Zgm(most:Int)(l:LB):(Zq l 10 most).2=((l.all fun b=>numeral (b.toNat:Int)) && !l.isEmpty):=by
 unfold Zq
 cases l with
 | nil=>rfl
 | cons c r=>
  rw[if_neg (by simp)]
  have h:=ZiY most (c::r) 0
  cases hn:numGo 10 most 0 (c::r)with
  | none=>rw[hn]at h;simp only[Option.isSome]at h;rw[←h];rfl
  | some n=>rw[hn]at h;simp only[Option.isSome]at h;rw[←h];simp only;split<;>rfl
theorem Ziv:Asc (fun b=>numeral (b.toNat:Int)) numeral where
 lo:=ZeV (p:=fun b=>numeral (b.toNat:Int)) (P:=numeral) (by decide)
 hi:=fun b hb=>by simp[numeral];omega
 up:=fun c hc=>by simp[numeral];omega
theorem by256{P:UInt8→Prop}(h:∀n:Fin 256,P (UInt8.ofNat n.val))(b:UInt8):P b:=by
 have:=h ⟨b.toNat,b.toNat_lt⟩
 rwa [Xj]at this
theorem numeral_low(b:UInt8):numeral ((Zd9 b).toNat:Int)=numeral (b.toNat:Int):=by256 (P:=fun b=>numeral ((Zd9 b).toNat:Int)=numeral (b.toNat:Int)) (by decide +kernel) b
theorem ZlJ(p:LI)(hp:∀c∈p,Pt c)(most:Int):(Zq (lower (Zb p)) 10 most).2=ZU p:=by
 rw[Zgm];unfold ZU
 have h1:((lower (Zb p)).all fun b=>numeral (b.toNat:Int))=(Zb p).all fun b=>numeral (b.toNat:Int):=by
  unfold lower;rw[List.all_map]
  congr 1
  funext b
  exact numeral_low b
 rw[h1,Ziv.all p hp]
 congr 1
 cases p with
 | nil=>rfl
 | cons c r=>
  have hne:Zb (c::r)≠[]:=fun e=>by have:=(Zr hp).1 e;cases this
  cases hb:Zb (c::r)with
  | nil=>exact absurd hb hne
  | cons x y=>rfl
end Go.Proofs.YtchkhibgbnhjpabGreatDoor
