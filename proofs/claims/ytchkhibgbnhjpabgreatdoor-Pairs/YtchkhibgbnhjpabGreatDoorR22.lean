import Derived.Test.YtchkhibgbnhjpabGreatDoorR21
open Bool renaming and_false→Xm,true_and→Xo
open List renaming mem_cons→Xa,not_mem_nil→Xb,mem_singleton→Xc,mem_append→Xe,drop_zero→Xf,any_eq_false→Xg,getD_eq_getElem?_getD→Xi,length_cons→Xk,append_nil→Xl
open UInt8 renaming toNat_inj→Xd,toNat_add→Xh,ofNat_toNat→Xj
namespace Go.Proofs.YtchkhibgbnhjpabGreatDoor
open Go.RowKit
theorem ZvY{d:Nat}(h:d≤9):ZL ((ZhI d).toNat:Int) 10=((d:Int),true):=by
 match d,h with
 | 0,_=>decide
 | 1,_=>decide
 | 2,_=>decide
 | 3,_=>decide
 | 4,_=>decide
 | 5,_=>decide
 | 6,_=>decide
 | 7,_=>decide
 | 8,_=>decide
 | 9,_=>decide
theorem Zax(most:Int)(n d:Nat)(hd:d≤9)(hn:(n:Int)≤most)(r:LB):numGo 10 most (n:Int) (ZhI d::r)=numGo 10 most ((n*10+d:Nat):Int) r:=by
 rw[numGo,ZvY hd,if_pos rfl,if_pos hn]
 simp
theorem Zpx{n:Nat}{most:Int}(h:n≤65535)(hm:65535≤most):Zn (Zb7 n) 10 most=((n:Int),true):=by
 unfold Zn;rw[if_neg (decD_ne n)]
 have key:numGo 10 most 0 (Zb7 n)=some (n:Int):=by
  show numGo 10 most ((0:Nat):Int) (Zb7 n)=_
  unfold Zb7
  split
  ·rw[Zax _ 0 n (by omega) (by omega),numGo];simp
  split
  ·rw[Zax _ 0 _ (by omega) (by omega),Zax _ _ _ (by omega) (by omega),numGo];congr 1;omega
  split
  ·rw[Zax _ 0 _ (by omega) (by omega),Zax _ _ _ (by omega) (by omega),Zax _ _ _ (by omega) (by omega),numGo];congr 1;omega
  split
  ·rw[Zax _ 0 _ (by omega) (by omega),Zax _ _ _ (by omega) (by omega),Zax _ _ _ (by omega) (by omega),Zax _ _ _ (by omega) (by omega),numGo];congr 1;omega
  ·rw[Zax _ 0 _ (by omega) (by omega),Zax _ _ _ (by omega) (by omega),Zax _ _ _ (by omega) (by omega),Zax _ _ _ (by omega) (by omega),Zax _ _ _ (by omega) (by omega),numGo];congr 1;omega
 rw[key]
 show(if most<(n:Int)then _ else _)=_
 rw[if_neg (by omega)]
theorem Zk4{d:Nat}(h1:1≤d)(h:d≤9):¬((ZhI d).toNat:Int)=48:=by unfold ZhI;rw[UInt8.toNat_ofNat',Nat.mod_eq_of_lt (by omega)];omega
theorem Zs4{n:Nat}(h:n≤65535):(Zb7 n).length<2∨¬(((Zb7 n).getD 0 0).toNat:Int)=48:=by
 unfold Zb7
 split
 ·left;show 1<2;decide
 split
 ·right;exact Zk4 (by omega) (by omega)
 split
 ·right;exact Zk4 (by omega) (by omega)
 split
 ·right;exact Zk4 (by omega) (by omega)
 ·right;exact Zk4 (by omega) (by omega)
theorem Zei{n:Nat}(h:n≤65535):ZH (Zb7 n)=((n:Int),true):=by
 unfold ZH
 rw[if_pos (Zs4 h),Zpx h (by decide)]
theorem ZqV{n:Nat}(h:n≤255):(Zb7 n).length≤3:=by
 unfold Zb7
 split
 ·simp
 split
 ·simp
 rw[if_pos (by omega)]
 simp
def dots4(a b c d:Nat):List UInt8:=Zb7 a++(46::(Zb7 b++(46::(Zb7 c++(46::(Zb7 d++[]))))))
theorem Zdp(v:Nat):Zc5 v=dots4 (v/256^3%256) (v/256^2%256) (v/256^1%256) (v/256^0%256):=rfl
theorem Zgi{n:Nat}(h:n≤255):∀b∈Zb7 n,isB 46 b=false:=fun b hb=>by
 have:=ZgM (n:=n) (by omega) b hb
 unfold isB
 exact beq_eq_false_iff_ne.2 (by omega)
theorem ZnT{a b c d:Nat}(ha:a≤255)(hb:b≤255)(hc:c≤255)(hd:d≤255):bsplit 46 (dots4 a b c d)=[Zb7 a,Zb7 b,Zb7 c,Zb7 d]:=by
 have step:∀l:LB,bsplit 46 (46::l)=[]::bsplit 46 l:=fun l=>by rw[bsplit,if_pos (by decide)]
 unfold dots4;rw[ZdT _ _ 46 (Zgi ha),step,ZdT _ _ 46 (Zgi hb),step,ZdT _ _ 46 (Zgi hc),step,ZdT _ _ 46 (Zgi hd)]
 simp[bsplit]
theorem Zmg{a b c d:Nat}(ha:a≤255)(hb:b≤255)(hc:c≤255)(hd:d≤255):∀x∈dots4 a b c d,(48≤x.toNat∧x.toNat≤57)∨x.toNat=46:=by
 intro x hx;unfold dots4 at hx;simp only[Xe,Xa,Xb,or_false]at hx;rcases hx with hx|hx|hx|hx|hx|hx|hx
 ·exact Or.inl (ZgM (n:=a) (by omega) x hx)
 ·subst hx;exact Or.inr rfl
 ·exact Or.inl (ZgM (n:=b) (by omega) x hx)
 ·subst hx;exact Or.inr rfl
 ·exact Or.inl (ZgM (n:=c) (by omega) x hx)
 ·subst hx;exact Or.inr rfl
 ·exact Or.inl (ZgM (n:=d) (by omega) x hx)
theorem ZvZ{a b c d:Nat}(ha:a≤255)(hb:b≤255)(hc:c≤255)(hd:d≤255):ip4 [Zb7 a,Zb7 b,Zb7 c,Zb7 d]=(((a*16777216+b*65536+c*256+d:Nat):Int),true):=by
 unfold ip4
 rw[if_neg (by simp)]
 rw[ip4Go,Zei (by omega),if_neg (by simp),if_neg (by simp;omega),if_pos (by simp)]
 rw[ip4Go,Zei (by omega),if_neg (by simp),if_neg (by simp;omega),if_pos (by simp)]
 rw[ip4Go,Zei (by omega),if_neg (by simp),if_neg (by simp;omega),if_pos (by simp)]
 rw[ip4Go,Zei (by omega),if_neg (by simp),if_neg (by simp;omega),if_neg (by simp)]
 rw[ip4Go]
 refine Prod.ext ?_ rfl
 show(0:Int)+(a:Int)*(4294967296/256)+(b:Int)*(4294967296/256/256)+(c:Int)*(4294967296/256/256/256)+(d:Int)=_
 omega
theorem Zyf{x:UInt8}(h:(48≤x.toNat∧x.toNat≤57)∨x.toNat=46):Zjg x=false:=by
 have hlt:=x.toNat_lt
 have key:∀n:Nat,n<256→((48≤n∧n≤57)∨n=46)→Zjg (UInt8.ofNat n)=false:=by decide +kernel
 have:=key x.toNat hlt h
 rwa [Xj]at this
theorem ZqW{a b c d:Nat}(ha:a≤255)(hb:b≤255)(hc:c≤255)(hd:d≤255):ZT (dots4 a b c d) true=(Zc5 (a*16777216+b*65536+c*256+d),0):=by
 have hm:=Zmg ha hb hc hd;have hs:=ZnT ha hb hc hd
 have hne:dots4 a b c d≠[]:=fun e=>decD_ne a (List.append_eq_nil_iff.1 e).1
 generalize dots4 a b c d=l at *
 have h1:Zp l=l:=Zj0 fun x hx e=>by subst e;exact absurd (hm 37 hx) (by decide)
 have h2:lower l=l:=ZvX fun x hx e=>by have:=hm x hx;omega
 have h3:beyondB l=false:=by
  unfold beyondB;rw[Xg];intro x hx;have:=hm x hx
  simp;omega
 have h4:Zvy [Zb7 a,Zb7 b,Zb7 c,Zb7 d]=false:=by
  have key:∀n:Nat,n≤255→ZcF (Zb7 n)=false:=fun n hn=>by
   unfold ZcF
   rw[decide_eq_false (by have:=ZqV hn;omega)]
   rfl
  unfold Zvy
  simp[key a ha,key b hb,key c hc,key d hd]
 have h5:plainDom l=true:=by
  unfold plainDom
  have:l.any Zjg=false:=Xg.2 fun x hx=>by rw[Zyf (hm x hx)];decide
  rw[this]
  cases l with
  | nil=>exact absurd rfl hne
  | cons x r=>rfl
 have h6:Zeq [Zb7 a,Zb7 b,Zb7 c,Zb7 d]=[Zb7 a,Zb7 b,Zb7 c,Zb7 d]:=by
  unfold Zeq
  exact if_neg fun e=>decD_ne d e.2
 have h7:Zb3 [Zb7 a,Zb7 b,Zb7 c,Zb7 d]=true:=by
  unfold Zb3
  rw[if_neg (by simp)]
  show((Zn (Zb7 d) 10 4294967295).2||_)=true
  rw[Zpx (by omega) (by decide)]
  rfl
 unfold ZT
 rw[if_neg (Ziy fun x hx e=>by subst e;exact absurd (hm 91 hx) (by decide)),if_pos rfl]
 unfold ZaB
 rw[h1,h2,hs,h3,h4,if_neg (by decide),if_neg (by rw[h5];decide),h6]
 unfold Zer
 rw[h7,if_neg (by decide),ZvZ ha hb hc hd,if_pos rfl]
 rfl
theorem Zv0{v:Nat}(h:v<4294967296):ZT (Zc5 v) true=(Zc5 v,0):=by
 rw[Zdp,ZqW (by omega) (by omega) (by omega) (by omega),←Zdp]
 congr 2
 omega
theorem Zv1:∀(ps:List LB) (room value:Int),ps≠[]→0≤value→value+room≤4294967296→(ip4Go ps room value).2=true→(ip4Go ps room value).1<4294967296:=by
 intro ps
 induction ps with
 | nil=>intro _ _ h;exact absurd rfl h
 | cons p r ih=>
  intro room value _ h0 h1 h2;rw[ip4Go]at h2 ⊢;have hr:=(ZfL p).1
  split at h2
  ·cases h2
  next e1=>
   rw[if_neg e1]
   split at h2
   ·cases h2
   next e2=>
    rw[if_neg e2]
    have e3:¬room≤(ZH p).1:=fun e=>e2 (Or.inl e)
    split at h2
    ·next e4=>
     rw[if_pos e4]
     have e5:¬255<(ZH p).1:=fun e=>e2 (Or.inr ⟨e4,e⟩)
     have e6:(ZH p).1*(room/256)≤255*(room/256):=Int.mul_le_mul_of_nonneg_right (by omega) (by omega)
     have e7:0≤(ZH p).1*(room/256):=Int.mul_nonneg hr (by omega)
     exact ih _ _ e4 (by omega) (by omega) h2
    ·next e4=>
     rw[if_neg e4];have hnil:r=[]:=Classical.not_not.1 e4;subst hnil;rw[ip4Go]
     show value+(ZH p).1<4294967296
     omega
theorem Zxw{ps:List LB}(h:(ip4 ps).2=true):(ip4 ps).1.toNat<4294967296:=by
 unfold ip4 at h ⊢
 split at h
 ·cases h
 next h1=>
  rw[if_neg h1]
  have:=Zv1 ps 4294967296 0 (fun e=>h1 (Or.inl (by rw[e];rfl))) (Int.le_refl _) (by decide) h
  omega
theorem Zmh{l:LB}{sp:Bool}(h0:(ZT l sp).2=0):ZT (ZT l sp).1 sp=((ZT l sp).1,0):=by
 have hd:ZT l sp=if((l.getD 0 0).toNat:Int)=91 then Zar l else if sp=true then ZaB l else Zca l:=rfl
 by_cases hb:((l.getD 0 0).toNat:Int)=91
 ·rw[if_pos hb]at hd
  rw[hd]at h0 ⊢;exact Zmf sp h0
 ·rw[if_neg hb]at hd
  cases sp
  ·rw[if_neg (by decide)]at hd
   rw[hd]at h0 ⊢;exact Zs1 h0
  ·rw[if_pos rfl]at hd
   rw[hd]at h0 ⊢
   cases he:Zb3 (Zeq (bsplit 46 (lower (Zp l))))
   ·exact ZqU h0 he
   ·unfold ZaB at h0 ⊢
    split at h0
    ·cases h0
    next h1=>
     split at h0
     ·cases h0
     next h2=>
      rw[if_neg h1,if_neg h2];unfold Zer at h0 ⊢
      rw[he,if_neg (by decide)]at h0 ⊢
      split at h0
      ·next h3=>
       rw[if_pos h3];exact Zv0 (Zxw h3)
      ·cases h0
def Zmi(l:List UInt8):Prop:=
 (∃t:List UInt8,l=91::(t++[93])∧∀b∈t,b≠35∧b≠47∧b≠63∧b≠64∧b≠91∧b≠92∧b≠93∧b≠32) ∨
 (∀b∈l,b≠35∧b≠47∧b≠58∧b≠63∧b≠64∧b≠91∧b≠92∧b≠93∧b≠32∧b≠124)
theorem hostT_nil:Zmi []:=Or.inr fun b hb=>by cases hb
theorem Zs5{d:Nat}(h:d≤15):(Zdh d≠35∧Zdh d≠47∧Zdh d≠63∧Zdh d≠64∧Zdh d≠91∧Zdh d≠92∧Zdh d≠93∧Zdh d≠32):=by
 match d,h with
 | 0,_=>decide
 | 1,_=>decide
 | 2,_=>decide
 | 3,_=>decide
 | 4,_=>decide
 | 5,_=>decide
 | 6,_=>decide
 | 7,_=>decide
 | 8,_=>decide
 | 9,_=>decide
 | 10,_=>decide
 | 11,_=>decide
 | 12,_=>decide
 | 13,_=>decide
 | 14,_=>decide
 | 15,_=>decide
def Bk(l:List UInt8):Prop:=∀b∈l,b≠35∧b≠47∧b≠63∧b≠64∧b≠91∧b≠92∧b≠93∧b≠32
theorem Zs6:Bk []:=fun b hb=>by cases hb
theorem Zs7{a b:LB}(ha:Bk a)(hb:Bk b):Bk (a++b):=fun x hx=>(Xe.1 hx).elim (ha x) (hb x)
theorem Zyg{n:Nat}(h:n≤65535):Bk (Zfz n):=by
 intro b hb
 have key:∀d,d≤15→b=Zdh d→b≠35∧b≠47∧b≠63∧b≠64∧b≠91∧b≠92∧b≠93∧b≠32:=fun d hd e=>by subst e;exact Zs5 hd
 unfold Zfz at hb
 (repeat' split at hb)<;>simp only[Xa,Xb,or_false]at hb
 ·exact key _ (by omega) hb
 ·rcases hb with hb|hb<;>exact key _ (by omega) hb
 ·rcases hb with hb|hb|hb<;>exact key _ (by omega) hb
 ·rcases hb with hb|hb|hb|hb<;>exact key _ (by omega) hb
theorem ZzG{ns:LI}(h:GOk ns)(st ln:Nat):∀f i,Bk (Zip ns st ln f i):=by
 intro f
 induction f with
 | zero=>intro i;exact Zs6
 | succ f ih=>
  intro i;rw[Zip]
  split
  ·exact Zs6
  split
  ·exact Zs7 (fun b hb=>by simp only[Xa,Xb,or_false]at hb;rcases hb with rfl|rfl<;>decide) (ih _)
  ·refine Zs7 (Zs7 ?_ (Zyg ?_)) (ih _)
   ·split
    ·exact fun b hb=>by simp only[Xa,Xb,or_false]at hb;subst hb;decide
    ·exact Zs6
   ·by_cases hi:i<ns.length
    ·have:=h ns[i] (List.getElem_mem hi)
     rw[Xi,List.getElem?_eq_getElem hi];simp only[Option.getD_some]
     omega
    ·rw[Xi,List.getElem?_eq_none (by omega)]
     simp
theorem Zs8{b:UInt8}(h:among (b.toNat:Int) Zed=false):b≠35∧b≠47∧b≠58∧b≠63∧b≠64∧b≠91∧b≠92∧b≠93∧b≠32∧b≠124:=by refine⟨?_,?_,?_,?_,?_,?_,?_,?_,?_,?_⟩<;>(rintro rfl;exact absurd h (by decide))
theorem hostL_T{l:LB}{sp:Bool}:Zmi (ZT l sp).1:=by
 unfold ZT
 split
 ·unfold Zar
  split
  ·exact hostT_nil
  split
  ·exact Or.inl ⟨_,rfl,ZzG (Zpm _) _ _ _ _⟩
  ·exact hostT_nil
 split
 ·unfold ZaB
  split
  ·exact hostT_nil
  split
  ·exact hostT_nil
  next h1 h2=>
   unfold Zer
   split
   ·right
    intro b hb
    have hp:plainDom (lower (Zp l))=true:=by simpa using h2
    have:=Zhn hp b hb;unfold Zjg at this;simp only[Bool.or_eq_false_iff]at this;exact Zs8 this.2
   split
   ·right
    intro b hb;rw[Zdp]at hb
    have:=Zmg (by omega) (by omega) (by omega) (by omega) b hb
    refine⟨?_,?_,?_,?_,?_,?_,?_,?_,?_,?_⟩<;>(rintro rfl;exact absurd this (by decide))
   ·exact hostT_nil
 ·unfold Zca
  split
  ·exact hostT_nil
  next h1=>
   right
   intro b hb
   have hf:(l.any fun b=>among b.toNat Zed)=false:=by simpa using h1
   have:=Xg.1 (Zme (set:=tl (ZaD 0)) hf) b hb
   exact Zs8 (by simpa using this)
theorem Zho{n:Int}{a:LB}(h:∀b∈a,isB n b=false):bcutLast n a=([],a,false):=by
 induction a with
 | nil=>rw[bcutLast]
 | cons c a ih=>
  rw[bcutLast,ih (fun b hb=>h b (by simp[hb])),if_neg (by intro e;cases e),if_neg (by rw[h c (by simp)];decide)]
theorem ZnU{n:Int}{a r:LB}{c:UInt8}(h:∀b∈r,isB n b=false)(hc:isB n c=true):bcutLast n (a++c::r)=(a,r,true):=by
 induction a with
 | nil=>rw[List.nil_append,bcutLast,Zho h,if_neg (by intro e;cases e),if_pos hc]
 | cons x a ih=>rw[List.cons_append,bcutLast,ih,if_pos rfl]
structure Zs9 (sp:Bool) (s:List UInt8):Prop where
 asis:Asis (tl (ZaD 4)) s
 sl:∀b∈s,slB sp b=false
 dots:countDots s=0
def Zyh(f:Bool)(ps:List (List UInt8)):Prop:=f=true→ZK (ps.getD 0 [])=true→(ps.getD 0 []).getD 1 0=58
structure ZfA (f sp:Bool) (ps:List (List UInt8)):Prop where
 each:∀s∈ps,Zs9 sp s
 drv:Zyh f ps
theorem ZhV{c:UInt8}(r:LB)(h:c.toNat<128):clean (c::r)=c::clean r:=by
 have hf:follow (c.toNat:Int)=(1,0,0):=if_pos (by omega)
 have hg:∀q:LB,Zai 1 0 0 1 q=1:=fun q=>by
  cases q with
  | nil=>rfl
  | cons a b=>rw[Zai,if_neg (by rintro⟨e,-⟩;exact absurd e (by decide))]
 have hm:measure (c::r)=(1,true):=by
  rw[measure,hf];simp only;rw[hg]
  rfl
 rw[ZcS,hm]
 simp
theorem Zpy{c:UInt8}(r:LB)(h:128≤c.toNat):∃b m,clean (c::r)=b::m∧128≤b.toNat:=by
 rw[ZcS]
 split
 ·have:=Zd4 c r
  obtain⟨n,hn⟩:∃n,(measure (c::r)).1=n+1:=⟨(measure (c::r)).1 - 1,by omega⟩
  rw[hn,List.take_succ_cons];exact⟨c,_,rfl,h⟩
 ·exact⟨239,_,rfl,by decide⟩
abbrev S4:List UInt8:=tl (ZaD 4)
abbrev en4(s:List UInt8):List UInt8:=encB S4 (clean s)
theorem ZeQ(set:LB)(c:UInt8)(r:LB):encB set (c::r)=ZE set c++encB set r:=by simp[encB]
theorem ZfT{c:UInt8}(r:LB)(h1:32≤c.toNat)(h2:c.toNat≤126)(h3:among (c.toNat:Int) S4=false):en4 (c::r)=c::en4 r:=by
 show encB S4 (clean (c::r))=_
 rw[ZhV r (by omega),ZeQ]
 unfold ZE
 rw[if_neg (by rintro(e|e|e);omega;omega;rw[h3]at e;cases e)]
 rfl
theorem Zgj(c:UInt8)(r:LB):(32≤c.toNat∧c.toNat≤126∧among (c.toNat:Int) S4=false∧en4 (c::r)=c::en4 r)∨(c≠46∧c≠37∧c≠50∧c≠101∧c≠69∧∃x y m,en4 (c::r)=37::x::y::m∧¬(x=50∧y=69)∧y≠101):=by
 by_cases h:32≤c.toNat∧c.toNat≤126∧among (c.toNat:Int) S4=false
 ·exact Or.inl ⟨h.1,h.2.1,h.2.2,ZfT r h.1 h.2.1 h.2.2⟩
 ·right
  have hc:c≠46∧c≠37∧c≠50∧c≠101∧c≠69:=by refine⟨?_,?_,?_,?_,?_⟩<;>(rintro rfl;exact h (by decide))
  refine⟨hc.1,hc.2.1,hc.2.2.1,hc.2.2.2.1,hc.2.2.2.2,?_⟩
  obtain⟨b,m,hb,hbe,hb46⟩:∃b m,clean (c::r)=b::m∧((b.toNat:Int)<32∨126<(b.toNat:Int)∨among (b.toNat:Int) S4=true)∧b≠46:=by
   by_cases hlo:c.toNat<128
   ·refine⟨c,_,ZhV r hlo,?_,hc.1⟩
    cases ha:among (c.toNat:Int) S4
    ·by_cases h1:(c.toNat:Int)<32
     ·exact Or.inl h1
     ·exact Or.inr (Or.inl (by have:¬c.toNat≤126:=fun e=>h ⟨by omega,e,ha⟩
                               omega))
    ·exact Or.inr (Or.inr rfl)
   ·obtain⟨b,m,hb,hh⟩:=Zpy r (by omega:128≤c.toNat)
    exact⟨b,m,hb,Or.inr (Or.inl (by omega)),by rintro rfl;exact absurd hh (by decide)⟩
  have hbl:=b.toNat_lt
  refine⟨toB (capital ((b.toNat:Int)/16)),toB (capital ((b.toNat:Int)%16)),encB S4 m,?_,?_,?_⟩
  ·show encB S4 (clean (c::r))=_
   rw[hb,ZeQ];unfold ZE;rw[if_pos hbe]
   rfl
  ·have key:∀n:Nat,n<256→toB (capital ((n:Int)/16))=50∧toB (capital ((n:Int)%16))=69→n=46:=by decide +kernel
   intro e;exact hb46 (Xd.1 (key b.toNat hbl e))
  ·have key:∀n:Nat,n<256→toB (capital ((n:Int)%16))≠101:=by decide +kernel
   exact key b.toNat hbl
theorem ZfU:en4 []=[]:=by show encB S4 (clean [])=[];rw[clean_nil];rfl
theorem Zdq{l:LB}(h1:¬((l.getD 0 0).toNat:Int)=46)(h2:¬(3≤l.length∧((l.getD 0 0).toNat:Int)=37∧((l.getD 1 0).toNat:Int)=50∧(((l.getD 2 0).toNat:Int)=101∨((l.getD 2 0).toNat:Int)=69))):dotSize l=0:=by unfold dotSize;rw[if_neg h1,if_neg h2]
theorem Zbo{b c:UInt8}{n:Nat}(hc:c.toNat=n)(h:(b.toNat:Int)=n):b=c:=Xd.1 (by omega)
theorem Zyi(s:LB):dotSize (en4 s)=dotSize s∧(en4 s).drop (dotSize s)=en4 (s.drop (dotSize s)):=by
 cases s with
 | nil=>rw[ZfU];exact⟨rfl,by simp[ZfU]⟩
 | cons c r=>
  by_cases h46:c=46
  ·subst h46
   have e:=ZfT (c:=46) r (by decide) (by decide) (by decide)
   have d1:∀q:LB,dotSize (46::q)=1:=fun q=>if_pos rfl
   rw[e,d1,d1];exact⟨rfl,rfl⟩
  ·by_cases h37:c=37
   ·subst h37
    have e:=ZfT (c:=37) r (by decide) (by decide) (by decide)
    rw[e]
    have d0:∀q:LB,dotSize (37::q)=if 2≤q.length∧((q.getD 0 0).toNat:Int)=50∧(((q.getD 1 0).toNat:Int)=101∨((q.getD 1 0).toNat:Int)=69)then 3 else 0:=by
     intro q;unfold dotSize
     rw[if_neg (show ¬((((37::q:LB)).getD 0 0).toNat:Int)=46 from(by decide:¬((37:UInt8).toNat:Int)=46))]
     by_cases hq:2≤q.length∧((q.getD 0 0).toNat:Int)=50∧(((q.getD 1 0).toNat:Int)=101∨((q.getD 1 0).toNat:Int)=69)
     ·rw[if_pos hq,if_pos ⟨by simp only[Xk];omega,rfl,hq.2⟩]
     ·rw[if_neg hq,if_neg (fun h=>hq ⟨by have:=h.1;simp only[Xk]at this;omega,h.2.2⟩)]
    rw[d0,d0]
    by_cases hq:2≤r.length∧((r.getD 0 0).toNat:Int)=50∧(((r.getD 1 0).toNat:Int)=101∨((r.getD 1 0).toNat:Int)=69)
    ·rw[if_pos hq]
     match r,hq with
     | d::x::q,hq=>
      have hd:d=50:=Zbo rfl hq.2.1;subst hd
      have ed:=ZfT (c:=50) (x::q) (by decide) (by decide) (by decide)
      rcases hq.2.2 with hx|hx
      ·have hx':x=101:=Zbo rfl hx
       subst hx'
       have ex:=ZfT (c:=101) q (by decide) (by decide) (by decide)
       rw[ed,ex,if_pos ⟨by simp,rfl,Or.inl rfl⟩]
       exact⟨rfl,rfl⟩
      ·have hx':x=69:=Zbo rfl hx
       subst hx'
       have ex:=ZfT (c:=69) q (by decide) (by decide) (by decide)
       rw[ed,ex,if_pos ⟨by simp,rfl,Or.inr rfl⟩]
       exact⟨rfl,rfl⟩
    ·rw[if_neg hq]
     have hn:¬(2≤(en4 r).length∧(((en4 r).getD 0 0).toNat:Int)=50∧((((en4 r).getD 1 0).toNat:Int)=101∨(((en4 r).getD 1 0).toNat:Int)=69)):=by
      rintro⟨n1,n2,n3⟩
      cases r with
      | nil=>rw[ZfU]at n1;simp at n1
      | cons d q=>
       rcases Zgj d q with⟨-,-,-,hd⟩|⟨-,-,-,-,-,x,y,m,hd,-,-⟩
       ·rw[hd]at n1 n2 n3
        have n2':(d.toNat:Int)=50:=n2;have n3':(((en4 q).getD 0 0).toNat:Int)=101∨(((en4 q).getD 0 0).toNat:Int)=69:=n3
        cases q with
        | nil=>rw[ZfU]at n1;simp at n1
        | cons z q'=>
         rcases Zgj z q' with⟨-,-,-,hz⟩|⟨-,-,-,-,-,x,y,m,hz,-,-⟩
         ·rw[hz]at n3'
          exact hq ⟨by simp,n2',n3'⟩
         ·rw[hz]at n3'
          rcases n3' with n|n
          ·exact absurd n (show ¬((37:UInt8).toNat:Int)=101 by decide)
          ·exact absurd n (show ¬((37:UInt8).toNat:Int)=69 by decide)
       ·rw[hd]at n2
        exact absurd n2 (show ¬((37:UInt8).toNat:Int)=50 by decide)
     rw[if_neg hn]
     refine⟨rfl,?_⟩
     rw[Xf,Xf,e]
   ·have ds:dotSize (c::r)=0:=by
     refine Zdq (fun e=>h46 (Zbo rfl e)) ?_
     rintro⟨-,e,-⟩;exact h37 (Zbo rfl e)
    rw[ds,Xf,Xf]
    refine⟨?_,rfl⟩
    rcases Zgj c r with⟨-,-,-,he⟩|⟨-,-,-,-,-,x,y,m,he,hxy,hy⟩
    ·rw[he]
     refine Zdq (fun e=>h46 (Zbo rfl e)) ?_
     rintro⟨-,e,-⟩;exact h37 (Zbo rfl e)
    ·rw[he]
     refine Zdq (fun e=>absurd e (by show ¬((37:UInt8).toNat:Int)=46;decide)) ?_
     rintro⟨-,-,e1,e2⟩;have hx:x=50:=Zbo rfl e1;rcases e2 with e2|e2
     ·exact hy (Zbo rfl e2)
     ·exact hxy ⟨hx,Zbo rfl e2⟩
theorem ZiB(s:LB):en4 s=[]↔s=[]:=by
 constructor
 ·intro h
  exact Classical.byContradiction fun hn=>ZsY (Zk3 hn) h
 ·rintro rfl;exact ZfU
theorem Zzb:∀m n s,cdGo m n (en4 s)=cdGo m n s:=by
 intro m
 induction m with
 | zero=>intro n s;rfl
 | succ m ih=>
  intro n s;have h:=Zyi s;rw[cdGo,cdGo]
  by_cases hs:s=[]
  ·rw[if_pos hs,if_pos ((ZiB s).2 hs)]
  ·rw[if_neg hs,if_neg (fun e=>hs ((ZiB s).1 e)),h.1]
   split
   ·rfl
   ·rw[h.2,ih]
theorem Zpz(s:LB):countDots (en4 s)=countDots s:=Zzb 3 0 s
theorem ZiC{n:Nat}(h:n=37∨(48≤n∧n≤57)∨(65≤n∧n≤70))(sp:Bool):ZdI sp (n:Int)=false:=by
 unfold ZdI
 have h1:((n:Int)==47)=false:=beq_eq_false_iff_ne.2 (by omega)
 have h2:((n:Int)==92)=false:=beq_eq_false_iff_ne.2 (by omega)
 rw[h1,h2];cases sp<;>rfl
theorem ZpA{n:Nat}(h:93≤n)(sp:Bool):ZdI sp (n:Int)=false:=by
 unfold ZdI
 have h1:((n:Int)==47)=false:=beq_eq_false_iff_ne.2 (by omega)
 have h2:((n:Int)==92)=false:=beq_eq_false_iff_ne.2 (by omega)
 rw[h1,h2];cases sp<;>rfl
theorem Zta{sp:Bool}{set s:LB}(h:∀b∈s,slB sp b=false):∀b∈encB set (clean s),slB sp b=false:=by
 intro b hb;obtain⟨c,hcm,hc⟩:=List.mem_flatMap.1 hb;have hcl:=c.toNat_lt;unfold ZE at hc
 split at hc
 ·simp only[Xa,Xb,or_false]at hc
  rcases hc with rfl|rfl|rfl
  ·exact ZiC (Or.inl rfl) sp
  ·exact ZiC (Or.inr (Zav (by omega) (by omega))) sp
  ·exact ZiC (Or.inr (Zav (by omega) (by omega))) sp
 ·rw[Xc]at hc
  subst hc;rcases Ziz _ s (Nat.le_refl _) b hcm with h1|h1
  ·exact h b h1
  ·exact ZpA (by omega) sp
theorem Ztb{sp:Bool}{s:LB}(h:∀b∈s,slB sp b=false)(hd:countDots s=0):Zs9 sp (en4 s):=
 ⟨Zcx Zza _,Zta h,by rw[Zpz];exact hd⟩
theorem Ztc(sp:Bool):Zs9 sp []:=⟨fun b hb=>(by cases hb),fun b hb=>(by cases hb),rfl⟩
theorem Zj1{a:UInt8}(h:alpha a.toNat=true):32≤a.toNat∧a.toNat≤126∧among (a.toNat:Int) S4=false:=by
 have key:∀n:Nat,n<256→alpha (n:Int)=true→32≤n∧n≤126∧among (n:Int) S4=false:=by decide +kernel
 exact key a.toNat a.toNat_lt h
theorem ZnV{a:UInt8}(h:alpha a.toNat=true)(sp:Bool):slB sp a=false:=by
 have key:∀n:Nat,n<256→alpha (n:Int)=true→ZdI sp (n:Int)=false:=by cases sp<;>decide +kernel
 exact key a.toNat a.toNat_lt h
theorem Ztd{a:UInt8}(h:alpha a.toNat=true):¬((a.toNat:Int)=46)∧¬((a.toNat:Int)=37):=by
 unfold alpha at h;have:=of_decide_eq_true h
 omega
theorem ZeR{l:LB}(h:ZK l=true):∃a b,l=[a,b]∧alpha a.toNat=true∧(b=58∨b=124):=by
 unfold ZK at h
 split at h
 ·next a b=>
  rw[Bool.and_eq_true,Bool.or_eq_true]at h
  refine⟨a,b,rfl,h.1,?_⟩
  rcases h.2 with e|e
  ·exact Or.inl (Zbo rfl (by simpa using e))
  ·exact Or.inr (Zbo rfl (by simpa using e))
 ·cases h
theorem ZnW{sp:Bool}{s:LB}(h:ZK s=true):Zs9 sp (s.take 1++[58]):=by
 obtain⟨a,b,rfl,ha,-⟩:=ZeR h;have h1:=Zj1 ha
 show Zs9 sp [a,58]
 refine⟨?_,?_,?_⟩
 ·intro x hx
  simp only[Xa,Xb,or_false]at hx;rcases hx with rfl|rfl
  ·exact h1
  ·decide
 ·intro x hx
  simp only[Xa,Xb,or_false]at hx;rcases hx with rfl|rfl
  ·exact ZnV ha sp
  ·cases sp<;>decide
 ·have h2:=Ztd ha
  have:dotSize [a,58]=0:=Zdq h2.1 (fun e=>h2.2 e.2.1)
  unfold countDots
  rw[cdGo,if_neg (by simp),if_pos this]
theorem Zte{s:LB}(h:ZK (en4 s)=true):ZK s=true:=by
 obtain⟨a,b,he,ha,hb⟩:=ZeR h
 cases s with
 | nil=>rw[ZfU]at he;cases he
 | cons c r=>
  rcases Zgj c r with⟨-,-,-,hc⟩|⟨-,-,-,-,-,x,y,m,hc,-,-⟩
  ·rw[hc]at he
   cases r with
   | nil=>rw[ZfU]at he;cases he
   | cons d q=>
    rcases Zgj d q with⟨-,-,-,hd⟩|⟨-,-,-,-,-,x,y,m,hd,-,-⟩
    ·rw[hd]at he
     simp only[List.cons.injEq]at he;obtain⟨rfl,rfl,hq⟩:=he;have:=(ZiB q).1 hq;subst this;unfold ZK;simp only[ha,Xo];rcases hb with rfl|rfl<;>decide
    ·rw[hd]at he
     simp at he
  ·rw[hc]at he
   simp at he
theorem Ztf{f:Bool}{ps:List LB}(h:Zyh f ps)(hn:ps≠[])(t:List LB):Zyh f (ps++t):=by
 cases ps with
 | nil=>exact absurd rfl hn
 | cons x r=>exact h
theorem Zyj{f sp:Bool}{ps:List LB}{s:LB}(h:ZfA f sp ps)(hs:∀b∈s,slB sp b=false)(hd:countDots s=0):ZfA f sp (joinL f ps s):=by
 unfold joinL
 constructor
 ·intro x hx
  rcases Xe.1 hx with hx|hx
  ·exact h.each x hx
  ·rw[Xc]at hx
   subst hx
   split
   ·next hc=>exact ZnW hc.2.2
   ·exact Ztb hs hd
 ·by_cases hn:ps=[]
  ·subst hn
   intro hf hdr
   show((if f=true∧[]=[]∧ZK s=true then s.take 1++[58]else en4 s):LB).getD 1 0=58
   have hdr':ZK (if f=true∧([]:List LB)=[]∧ZK s=true then s.take 1++[58]else en4 s)=true:=hdr
   by_cases hc:ZK s=true
   ·rw[if_pos ⟨hf,rfl,hc⟩]
    obtain⟨a,b,rfl,-,-⟩:=ZeR hc
    rfl
   ·rw[if_neg (fun e=>hc e.2.2)]at hdr'
    exact absurd (Zte hdr') hc
  ·exact Ztf h.drv hn _
theorem Ztg{f sp:Bool}{ps:List LB}(h:ZfA f sp ps)(n:Nat):ZfA f sp (ps.take n):=by
 constructor
 ·exact fun s hs=>h.each s (List.mem_of_mem_take hs)
 ·intro hf hd
  cases n with
  | zero=>have hd':ZK []=true:=hd;cases hd'
  | succ n=>
   cases ps with
   | nil=>have hd':ZK []=true:=hd;cases hd'
   | cons x r=>exact h.drv hf hd
theorem ZpB{f sp:Bool}{ps:List LB}(h:ZfA f sp ps):ZfA f sp (ZaA f ps):=by
 unfold ZaA
 split
 ·exact h
 ·exact Ztg h _
theorem Zv2{f sp:Bool}{ps:List LB}(h:ZfA f sp ps):ZfA f sp (ps++[[]]):=by
 constructor
 ·intro x hx
  rcases Xe.1 hx with hx|hx
  ·exact h.each x hx
  ·rw[Xc]at hx;subst hx;exact Ztc sp
 ·by_cases hn:ps=[]
  ·subst hn;intro _ hd;have hd':ZK []=true:=hd;cases hd'
  ·exact Ztf h.drv hn _
theorem Zzc{f sp:Bool}{ps:List LB}{s:LB}(last:Bool)(h:ZfA f sp ps)(hs:∀b∈s,slB sp b=false):ZfA f sp (ZdC f ps s last):=by
 have h2:ZfA f sp (if countDots s=2 then ZaA f ps else ps):=by
  split
  ·exact ZpB h
  ·exact h
 unfold ZdC
 split
 ·next hd=>exact Zyj h hs hd
 split
 ·exact Zv2 h2
 ·exact h2
theorem Zyk{f sp:Bool}:∀(ss ps:List LB),ZfA f sp ps→(∀s∈ss,∀b∈s,slB sp b=false)→ZfA f sp (Zcb f ps ss):=by
 intro ss
 induction ss with
 | nil=>intro ps h _;rw[Zcb];exact h
 | cons x r ih=>
  intro ps h hs
  cases r with
  | nil=>rw[Zcb];exact Zzc true h (hs x (by simp))
  | cons y q=>rw[Zcb];exact ih _ (Zzc false h (hs x (by simp))) (fun s hm=>hs s (by simp only[Xa]at hm ⊢;exact Or.inr hm))
theorem ZnX{p:UInt8→Bool}:∀(l:LB),∀s∈ZbQ p l,∀b∈s,p b=false:=by
 intro l
 induction l with
 | nil=>intro s hs b hb;rw[ZbQ,Xc]at hs;subst hs;cases hb
 | cons c r ih=>
  intro s hs b hb;rw[ZbQ]at hs
  split at hs
  ·simp only[Xa]at hs
   rcases hs with rfl|hs
   ·cases hb
   ·exact ih s hs b hb
  ·next hc=>
   obtain⟨x,q,hx⟩:=ZeG p r;rw[hx]at hs ih;simp only[Xa]at hs;rcases hs with rfl|hs
   ·simp only[Xa]at hb
    rcases hb with rfl|hb
    ·simpa using hc
    ·exact ih x (by simp) b hb
   ·exact ih s (by simp[hs]) b hb
theorem Zth(f sp:Bool):ZfA f sp []:=⟨fun s hs=>(by cases hs),fun _ hd=>(by have hd':ZK []=true:=hd;cases hd')⟩
theorem ZiD{f sp:Bool}{ps:List LB}(t:LB)(h:ZfA f sp ps):ZfA f sp (ZaW f sp ps t):=Zyk _ _ h (ZnX t)
theorem ZeS(t sch:LB):ZfA (sch==Zt) (Zc sch) (ZbU t sch):=ZiD t (Zth _ _)
theorem Zmj{sch:LB}{b:List LB}(t:LB)(h:ZfA (sch==Zt) (Zc sch) b):ZfA (sch==Zt) (Zc sch) (ZcG b t sch):=ZiD t (ZpB h)
theorem Zv3{b:List LB}(t:LB)(h:ZfA true true b):ZfA true true (ZaE b t):=by
 unfold ZaE
 split
 ·exact ZeS t Zt
 ·exact ZiD t (Ztg h 1)
theorem Zby{a b:LB}(h:∀c,among c a=among c b)(l:LI):encoded l a=encoded l b:=by
 unfold encoded
 congr 1
 funext c
 unfold encPt;rw[h c]
theorem among_iff(c:Int)(t:LB):among c t=true↔∃b∈t,(b.toNat:Int)=c:=by
 unfold among
 simp
theorem ZdU{a b:LB}(h1:∀x∈a,x∈b)(h2:∀x∈b,x∈a)(c:Int):among c a=among c b:=by
 rw[Bool.eq_iff_iff,among_iff,among_iff]
 constructor
 ·rintro⟨x,hx,e⟩;exact⟨x,h1 x hx,e⟩
 ·rintro⟨x,hx,e⟩;exact⟨x,h2 x hx,e⟩
theorem Zk5(l:LI)(hl:∀c∈l,Sc c):en4 (Zb l)=encoded l ZcM:=by
 show encB S4 (clean (Zb l))=_
 rw[ZaV _ l hl]
 exact Zby (ZdU (by decide) (by decide)) l
theorem ZgO(sch:LB):tl (Zl sch)=if Zg sch then [47,92]else [47]:=by
 unfold Zl
 split<;>rfl
theorem special_eq(sch:LB):Zg sch=Zc sch:=by
 unfold Zg ZdA Zc ZG;simp only[Zg9,names6,ZeF];have e1:tl (⟨#[104,116,116,112]⟩:BA)=[104,116,116,112]:=rfl;have e2:tl (⟨#[104,116,116,112,115]⟩:BA)=[104,116,116,112,115]:=rfl;have e3:tl (⟨#[119,115]⟩:BA)=[119,115]:=rfl;have e4:tl (⟨#[119,115,115]⟩:BA)=[119,115,115]:=rfl;have e5:tl (⟨#[102,116,112]⟩:BA)=[102,116,112]:=rfl;have e6:tl (⟨#[102,105,108,101]⟩:BA)=[102,105,108,101]:=rfl;rw[e1,e2,e3,e4,e5,e6]
 by_cases h1:sch=[104,116,116,112]
 ·subst h1;rfl
 by_cases h2:sch=[104,116,116,112,115]
 ·subst h2;rfl
 by_cases h3:sch=[119,115]
 ·subst h3;rfl
 by_cases h4:sch=[119,115,115]
 ·subst h4;rfl
 by_cases h5:sch=[102,116,112]
 ·subst h5;rfl
 by_cases h6:sch=[102,105,108,101]
 ·subst h6;rfl
 rw[if_neg (Ne.symm h1),if_neg (Ne.symm h2),if_neg (Ne.symm h3),if_neg (Ne.symm h4),if_neg (Ne.symm h5),if_neg (Ne.symm h6),if_neg (by rintro(e|e);exact h1 e;exact h3 e),if_neg (by rintro(e|e);exact h2 e;exact h4 e),if_neg h5]
 simp[h6]
theorem Zn0(sch:LB)(l:LI)(hl:∀c∈l,Pt c):ZbQ (slB (Zc sch)) (Zb l)=(parts l (tl (Zl sch))).map Zb:=by
 have hs:Zve (slB (Zc sch)) (tl (Zl sch)):=by rw[ZgO,special_eq];exact Zfh _
 generalize tl (Zl sch)=t at *;generalize hk:l.length=k
 induction k using Nat.strongRecOn generalizing l with
 | ind k ih=>
  rw[ZgH,Zao hs l hl,Zf7]
  cases hc:(cut l t).2.2
  ·simp
  ·simp only[if_true]
   have hlen:=(Zce l t).2 hc
   rw[ih _ (by omega) (cut l t).2.1 (fun c hm=>hl c (ZR (Or.inr hm))) rfl]
   rfl
theorem Zk6{b c:UInt8}(h:Zd2 b=c)(hc:c.toNat<65):b=c:=by
 unfold Zd2 at h
 split at h
 ·next hb=>
  have:=congrArg UInt8.toNat h;rw[Xh]at this;have e:(32:UInt8).toNat=32:=rfl;rw[e]at this
  omega
 ·exact h
theorem Zzd{b:UInt8}(h:Zd2 b=101):b=101∨b=69:=by
 unfold Zd2 at h
 split at h
 ·next hb=>
  right
  have:=congrArg UInt8.toNat h;rw[Xh]at this;have e:(32:UInt8).toNat=32:=rfl;have e2:(101:UInt8).toNat=101:=rfl;rw[e,e2]at this
  exact Xd.1 (by have e3:(69:UInt8).toNat=69:=rfl;omega)
 ·exact Or.inl h
theorem lower_cons(c:UInt8)(r:LB):lower (c::r)=Zd2 c::lower r:=rfl
theorem Zfk{l:LB}:lower l=[]↔l=[]:=by cases l<;>simp[lower]
theorem ZpD{l t:LB}(h:lower l=46::t):∃r,l=46::r∧lower r=t:=by
 cases l with
 | nil=>cases h
 | cons c r=>
  rw[lower_cons]at h;obtain⟨h1,h2⟩:=List.cons.inj h
  exact⟨r,by rw[Zk6 h1 (by decide)],h2⟩
theorem ZpE{l t:LB}(h:lower l=37::50::101::t):∃x r,l=37::50::x::r∧(x=101∨x=69)∧lower r=t:=by
 match l,h with
 | [],h=>cases h
 | [a],h=>rw[lower_cons]at h;cases(List.cons.inj h).2
 | [a,b],h=>rw[lower_cons,lower_cons]at h;cases(List.cons.inj (List.cons.inj h).2).2
 | a::b::x::r,h=>
  rw[lower_cons,lower_cons,lower_cons]at h;obtain⟨h1,h⟩:=List.cons.inj h;obtain⟨h2,h⟩:=List.cons.inj h;obtain⟨h3,h4⟩:=List.cons.inj h
  exact⟨x,r,by rw[Zk6 h1 (by decide),Zk6 h2 (by decide)],Zzd h3,h4⟩
theorem ZpF(l:LB):(dotSize l=1∧∃r,l=46::r)∨(dotSize l=3∧∃x r,l=37::50::x::r∧(x=101∨x=69))∨(dotSize l=0∧(∀r,l≠46::r)∧∀x r,l=37::50::x::r→¬(x=101∨x=69)):=by
 by_cases h1:((l.getD 0 0).toNat:Int)=46
 ·refine Or.inl ⟨by rw[dotSize,if_pos h1],?_⟩
  cases l with
  | nil=>exact absurd h1 (by decide)
  | cons c r=>exact⟨r,by rw[show c=46 from Zbo (n:=46) rfl h1]⟩
 ·by_cases h2:3≤l.length∧((l.getD 0 0).toNat:Int)=37∧((l.getD 1 0).toNat:Int)=50∧(((l.getD 2 0).toNat:Int)=101∨((l.getD 2 0).toNat:Int)=69)
  ·refine Or.inr (Or.inl ⟨by rw[dotSize,if_neg h1,if_pos h2],?_⟩)
   match l,h2 with
   | a::b::x::r,⟨_,ha,hb,hx⟩=>
    refine⟨x,r,by rw[show a=37 from Zbo (n:=37) rfl ha,show b=50 from Zbo (n:=50) rfl hb],?_⟩
    rcases hx with hx|hx
    ·exact Or.inl (Zbo (n:=101) rfl hx)
    ·exact Or.inr (Zbo (n:=69) rfl hx)
  ·refine Or.inr (Or.inr ⟨by rw[dotSize,if_neg h1,if_neg h2],?_,?_⟩)
   ·rintro r rfl;exact h1 rfl
   ·rintro x r rfl hx
    refine h2 ⟨by simp,rfl,rfl,?_⟩
    rcases hx with rfl|rfl
    ·exact Or.inl rfl
    ·exact Or.inr rfl
theorem Zze{x:UInt8}(h:x=101∨x=69):Zd2 x=101:=by rcases h with rfl|rfl<;>rfl
theorem ZpG(r:LB)(hr:r≠[]):(if lower r=[46]then(2:Int)else if lower r=[37,50,101]then 2 else 0)=((cdGo 2 1 r:Nat):Int):=by
 rw[cdGo,if_neg hr];rcases ZpF r with⟨h,q,rfl⟩|⟨h,x,q,rfl,hx⟩|⟨h,h1,h2⟩
 ·have hr1:(if dotSize (46::q)=0 then 0 else cdGo 1 (1+1) ((46::q).drop (dotSize (46::q))))=cdGo 1 2 q:=by rw[h,if_neg (by decide)];rfl
  rw[hr1,cdGo,lower_cons,show Zd2 46=46 from rfl]
  cases q with
  | nil=>rfl
  | cons c q=>
   rw[if_neg (by simp[lower]),if_neg (by simp),if_neg (by simp)]
   split<;>rfl
 ·have hr1:(if dotSize (37::50::x::q)=0 then 0 else cdGo 1 (1+1) ((37::50::x::q).drop (dotSize (37::50::x::q))))=cdGo 1 2 q:=by rw[h,if_neg (by decide)];rfl
  rw[hr1,cdGo,lower_cons,lower_cons,lower_cons,Zze hx,show Zd2 37=37 from rfl,show Zd2 50=50 from rfl]
  cases q with
  | nil=>rfl
  | cons c q=>
   rw[if_neg (by simp),if_neg (by simp[lower]),if_neg (by simp)]
   split<;>rfl
 ·rw[h,if_pos rfl,if_neg (fun e=>by obtain⟨r',e',-⟩:=ZpD e;exact h1 r' e'),if_neg (fun e=>by obtain⟨x,r',e',hx,-⟩:=ZpE e;exact h2 x r' e' hx)]
  rfl
theorem Zyl(e:LB):dots e=(countDots e:Int):=by
 unfold dots countDots;rw[cdGo]
 by_cases h0:e=[]
 ·subst h0;rfl
 rw[if_neg h0];rcases ZpF e with⟨h,r,rfl⟩|⟨h,x,r,rfl,hx⟩|⟨h,h1,h2⟩
 ·rw[h,if_neg (by decide),lower_cons,show Zd2 46=46 from rfl]
  show Zc4 cands (46::lower r)=((cdGo 2 1 r:Nat):Int)
  by_cases hr:r=[]
  ·subst hr;rfl
  ·rw[←ZpG r hr]
   have hn:lower r≠[]:=fun e=>hr (Zfk.1 e)
   simp[Zc4,cands,hn]
 ·rw[h,if_neg (by decide),lower_cons,lower_cons,lower_cons,Zze hx,show Zd2 37=37 from rfl,show Zd2 50=50 from rfl]
  show Zc4 cands (37::50::101::lower r)=((cdGo 2 1 r:Nat):Int)
  by_cases hr:r=[]
  ·subst hr;rfl
  ·rw[←ZpG r hr]
   have hn:lower r≠[]:=fun e=>hr (Zfk.1 e)
   simp[Zc4,cands,hn]
 ·rw[h,if_pos rfl]
  have n1:∀t,lower e≠46::t:=fun t e'=>by obtain⟨r',e'',-⟩:=ZpD e';exact h1 r' e''
  have n2:∀t,lower e≠37::50::101::t:=fun t e'=>by obtain⟨x,r',e'',hx,-⟩:=ZpE e';exact h2 x r' e'' hx
  simp[Zc4,cands,n1,n2]
theorem ZpH{b:UInt8}{q:LB}(h:128≤b.toNat):ZK (b::q)=false:=by
 unfold ZK
 split
 ·next a c e=>
  obtain⟨rfl,-⟩:=List.cons.inj e;rw[ZdS.hi _ h];rfl
 ·rfl
theorem Ztj{a b:UInt8}{q:LB}(h:128≤b.toNat):ZK (a::b::q)=false:=by
 unfold ZK
 split
 ·next x y e=>
  obtain⟨rfl,e2⟩:=List.cons.inj e;obtain⟨rfl,-⟩:=List.cons.inj e2
  have:((b.toNat:Int)==58||(b.toNat:Int)==124)=false:=by simp;omega
  rw[this,Xm]
 ·rfl
theorem ZpI{c:Int}(h:Pt c):1≤((utf c).map toB).length:=by
 rcases Zad h with⟨-,-,e⟩|⟨-,e,-⟩
 ·rw[e];simp
 ·cases hx:(utf c).map toB with
  | nil=>exact absurd hx e
  | cons b q=>simp
theorem Zcy(l:LI)(hl:∀c∈l,Pt c):ZK (Zb l)=letter l:=by
 match l,hl with
 | [],_=>rfl
 | [c],hl=>
  rw[bytesOf_cons,bytesOf_nil,Xl]
  rcases Zad (hl c (by simp))with⟨h0,h1,e⟩|⟨h0,e1,e⟩
  ·rw[e];rfl
  ·have hd:ZK ((utf c).map toB)=false:=by
    cases hx:(utf c).map toB with
    | nil=>exact absurd hx e1
    | cons b q=>exact ZpH (e b (by rw[hx];simp))
   rw[hd];rfl
 | [c,d],hl=>
  rw[bytesOf_cons,bytesOf_cons,bytesOf_nil,Xl]
  show _=(alpha c&&(d==58||d==124))
  rcases Zad (hl c (by simp))with⟨h0,h1,e⟩|⟨h0,e1,e⟩
  ·rw[e,List.singleton_append]
   rcases Zad (hl d (by simp))with⟨k0,k1,f⟩|⟨k0,f1,f⟩
   ·rw[f]
    show(alpha ((toB c).toNat:Int)&&(((toB d).toNat:Int)==58||((toB d).toNat:Int)==124))=_
    rw[Zbc h0 h1,Zbc k0 k1]
   ·have hd:(d==58||d==124)=false:=by simp;omega
    rw[hd,Xm]
    cases hx:(utf d).map toB with
    | nil=>exact absurd hx f1
    | cons b q=>exact Ztj (f b (by rw[hx];simp))
  ·rw[ZdS.up c h0]
   cases hx:(utf c).map toB with
   | nil=>exact absurd hx e1
   | cons b q=>exact ZpH (e b (by rw[hx];simp))
 | c::d::f::r,hl=>
  have h1:3≤(Zb (c::d::f::r)).length:=by
   rw[bytesOf_cons,bytesOf_cons,bytesOf_cons];simp only[List.length_append]
   have k1:=ZpI (hl c (by simp))
   have k2:=ZpI (hl d (by simp))
   have k3:=ZpI (hl f (by simp))
   omega
  show _=false
  cases hd:ZK (Zb (c::d::f::r))
  ·rfl
  ·have:=Zfa hd;omega
theorem ZdV(n base:Int)(_hb:base=8∨base=10∨base=16):ZL n base=if 0≤digit n∧digit n<base then(digit n,true)else(0,false):=by
 unfold ZL digit;simp only
 by_cases a1:48≤n∧n≤57
 ·rw[if_pos a1,if_pos a1]
  by_cases h:base≤n-48
  ·rw[if_pos h,if_neg (by omega)]
  ·rw[if_neg h,if_pos (by omega)]
 rw[if_neg a1,if_neg a1]
 by_cases a2:97≤n∧n≤102
 ·rw[if_pos a2,if_pos a2]
  by_cases h:base≤n-97+10
  ·rw[if_pos h,if_neg (by omega)]
  ·rw[if_neg h,if_pos (by omega)]
   congr 1;omega
 rw[if_neg a2,if_neg a2]
 by_cases a3:65≤n∧n≤70
 ·rw[if_pos a3,if_pos a3]
  by_cases h:base≤n-65+10
  ·rw[if_pos h,if_neg (by omega)]
  ·rw[if_neg h,if_pos (by omega)]
   congr 1;omega
 rw[if_neg a3,if_neg a3,if_pos (by omega),if_neg (by omega)]
def Zxy(n v:Int):Prop:=(n≤4294967295∧v=n)∨(4294967295<n∧4294967295<v)
theorem Zto(base:Int)(hb:base=8∨base=10∨base=16)(l:LB):∀n v:Int,0≤n→Zxy n v→(numGo base 4294967295 n l=none∧vGo base v l=none)∨∃n' v',numGo base 4294967295 n l=some n'∧vGo base v l=some v'∧Zxy n' v'∧0≤n':=by
 induction l with
 | nil=>intro n v h0 h;exact Or.inr ⟨n,v,rfl,rfl,h,h0⟩
 | cons c r ih=>
  intro n v h0 h;rw[numGo,vGo,ZdV _ _ hb];generalize digit (c.toNat:Int)=d at *
  by_cases hd:0≤d∧d<base
  ·have h9:¬(d<0∨base≤d):=by omega
   rw[if_pos hd,if_neg h9];simp only[if_true]
   refine ih _ _ ?_ ?_
   ·split
    ·have:=Int.mul_nonneg h0 (show(0:Int)≤base by omega)
     omega
    ·exact h0
   ·rcases h with⟨h1,rfl⟩|⟨h1,h2⟩
    ·rw[if_pos h1]
     unfold Zeu
     have:v*base+d≤1099511627776:=by rcases hb with rfl|rfl|rfl<;>omega
     rw[if_neg (by omega)]
     by_cases h3:v*base+d≤4294967295
     ·exact Or.inl ⟨h3,rfl⟩
     ·exact Or.inr ⟨by omega,by omega⟩
    ·rw[if_neg (by omega)]
     refine Or.inr ⟨h1,?_⟩
     unfold Zeu
     split
     ·omega
     ·rcases hb with rfl|rfl|rfl<;>omega
  ·have h9:d<0∨base≤d:=by omega
   rw[if_neg hd,if_pos h9];exact Or.inl ⟨rfl,rfl⟩
def Zn3(x y:Int×Bool):Prop:=(x.2=false∧y.2=false)∨(x.2=true∧y.2=true∧0≤x.1∧((x.1≤4294967295∧y.1=x.1)∨(x.1=4294967296∧4294967295<y.1)))
theorem Zfo(base:Int)(hb:base=8∨base=10∨base=16)(l:LB)(hl:l≠[]):Zn3 (Zn l base 4294967295) (fin (vGo base 0 l)):=by
 unfold Zn;rw[if_neg hl]
 rcases Zto base hb l 0 0 (Int.le_refl _) (Or.inl ⟨by decide,rfl⟩)with⟨h1,h2⟩|⟨n,v,h1,h2,h3,h4⟩
 ·rw[h1,h2];exact Or.inl ⟨rfl,rfl⟩
 ·rw[h1,h2]
  simp only[fin];rcases h3 with⟨h5,rfl⟩|⟨h5,h6⟩
  ·rw[if_neg (by omega)];exact Or.inr ⟨rfl,rfl,h4,Or.inl ⟨h5,rfl⟩⟩
  ·rw[if_pos h5];exact Or.inr ⟨rfl,rfl,by decide,Or.inr ⟨by decide,h6⟩⟩
def Low(l:List UInt8):Prop:=∀b∈l,¬(65≤b.toNat∧b.toNat≤90)
theorem Ztp(l:LB):Low (lower l):=by
 intro b hb;obtain⟨c,-,rfl⟩:=List.mem_map.1 hb;unfold Zd2
 split
 ·rw[Xh]
  have:(32:UInt8).toNat=32:=rfl
  omega
 ·assumption
theorem Ztq{b c:UInt8}{n:Int}(hc:(c.toNat:Int)=n):((b.toNat:Int)=n)↔b=c:=by
 constructor
 ·intro h;exact Xd.1 (by omega)
 ·intro h;rw[h];exact hc
theorem Zla(t:LB)(ht:Low t):Zn3 (ZH t) (valueStr t):=by
 unfold ZH valueStr
 match t,ht with
 | [],_=>exact Or.inl ⟨rfl,rfl⟩
 | [c],_=>
  rw[if_pos (Or.inl (by simp)),if_neg (by simp),if_neg (by simp),if_neg (by simp)]
  exact Zfo 10 (by omega) _ (by simp)
 | c::d::r,ht=>
  rw[if_neg (show ¬(c::d::r:LB)=[]by simp)]
  by_cases hc:c=48
  ·subst hc
   have g1:¬((48::d::r:LB).length<2∨¬(((48::d::r:LB).getD 0 0).toNat:Int)=48):=by
    rintro(h|h)
    ·simp at h;omega
    ·exact h rfl
   rw[if_neg g1]
   by_cases hd:d=120
   ·subst hd
    have g2:¬(¬(((48::120::r:LB).getD 1 0).toNat:Int)=120∧¬(((48::120::r:LB).getD 1 0).toNat:Int)=88):=by rintro⟨h,-⟩;exact h rfl
    have g3:1<(48::120::r:LB).length∧(48::120::r:LB).take 2=[48,120]:=⟨by simp,rfl⟩
    rw[if_neg g2,if_pos g3]
    cases r with
    | nil=>exact Or.inr ⟨rfl,rfl,by decide,Or.inl ⟨by decide,rfl⟩⟩
    | cons e r=>
     rw[if_neg (by simp)]
     exact Zfo 16 (by omega) _ (by simp)
   ·have hd2:¬d=88:=fun e=>ht d (by simp) (by rw[e];decide)
    rw[if_pos ⟨fun h=>hd ((Ztq (c:=120) rfl).1 h),fun h=>hd2 ((Ztq (c:=88) rfl).1 h)⟩,if_neg (by rintro⟨-,h⟩;simp at h;exact hd h),if_pos ⟨by simp,rfl⟩]
    exact Zfo 8 (by omega) _ (by simp)
  ·have g1:(c::d::r:LB).length<2∨¬(((c::d::r:LB).getD 0 0).toNat:Int)=48:=Or.inr (fun h=>hc ((Ztq (c:=48) rfl).1 h))
   rw[if_pos g1,if_neg (by rintro⟨-,h⟩;simp at h;exact hc h.1),if_neg (by rintro⟨-,h⟩;simp at h;exact hc h)]
   exact Zfo 10 (by omega) _ (by simp)
theorem Zjn(most:Int)(l:LB):∀n,(numGo 10 most n l).isSome=l.all fun b=>numeral (b.toNat:Int):=by
 induction l with
 | nil=>intro n;rfl
 | cons c r ih=>
  intro n
  rw[numGo,ZdV _ _ (by omega),List.all_cons]
  have hnum:numeral (c.toNat:Int)=decide (0≤digit (c.toNat:Int)∧digit (c.toNat:Int)<10):=by
   unfold numeral digit
   by_cases a1:48≤(c.toNat:Int)∧(c.toNat:Int)≤57
   ·rw[if_pos a1,decide_eq_true a1,decide_eq_true (by omega)]
   ·rw[if_neg a1,decide_eq_false a1]
    split
    ·rw[decide_eq_false (by omega)]
    ·split
     ·rw[decide_eq_false (by omega)]
     ·rw[decide_eq_false (by omega)]
  rw[hnum]
  by_cases hd:0≤digit (c.toNat:Int)∧digit (c.toNat:Int)<10
  ·rw[if_pos hd,decide_eq_true hd]
   simp only[if_true,Xo];exact ih _
  ·rw[if_neg hd,decide_eq_false hd]
   simp
theorem Zgm(most:Int)(l:LB):(Zn l 10 most).2=((l.all fun b=>numeral (b.toNat:Int)) && !l.isEmpty):=by
 unfold Zn
 cases l with
 | nil=>rfl
 | cons c r=>
  rw[if_neg (by simp)]
  have h:=Zjn most (c::r) 0
  cases hn:numGo 10 most 0 (c::r)with
  | none=>rw[hn]at h;simp only[Option.isSome]at h;rw[←h];rfl
  | some n=>rw[hn]at h;simp only[Option.isSome]at h;rw[←h];simp only;split<;>rfl
theorem ZiP:Asc (fun b=>numeral (b.toNat:Int)) numeral where
 lo:=ZeN (p:=fun b=>numeral (b.toNat:Int)) (P:=numeral) (by decide)
 hi:=fun b hb=>by simp[numeral];omega
 up:=fun c hc=>by simp[numeral];omega
theorem by256{P:UInt8→Prop}(h:∀n:Fin 256,P (UInt8.ofNat n.val))(b:UInt8):P b:=by
 have:=h ⟨b.toNat,b.toNat_lt⟩
 rwa [Xj]at this
theorem numeral_low(b:UInt8):numeral ((Zd2 b).toNat:Int)=numeral (b.toNat:Int):=by256 (P:=fun b=>numeral ((Zd2 b).toNat:Int)=numeral (b.toNat:Int)) (by decide +kernel) b
theorem Zml(p:LI)(hp:∀c∈p,Pt c)(most:Int):(Zn (lower (Zb p)) 10 most).2=ZP p:=by
 rw[Zgm];unfold ZP
 have h1:((lower (Zb p)).all fun b=>numeral (b.toNat:Int))=(Zb p).all fun b=>numeral (b.toNat:Int):=by
  unfold lower;rw[List.all_map]
  congr 1
  funext b
  exact numeral_low b
 rw[h1,ZiP.all p hp]
 congr 1
 cases p with
 | nil=>rfl
 | cons c r=>
  have hne:Zb (c::r)≠[]:=fun e=>by have:=(Zr hp).1 e;cases this
  cases hb:Zb (c::r)with
  | nil=>exact absurd hb hne
  | cons x y=>rfl
end Go.Proofs.YtchkhibgbnhjpabGreatDoor
