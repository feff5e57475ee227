import Derived.Test.YtchkhibgbnhjpabGreatDoorV15
import Derived.Test.YtchkhibgbnhjpabGreatDoorV17
open List renaming mem_cons→Xa,not_mem_nil→Xb,mem_append→Xd,mem_singleton→Xe,drop_zero→Xf,any_eq_false→Xg,append_assoc→Xh,getD_eq_getElem?_getD→Xi,length_eq_zero_iff→Xj,cons_append→Xl,length_cons→Xm,append_nil→Xn
open UInt8 renaming toNat_inj→Xc
namespace Go.Proofs.YtchkhibgbnhjpabGreatDoor
open Go.RowKit
theorem Zqa{d:Nat}(h:d≤9):ZL ((Zea d).toNat:Int) 10=((d:Int),true):=by
 match d,h with
 | 0,_=>decide
 | 1,_=>decide
 | 2,_=>decide
 | 3,_=>decide
 | 4,_=>decide
 | 5,_=>decide
 | 6,_=>decide
 | 7,_=>decide
 | 8,_=>decide
 | 9,_=>decide
theorem Zas(most:Int)(n d:Nat)(hd:d≤9)(hn:(n:Int)≤most)(r:LB):Z3 10 most (n:Int) (Zea d::r)=Z3 10 most ((n*10+d:Nat):Int) r:=by
 rw[Z3,Zqa hd,if_pos rfl,if_pos hn]
 simp
theorem ZhN{n:Nat}{most:Int}(h:n≤65535)(hm:65535≤most):Zv (Za8 n) 10 most=((n:Int),true):=by
 unfold Zv;rw[if_neg (decD_ne n)]
 have key:Z3 10 most 0 (Za8 n)=some (n:Int):=by
  show Z3 10 most ((0:Nat):Int) (Za8 n)=_
  unfold Za8
  split
  ·rw[Zas _ 0 n (by omega) (by omega),Z3];simp
  split
  ·rw[Zas _ 0 _ (by omega) (by omega),Zas _ _ _ (by omega) (by omega),Z3];congr 1;omega
  split
  ·rw[Zas _ 0 _ (by omega) (by omega),Zas _ _ _ (by omega) (by omega),Zas _ _ _ (by omega) (by omega),Z3];congr 1;omega
  split
  ·rw[Zas _ 0 _ (by omega) (by omega),Zas _ _ _ (by omega) (by omega),Zas _ _ _ (by omega) (by omega),Zas _ _ _ (by omega) (by omega),Z3];congr 1;omega
  ·rw[Zas _ 0 _ (by omega) (by omega),Zas _ _ _ (by omega) (by omega),Zas _ _ _ (by omega) (by omega),Zas _ _ _ (by omega) (by omega),Zas _ _ _ (by omega) (by omega),Z3];congr 1;omega
 rw[key]
 show(if most<(n:Int)then _ else _)=_
 rw[if_neg (by omega)]
theorem ZhO{d:Nat}(h1:1≤d)(h:d≤9):¬((Zea d).toNat:Int)=48:=by unfold Zea;rw[UInt8.toNat_ofNat',Nat.mod_eq_of_lt (by omega)];omega
theorem Zn6{n:Nat}(h:n≤65535):(Za8 n).length<2∨¬(((Za8 n).getD 0 0).toNat:Int)=48:=by
 unfold Za8
 split
 ·left;show 1<2;decide
 split
 ·right;exact ZhO (by omega) (by omega)
 split
 ·right;exact ZhO (by omega) (by omega)
 split
 ·right;exact ZhO (by omega) (by omega)
 ·right;exact ZhO (by omega) (by omega)
theorem ZcT{n:Nat}(h:n≤65535):ZJ (Za8 n)=((n:Int),true):=by
 unfold ZJ
 rw[if_pos (Zn6 h),ZhN h (by decide)]
theorem Zma{n:Nat}(h:n≤255):(Za8 n).length≤3:=by
 unfold Za8
 split
 ·simp
 split
 ·simp
 rw[if_pos (by omega)]
 simp
def dots4(a b c d:Nat):List UInt8:=Za8 a++(46::(Za8 b++(46::(Za8 c++(46::(Za8 d++[]))))))
theorem Zdj(v:Nat):Zct v=dots4 (v/256^3%256) (v/256^2%256) (v/256^1%256) (v/256^0%256):=rfl
theorem Zem{n:Nat}(h:n≤255):∀b∈Za8 n,isB 46 b=false:=fun b hb=>by
 have:=Zcw (n:=n) (by omega) b hb
 unfold isB
 exact beq_eq_false_iff_ne.2 (by omega)
theorem Zj2{a b c d:Nat}(ha:a≤255)(hb:b≤255)(hc:c≤255)(hd:d≤255):bsplit 46 (dots4 a b c d)=[Za8 a,Za8 b,Za8 c,Za8 d]:=by
 have step:∀l:LB,bsplit 46 (46::l)=[]::bsplit 46 l:=fun l=>by rw[bsplit,if_pos (by decide)]
 unfold dots4;rw[ZcH _ _ 46 (Zem ha),step,ZcH _ _ 46 (Zem hb),step,ZcH _ _ 46 (Zem hc),step,ZcH _ _ 46 (Zem hd)]
 simp[bsplit]
theorem ZiO{a b c d:Nat}(ha:a≤255)(hb:b≤255)(hc:c≤255)(hd:d≤255):∀x∈dots4 a b c d,(48≤x.toNat∧x.toNat≤57)∨x.toNat=46:=by
 intro x hx;unfold dots4 at hx;simp only[Xd,Xa,Xb,or_false]at hx;rcases hx with hx|hx|hx|hx|hx|hx|hx
 ·exact Or.inl (Zcw (n:=a) (by omega) x hx)
 ·subst hx;exact Or.inr rfl
 ·exact Or.inl (Zcw (n:=b) (by omega) x hx)
 ·subst hx;exact Or.inr rfl
 ·exact Or.inl (Zcw (n:=c) (by omega) x hx)
 ·subst hx;exact Or.inr rfl
 ·exact Or.inl (Zcw (n:=d) (by omega) x hx)
theorem Zqb{a b c d:Nat}(ha:a≤255)(hb:b≤255)(hc:c≤255)(hd:d≤255):ip4 [Za8 a,Za8 b,Za8 c,Za8 d]=(((a*16777216+b*65536+c*256+d:Nat):Int),true):=by
 unfold ip4
 rw[if_neg (by simp)]
 rw[Zch,ZcT (by omega),if_neg (by simp),if_neg (by simp;omega),if_pos (by simp)]
 rw[Zch,ZcT (by omega),if_neg (by simp),if_neg (by simp;omega),if_pos (by simp)]
 rw[Zch,ZcT (by omega),if_neg (by simp),if_neg (by simp;omega),if_pos (by simp)]
 rw[Zch,ZcT (by omega),if_neg (by simp),if_neg (by simp;omega),if_neg (by simp)]
 rw[Zch]
 refine Prod.ext ?_ rfl
 show(0:Int)+(a:Int)*(4294967296/256)+(b:Int)*(4294967296/256/256)+(c:Int)*(4294967296/256/256/256)+(d:Int)=_
 omega
theorem Zsi{x:UInt8}(h:(48≤x.toNat∧x.toNat≤57)∨x.toNat=46):Zig x=false:=by
 have hlt:=x.toNat_lt
 have key:∀n:Nat,n<256→((48≤n∧n≤57)∨n=46)→Zig (UInt8.ofNat n)=false:=by decide +kernel
 have:=key x.toNat hlt h
 rwa [UInt8.ofNat_toNat]at this
theorem Zmb{a b c d:Nat}(ha:a≤255)(hb:b≤255)(hc:c≤255)(hd:d≤255):ZI (dots4 a b c d) true=(Zct (a*16777216+b*65536+c*256+d),0):=by
 have hm:=ZiO ha hb hc hd;have hs:=Zj2 ha hb hc hd
 have hne:dots4 a b c d≠[]:=fun e=>decD_ne a (List.append_eq_nil_iff.1 e).1
 generalize dots4 a b c d=l at *
 have h1:Zr l=l:=Zg4 fun x hx e=>by subst e;exact absurd (hm 37 hx) (by decide)
 have h2:Zae l=l:=Zlb fun x hx e=>by have:=hm x hx;omega
 have h3:beyondB l=false:=by
  unfold beyondB;rw[Xg];intro x hx;have:=hm x hx
  simp;omega
 have h4:ZrY [Za8 a,Za8 b,Za8 c,Za8 d]=false:=by
  have key:∀n:Nat,n≤255→ZbO (Za8 n)=false:=fun n hn=>by
   unfold ZbO
   rw[decide_eq_false (by have:=Zma hn;omega)]
   rfl
  unfold ZrY
  simp[key a ha,key b hb,key c hc,key d hd]
 have h5:plainDom l=true:=by
  unfold plainDom
  have:l.any Zig=false:=Xg.2 fun x hx=>by rw[Zsi (hm x hx)];decide
  rw[this]
  cases l with
  | nil=>exact absurd rfl hne
  | cons x r=>rfl
 have h6:ZdQ [Za8 a,Za8 b,Za8 c,Za8 d]=[Za8 a,Za8 b,Za8 c,Za8 d]:=by
  unfold ZdQ
  exact if_neg fun e=>decD_ne d e.2
 have h7:ZbP [Za8 a,Za8 b,Za8 c,Za8 d]=true:=by
  unfold ZbP
  rw[if_neg (by simp)]
  show((Zv (Za8 d) 10 4294967295).2||_)=true
  rw[ZhN (by omega) (by decide)]
  rfl
 unfold ZI
 rw[if_neg (ZfV fun x hx e=>by subst e;exact absurd (hm 91 hx) (by decide)),if_pos rfl]
 unfold ZaA
 rw[h1,h2,hs,h3,h4,if_neg (by decide),if_neg (by rw[h5];decide),h6]
 unfold Zc2
 rw[h7,if_neg (by decide),Zqb ha hb hc hd,if_pos rfl]
 rfl
theorem Zqc{v:Nat}(h:v<4294967296):ZI (Zct v) true=(Zct v,0):=by
 rw[Zdj,Zmb (by omega) (by omega) (by omega) (by omega),←Zdj]
 congr 2
 omega
theorem Zqd:∀(ps:List LB) (room value:Int),ps≠[]→0≤value→value+room≤4294967296→(Zch ps room value).2=true→(Zch ps room value).1<4294967296:=by
 intro ps
 induction ps with
 | nil=>intro _ _ h;exact absurd rfl h
 | cons p r ih=>
  intro room value _ h0 h1 h2;rw[Zch]at h2 ⊢;have hr:=(Zd0 p).1
  split at h2
  ·cases h2
  next e1=>
   rw[if_neg e1]
   split at h2
   ·cases h2
   next e2=>
    rw[if_neg e2]
    have e3:¬room≤(ZJ p).1:=fun e=>e2 (Or.inl e)
    split at h2
    ·next e4=>
     rw[if_pos e4]
     have e5:¬255<(ZJ p).1:=fun e=>e2 (Or.inr ⟨e4,e⟩)
     have e6:(ZJ p).1*(room/256)≤255*(room/256):=Int.mul_le_mul_of_nonneg_right (by omega) (by omega)
     have e7:0≤(ZJ p).1*(room/256):=Int.mul_nonneg hr (by omega)
     exact ih _ _ e4 (by omega) (by omega) h2
    ·next e4=>
     rw[if_neg e4];have hnil:r=[]:=Classical.not_not.1 e4;subst hnil;rw[Zch]
     show value+(ZJ p).1<4294967296
     omega
theorem Ztk{ps:List LB}(h:(ip4 ps).2=true):(ip4 ps).1.toNat<4294967296:=by
 unfold ip4 at h ⊢
 split at h
 ·cases h
 next h1=>
  rw[if_neg h1]
  have:=Zqd ps 4294967296 0 (fun e=>h1 (Or.inl (by rw[e];rfl))) (Int.le_refl _) (by decide) h
  omega
theorem ZiP{l:LB}{sp:Bool}(h0:(ZI l sp).2=0):ZI (ZI l sp).1 sp=((ZI l sp).1,0):=by
 have hd:ZI l sp=if((l.getD 0 0).toNat:Int)=91 then Zak l else if sp=true then ZaA l else Zbk l:=rfl
 by_cases hb:((l.getD 0 0).toNat:Int)=91
 ·rw[if_pos hb]at hd
  rw[hd]at h0 ⊢;exact ZiN sp h0
 ·rw[if_neg hb]at hd
  cases sp
  ·rw[if_neg (by decide)]at hd
   rw[hd]at h0 ⊢;exact Zn3 h0
  ·rw[if_pos rfl]at hd
   rw[hd]at h0 ⊢
   cases he:ZbP (ZdQ (bsplit 46 (Zae (Zr l))))
   ·exact Zl9 h0 he
   ·unfold ZaA at h0 ⊢
    split at h0
    ·cases h0
    next h1=>
     split at h0
     ·cases h0
     next h2=>
      rw[if_neg h1,if_neg h2];unfold Zc2 at h0 ⊢
      rw[he,if_neg (by decide)]at h0 ⊢
      split at h0
      ·next h3=>
       rw[if_pos h3];exact Zqc (Ztk h3)
      ·cases h0
def HostT(l:List UInt8):Prop:=
 (∃t:List UInt8,l=91::(t++[93])∧∀b∈t,b≠35∧b≠47∧b≠63∧b≠64∧b≠91∧b≠92∧b≠93∧b≠32) ∨
 (∀b∈l,b≠35∧b≠47∧b≠58∧b≠63∧b≠64∧b≠91∧b≠92∧b≠93∧b≠32∧b≠124)
theorem hostT_nil:HostT []:=Or.inr fun b hb=>by cases hb
theorem HostT.mem{l:LB}(h:HostT l):∀b∈l,b≠35∧b≠47∧b≠63∧b≠64∧b≠92∧b≠32:=by
 intro b hb;rcases h with⟨t,rfl,ht⟩|h
 ·simp only[Xa,Xd,Xb,or_false]at hb
  rcases hb with rfl|hb|rfl
  ·decide
  ·have:=ht b hb;exact⟨this.1,this.2.1,this.2.2.1,this.2.2.2.1,this.2.2.2.2.2.1,this.2.2.2.2.2.2.2⟩
  ·decide
 ·have:=h b hb;exact⟨this.1,this.2.1,this.2.2.2.1,this.2.2.2.2.1,this.2.2.2.2.2.2.1,this.2.2.2.2.2.2.2.2.1⟩
theorem Zn7{d:Nat}(h:d≤15):(Zcs d≠35∧Zcs d≠47∧Zcs d≠63∧Zcs d≠64∧Zcs d≠91∧Zcs d≠92∧Zcs d≠93∧Zcs d≠32):=by
 match d,h with
 | 0,_=>decide
 | 1,_=>decide
 | 2,_=>decide
 | 3,_=>decide
 | 4,_=>decide
 | 5,_=>decide
 | 6,_=>decide
 | 7,_=>decide
 | 8,_=>decide
 | 9,_=>decide
 | 10,_=>decide
 | 11,_=>decide
 | 12,_=>decide
 | 13,_=>decide
 | 14,_=>decide
 | 15,_=>decide
def Bk(l:List UInt8):Prop:=∀b∈l,b≠35∧b≠47∧b≠63∧b≠64∧b≠91∧b≠92∧b≠93∧b≠32
theorem Zn8:Bk []:=fun b hb=>by cases hb
theorem Zn9{a b:LB}(ha:Bk a)(hb:Bk b):Bk (a++b):=fun x hx=>(Xd.1 hx).elim (ha x) (hb x)
theorem Zsj{n:Nat}(h:n≤65535):Bk (ZdR n):=by
 intro b hb
 have key:∀d,d≤15→b=Zcs d→b≠35∧b≠47∧b≠63∧b≠64∧b≠91∧b≠92∧b≠93∧b≠32:=fun d hd e=>by subst e;exact Zn7 hd
 unfold ZdR at hb
 (repeat' split at hb)<;>simp only[Xa,Xb,or_false]at hb
 ·exact key _ (by omega) hb
 ·rcases hb with hb|hb<;>exact key _ (by omega) hb
 ·rcases hb with hb|hb|hb<;>exact key _ (by omega) hb
 ·rcases hb with hb|hb|hb|hb<;>exact key _ (by omega) hb
theorem Zt3{ns:LI}(h:GOk ns)(st ln:Nat):∀f i,Bk (ZfN ns st ln f i):=by
 intro f
 induction f with
 | zero=>intro i;exact Zn8
 | succ f ih=>
  intro i;rw[ZfN]
  split
  ·exact Zn8
  split
  ·exact Zn9 (fun b hb=>by simp only[Xa,Xb,or_false]at hb;rcases hb with rfl|rfl<;>decide) (ih _)
  ·refine Zn9 (Zn9 ?_ (Zsj ?_)) (ih _)
   ·split
    ·exact fun b hb=>by simp only[Xa,Xb,or_false]at hb;subst hb;decide
    ·exact Zn8
   ·by_cases hi:i<ns.length
    ·have:=h ns[i] (List.getElem_mem hi)
     rw[Xi,List.getElem?_eq_getElem hi];simp only[Option.getD_some]
     omega
    ·rw[Xi,List.getElem?_eq_none (by omega)]
     simp
theorem Zoa{b:UInt8}(h:Zx (b.toNat:Int) ZdN=false):b≠35∧b≠47∧b≠58∧b≠63∧b≠64∧b≠91∧b≠92∧b≠93∧b≠32∧b≠124:=by refine⟨?_,?_,?_,?_,?_,?_,?_,?_,?_,?_⟩<;>(rintro rfl;exact absurd h (by decide))
theorem hostL_T{l:LB}{sp:Bool}:HostT (ZI l sp).1:=by
 unfold ZI
 split
 ·unfold Zak
  split
  ·exact hostT_nil
  split
  ·exact Or.inl ⟨_,rfl,Zt3 (Zk1 _) _ _ _ _⟩
  ·exact hostT_nil
 split
 ·unfold ZaA
  split
  ·exact hostT_nil
  split
  ·exact hostT_nil
  next h1 h2=>
   unfold Zc2
   split
   ·right
    intro b hb
    have hp:plainDom (Zae (Zr l))=true:=by simpa using h2
    have:=Ze1 hp b hb;unfold Zig at this;simp only[Bool.or_eq_false_iff]at this;exact Zoa this.2
   split
   ·right
    intro b hb;rw[Zdj]at hb
    have:=ZiO (by omega) (by omega) (by omega) (by omega) b hb
    refine⟨?_,?_,?_,?_,?_,?_,?_,?_,?_,?_⟩<;>(rintro rfl;exact absurd this (by decide))
   ·exact hostT_nil
 ·unfold Zbk
  split
  ·exact hostT_nil
  next h1=>
   right
   intro b hb
   have hf:(l.any fun b=>Zx b.toNat ZdN)=false:=by simpa using h1
   have:=Xg.1 (ZiM (set:=tl (ZaN 0)) hf) b hb
   exact Zoa (by simpa using this)
theorem Zg5(inb:Bool)(a r:LB)(h:∀b∈a,b≠91∧b≠93∧(inb=false→b≠58)):cutPortGo inb (a++r)=(cutPortGo inb r).map fun q=>(a++q.1,q.2):=by
 induction a with
 | nil=>cases hq:cutPortGo inb r<;>simp[hq]
 | cons c a ih=>
  have hc:=h c (by simp)
  have n91:¬(c.toNat:Int)=91:=fun e=>hc.1 (Xc.1 (by show c.toNat=91;omega))
  have n93:¬(c.toNat:Int)=93:=fun e=>hc.2.1 (Xc.1 (by show c.toNat=93;omega))
  have n58:¬((c.toNat:Int)=58∧inb=false):=fun e=>hc.2.2 e.2 (Xc.1 (by show c.toNat=58;omega))
  rw[Xl,cutPortGo,if_neg n91,if_neg n93,if_neg n58,ih (fun b hb=>h b (by simp[hb]))]
  cases cutPortGo inb r<;>simp
theorem ZiQ{h:LB}(hh:HostT h)(r:LB):cutPortGo false (h++r)=(cutPortGo false r).map fun q=>(h++q.1,q.2):=by
 rcases hh with⟨t,rfl,ht⟩|hh
 ·show cutPortGo false (91::((t++[93])++r))=_
  rw[cutPortGo,if_pos (by decide),Xh,Zg5 true t _ (fun b hb=>⟨(ht b hb).2.2.2.2.1,(ht b hb).2.2.2.2.2.2.1,fun e=>by cases e⟩)]
  show((cutPortGo true (93::r)).map _).map _=_
  rw[cutPortGo,if_neg (by decide),if_pos (by decide)]
  cases cutPortGo false r<;>simp
 ·exact Zg5 false h r fun b hb=>⟨(hh b hb).2.2.2.2.2.1,(hh b hb).2.2.2.2.2.2.2.1,fun _=>(hh b hb).2.2.1⟩
theorem ZiR{h:LB}(hh:HostT h):Zu h=(h,[],false):=by
 have:=ZiQ hh [];rw[Xn]at this;unfold Zu;rw[this]
 rfl
theorem ZiS{h:LB}(hh:HostT h)(p:LB):Zu (h++[58]++p)=(h,p,true):=by
 have e1:cutPortGo false (58::p)=some ([],p):=by rw[cutPortGo,if_neg (by decide),if_neg (by decide),if_pos ⟨by decide,rfl⟩]
 have e:cutPortGo false (h++[58]++p)=some (h,p):=by
  rw[Xh,ZiQ hh]
  show(cutPortGo false (58::p)).map _=_
  rw[e1]
  simp
 unfold Zu;rw[e]
theorem Zlc{p:UInt8→Bool}{a:LB}(r:LB)(h:∀b∈a,p b=false):bcut p (a++r)=(a++(bcut p r).1,(bcut p r).2):=by
 induction a with
 | nil=>rfl
 | cons c a ih=>rw[Xl,bcut,if_neg (by rw[h c (by simp)];decide),ih (fun b hb=>h b (by simp[hb]))];rfl
theorem ZhP{p:UInt8→Bool}{a:LB}(h:∀b∈a,p b=false):bcut p a=(a,[],false):=by
 have:=Zlc (p:=p) [] h;rw[Xn]at this;rw[this]
 simp[bcut]
theorem Zsk{p:UInt8→Bool}{a:LB}{c:UInt8}(r:LB)(h:∀b∈a,p b=false)(hc:p c=true):bcut p (a++c::r)=(a,r,true):=by
 rw[Zlc _ h,bcut,if_pos hc]
 simp
theorem ZiT{n:Int}{a:LB}(h:∀b∈a,isB n b=false):bcutLast n a=([],a,false):=by
 induction a with
 | nil=>rw[bcutLast]
 | cons c a ih=>
  rw[bcutLast,ih (fun b hb=>h b (by simp[hb])),if_neg (by intro e;cases e),if_neg (by rw[h c (by simp)];decide)]
structure Zob (sp:Bool) (s:List UInt8):Prop where
 asis:Asis (tl (ZaN 4)) s
 sl:∀b∈s,slB sp b=false
 dots:countDots s=0
def Zsl(f:Bool)(ps:List (List UInt8)):Prop:=f=true→Zaf (ps.getD 0 [])=true→(ps.getD 0 []).getD 1 0=58
structure ZdP (f sp:Bool) (ps:List (List UInt8)):Prop where
 each:∀s∈ps,Zob sp s
 drv:Zsl f ps
theorem Ztl(sp:Bool):slB sp 47=true:=by cases sp<;>decide
theorem ZhQ{c:UInt8}(r:LB)(h:c.toNat<128):clean (c::r)=c::clean r:=by
 have hf:follow (c.toNat:Int)=(1,0,0):=if_pos (by omega)
 have hg:∀q:LB,Z7 1 0 0 1 q=1:=fun q=>by
  cases q with
  | nil=>rfl
  | cons a b=>rw[Z7,if_neg (by rintro⟨e,-⟩;exact absurd e (by decide))]
 have hm:measure (c::r)=(1,true):=by
  rw[measure,hf];simp only;rw[hg]
  rfl
 rw[Zb1,hm]
 simp
theorem Zld{c:UInt8}(r:LB)(h:128≤c.toNat):∃b m,clean (c::r)=b::m∧128≤b.toNat:=by
 rw[Zb1]
 split
 ·have:=ZcO c r
  obtain⟨n,hn⟩:∃n,(measure (c::r)).1=n+1:=⟨(measure (c::r)).1 - 1,by omega⟩
  rw[hn,List.take_succ_cons];exact⟨c,_,rfl,h⟩
 ·exact⟨239,_,rfl,by decide⟩
abbrev S4:List UInt8:=tl (ZaN 4)
abbrev en4(s:List UInt8):List UInt8:=encB S4 (clean s)
theorem Zdk(set:LB)(c:UInt8)(r:LB):encB set (c::r)=ZN set c++encB set r:=by simp[encB]
theorem ZeB{c:UInt8}(r:LB)(h1:32≤c.toNat)(h2:c.toNat≤126)(h3:Zx (c.toNat:Int) S4=false):en4 (c::r)=c::en4 r:=by
 show encB S4 (clean (c::r))=_
 rw[ZhQ r (by omega),Zdk]
 unfold ZN
 rw[if_neg (by rintro(e|e|e);omega;omega;rw[h3]at e;cases e)]
 rfl
theorem Zen(c:UInt8)(r:LB):(32≤c.toNat∧c.toNat≤126∧Zx (c.toNat:Int) S4=false∧en4 (c::r)=c::en4 r)∨(c≠46∧c≠37∧c≠50∧c≠101∧c≠69∧∃x y m,en4 (c::r)=37::x::y::m∧¬(x=50∧y=69)∧y≠101):=by
 by_cases h:32≤c.toNat∧c.toNat≤126∧Zx (c.toNat:Int) S4=false
 ·exact Or.inl ⟨h.1,h.2.1,h.2.2,ZeB r h.1 h.2.1 h.2.2⟩
 ·right
  have hc:c≠46∧c≠37∧c≠50∧c≠101∧c≠69:=by refine⟨?_,?_,?_,?_,?_⟩<;>(rintro rfl;exact h (by decide))
  refine⟨hc.1,hc.2.1,hc.2.2.1,hc.2.2.2.1,hc.2.2.2.2,?_⟩
  obtain⟨b,m,hb,hbe,hb46⟩:∃b m,clean (c::r)=b::m∧((b.toNat:Int)<32∨126<(b.toNat:Int)∨Zx (b.toNat:Int) S4=true)∧b≠46:=by
   by_cases hlo:c.toNat<128
   ·refine⟨c,_,ZhQ r hlo,?_,hc.1⟩
    cases ha:Zx (c.toNat:Int) S4
    ·by_cases h1:(c.toNat:Int)<32
     ·exact Or.inl h1
     ·exact Or.inr (Or.inl (by have:¬c.toNat≤126:=fun e=>h ⟨by omega,e,ha⟩
                               omega))
    ·exact Or.inr (Or.inr rfl)
   ·obtain⟨b,m,hb,hh⟩:=Zld r (by omega:128≤c.toNat)
    exact⟨b,m,hb,Or.inr (Or.inl (by omega)),by rintro rfl;exact absurd hh (by decide)⟩
  have hbl:=b.toNat_lt
  refine⟨toB (capital ((b.toNat:Int)/16)),toB (capital ((b.toNat:Int)%16)),encB S4 m,?_,?_,?_⟩
  ·show encB S4 (clean (c::r))=_
   rw[hb,Zdk];unfold ZN;rw[if_pos hbe]
   rfl
  ·have key:∀n:Nat,n<256→toB (capital ((n:Int)/16))=50∧toB (capital ((n:Int)%16))=69→n=46:=by decide +kernel
   intro e;exact hb46 (Xc.1 (key b.toNat hbl e))
  ·have key:∀n:Nat,n<256→toB (capital ((n:Int)%16))≠101:=by decide +kernel
   exact key b.toNat hbl
theorem Zdl:en4 []=[]:=by show encB S4 (clean [])=[];rw[clean_nil];rfl
theorem Zcl{l:LB}(h1:¬((l.getD 0 0).toNat:Int)=46)(h2:¬(3≤l.length∧((l.getD 0 0).toNat:Int)=37∧((l.getD 1 0).toNat:Int)=50∧(((l.getD 2 0).toNat:Int)=101∨((l.getD 2 0).toNat:Int)=69))):dotSize l=0:=by unfold dotSize;rw[if_neg h1,if_neg h2]
theorem Za7{b c:UInt8}{n:Nat}(hc:c.toNat=n)(h:(b.toNat:Int)=n):b=c:=Xc.1 (by omega)
theorem Zsm(s:LB):dotSize (en4 s)=dotSize s∧(en4 s).drop (dotSize s)=en4 (s.drop (dotSize s)):=by
 cases s with
 | nil=>rw[Zdl];exact⟨rfl,by simp[Zdl]⟩
 | cons c r=>
  by_cases h46:c=46
  ·subst h46
   have e:=ZeB (c:=46) r (by decide) (by decide) (by decide)
   have d1:∀q:LB,dotSize (46::q)=1:=fun q=>if_pos rfl
   rw[e,d1,d1];exact⟨rfl,rfl⟩
  ·by_cases h37:c=37
   ·subst h37
    have e:=ZeB (c:=37) r (by decide) (by decide) (by decide)
    rw[e]
    have d0:∀q:LB,dotSize (37::q)=if 2≤q.length∧((q.getD 0 0).toNat:Int)=50∧(((q.getD 1 0).toNat:Int)=101∨((q.getD 1 0).toNat:Int)=69)then 3 else 0:=by
     intro q;unfold dotSize
     rw[if_neg (show ¬((((37::q:LB)).getD 0 0).toNat:Int)=46 from(by decide:¬((37:UInt8).toNat:Int)=46))]
     by_cases hq:2≤q.length∧((q.getD 0 0).toNat:Int)=50∧(((q.getD 1 0).toNat:Int)=101∨((q.getD 1 0).toNat:Int)=69)
     ·rw[if_pos hq,if_pos ⟨by simp only[Xm];omega,rfl,hq.2⟩]
     ·rw[if_neg hq,if_neg (fun h=>hq ⟨by have:=h.1;simp only[Xm]at this;omega,h.2.2⟩)]
    rw[d0,d0]
    by_cases hq:2≤r.length∧((r.getD 0 0).toNat:Int)=50∧(((r.getD 1 0).toNat:Int)=101∨((r.getD 1 0).toNat:Int)=69)
    ·rw[if_pos hq]
     match r,hq with
     | d::x::q,hq=>
      have hd:d=50:=Za7 rfl hq.2.1;subst hd
      have ed:=ZeB (c:=50) (x::q) (by decide) (by decide) (by decide)
      rcases hq.2.2 with hx|hx
      ·have hx':x=101:=Za7 rfl hx
       subst hx'
       have ex:=ZeB (c:=101) q (by decide) (by decide) (by decide)
       rw[ed,ex,if_pos ⟨by simp,rfl,Or.inl rfl⟩]
       exact⟨rfl,rfl⟩
      ·have hx':x=69:=Za7 rfl hx
       subst hx'
       have ex:=ZeB (c:=69) q (by decide) (by decide) (by decide)
       rw[ed,ex,if_pos ⟨by simp,rfl,Or.inr rfl⟩]
       exact⟨rfl,rfl⟩
    ·rw[if_neg hq]
     have hn:¬(2≤(en4 r).length∧(((en4 r).getD 0 0).toNat:Int)=50∧((((en4 r).getD 1 0).toNat:Int)=101∨(((en4 r).getD 1 0).toNat:Int)=69)):=by
      rintro⟨n1,n2,n3⟩
      cases r with
      | nil=>rw[Zdl]at n1;simp at n1
      | cons d q=>
       rcases Zen d q with⟨-,-,-,hd⟩|⟨-,-,-,-,-,x,y,m,hd,-,-⟩
       ·rw[hd]at n1 n2 n3
        have n2':(d.toNat:Int)=50:=n2;have n3':(((en4 q).getD 0 0).toNat:Int)=101∨(((en4 q).getD 0 0).toNat:Int)=69:=n3
        cases q with
        | nil=>rw[Zdl]at n1;simp at n1
        | cons z q'=>
         rcases Zen z q' with⟨-,-,-,hz⟩|⟨-,-,-,-,-,x,y,m,hz,-,-⟩
         ·rw[hz]at n3'
          exact hq ⟨by simp,n2',n3'⟩
         ·rw[hz]at n3'
          rcases n3' with n|n
          ·exact absurd n (show ¬((37:UInt8).toNat:Int)=101 by decide)
          ·exact absurd n (show ¬((37:UInt8).toNat:Int)=69 by decide)
       ·rw[hd]at n2
        exact absurd n2 (show ¬((37:UInt8).toNat:Int)=50 by decide)
     rw[if_neg hn]
     refine⟨rfl,?_⟩
     rw[Xf,Xf,e]
   ·have ds:dotSize (c::r)=0:=by
     refine Zcl (fun e=>h46 (Za7 rfl e)) ?_
     rintro⟨-,e,-⟩;exact h37 (Za7 rfl e)
    rw[ds,Xf,Xf]
    refine⟨?_,rfl⟩
    rcases Zen c r with⟨-,-,-,he⟩|⟨-,-,-,-,-,x,y,m,he,hxy,hy⟩
    ·rw[he]
     refine Zcl (fun e=>h46 (Za7 rfl e)) ?_
     rintro⟨-,e,-⟩;exact h37 (Za7 rfl e)
    ·rw[he]
     refine Zcl (fun e=>absurd e (by show ¬((37:UInt8).toNat:Int)=46;decide)) ?_
     rintro⟨-,-,e1,e2⟩;have hx:x=50:=Za7 rfl e1;rcases e2 with e2|e2
     ·exact hy (Za7 rfl e2)
     ·exact hxy ⟨hx,Za7 rfl e2⟩
theorem ZfY(s:LB):en4 s=[]↔s=[]:=by
 constructor
 ·intro h
  exact Classical.byContradiction fun hn=>Zn0 (ZhM hn) h
 ·rintro rfl;exact Zdl
theorem Ztm:∀m n s,Zm8 m n (en4 s)=Zm8 m n s:=by
 intro m
 induction m with
 | zero=>intro n s;rfl
 | succ m ih=>
  intro n s;have h:=Zsm s;rw[Zm8,Zm8]
  by_cases hs:s=[]
  ·rw[if_pos hs,if_pos ((ZfY s).2 hs)]
  ·rw[if_neg hs,if_neg (fun e=>hs ((ZfY s).1 e)),h.1]
   split
   ·rfl
   ·rw[h.2,ih]
theorem Zqe(s:LB):countDots (en4 s)=countDots s:=Ztm 3 0 s
theorem ZfZ{n:Nat}(h:n=37∨(48≤n∧n≤57)∨(65≤n∧n≤70))(sp:Bool):Zc1 sp (n:Int)=false:=by
 unfold Zc1
 have h1:((n:Int)==47)=false:=beq_eq_false_iff_ne.2 (by omega)
 have h2:((n:Int)==92)=false:=beq_eq_false_iff_ne.2 (by omega)
 rw[h1,h2];cases sp<;>rfl
theorem Zle{n:Nat}(h:93≤n)(sp:Bool):Zc1 sp (n:Int)=false:=by
 unfold Zc1
 have h1:((n:Int)==47)=false:=beq_eq_false_iff_ne.2 (by omega)
 have h2:((n:Int)==92)=false:=beq_eq_false_iff_ne.2 (by omega)
 rw[h1,h2];cases sp<;>rfl
theorem Zoc{sp:Bool}{set s:LB}(h:∀b∈s,slB sp b=false):∀b∈encB set (clean s),slB sp b=false:=by
 intro b hb;obtain⟨c,hcm,hc⟩:=List.mem_flatMap.1 hb;have hcl:=c.toNat_lt;unfold ZN at hc
 split at hc
 ·simp only[Xa,Xb,or_false]at hc
  rcases hc with rfl|rfl|rfl
  ·exact ZfZ (Or.inl rfl) sp
  ·exact ZfZ (Or.inr (Zao (by omega) (by omega))) sp
  ·exact ZfZ (Or.inr (Zao (by omega) (by omega))) sp
 ·rw[Xe]at hc
  subst hc;rcases ZfW _ s (Nat.le_refl _) b hcm with h1|h1
  ·exact h b h1
  ·exact Zle (by omega) sp
theorem Zod{sp:Bool}{s:LB}(h:∀b∈s,slB sp b=false)(hd:countDots s=0):Zob sp (en4 s):=
 ⟨ZbL Ztj _,Zoc h,by rw[Zqe];exact hd⟩
theorem Zoe(sp:Bool):Zob sp []:=⟨fun b hb=>(by cases hb),fun b hb=>(by cases hb),rfl⟩
theorem Zmc{a:UInt8}(h:Zbv a.toNat=true):32≤a.toNat∧a.toNat≤126∧Zx (a.toNat:Int) S4=false:=by
 have key:∀n:Nat,n<256→Zbv (n:Int)=true→32≤n∧n≤126∧Zx (n:Int) S4=false:=by decide +kernel
 exact key a.toNat a.toNat_lt h
theorem Zj3{a:UInt8}(h:Zbv a.toNat=true)(sp:Bool):slB sp a=false:=by
 have key:∀n:Nat,n<256→Zbv (n:Int)=true→Zc1 sp (n:Int)=false:=by cases sp<;>decide +kernel
 exact key a.toNat a.toNat_lt h
theorem Zof{a:UInt8}(h:Zbv a.toNat=true):¬((a.toNat:Int)=46)∧¬((a.toNat:Int)=37):=by
 unfold Zbv at h;have:=of_decide_eq_true h
 omega
theorem Zf0{l:LB}(h:Zaf l=true):∃a b,l=[a,b]∧Zbv a.toNat=true∧(b=58∨b=124):=by
 unfold Zaf at h
 split at h
 ·next a b=>
  rw[Bool.and_eq_true,Bool.or_eq_true]at h
  refine⟨a,b,rfl,h.1,?_⟩
  rcases h.2 with e|e
  ·exact Or.inl (Za7 rfl (by simpa using e))
  ·exact Or.inr (Za7 rfl (by simpa using e))
 ·cases h
theorem Zj4{sp:Bool}{s:LB}(h:Zaf s=true):Zob sp (s.take 1++[58]):=by
 obtain⟨a,b,rfl,ha,-⟩:=Zf0 h;have h1:=Zmc ha
 show Zob sp [a,58]
 refine⟨?_,?_,?_⟩
 ·intro x hx
  simp only[Xa,Xb,or_false]at hx;rcases hx with rfl|rfl
  ·exact h1
  ·decide
 ·intro x hx
  simp only[Xa,Xb,or_false]at hx;rcases hx with rfl|rfl
  ·exact Zj3 ha sp
  ·cases sp<;>decide
 ·have h2:=Zof ha
  have:dotSize [a,58]=0:=Zcl h2.1 (fun e=>h2.2 e.2.1)
  unfold countDots
  rw[Zm8,if_neg (by simp),if_pos this]
theorem Zog{s:LB}(h:Zaf (en4 s)=true):Zaf s=true:=by
 obtain⟨a,b,he,ha,hb⟩:=Zf0 h
 cases s with
 | nil=>rw[Zdl]at he;cases he
 | cons c r=>
  rcases Zen c r with⟨-,-,-,hc⟩|⟨-,-,-,-,-,x,y,m,hc,-,-⟩
  ·rw[hc]at he
   cases r with
   | nil=>rw[Zdl]at he;cases he
   | cons d q=>
    rcases Zen d q with⟨-,-,-,hd⟩|⟨-,-,-,-,-,x,y,m,hd,-,-⟩
    ·rw[hd]at he
     simp only[List.cons.injEq]at he;obtain⟨rfl,rfl,hq⟩:=he;have:=(ZfY q).1 hq;subst this;unfold Zaf;simp only[ha,Bool.true_and];rcases hb with rfl|rfl<;>decide
    ·rw[hd]at he
     simp at he
  ·rw[hc]at he
   simp at he
theorem Zoh{f:Bool}{ps:List LB}(h:Zsl f ps)(hn:ps≠[])(t:List LB):Zsl f (ps++t):=by
 cases ps with
 | nil=>exact absurd rfl hn
 | cons x r=>exact h
theorem Zsn{f sp:Bool}{ps:List LB}{s:LB}(h:ZdP f sp ps)(hs:∀b∈s,slB sp b=false)(hd:countDots s=0):ZdP f sp (joinL f ps s):=by
 unfold joinL
 constructor
 ·intro x hx
  rcases Xd.1 hx with hx|hx
  ·exact h.each x hx
  ·rw[Xe]at hx
   subst hx
   split
   ·next hc=>exact Zj4 hc.2.2
   ·exact Zod hs hd
 ·by_cases hn:ps=[]
  ·subst hn
   intro hf hdr
   show((if f=true∧[]=[]∧Zaf s=true then s.take 1++[58]else en4 s):LB).getD 1 0=58
   have hdr':Zaf (if f=true∧([]:List LB)=[]∧Zaf s=true then s.take 1++[58]else en4 s)=true:=hdr
   by_cases hc:Zaf s=true
   ·rw[if_pos ⟨hf,rfl,hc⟩]
    obtain⟨a,b,rfl,-,-⟩:=Zf0 hc
    rfl
   ·rw[if_neg (fun e=>hc e.2.2)]at hdr'
    exact absurd (Zog hdr') hc
  ·exact Zoh h.drv hn _
theorem Zoi{f sp:Bool}{ps:List LB}(h:ZdP f sp ps)(n:Nat):ZdP f sp (ps.take n):=by
 constructor
 ·exact fun s hs=>h.each s (List.mem_of_mem_take hs)
 ·intro hf hd
  cases n with
  | zero=>have hd':Zaf []=true:=hd;cases hd'
  | succ n=>
   cases ps with
   | nil=>have hd':Zaf []=true:=hd;cases hd'
   | cons x r=>exact h.drv hf hd
theorem Zlf{f sp:Bool}{ps:List LB}(h:ZdP f sp ps):ZdP f sp (ZaC f ps):=by
 unfold ZaC
 split
 ·exact h
 ·exact Zoi h _
theorem Zqf{f sp:Bool}{ps:List LB}(h:ZdP f sp ps):ZdP f sp (ps++[[]]):=by
 constructor
 ·intro x hx
  rcases Xd.1 hx with hx|hx
  ·exact h.each x hx
  ·rw[Xe]at hx;subst hx;exact Zoe sp
 ·by_cases hn:ps=[]
  ·subst hn;intro _ hd;have hd':Zaf []=true:=hd;cases hd'
  ·exact Zoh h.drv hn _
theorem Ztn{f sp:Bool}{ps:List LB}{s:LB}(last:Bool)(h:ZdP f sp ps)(hs:∀b∈s,slB sp b=false):ZdP f sp (ZcF f ps s last):=by
 have h2:ZdP f sp (if countDots s=2 then ZaC f ps else ps):=by
  split
  ·exact Zlf h
  ·exact h
 unfold ZcF
 split
 ·next hd=>exact Zsn h hs hd
 split
 ·exact Zqf h2
 ·exact h2
theorem Zso{f sp:Bool}:∀(ss ps:List LB),ZdP f sp ps→(∀s∈ss,∀b∈s,slB sp b=false)→ZdP f sp (Zbu f ps ss):=by
 intro ss
 induction ss with
 | nil=>intro ps h _;rw[Zbu];exact h
 | cons x r ih=>
  intro ps h hs
  cases r with
  | nil=>rw[Zbu];exact Ztn true h (hs x (by simp))
  | cons y q=>rw[Zbu];exact ih _ (Ztn false h (hs x (by simp))) (fun s hm=>hs s (by simp only[Xa]at hm ⊢;exact Or.inr hm))
theorem Zj5{p:UInt8→Bool}:∀(l:LB),∀s∈Zbl p l,∀b∈s,p b=false:=by
 intro l
 induction l with
 | nil=>intro s hs b hb;rw[Zbl,Xe]at hs;subst hs;cases hb
 | cons c r ih=>
  intro s hs b hb;rw[Zbl]at hs
  split at hs
  ·simp only[Xa]at hs
   rcases hs with rfl|hs
   ·cases hb
   ·exact ih s hs b hb
  ·next hc=>
   obtain⟨x,q,hx⟩:=Zdd p r;rw[hx]at hs ih;simp only[Xa]at hs;rcases hs with rfl|hs
   ·simp only[Xa]at hb
    rcases hb with rfl|hb
    ·simpa using hc
    ·exact ih x (by simp) b hb
   ·exact ih s (by simp[hs]) b hb
theorem Zoj(f sp:Bool):ZdP f sp []:=⟨fun s hs=>(by cases hs),fun _ hd=>(by have hd':Zaf []=true:=hd;cases hd')⟩
theorem Zf1{f sp:Bool}{ps:List LB}(t:LB)(h:ZdP f sp ps):ZdP f sp (ZaR f sp ps t):=Zso _ _ h (Zj5 t)
theorem Zdm(t sch:LB):ZdP (sch==Zw) (Zb sch) (Zbg t sch):=Zf1 t (Zoj _ _)
theorem ZiU{sch:LB}{b:List LB}(t:LB)(h:ZdP (sch==Zw) (Zb sch) b):ZdP (sch==Zw) (Zb sch) (Zcu b t sch):=Zf1 t (Zlf h)
theorem Zqg{b:List LB}(t:LB)(h:ZdP true true b):ZdP true true (ZaK b t):=by
 unfold ZaK
 split
 ·exact Zdm t Zw
 ·exact Zf1 t (Zoi h 1)
structure Wf (u:U):Prop where
 nh:u.hh=false→u.nam=[]∧u.pw=[]∧u.host=[]∧u.hp=false
 nq:u.hq=false→u.q=[]
 nf:u.hf=false→u.fr=[]
theorem Zcx:Wf zeroU:=⟨fun _=>⟨rfl,rfl,rfl,rfl⟩,fun _=>rfl,fun _=>rfl⟩
theorem Zdo(p:UInt8→Bool)(l:LB):(bcut p l).2.2=false→(bcut p l).2.1=[]:=by
 induction l with
 | nil=>intro _;rfl
 | cons c r ih=>
  unfold bcut
  split
  ·intro h;cases h
  ·exact ih
theorem Za3(set:LB):encB set (clean [])=[]:=by rw[clean_nil];rfl
theorem Wf.segs{u:U}(h:Wf u)(s:List LB):Wf { u with segs:=s }:=⟨h.nh,h.nq,h.nf⟩
theorem Wf.pathed{u:U}(h:Wf u)(b:Bool)(s:LB):Wf { u with op:=b,opath:=s }:=⟨h.nh,h.nq,h.nf⟩
theorem Wf.hosted{u:U}(h:Wf u):Wf { u with hh:=true }:=⟨fun h0=>(by cases h0),h.nq,h.nf⟩
theorem Wf.hosts{u:U}(h:Wf u)(x:LB):Wf { u with hh:=true,host:=x }:=⟨fun h0=>(by cases h0),h.nq,h.nf⟩
theorem ZhT(sch q:LB)(hq:Bool)(h:hq=false→q=[]):Wf (ZbI sch hq q):=
 ⟨fun _=>⟨rfl,rfl,rfl,rfl⟩,fun h0=>by show encB _ (clean q)=[];rw[h h0,Za3],fun _=>rfl⟩
theorem ZiW{u base:U}(left:LB)(h:Wf u)(hb:Wf base):Wf (Zal u left base):=by
 unfold Zal
 split
 ·refine⟨h.nh,?_,h.nf⟩
  intro h0
  have h1:(u.hq||base.hq)=false:=h0;rw[Bool.or_eq_false_iff]at h1
  show(if u.hq=true then u.q else base.q)=[]
  rw[if_neg (by rw[h1.1];decide)]
  exact hb.nq h1.2
 ·exact h.segs _
theorem Zj8{u:U}(t:LB)(h:Wf u)(h1:u.hh=true):Wf (ZY u t).1:=by
 unfold ZY
 split
 ·exact h.segs _
 split
 ·exact Zcx
 ·exact⟨fun h0=>absurd (h1.symm.trans h0) (by decide),h.nq,h.nf⟩
theorem Zou{u base:U}(left:LB)(h:Wf u)(hb:Wf base):Wf (Zcv u left base).1:=by
 unfold Zcv
 split
 ·exact Zj8 _ h.hosted rfl
 split
 ·exact h.hosted.segs _
 split
 ·exact(h.hosts _).segs _
 split
 ·exact(h.hosts _).segs _
 ·exact ZiW left (h.hosts _) hb
structure Wq (u:U):Prop where
 nq:u.hq=false→u.q=[]
 nf:u.hf=false→u.fr=[]
theorem Wf.wq{u:U}(h:Wf u):Wq u:=⟨h.nq,h.nf⟩
theorem Zsu{u:U}(p:LB)(h:Wq u)(h1:u.hh=true):Wf (ZdO u p).1:=by
 unfold ZdO
 split
 ·exact Zcx
 show Wf (ZaW u _)
 unfold ZaW
 split
 ·exact⟨fun h0=>absurd (h1.symm.trans h0) (by decide),h.nq,h.nf⟩
 ·exact⟨fun h0=>absurd (h1.symm.trans h0) (by decide),h.nq,h.nf⟩
theorem Zqm{u:U}(p:LB)(h:Wq u):Wf (ZP u p).1:=by
 unfold ZP
 split
 ·exact Zcx
 split
 ·exact Zcx
 split
 ·exact⟨fun h0=>(by cases h0),h.nq,h.nf⟩
 ·exact Zsu _ ⟨h.nq,h.nf⟩ rfl
theorem Zcm{u:U}(t:LB)(h:Wq u):Wf (Zs u t).1:=by
 unfold Zs
 split
 ·exact Zcx
 ·unfold ZbR
  split
  ·exact Zcx
  have hw:=Zqm (u:={ u with nam:=Zgn (bcut (isB 58) (bcutLast 64 (bcut (slB (Zb u.sch)) t).1).1).1,pw:=Zgn (bcut (isB 58) (bcutLast 64 (bcut (slB (Zb u.sch)) t).1).1).2.1 }) (bcutLast 64 (bcut (slB (Zb u.sch)) t).1).2.1 ⟨h.nq,h.nf⟩
  split
  ·exact hw.segs _
  ·exact hw
theorem Wf.keep{u base:U}(h:Wf u)(hb:Wf base):Wf (kept u base):=⟨hb.nh,h.nq,h.nf⟩
theorem Zg6{u base:U}(left:LB)(h:Wf u)(hb:Wf base):Wf (ZV u left base).1:=by
 unfold ZV
 split
 ·exact Zou left h hb
 split
 ·exact Zcm _ h.wq
 split
 ·exact(h.keep hb).segs _
 ·exact ZiW left (h.keep hb) hb
theorem Zmf{u base:U}(left:LB)(h:Wf u)(hb:Wf base):Wf (Zay u left base).1:=by
 unfold Zay
 split
 ·exact Zg6 left h hb
 ·exact Zcm _ h.wq
theorem Zmg{u base:U}(left:LB)(h:Wf u)(hb:Wf base):Wf (ZQ u left base).1:=by
 unfold ZQ
 split
 ·exact Zou left h hb
 split
 ·exact Zmf left h hb
 split
 ·exact h.pathed _ _
 split
 ·exact h.segs _
 ·exact Zcm _ h.wq
theorem Zov(sch rest:LB)(found:Bool){base:U}(hb:Wf base):Wf (ZbY sch rest found base).1:=by
 unfold ZbY
 split
 ·exact Zcx
 split
 ·exact Zmg _ (ZhT _ _ _ (Zdo _ _)) hb
 ·exact Zg6 _ (ZhT _ _ _ (Zdo _ _)) hb
theorem Zqn(l:LB)(hf:Bool){base:U}(hb:Wf base):Wf (ZaT l hf base).1:=by
 unfold ZaT
 split
 ·exact Zov _ _ _ hb
 split
 ·unfold ZbQ
  split
  ·exact hb
  ·exact Zcx
 ·exact Zov _ _ _ hb
theorem Zmh(l:LB){base:U}(hb:Wf base):Wf (ZD l base).1:=by
 unfold ZD Zgv
 split
 ·exact Zcx
 ·have h:=Zqn (bcut (isB 35) (wholeText l)).1 (bcut (isB 35) (wholeText l)).2.2 hb
  refine⟨h.nh,h.nq,fun h0=>?_⟩
  show encB _ (clean (bcut (isB 35) (wholeText l)).2.1)=[]
  rw[Zdo _ _ h0,Za3]
def Zt(pro who host path sea has:List UInt8)(k:Nat):List UInt8:=
 pro++(if k%3=0 then [47,47]++who++host else if k%3=1 then [47,46]else [])++path++sea++(if k/3%2=1∧sea=[]then [63]else [])++has++(if k/6=1∧has=[]then [35]else [])
def Zmi(u:U)(k:Nat):List UInt8:=Zt (Zad u) (userU u) (Zl u) (pathU u) (Z4 u) (ZbX u) k
theorem Zmj{u:U}(h:Wf u):(if u.hq=true then [63]++u.q else [])=Z4 u++(if u.hq=true∧Z4 u=[]then [63]else []):=by
 unfold Z4 ZaL
 cases hq:u.hq
 ·rw[h.nq hq];simp
 ·by_cases h0:u.q=[]<;>simp[h0]
theorem Zqo{u:U}(h:Wf u):(if u.hf=true then [35]++u.fr else [])=ZbX u++(if u.hf=true∧ZbX u=[]then [35]else []):=by
 unfold ZbX ZaL
 cases hq:u.hf
 ·rw[h.nf hq];simp
 ·by_cases h0:u.fr=[]<;>simp[h0]
def ZeE(u:U):Nat:=(if u.hh=true then 0 else if Zbb u=[]then 2 else 1)+(if u.hq=true∧Z4 u=[]then 3 else 0)+(if u.hf=true∧ZbX u=[]then 6 else 0)
theorem Zf2{u:U}(h:Wf u):Zmi u (ZeE u)=Zdg u:=by
 have hs:=Zmj h;have hh:=Zqo h;unfold Zmi Zt Zdg;rw[hs,hh]
 have h3:ZeE u%3=(if u.hh=true then 0 else if Zbb u=[]then 2 else 1):=by unfold ZeE;(repeat' split)<;>omega
 have h4:ZeE u/3%2=(if u.hq=true∧Z4 u=[]then 1 else 0):=by unfold ZeE;(repeat' split)<;>omega
 have h5:ZeE u/6=(if u.hf=true∧ZbX u=[]then 1 else 0):=by unfold ZeE;(repeat' split)<;>omega
 rw[h3,h4,h5]
 have e1:(if(if u.hh=true then 0 else if Zbb u=[]then 2 else 1)=0 then [47,47]++userU u++Zl u else if(if u.hh=true then 0 else if Zbb u=[]then 2 else 1)=1 then [47,46]else [])=Zbb u:=by
  by_cases a:u.hh=true
  ·simp[a,Zbb]
  ·by_cases b:Zbb u=[]
   ·simp[a,b]
   ·have hf:Zbb u=[47,46]:=by
     unfold Zbb at b ⊢;rw[if_neg a]at b ⊢
     split at b
     ·rw[if_pos (by assumption)]
     ·exact absurd rfl b
    simp[a,hf]
 have e2:(if(if u.hq=true∧Z4 u=[]then 1 else 0)=1∧Z4 u=[]then [63]else [])=(if u.hq=true∧Z4 u=[]then([63]:LB)else []):=by
  by_cases a:u.hq=true∧Z4 u=[]
  ·simp[a]
  ·simp[a]
 have e3:(if(if u.hf=true∧ZbX u=[]then 1 else 0)=1∧ZbX u=[]then [35]else [])=(if u.hf=true∧ZbX u=[]then([35]:LB)else []):=by
  by_cases a:u.hf=true∧ZbX u=[]
  ·simp[a]
  ·simp[a]
 rw[e1,e2,e3];simp only[Xh]
theorem Zqp(u:U):ZeE u<12:=by unfold ZeE;(repeat' split)<;>omega
theorem ZiX(pro who host path sea has:LB)(k:Nat):(Zt pro who host path sea has k).length=pro.length+(if k%3=0 then 2+who.length+host.length else if k%3=1 then 2 else 0)+path.length+sea.length+(if k/3%2=1∧sea=[]then 1 else 0)+has.length+(if k/6=1∧has=[]then 1 else 0):=by
 unfold Zt;simp only[List.length_append]
 have e1:(if k%3=0 then [47,47]++who++host else if k%3=1 then [47,46]else []).length=(if k%3=0 then 2+who.length+host.length else if k%3=1 then 2 else 0):=by (repeat' split)<;>simp<;>omega
 have e2:(if k/3%2=1∧sea=[]then([63]:LB)else []).length=(if k/3%2=1∧sea=[]then 1 else 0):=by split<;>rfl
 have e3:(if k/6=1∧has=[]then([35]:LB)else []).length=(if k/6=1∧has=[]then 1 else 0):=by split<;>rfl
 rw[←e1,←e2,←e3]
theorem Zsv{u:U}(h:Wf u){k:Nat}(e:Zmi u k=Zdg u)(hf:∀j,j<k→Zmi u j≠Zdg u):k%3=0∨(userU u=[]∧Zl u=[]):=by
 by_cases hh:u.hh=true
 ·have hk:k≤ZeE u:=Nat.le_of_not_lt fun hlt=>hf _ hlt (Zf2 h)
  have hl:=congrArg List.length (e.trans (Zf2 h).symm);unfold Zmi at hl;rw[ZiX,ZiX]at hl
  by_cases h3:k%3=0
  ·exact Or.inl h3
  right
  have h0:ZeE u=(if u.hq=true∧Z4 u=[]then 3 else 0)+(if u.hf=true∧ZbX u=[]then 6 else 0):=by unfold ZeE;rw[if_pos hh,Nat.zero_add]
  have key:(userU u).length=0∧(Zl u).length=0:=by by_cases a:Z4 u=[]<;>by_cases b:ZbX u=[]<;>cases c:u.hq<;>cases d:u.hf<;>simp only[a,b,c,d,and_true,and_false,if_true,if_false,Bool.false_eq_true]at h0 hl<;>rw[h0]at hl hk<;>(repeat' split at hl)<;>omega
  exact⟨Xj.1 key.1,Xj.1 key.2⟩
 ·right
  obtain⟨a,b,c,d⟩:=h.nh (by simpa using hh)
  exact⟨by unfold userU;rw[if_pos ⟨a,b⟩],by unfold Zl;rw[if_neg (by rw[d];decide),c]⟩
end Go.Proofs.YtchkhibgbnhjpabGreatDoor
