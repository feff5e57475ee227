import Derived.Test.YtchkhibgbnhjpabGreatDoorW03
open Bool renaming and_eq_true→Xi,or_eq_true→Xl
open List renaming append_eq_nil_iff→Xa,getD_eq_getElem?_getD→Xb,mem_cons→Xc,mem_singleton→Xe,any_eq_false→Xf,not_mem_nil→Xh,mem_append→Xj,map_cons→Xm
namespace Go.Proofs.YtchkhibgbnhjpabGreatDoor
open Go.RowKit
variable [Fl]
set_option linter.all false
structure Wf (u:U):Prop where
 nh:u.hh=false->u.nam=[]/\u.pw=[]/\u.host=[]/\u.hp=false
 nq:u.hq=false->u.q=[]
 nf:u.hf=false->u.fr=[]
theorem ZdL:Wf zeroU:=⟨fun _=>⟨rfl,rfl,rfl,rfl⟩,fun _=>rfl,fun _=>rfl⟩
theorem Zih(p:UInt8->Bool)(l:LB):(bcut p l).2.2=false->(bcut p l).2.1=[]:=by
 induction l with
 | nil=>intro _;rfl
 | cons c r ih=>
  unfold bcut
  split
  .intro h;cases h
  .exact ih
theorem ZaT(set:LB):encB set (clean [])=[]:=by rw[ZbC];rfl
theorem Wf.segs{u:U}(h:Wf u)(s:List LB):Wf { u with segs:=s }:=⟨h.nh,h.nq,h.nf⟩
theorem Wf.pathed{u:U}(h:Wf u)(b:Bool)(s:LB):Wf { u with op:=b,opath:=s }:=⟨h.nh,h.nq,h.nf⟩
theorem Wf.hosted{u:U}(h:Wf u):Wf { u with hh:=true }:=⟨fun h0=>(by cases h0),h.nq,h.nf⟩
theorem Wf.hosts{u:U}(h:Wf u)(x:LB):Wf { u with hh:=true,host:=x }:=⟨fun h0=>(by cases h0),h.nq,h.nf⟩
theorem Zo1(sch q:LB)(hq:Bool)(h:hq=false->q=[]):Wf (Zcw sch hq q):=
 ⟨fun _=>⟨rfl,rfl,rfl,rfl⟩,fun h0=>by show encB _ (clean q)=[];rw[h h0,ZaT],fun _=>rfl⟩
theorem ZlD{u base:U}(left:LB)(h:Wf u)(hb:Wf base):Wf (Zak u left base):=by
 unfold Zak
 split
 .refine⟨h.nh,?_,h.nf⟩
  intro h0
  have h1:(u.hq||base.hq)=false:=h0;rw[Bool.or_eq_false_iff]at h1
  show(if u.hq=true then u.q else base.q)=[]
  rw[ifN (by rw[h1.1];decide)]
  exact hb.nq h1.2
 .exact h.segs _
theorem Znp{u:U}(t:LB)(h:Wf u)(h1:u.hh=true):Wf (Zao u t).1:=by
 unfold Zao
 split
 .exact h.segs _
 split
 .exact ZdL
 .exact⟨fun h0=>absurd (h1.symm.trans h0) (by decide),h.nq,h.nf⟩
theorem ZsC{u base:U}(left:LB)(h:Wf u)(hb:Wf base):Wf (ZdU u left base).1:=by
 unfold ZdU
 split
 .exact Znp _ h.hosted rfl
 split
 .exact h.hosted.segs _
 split
 .exact(h.hosts _).segs _
 split
 .exact(h.hosts _).segs _
 .exact ZlD left (h.hosts _) hb
structure Wq (u:U):Prop where
 nq:u.hq=false->u.q=[]
 nf:u.hf=false->u.fr=[]
theorem Wf.wq{u:U}(h:Wf u):Wq u:=⟨h.nq,h.nf⟩
theorem Zxq{u:U}(p:LB)(h:Wq u)(h1:u.hh=true):Wf (ZgJ u p).1:=by
 unfold ZgJ
 split
 .exact ZdL
 show Wf (Zby u _)
 unfold Zby
 split
 rotate_left
 all_goals
  exact⟨fun h0=>absurd (h1.symm.trans h0) (by decide),h.nq,h.nf⟩
theorem Zvi{u:U}(p:LB)(h:Wq u):Wf (Zbx u p).1:=by
 unfold Zbx
 split
 .exact ZdL
 split
 .exact ZdL
 split
 .exact⟨fun h0=>(by cases h0),h.nq,h.nf⟩
 .exact Zxq _ ⟨h.nq,h.nf⟩ rfl
theorem ZeL{u:U}(t:LB)(h:Wq u):Wf (Zx u t).1:=by
 unfold Zx
 split
 .exact ZdL
 .unfold ZdJ
  split
  .exact ZdL
  have hw:=Zvi (u:={ u with nam:=ZfY (bcut (isB 58) (bcutLast 64 (bcut (slB (Zc u.sch)) t).1).1).1,pw:=ZfY (bcut (isB 58) (bcutLast 64 (bcut (slB (Zc u.sch)) t).1).1).2.1 }) (bcutLast 64 (bcut (slB (Zc u.sch)) t).1).2.1 ⟨h.nq,h.nf⟩
  split
  .exact hw.segs _
  .exact hw
theorem Wf.keep{u base:U}(h:Wf u)(hb:Wf base):Wf (kept u base):=⟨hb.nh,h.nq,h.nf⟩
theorem ZjF{u base:U}(left:LB)(h:Wf u)(hb:Wf base):Wf (ZV u left base).1:=by
 unfold ZV
 split
 .exact ZsC left h hb
 split
 .exact ZeL _ h.wq
 split
 .exact(h.keep hb).segs _
 .exact ZlD left (h.keep hb) hb
theorem Zqw{u base:U}(left:LB)(h:Wf u)(hb:Wf base):Wf (Za5 u left base).1:=by
 unfold Za5
 split
 .exact ZjF left h hb
 .exact ZeL _ h.wq
theorem Zqx{u base:U}(left:LB)(h:Wf u)(hb:Wf base):Wf (Zar u left base).1:=by
 unfold Zar
 split
 .exact ZsC left h hb
 split
 .exact Zqw left h hb
 split
 .exact h.pathed _ _
 split
 .exact h.segs _
 .exact ZeL _ h.wq
theorem ZsD(sch rest:LB)(found:Bool){base:U}(hb:Wf base):Wf (ZdK sch rest found base).1:=by
 unfold ZdK
 split
 .exact ZdL
 split
 .exact Zqx _ (Zo1 _ _ _ (Zih _ _)) hb
 .exact ZjF _ (Zo1 _ _ _ (Zih _ _)) hb
theorem Zvj(l:LB)(hf:Bool){base:U}(hb:Wf base):Wf (Zcd l hf base).1:=by
 unfold Zcd
 split
 .exact ZsD _ _ _ hb
 split
 .unfold ZcK
  split
  .exact hb
  .exact ZdL
 .exact ZsD _ _ _ hb
theorem Zqy(l:LB){base:U}(hb:Wf base):Wf (Zaa l base).1:=by
 unfold Zaa ZgL
 split
 .exact ZdL
 .have h:=Zvj (bcut (isB 35) (ZI l)).1 (bcut (isB 35) (ZI l)).2.2 hb
  refine⟨h.nh,h.nq,fun h0=>?_⟩
  show encB _ (clean (bcut (isB 35) (ZI l)).2.1)=[]
  rw[Zih _ _ h0,ZaT]
def Pr(l:List UInt8):Prop:=∀b∈l,32<=b.toNat/\b.toNat<=126
theorem pr_nil:Pr []:=fun b hb=>by cases hb
theorem ZeM{a b:LB}(ha:Pr a)(hb:Pr b):Pr (a++b):=fun x hx=>(Xj.1 hx).elim (ha x) (hb x)
theorem ZeN{c:UInt8}(h1:32<=c.toNat)(h2:c.toNat<=126):Pr [c]:=fun b hb=>by rw[Xe]at hb;subst hb;exact⟨h1,h2⟩
theorem Zii{c:UInt8}{l:LB}(h1:32<=c.toNat)(h2:c.toNat<=126)(h:Pr l):Pr (c::l):=ZeM (a:=[c]) (ZeN h1 h2) h
theorem ZkF{n:Nat}(h1:32<=n)(h2:n<=126):32<=(UInt8.ofNat n).toNat/\(UInt8.ofNat n).toNat<=126:=by rw[UInt8.toNat_ofNat',Nat.mod_eq_of_lt (by omega)];exact⟨h1,h2⟩
theorem ZwZ{n:Int}(h1:32<=n)(h2:n<=126):32<=(toB n).toNat/\(toB n).toNat<=126:=ZkF (by omega) (by omega)
theorem ZjG{n:Int}(h0:0<=n)(h1:n<16):32<=capital n/\capital n<=126:=by unfold capital;split<;>omega
theorem Zqz(set:LB)(b:UInt8):Pr (ZL set b):=by
 have hb:=b.toNat_lt;unfold ZL
 split
 .have h1:=ZjG (n:=(b.toNat:Int)/16) (by omega) (by omega)
  have h2:=ZjG (n:=(b.toNat:Int)%16) (by omega) (by omega)
  have k1:=ZwZ h1.1 h1.2;have k2:=ZwZ h2.1 h2.2
  exact Zii (by decide) (by decide) (Zii k1.1 k1.2 (ZeN k2.1 k2.2))
 .next h=>
  refine ZeN ?_ ?_
  .have:¬(b.toNat:Int)<32:=fun hh=>h (Or.inl hh)
   omega
  .have:¬126<(b.toNat:Int):=fun hh=>h (Or.inr (Or.inl hh))
   omega
theorem ZeO(set l:LB):Pr (encB set l):=by intro b hb;unfold encB at hb;obtain⟨c,-,hc⟩:=List.mem_flatMap.1 hb;exact Zqz set c b hc
theorem Zxr{d:Nat}(h:d<=9):48<=(Zjb d).toNat/\(Zjb d).toNat<=57:=by unfold Zjb;rw[UInt8.toNat_ofNat',Nat.mod_eq_of_lt (by omega)];omega
def Dg(l:List UInt8):Prop:=∀b∈l,48<=b.toNat/\b.toNat<=57
theorem Dg.pr{l:LB}(h:Dg l):Pr l:=fun b hb=>by have:=h b hb;omega
theorem Zxs{n:Nat}(h:n<=99999):Dg (ZjB n):=by
 intro b hb
 have key:∀d,d<=9->b=Zjb d->48<=b.toNat/\b.toNat<=57:=fun d hd e=>by subst e;exact Zxr hd
 unfold ZjB at hb
 (repeat' split at hb)<;>simp only[Xc,Xh,or_false]at hb
 .exact key _ (by omega) hb
 .rcases hb with hb|hb<;>exact key _ (by omega) hb
 .rcases hb with hb|hb|hb<;>exact key _ (by omega) hb
 .rcases hb with hb|hb|hb|hb<;>exact key _ (by omega) hb
 .rcases hb with hb|hb|hb|hb|hb<;>exact key _ (by omega) hb
theorem Zxt(v:Nat):∀k,Pr (Zng v k):=by
 intro k
 induction k with
 | zero=>exact pr_nil
 | succ k ih=>
  rw[Zng]
  have:v/256^k%256<256:=Nat.mod_lt _ (by decide)
  refine ZeM (Zxs (by omega)).pr ?_
  split
  .exact ZeM (ZeN (by decide) (by decide)) ih
  .exact ih
theorem Zxu{d:Nat}(h:d<=15):32<=(ZfJ d).toNat/\(ZfJ d).toNat<=126:=by
 unfold ZfJ
 split
 .exact ZkF (by omega) (by omega)
 .exact ZkF (by omega) (by omega)
theorem Zxv{n:Nat}(h:n<=65535):Pr (Zi7 n):=by
 intro b hb
 have key:∀d,d<=15->b=ZfJ d->32<=b.toNat/\b.toNat<=126:=fun d hd e=>by subst e;exact Zxu hd
 unfold Zi7 at hb
 (repeat' split at hb)<;>simp only[Xc,Xh,or_false]at hb
 .exact key _ (by omega) hb
 .rcases hb with hb|hb<;>exact key _ (by omega) hb
 .rcases hb with hb|hb|hb<;>exact key _ (by omega) hb
 .rcases hb with hb|hb|hb|hb<;>exact key _ (by omega) hb
theorem Zy0{ns:LI}(h:GOk ns)(st ln:Nat):∀f i,Pr (Zi8 ns st ln f i):=by
 intro f
 induction f with
 | zero=>intro i;exact pr_nil
 | succ f ih=>
  intro i;rw[Zi8]
  split
  .exact pr_nil
  split
  .exact ZeM (Zii (by decide) (by decide) (ZeN (by decide) (by decide))) (ih _)
  .refine ZeM (ZeM ?_ (Zxv ?_)) (ih _)
   .split
    .exact ZeN (by decide) (by decide)
    .exact pr_nil
   .by_cases hi:i<ns.length
    .have:=h ns[i] (List.getElem_mem hi)
     rw[Xb,List.getElem?_eq_getElem hi];simp only[Option.getD_some]
     omega
    .rw[Xb,List.getElem?_eq_none (by omega)]
     simp
theorem Znq{l:LB}(h1:beyondB l=false)(h2:plainDom l=true):Pr l:=by
 intro b hb;unfold beyondB at h1;unfold plainDom at h2
 have h3:(l.any ZoR)=false:=by
  cases h:l.any ZoR
  .rfl
  .rw[h]at h2;simp at h2
 have k1:=Xf.1 h1 b hb;have k2:=Xf.1 h3 b hb;unfold ZoR at k2;simp only[Xl,decide_eq_true_eq,beq_iff_eq,not_or]at k1 k2
 omega
theorem Zo2(l:LB)(sp:Bool):Pr (ZaP l sp).1:=by
 unfold ZaP
 split
 .unfold Zb1
  split
  .exact pr_nil
  split
  .refine ZeM (ZeM (ZeN (by decide) (by decide)) ?_) (ZeN (by decide) (by decide))
   exact Zy0 (ZwX _) _ _ _ _
  .exact pr_nil
 split
 .unfold ZcJ
  split
  .exact pr_nil
  next hb=>
   split
   .exact pr_nil
   next hp=>
    unfold Zhf
    split
    .refine Znq ?_ ?_
     .cases h:beyondB (lower (ZD l))
      .rfl
      .rw[h]at hb;simp at hb
     .cases h:plainDom (lower (ZD l))
      .exact absurd h hp
      .rfl
    split
    .exact Zxt _ _
    .exact pr_nil
 .unfold Zft
  split
  .exact pr_nil
  .exact ZeO _ _
theorem decD_ne(n:Nat):ZjB n≠[]:=by unfold ZjB;(repeat' split)<;>simp
theorem ZlE(want:Int):∀l lo hi sz,sz<=Z8 want lo hi sz l:=by
 intro l
 induction l with
 | nil=>intro lo hi sz;rw[Z8];exact Nat.le_refl _
 | cons c r ih=>
  intro lo hi sz;rw[Z8]
  split
  .exact Nat.le_trans (Nat.le_succ _) (ih _ _ _)
  .exact Nat.le_refl _
theorem Zo3{l:LB}(h:l≠[]):clean l≠[]:=by
 cases l with
 | nil=>exact absurd rfl h
 | cons c r=>
  conv=>lhs;unfold clean
  intro e;have e1:=(Xa.1 e).1
  split at e1
  .have h1:1<=(measure (c::r)).1:=by show 1<=Z8 _ _ _ 1 r;exact ZlE _ _ _ _ _
   have:=congrArg List.length e1;rw[List.length_take]at this;simp only[List.length_cons,List.length_nil]at this
   omega
  .cases e1
theorem ZsE{set l:LB}(h:l≠[]):encB set l≠[]:=by
 cases l with
 | nil=>exact absurd rfl h
 | cons c r=>
  unfold encB;rw[List.flatMap_cons];intro e;have e1:=(Xa.1 e).1;unfold ZL at e1
  split at e1<;>cases e1
theorem Zvk{l:LB}{sp:Bool}(h:l≠[])(h0:(ZaP l sp).2=0):(ZaP l sp).1≠[]:=by
 unfold ZaP at h0 ⊢
 split
 .next hb=>
  rw[ifP hb]at h0;unfold Zb1 at h0 ⊢
  split
  .next hc=>rw[ifP hc]at h0;cases h0
  split
  .simp
  .next hc hd=>rw[ifN hc,ifN hd]at h0;cases h0
 next hb=>
  rw[ifN hb]at h0
  split
  .next hs=>
   rw[ifP hs]at h0;unfold ZcJ at h0 ⊢
   split
   .next hc=>rw[ifP hc]at h0;cases h0
   next hc=>
    rw[ifN hc]at h0
    split
    .next hd=>rw[ifP hd]at h0;cases h0
    next hd=>
     rw[ifN hd]at h0;unfold Zhf at h0 ⊢
     split
     .intro e
      have e':lower (ZD l)=[]:=e;rw[e']at hd
      exact hd (by decide)
     split
     .show ZeH _≠[]
      unfold ZeH;rw[Zng];intro e;exact decD_ne _ (Xa.1 e).1
     .next h1 h2=>rw[ifN h1,ifN h2]at h0;cases h0
  .next hs=>
   rw[ifN hs]at h0;unfold Zft at h0 ⊢
   split
   .next hc=>rw[ifP hc]at h0;cases h0
   .exact ZsE (Zo3 h)
def PrS(ps:List (List UInt8)):Prop:=∀p∈ps,Pr p
theorem Zo4{ps:List LB}(h:PrS ps)(n:Nat):PrS (ps.take n):=fun p hp=>h p (List.mem_of_mem_take hp)
theorem ZsF{a b:List LB}(ha:PrS a)(hb:PrS b):PrS (a++b):=fun x hx=>(Xj.1 hx).elim (ha x) (hb x)
theorem ZsG{s:LB}(h:Pr s):PrS [s]:=fun p hp=>by rw[Xe]at hp;subst hp;exact h
theorem ZkG:PrS []:=fun p hp=>by cases hp
theorem Zvl{c:UInt8}(h:alpha c.toNat=true):32<=c.toNat/\c.toNat<=126:=by
 unfold alpha at h;have:=of_decide_eq_true h
 omega
theorem ZsH{l:LB}(h:ZY l=true):Pr (l.take 1):=by
 unfold ZY at h
 split at h
 .next a b=>
  rw[Xi]at h;have:=Zvl h.1;exact ZeN this.1 this.2
 .cases h
theorem ZlF{f:Bool}{ps:List LB}(h:PrS ps):PrS (ZaK f ps):=by
 unfold ZaK
 split
 .exact h
 .exact Zo4 h _
theorem Zvm{f:Bool}{ps:List LB}(s:LB)(h:PrS ps):PrS (joinL f ps s):=by
 unfold joinL
 refine ZsF h (ZsG ?_)
 split
 .next hd=>exact ZeM (ZsH hd.2.2) (ZeN (by decide) (by decide))
 .exact ZeO _ _
theorem Zw0{f:Bool}{ps:List LB}(s:LB)(last:Bool)(h:PrS ps):PrS (Zec f ps s last):=by
 have h2:PrS (if countDots s=2 then ZaK f ps else ps):=by
  split
  .exact ZlF h
  .exact h
 unfold Zec
 split
 .exact Zvm s h
 split
 .exact ZsF h2 (ZsG pr_nil)
 .exact h2
theorem Zvn{f:Bool}(ss:List LB):∀ps,PrS ps->PrS (Zdt f ps ss):=by
 induction ss with
 | nil=>intro ps h;rw[Zdt];exact h
 | cons x r ih=>
  intro ps h
  cases r with
  | nil=>rw[Zdt];exact Zw0 x true h
  | cons y q=>rw[Zdt];exact ih _ (Zw0 x false h)
theorem Zy1(f:Bool)(ps:List LB)(s:LB):Zec f ps s true≠[]:=by
 unfold Zec
 split
 .unfold joinL;simp
 .simp
theorem ZsI{f:Bool}(ss:List LB):∀ps,ss≠[]->Zdt f ps ss≠[]:=by
 induction ss with
 | nil=>intro ps h;exact absurd rfl h
 | cons x r ih=>
  intro ps h
  cases r with
  | nil=>rw[Zdt];exact Zy1 f ps x
  | cons y q=>rw[Zdt];exact ih _ (by simp)
theorem Zij(f sp:Bool){ps:List LB}(t:LB)(h:PrS ps):PrS (Za3 f sp ps t)/\Za3 f sp ps t≠[]:=by
 unfold Za3
 refine⟨Zvn _ _ h,ZsI _ _ ?_⟩
 obtain⟨x,q,hx⟩:=Zga (slB sp) t;rw[hx]
 simp
theorem Zdu(t sch:LB):PrS (Zcb t sch)/\Zcb t sch≠[]:=Zij _ _ t ZkG
theorem ZjH{b:List LB}(t sch:LB)(h:PrS b):PrS (Zc8 b t sch)/\Zc8 b t sch≠[]:=Zij _ _ t (ZlF h)
theorem Znr{b:List LB}(t:LB)(h:PrS b):PrS (ZaR b t)/\ZaR b t≠[]:=by
 unfold ZaR
 split
 .exact Zdu _ _
 .exact Zij _ _ t (Zo4 h _)
structure Zxw (l:List UInt8):Prop where
 ne:l≠[]
 first:∀c r,l=c::r->97<=c.toNat/\c.toNat<=122
 all:∀b∈l,(97<=b.toNat/\b.toNat<=122)∨(48<=b.toNat/\b.toNat<=57)∨b.toNat=43∨b.toNat=45∨b.toNat=46
theorem ZjI{c:UInt8}(h:alpha c.toNat=true):97<=(Zey c).toNat/\(Zey c).toNat<=122:=by
 unfold alpha at h;have h1:=of_decide_eq_true h;unfold Zey
 split
 .next hc=>rw[UInt8.toNat_add];have:(32:UInt8).toNat=32:=rfl;rw[this];omega
 .omega
theorem ZqA{l:LB}(h:Zci l=true):Zxw (lower l):=by
 cases l with
 | nil=>cases h
 | cons c r=>
  simp only[Zci,Xi]at h;have hc:=ZjI h.1
  refine⟨by simp[lower],?_,?_⟩
  .intro d q e
   simp only[lower,Xm,List.cons.injEq]at e;rw[<-e.1];exact hc
  .intro b hb
   simp only[lower,Xm,Xc]at hb;rcases hb with rfl|hb
   .exact Or.inl hc
   .obtain⟨x,hx,rfl⟩:=List.mem_map.1 hb
    have hm:=List.all_eq_true.1 h.2 x hx;unfold ZgG at hm;simp only[Xl,beq_iff_eq,decide_eq_true_eq]at hm;rcases hm with(((h1|h1)|h1)|h1)|h1
    .right;right;left;unfold Zey;split<;>omega
    .right;right;right;left;unfold Zey;split<;>omega
    .right;right;right;right;unfold Zey;split<;>omega
    .right;left;unfold Zey;split<;>omega
    .exact Or.inl (ZjI h1)
structure Sd (u:U):Prop where
 sc:Zxw u.sch
 pnam:Pr u.nam
 ppw:Pr u.pw
 phost:Pr u.host
 popath:Pr u.opath
 psegs:PrS u.segs
 pq:Pr u.q
 pfr:Pr u.fr
 port:u.hp=true->u.port<=65535/\((ZC u.sch).2=true->(u.port:Int)≠(ZC u.sch).1)
 who:u.host=[]∨u.sch=ZE->u.nam=[]/\u.pw=[]/\u.hp=false
 sp:Zc u.sch=true->u.op=false/\u.segs≠[]
 hst:Zc u.sch=true->u.sch≠ZE->u.host≠[]
structure Fr (u:U):Prop where
 sc:Zxw u.sch
 pq:Pr u.q
 pfr:Pr u.fr
 znam:u.nam=[]
 zpw:u.pw=[]
 zhost:u.host=[]
 zhp:u.hp=false
 zop:u.op=false
 zopath:u.opath=[]
 zsegs:u.segs=[]
theorem Zo5{sch:LB}(hq:Bool)(q:LB)(h:Zxw sch):Fr (Zcw sch hq q):=⟨h,ZeO _ _,pr_nil,rfl,rfl,rfl,rfl,rfl,rfl,rfl⟩
theorem ZfM{u:U}{hh:Bool}{host:LB}{segs:List LB}(h:Fr u)(hf:u.sch=ZE)(hp:Pr host)(hs:PrS segs/\segs≠[]):Sd { u with hh:=hh,host:=host,segs:=segs } where
 sc:=h.sc
 pnam:=by show Pr u.nam;rw[h.znam];exact pr_nil
 ppw:=by show Pr u.pw;rw[h.zpw];exact pr_nil
 phost:=hp
 popath:=by show Pr u.opath;rw[h.zopath];exact pr_nil
 psegs:=hs.1
 pq:=h.pq
 pfr:=h.pfr
 port:=fun e=>by have e':u.hp=true:=e;rw[h.zhp]at e';cases e'
 who:=fun _=>⟨h.znam,h.zpw,h.zhp⟩
 sp:=fun _=>⟨h.zop,hs.2⟩
 hst:=fun _ hn=>absurd hf hn
theorem Sd.noq{u:U}(h:Sd u)(b:Bool){q:LB}(hq:Pr q):Sd { u with hq:=b,q:=q }:={ h with pq:=hq }
theorem ZlG(l:LB):Pr (Z2 l).1:=by
 unfold Z2
 (repeat' split)
 .exact pr_nil
 .exact pr_nil
 .exact pr_nil
 .exact Zo2 _ _
theorem Zns{u:U}(t:LB)(h:Fr u)(hf:u.sch=ZE)(h0:(Zao u t).2=0):Sd (Zao u t).1:=by
 unfold Zao at h0 ⊢
 split
 .have k:=ZfM (u:=u) (hh:=u.hh) (host:=u.host) h hf (by rw[h.zhost];exact pr_nil) (Zdu t u.sch)
  exact k
 next h1=>
  rw[ifN h1]at h0
  split
  .next h2=>rw[ifP h2]at h0;exact absurd h0 h2
  .exact ZfM (u:=u) (hh:=u.hh) h hf (ZlG _) (Zdu _ _)
theorem Zjf{u base:U}(l:LB)(h:Fr u)(hf:u.sch=ZE)(hb:Sd base)(hbf:base.sch=ZE):Sd (Zak { u with hh:=true,host:=base.host } l base):=by
 unfold Zak
 split
 .have hsp:Zc base.sch=true:=by rw[hbf];decide
  refine(ZfM (u:=u) (hh:=true) h hf hb.phost ⟨hb.psegs,(hb.sp hsp).2⟩).noq _ ?_
  split
  .exact h.pq
  .exact hb.pq
 .exact ZfM (u:=u) (hh:=true) h hf hb.phost (ZjH _ _ hb.psegs)
theorem ZsJ{u base:U}(l:LB)(h:Fr u)(hf:u.sch=ZE)(hb:base.sch=ZE->Sd base)(h0:(ZdU u l base).2=0):Sd (ZdU u l base).1:=by
 unfold ZdU at h0 ⊢
 split
 .next h1=>rw[ifP h1]at h0;exact Zns _ { h with } hf h0
 next h1=>
  rw[ifN h1]at h0
  split
  .exact ZfM (u:=u) (hh:=true) (host:=u.host) h hf (by rw[h.zhost];exact pr_nil) (Zdu _ _)
  next h2=>
   have hbf:base.sch=ZE:=Classical.not_not.1 h2;have hs:=hb hbf
   split
   .exact ZfM (u:=u) (hh:=true) h hf hs.phost (Znr _ hs.psegs)
   split
   .exact ZfM (u:=u) (hh:=true) h hf hs.phost (Zdu _ _)
   .exact Zjf l h hf hs hbf
structure Sh (u:U):Prop where
 sc:Zxw u.sch
 pnam:Pr u.nam
 ppw:Pr u.pw
 phost:Pr u.host
 popath:Pr u.opath
 psegs:PrS u.segs
 pq:Pr u.q
 pfr:Pr u.fr
 port:u.hp=true->u.port<=65535/\((ZC u.sch).2=true->(u.port:Int)≠(ZC u.sch).1)
 who:u.host=[]∨u.sch=ZE->u.nam=[]/\u.pw=[]/\u.hp=false
 op:u.op=false
 hst:Zc u.sch=true->u.sch≠ZE->u.host≠[]
theorem Sh.sd{u:U}(h:Sh u)(hs:Zc u.sch=true->u.segs≠[]):Sd u:=⟨h.sc,h.pnam,h.ppw,h.phost,h.popath,h.psegs,h.pq,h.pfr,h.port,h.who,fun e=>⟨h.op,hs e⟩,h.hst⟩
theorem Sh.segs{u:U}(h:Sh u){s:List LB}(hs:PrS s/\s≠[]):Sd { u with segs:=s }:=⟨h.sc,h.pnam,h.ppw,h.phost,h.popath,hs.1,h.pq,h.pfr,h.port,h.who,fun _=>⟨h.op,hs.2⟩,h.hst⟩
theorem Sh.segs'{u:U}(h:Sh u){s:List LB}(hs:PrS s)(hn:Zc u.sch=true->s≠[]):Sd { u with segs:=s }:=⟨h.sc,h.pnam,h.ppw,h.phost,h.popath,hs,h.pq,h.pfr,h.port,h.who,fun e=>⟨h.op,hn e⟩,h.hst⟩
theorem ZlH{p:LB}(h:(Zw p).1=[])(h2:(Zw p).2.2=false):p=[]:=by
 unfold Zw at h h2
 cases hc:cutPortGo false p with
 | none=>rw[hc]at h;exact h
 | some q=>rw[hc]at h2;cases h2
theorem ZlI{p:LB}(h2:(Zw p).2.2=false):(Zw p).2.1=[]:=by
 unfold Zw at h2 ⊢
 cases hc:cutPortGo false p with
 | none=>rfl
 | some q=>rw[hc]at h2;cases h2
structure Fp (u:U) (p:List UInt8):Prop where
 sc:Zxw u.sch
 nf:u.sch≠ZE
 pnam:Pr u.nam
 ppw:Pr u.pw
 pq:Pr u.q
 pfr:Pr u.fr
 popath:Pr u.opath
 psegs:PrS u.segs
 zop:u.op=false
 zhp:u.hp=false
 user:p=[]->u.nam=[]/\u.pw=[]
theorem ZsK{u:U}{p:Int}(h:Sh u)(h0:0<=p)(h1:p<=65535)(hh:u.host≠[])(hf:u.sch≠ZE):Sh (Zby u p):=by
 unfold Zby
 split
 .exact { h with port:=fun e=>(by cases e),who:=fun e=>(e.elim (fun e=>absurd e hh) (fun e=>absurd e hf)) }
 .next hn=>
  refine { h with port:=fun _=>⟨by show p.toNat<=65535;omega,fun ho e=>hn ⟨ho,?_⟩⟩,who:=fun e=>(e.elim (fun e=>absurd e hh) (fun e=>absurd e hf)) }
  have e':((p.toNat:Nat):Int)=(ZC u.sch).1:=e
  omega
theorem Zvo{u:U}{p:LB}(h:Fp u p)(h0:(Zbx u p).2=0):Sh (Zbx u p).1:=by
 unfold Zbx at h0 ⊢
 split
 .next h1=>rw[ifP h1]at h0;cases h0
 next h1=>
  rw[ifN h1]at h0
  split
  .next h2=>rw[ifP h2]at h0;exact absurd h0 h2
  next h2=>
   rw[ifN h2]at h0;have he:(ZaP (Zw p).1 (Zc u.sch)).2=0:=Classical.not_not.1 h2
   have hx:(ZaP (Zw p).1 (Zc u.sch)).1=[]->(Zw p).1=[]:=fun e=>Classical.byContradiction fun hn=>Zvk hn he e
   have key:Sh { u with hh:=true,host:=(ZaP (Zw p).1 (Zc u.sch)).1 }:={
    sc:=h.sc,pnam:=h.pnam,ppw:=h.ppw,phost:=Zo2 _ _,popath:=h.popath,psegs:=h.psegs,pq:=h.pq,pfr:=h.pfr
    port:=fun e=>by have e':u.hp=true:=e;rw[h.zhp]at e';cases e'
    who:=fun e=>by
     rcases e with e|e
     .have e1:=hx e
      have e2:(Zw p).2.2=false:=by
       cases hc:(Zw p).2.2
       .rfl
       .exact absurd ⟨e1,Or.inr hc⟩ h1
      have e3:=h.user (ZlH e1 e2);exact⟨e3.1,e3.2,h.zhp⟩
     .exact absurd e h.nf
    op:=h.zop
    hst:=fun hs _ e=>h1 ⟨hx e,Or.inl hs⟩ }
   split
   .exact key
   next h3=>
    rw[ifN h3]at h0;unfold ZgJ at h0 ⊢
    split
    .next h4=>rw[ifP h4]at h0;cases h0
    .have hr:=Zhm (Zw p).2.1
     refine ZsK key hr.1 hr.2 ?_ h.nf
     intro e;have e1:=hx e
     have e2:(Zw p).2.2=false:=by
      cases hc:(Zw p).2.2
      .rfl
      .exact absurd ⟨e1,Or.inr hc⟩ h1
     exact h3 (ZlI e2)
theorem ZqB(u:U)(p:Int):(Zby u p).sch=u.sch:=by unfold Zby;split<;>rfl
theorem ZsL{u:U}{p:LB}(h0:(Zbx u p).2=0):(Zbx u p).1.sch=u.sch:=by
 unfold Zbx at h0 ⊢
 split
 .next h1=>rw[ifP h1]at h0;cases h0
 next h1=>
  rw[ifN h1]at h0
  split
  .next h2=>rw[ifP h2]at h0;exact absurd h0 h2
  next h2=>
   rw[ifN h2]at h0
   split
   .rfl
   next h3=>
    rw[ifN h3]at h0;unfold ZgJ at h0 ⊢
    split
    .next h4=>rw[ifP h4]at h0;cases h0
    .exact ZqB _ _
theorem Zo6:ZfY []=[]:=by unfold ZfY;rw[ZaT]
theorem Znt(n:Int)(l:LB)(h:(bcutLast n l).2.2=false):(bcutLast n l).1=[]:=by
 cases l with
 | nil=>rw[bcutLast]
 | cons c r=>
  rw[bcutLast]at h ⊢
  split at h
  .next hr=>have h':(bcutLast n r).2.2=false:=h;rw[hr]at h';cases h'
  .next hr=>
   rw[ifN hr]
   split
   .rfl
   .rfl
theorem ZeP{u:U}(t:LB)(h:Fr u)(hf:u.sch≠ZE)(h0:(Zx u t).2=0):Sd (Zx u t).1:=by
 unfold Zx at h0 ⊢
 split
 .next h1=>rw[ifP h1]at h0;cases h0
 next h1=>
  rw[ifN h1]at h0;unfold ZdJ at h0 ⊢
  split
  .next h2=>rw[ifP h2]at h0;exact absurd h0 h2
  next h2=>
   rw[ifN h2]at h0
   have hp:=Zvo (u:={ u with nam:=ZfY (bcut (isB 58) (bcutLast 64 (bcut (slB (Zc u.sch)) t).1).1).1,pw:=ZfY (bcut (isB 58) (bcutLast 64 (bcut (slB (Zc u.sch)) t).1).1).2.1 }) (p:=(bcutLast 64 (bcut (slB (Zc u.sch)) t).1).2.1)
    { sc:=h.sc,nf:=hf,pnam:=ZeO _ _,ppw:=ZeO _ _,pq:=h.pq,pfr:=h.pfr
      popath:=by show Pr u.opath;rw[h.zopath];exact pr_nil
      psegs:=by show PrS u.segs;rw[h.zsegs];exact ZkG
      zop:=h.zop,zhp:=h.zhp
      user:=fun e=>by
       have e1:(bcutLast 64 (bcut (slB (Zc u.sch)) t).1).2.2=false:=by
        cases hc:(bcutLast 64 (bcut (slB (Zc u.sch)) t).1).2.2
        .rfl
        .exact absurd ⟨hc,e⟩ h1
       have e2:=Znt _ _ e1
       constructor
       .show ZfY (bcut (isB 58) (bcutLast 64 (bcut (slB (Zc u.sch)) t).1).1).1=[]
        rw[e2];exact Zo6
       .show ZfY (bcut (isB 58) (bcutLast 64 (bcut (slB (Zc u.sch)) t).1).1).2.1=[]
        rw[e2];exact Zo6 } (Classical.not_not.1 h2)
   split
   .exact hp.segs (Zdu _ _)
   next h3=>
    refine hp.sd fun e=>absurd ?_ h3
    have:Zc u.sch=true:=by have e':=e;rw[ZsL (Classical.not_not.1 h2)]at e';exact e'
    rw[this];rfl
theorem ZsM{u base:U}(h:Fr u)(hb:Sd base)(hs:base.sch=u.sch):Sh (kept u base) where
 sc:=h.sc
 pnam:=hb.pnam
 ppw:=hb.ppw
 phost:=hb.phost
 popath:=by show Pr u.opath;rw[h.zopath];exact pr_nil
 psegs:=by show PrS u.segs;rw[h.zsegs];exact ZkG
 pq:=h.pq
 pfr:=h.pfr
 port:=fun e=>by have:=hb.port e;rw[hs]at this;exact this
 who:=fun e=>hb.who (by rw[hs];exact e)
 op:=h.zop
 hst:=fun e=>by have:=hb.hst;rw[hs]at this;exact this e
theorem ZsN{u base:U}(l:LB)(h:Fr u)(hb:Sd base)(hs:base.sch=u.sch):Sd (Zak (kept u base) l base):=by
 have hk:=ZsM h hb hs;unfold Zak
 split
 .refine(hk.segs' hb.psegs fun e=>(hb.sp (by rw[hs];exact e)).2).noq _ ?_
  split
  .exact h.pq
  .exact hb.pq
 .exact hk.segs (ZjH _ _ hb.psegs)
theorem ZjJ{u base:U}(l:LB)(h:Fr u)(hb:Sd base)(hs:base.sch=u.sch)(h0:(ZV u l base).2=0):Sd (ZV u l base).1:=by
 unfold ZV at h0 ⊢
 split
 .next h1=>rw[ifP h1]at h0;exact ZsJ l h h1 (fun _=>hb) h0
 next h1=>
  rw[ifN h1]at h0
  split
  .next h2=>rw[ifP h2]at h0;exact ZeP _ h h1 h0
  split
  .exact(ZsM h hb hs).segs (Zdu _ _)
  .exact ZsN l h hb hs
theorem ZqC{u base:U}(l:LB)(h:Fr u)(hf:u.sch≠ZE)(hb:base.sch=u.sch->Sd base)(h0:(Za5 u l base).2=0):Sd (Za5 u l base).1:=by
 unfold Za5 at h0 ⊢
 split
 .next h1=>rw[ifP h1]at h0;exact ZjJ l h (hb h1.1) h1.1 h0
 .next h1=>rw[ifN h1]at h0;exact ZeP _ h hf h0
theorem ZqD{u base:U}(l:LB)(h:Fr u)(hb:base.sch=u.sch->Sd base)(h0:(Zar u l base).2=0):Sd (Zar u l base).1:=by
 unfold Zar at h0 ⊢
 split
 .next h1=>rw[ifP h1]at h0;exact ZsJ l h h1 (fun e=>hb (e.trans h1.symm)) h0
 next h1=>
  rw[ifN h1]at h0
  split
  .next h2=>rw[ifP h2]at h0;exact ZqC l h h1 hb h0
  next h2=>
   rw[ifN h2]at h0
   have bare:∀(o:Bool) (x:LB) (s:List LB),Pr x->PrS s->Sd { u with op:=o,opath:=x,segs:=s }:=fun o x s hx hs=>{
    sc:=h.sc
    pnam:=by show Pr u.nam;rw[h.znam];exact pr_nil
    ppw:=by show Pr u.pw;rw[h.zpw];exact pr_nil
    phost:=by show Pr u.host;rw[h.zhost];exact pr_nil
    popath:=hx
    psegs:=hs
    pq:=h.pq
    pfr:=h.pfr
    port:=fun e=>by have e':u.hp=true:=e;rw[h.zhp]at e';cases e'
    who:=fun _=>⟨h.znam,h.zpw,h.zhp⟩
    sp:=fun e=>absurd e h2
    hst:=fun e=>absurd e h2 }
   split
   .exact bare true _ u.segs (ZeO _ _) (by rw[h.zsegs];exact ZkG)
   next h3=>
    rw[ifN h3]at h0
    split
    .exact bare u.op u.opath _ (by rw[h.zopath];exact pr_nil) (Zdu _ _).1
    .next h4=>rw[ifN h4]at h0;exact ZeP _ h h1 h0
theorem ZsO{sch rest:LB}{found:Bool}{base:U}(hsc:sch≠[]->Zxw sch)(hb:base.sch≠[]->Sd base)(hn:found=false->base.sch=sch)(h0:(ZdK sch rest found base).2=0):Sd (ZdK sch rest found base).1:=by
 unfold ZdK at h0 ⊢
 split
 .next h1=>rw[ifP h1]at h0;cases h0
 next h1=>
  rw[ifN h1]at h0
  split
  .next h2=>rw[ifP h2]at h0;exact ZqD _ (Zo5 _ _ (hsc h1)) (fun e=>hb (by rw[e];exact h1)) h0
  .next h2=>
   rw[ifN h2]at h0
   have e:=hn (by simpa using h2)
   exact ZjJ _ (Zo5 _ _ (hsc h1)) (hb (by rw[e];exact h1)) e h0
theorem Zvp(l:LB)(hf:Bool){base:U}(hb:base=zeroU∨Sd base)(h0:(Zcd l hf base).2=0):Sd (Zcd l hf base).1:=by
 have hb':base.sch≠[]->Sd base:=fun hn=>hb.elim (fun e=>absurd (by rw[e];rfl) hn) id
 unfold Zcd at h0 ⊢
 split
 .next h1=>
  rw[ifP h1]at h0
  refine ZsO (fun _=>?_) hb' (fun e=>by cases e) h0
  unfold ZbF at h1 ⊢
  split
  .next h2=>exact ZqA h2.2
  .next h2=>rw[ifN h2]at h1;cases h1
 next h1=>
  rw[ifN h1]at h0
  split
  .next h2=>
   rw[ifP h2]at h0
   have hs:Sd base:=hb.elim (fun e=>by rw[e]at h2;cases h2) id
   unfold ZcK at h0 ⊢
   split
   .exact hs
   .next h3=>rw[ifN h3]at h0;cases h0
  .next h2=>
   rw[ifN h2]at h0
   exact ZsO (fun hn=>(hb' hn).sc) hb' (fun _=>rfl) h0
theorem ZqE(l:LB){base:U}(hb:base=zeroU∨Sd base)(h0:(Zaa l base).2=0):Sd (Zaa l base).1:=by
 unfold Zaa ZgL at h0 ⊢
 split
 .next h1=>rw[ifP h1]at h0;exact absurd h0 h1
 .next h1=>
  have h:=Zvp (bcut (isB 35) (ZI l)).1 (bcut (isB 35) (ZI l)).2.2 hb (Classical.not_not.1 h1)
  exact { h with pfr:=ZeO _ _ }
end Go.Proofs.YtchkhibgbnhjpabGreatDoor
