import Derived.Test.YtchkhibgbnhjpaaGreatDoorP32
import Derived.Test.YtchkhibgbnhjpaaGreatDoorP33
open Bool renaming or_eq_false_iff→Xg,and_eq_true→Xj
open List renaming concat_eq_append→Xa,append_assoc→Xb,eq_nil_or_concat→Xc,mem_cons→Xd,getLast?_singleton→Xe,append_inj_right'→Xf,getLast?_append→Xh,mem_singleton→Xi,length_drop→Xk,map_cons→Xl
namespace Go.Proofs.YtchkhibgbnhjpaaGreatDoor
open Go.RowKit
def PrS(ps:List (List UInt8)):Prop:=∀p∈ps,Pr p
theorem Zpd{ps:List LB}(h:PrS ps)(n:Nat):PrS (ps.take n):=fun p hp=>h p (List.mem_of_mem_take hp)
theorem ZsJ{a b:List LB}(ha:PrS a)(hb:PrS b):PrS (a++b):=fun x hx=>(List.mem_append.1 hx).elim (ha x) (hb x)
theorem ZsK{s:LB}(h:Pr s):PrS [s]:=fun p hp=>by rw[Xi]at hp;subst hp;exact h
theorem ZkZ:PrS []:=fun p hp=>by cases hp
theorem ZuX{c:UInt8}(h:alpha c.toNat=true):32≤c.toNat∧c.toNat≤126:=by
 unfold alpha at h;have:=of_decide_eq_true h
 omega
theorem ZsL{l:LB}(h:ZR l=true):Pr (l.take 1):=by
 unfold ZR at h
 split at h
 ·next a b=>
  rw[Xj]at h;have:=ZuX h.1;exact ZfG this.1 this.2
 ·cases h
theorem Zmj{f:Bool}{ps:List LB}(h:PrS ps):PrS (ZaN f ps):=by
 unfold ZaN
 split
 ·exact h
 ·exact Zpd h _
theorem ZuY{f:Bool}{ps:List LB}(s:LB)(h:PrS ps):PrS (joinL f ps s):=by
 unfold joinL
 refine ZsJ h (ZsK ?_)
 split
 ·next hd=>exact Zgv (ZsL hd.2.2) (ZfG (by decide) (by decide))
 ·exact ZeZ _ _
theorem ZvW{f:Bool}{ps:List LB}(s:LB)(last:Bool)(h:PrS ps):PrS (ZdR f ps s last):=by
 have h2:PrS (if countDots s=2 then ZaN f ps else ps):=by
  split
  ·exact Zmj h
  ·exact h
 unfold ZdR
 split
 ·exact ZuY s h
 split
 ·exact ZsJ h2 (ZsK pr_nil)
 ·exact h2
theorem ZuZ{f:Bool}(ss:List LB):∀ps,PrS ps→PrS (Zco f ps ss):=by
 induction ss with
 | nil=>intro ps h;rw[Zco];exact h
 | cons x r ih=>
  intro ps h
  cases r with
  | nil=>rw[Zco];exact ZvW x true h
  | cons y q=>rw[Zco];exact ih _ (ZvW x false h)
theorem Zyd(f:Bool)(ps:List LB)(s:LB):ZdR f ps s true≠[]:=by
 unfold ZdR
 split
 ·unfold joinL;simp
 ·simp
theorem ZsM{f:Bool}(ss:List LB):∀ps,ss≠[]→Zco f ps ss≠[]:=by
 induction ss with
 | nil=>intro ps h;exact absurd rfl h
 | cons x r ih=>
  intro ps h
  cases r with
  | nil=>rw[Zco];exact Zyd f ps x
  | cons y q=>rw[Zco];exact ih _ (by simp)
theorem ZiY(f sp:Bool){ps:List LB}(t:LB)(h:PrS ps):PrS (Zbc f sp ps t)∧Zbc f sp ps t≠[]:=by
 unfold Zbc
 refine⟨ZuZ _ _ h,ZsM _ _ ?_⟩
 obtain⟨x,q,hx⟩:=ZeU (slB sp) t;rw[hx]
 simp
theorem Zbo(t sch:LB):PrS (ZbY t sch)∧ZbY t sch≠[]:=ZiY _ _ t ZkZ
theorem Zfx{b:List LB}(t sch:LB)(h:PrS b):PrS (ZcZ b t sch)∧ZcZ b t sch≠[]:=ZiY _ _ t (Zmj h)
theorem ZiZ{b:List LB}(t:LB)(h:PrS b):PrS (ZaS b t)∧ZaS b t≠[]:=by
 unfold ZaS
 split
 ·exact Zbo _ _
 ·exact ZiY _ _ t (Zpd h _)
structure Zu0 (l:List UInt8):Prop where
 ne:l≠[]
 first:∀c r,l=c::r→97≤c.toNat∧c.toNat≤122
 all:∀b∈l,(97≤b.toNat∧b.toNat≤122)∨(48≤b.toNat∧b.toNat≤57)∨b.toNat=43∨b.toNat=45∨b.toNat=46
theorem Zj2{c:UInt8}(h:alpha c.toNat=true):97≤(Zel c).toNat∧(Zel c).toNat≤122:=by
 unfold alpha at h;have h1:=of_decide_eq_true h;unfold Zel
 split
 ·next hc=>rw[UInt8.toNat_add];have:(32:UInt8).toNat=32:=rfl;rw[this];omega
 ·omega
theorem Zj3{l:LB}(h:Zcu l=true):Zu0 (lower l):=by
 cases l with
 | nil=>cases h
 | cons c r=>
  simp only[Zcu,Xj]at h;have hc:=Zj2 h.1
  refine⟨by simp[lower],?_,?_⟩
  ·intro d q e
   simp only[lower,Xl,List.cons.injEq]at e;rw[←e.1];exact hc
  ·intro b hb
   simp only[lower,Xl,Xd]at hb;rcases hb with rfl|hb
   ·exact Or.inl hc
   ·obtain⟨x,hx,rfl⟩:=List.mem_map.1 hb
    have hm:=List.all_eq_true.1 h.2 x hx;unfold Zg1 at hm;simp only[Bool.or_eq_true,beq_iff_eq,decide_eq_true_eq]at hm;rcases hm with(((h1|h1)|h1)|h1)|h1
    ·right;right;left;unfold Zel;split<;>omega
    ·right;right;right;left;unfold Zel;split<;>omega
    ·right;right;right;right;unfold Zel;split<;>omega
    ·right;left;unfold Zel;split<;>omega
    ·exact Or.inl (Zj2 h1)
structure Sd (u:U):Prop where
 sc:Zu0 u.sch
 pnam:Pr u.nam
 ppw:Pr u.pw
 phost:Pr u.host
 popath:Pr u.opath
 psegs:PrS u.segs
 pq:Pr u.q
 pfr:Pr u.fr
 port:u.hp=true→u.port≤65535∧((ZI u.sch).2=true→(u.port:Int)≠(ZI u.sch).1)
 who:u.host=[]∨u.sch=Zo→u.nam=[]∧u.pw=[]∧u.hp=false
 sp:Zb u.sch=true→u.op=false∧u.segs≠[]
 hst:Zb u.sch=true→u.sch≠Zo→u.host≠[]
structure Fr (u:U):Prop where
 sc:Zu0 u.sch
 pq:Pr u.q
 pfr:Pr u.fr
 znam:u.nam=[]
 zpw:u.pw=[]
 zhost:u.host=[]
 zhp:u.hp=false
 zop:u.op=false
 zopath:u.opath=[]
 zsegs:u.segs=[]
theorem Zk0{sch:LB}(hq:Bool)(q:LB)(h:Zu0 sch):Fr (ZcO sch hq q):=⟨h,ZeZ _ _,pr_nil,rfl,rfl,rfl,rfl,rfl,rfl,rfl⟩
theorem Ze7{u:U}{hh:Bool}{host:LB}{segs:List LB}(h:Fr u)(hf:u.sch=Zo)(hp:Pr host)(hs:PrS segs∧segs≠[]):Sd { u with hh:=hh,host:=host,segs:=segs } where
 sc:=h.sc
 pnam:=by show Pr u.nam;rw[h.znam];exact pr_nil
 ppw:=by show Pr u.pw;rw[h.zpw];exact pr_nil
 phost:=hp
 popath:=by show Pr u.opath;rw[h.zopath];exact pr_nil
 psegs:=hs.1
 pq:=h.pq
 pfr:=h.pfr
 port:=fun e=>by have e':u.hp=true:=e;rw[h.zhp]at e';cases e'
 who:=fun _=>⟨h.znam,h.zpw,h.zhp⟩
 sp:=fun _=>⟨h.zop,hs.2⟩
 hst:=fun _ hn=>absurd hf hn
theorem Sd.noq{u:U}(h:Sd u)(b:Bool){q:LB}(hq:Pr q):Sd { u with hq:=b,q:=q }:={ h with pq:=hq }
theorem ZhL(l:LB):Pr (Zz l).1:=by
 unfold Zz
 (repeat' split)
 ·exact pr_nil
 ·exact pr_nil
 ·exact pr_nil
 ·exact ZoH _ _
theorem ZnG{u:U}(t:LB)(h:Fr u)(hf:u.sch=Zo)(h0:(Zad u t).2=0):Sd (Zad u t).1:=by
 unfold Zad at h0 ⊢
 split
 ·have k:=Ze7 (u:=u) (hh:=u.hh) (host:=u.host) h hf (by rw[h.zhost];exact pr_nil) (Zbo t u.sch)
  exact k
 next h1=>
  rw[if_neg h1]at h0
  split
  ·next h2=>rw[if_pos h2]at h0;exact absurd h0 h2
  ·exact Ze7 (u:=u) (hh:=u.hh) h hf (ZhL _) (Zbo _ _)
theorem Zjp{u base:U}(l:LB)(h:Fr u)(hf:u.sch=Zo)(hb:Sd base)(hbf:base.sch=Zo):Sd (Zak { u with hh:=true,host:=base.host } l base):=by
 unfold Zak
 split
 ·have hsp:Zb base.sch=true:=by rw[hbf];decide
  refine(Ze7 (u:=u) (hh:=true) h hf hb.phost ⟨hb.psegs,(hb.sp hsp).2⟩).noq _ ?_
  split
  ·exact h.pq
  ·exact hb.pq
 ·exact Ze7 (u:=u) (hh:=true) h hf hb.phost (Zfx _ _ hb.psegs)
theorem ZsN{u base:U}(l:LB)(h:Fr u)(hf:u.sch=Zo)(hb:base.sch=Zo→Sd base)(h0:(ZdS u l base).2=0):Sd (ZdS u l base).1:=by
 unfold ZdS at h0 ⊢
 split
 ·next h1=>rw[if_pos h1]at h0;exact ZnG _ { h with } hf h0
 next h1=>
  rw[if_neg h1]at h0
  split
  ·exact Ze7 (u:=u) (hh:=true) (host:=u.host) h hf (by rw[h.zhost];exact pr_nil) (Zbo _ _)
  next h2=>
   have hbf:base.sch=Zo:=Classical.not_not.1 h2;have hs:=hb hbf
   split
   ·exact Ze7 (u:=u) (hh:=true) h hf hs.phost (ZiZ _ hs.psegs)
   split
   ·exact Ze7 (u:=u) (hh:=true) h hf hs.phost (Zbo _ _)
   ·exact Zjp l h hf hs hbf
structure Sh (u:U):Prop where
 sc:Zu0 u.sch
 pnam:Pr u.nam
 ppw:Pr u.pw
 phost:Pr u.host
 popath:Pr u.opath
 psegs:PrS u.segs
 pq:Pr u.q
 pfr:Pr u.fr
 port:u.hp=true→u.port≤65535∧((ZI u.sch).2=true→(u.port:Int)≠(ZI u.sch).1)
 who:u.host=[]∨u.sch=Zo→u.nam=[]∧u.pw=[]∧u.hp=false
 op:u.op=false
 hst:Zb u.sch=true→u.sch≠Zo→u.host≠[]
theorem Sh.sd{u:U}(h:Sh u)(hs:Zb u.sch=true→u.segs≠[]):Sd u:=⟨h.sc,h.pnam,h.ppw,h.phost,h.popath,h.psegs,h.pq,h.pfr,h.port,h.who,fun e=>⟨h.op,hs e⟩,h.hst⟩
theorem Sh.segs{u:U}(h:Sh u){s:List LB}(hs:PrS s∧s≠[]):Sd { u with segs:=s }:=⟨h.sc,h.pnam,h.ppw,h.phost,h.popath,hs.1,h.pq,h.pfr,h.port,h.who,fun _=>⟨h.op,hs.2⟩,h.hst⟩
theorem Sh.segs'{u:U}(h:Sh u){s:List LB}(hs:PrS s)(hn:Zb u.sch=true→s≠[]):Sd { u with segs:=s }:=⟨h.sc,h.pnam,h.ppw,h.phost,h.popath,hs,h.pq,h.pfr,h.port,h.who,fun e=>⟨h.op,hn e⟩,h.hst⟩
theorem Zmk{p:LB}(h:(Zr p).1=[])(h2:(Zr p).2.2=false):p=[]:=by
 unfold Zr at h h2
 cases hc:cutPortGo false p with
 | none=>rw[hc]at h;exact h
 | some q=>rw[hc]at h2;cases h2
theorem Zml{p:LB}(h2:(Zr p).2.2=false):(Zr p).2.1=[]:=by
 unfold Zr at h2 ⊢
 cases hc:cutPortGo false p with
 | none=>rfl
 | some q=>rw[hc]at h2;cases h2
structure Fp (u:U) (p:List UInt8):Prop where
 sc:Zu0 u.sch
 nf:u.sch≠Zo
 pnam:Pr u.nam
 ppw:Pr u.pw
 pq:Pr u.q
 pfr:Pr u.fr
 popath:Pr u.opath
 psegs:PrS u.segs
 zop:u.op=false
 zhp:u.hp=false
 user:p=[]→u.nam=[]∧u.pw=[]
theorem ZsO{u:U}{p:Int}(h:Sh u)(h0:0≤p)(h1:p≤65535)(hh:u.host≠[])(hf:u.sch≠Zo):Sh (Zal u p):=by
 unfold Zal
 split
 ·exact { h with port:=fun e=>(by cases e),who:=fun e=>(e.elim (fun e=>absurd e hh) (fun e=>absurd e hf)) }
 ·next hn=>
  refine { h with port:=fun _=>⟨by show p.toNat≤65535;omega,fun ho e=>hn ⟨ho,?_⟩⟩,who:=fun e=>(e.elim (fun e=>absurd e hh) (fun e=>absurd e hf)) }
  have e':((p.toNat:Nat):Int)=(ZI u.sch).1:=e
  omega
theorem Zu1{u:U}{p:LB}(h:Fp u p)(h0:(Z9 u p).2=0):Sh (Z9 u p).1:=by
 unfold Z9 at h0 ⊢
 split
 ·next h1=>rw[if_pos h1]at h0;cases h0
 next h1=>
  rw[if_neg h1]at h0
  split
  ·next h2=>rw[if_pos h2]at h0;exact absurd h0 h2
  next h2=>
   rw[if_neg h2]at h0;have he:(ZO (Zr p).1 (Zb u.sch)).2=0:=Classical.not_not.1 h2
   have hx:(ZO (Zr p).1 (Zb u.sch)).1=[]→(Zr p).1=[]:=fun e=>Classical.byContradiction fun hn=>Zut hn he e
   have key:Sh { u with hh:=true,host:=(ZO (Zr p).1 (Zb u.sch)).1 }:={
    sc:=h.sc,pnam:=h.pnam,ppw:=h.ppw,phost:=ZoH _ _,popath:=h.popath,psegs:=h.psegs,pq:=h.pq,pfr:=h.pfr
    port:=fun e=>by have e':u.hp=true:=e;rw[h.zhp]at e';cases e'
    who:=fun e=>by
     rcases e with e|e
     ·have e1:=hx e
      have e2:(Zr p).2.2=false:=by
       cases hc:(Zr p).2.2
       ·rfl
       ·exact absurd ⟨e1,Or.inr hc⟩ h1
      have e3:=h.user (Zmk e1 e2);exact⟨e3.1,e3.2,h.zhp⟩
     ·exact absurd e h.nf
    op:=h.zop
    hst:=fun hs _ e=>h1 ⟨hx e,Or.inl hs⟩ }
   split
   ·exact key
   next h3=>
    rw[if_neg h3]at h0;unfold Zgu at h0 ⊢
    split
    ·next h4=>rw[if_pos h4]at h0;cases h0
    ·have hr:=ZcN (Zr p).2.1
     refine ZsO key hr.1 hr.2 ?_ h.nf
     intro e;have e1:=hx e
     have e2:(Zr p).2.2=false:=by
      cases hc:(Zr p).2.2
      ·rfl
      ·exact absurd ⟨e1,Or.inr hc⟩ h1
     exact h3 (Zml e2)
theorem Zqp(u:U)(p:Int):(Zal u p).sch=u.sch:=by unfold Zal;split<;>rfl
theorem ZsP{u:U}{p:LB}(h0:(Z9 u p).2=0):(Z9 u p).1.sch=u.sch:=by
 unfold Z9 at h0 ⊢
 split
 ·next h1=>rw[if_pos h1]at h0;cases h0
 next h1=>
  rw[if_neg h1]at h0
  split
  ·next h2=>rw[if_pos h2]at h0;exact absurd h0 h2
  next h2=>
   rw[if_neg h2]at h0
   split
   ·rfl
   next h3=>
    rw[if_neg h3]at h0;unfold Zgu at h0 ⊢
    split
    ·next h4=>rw[if_pos h4]at h0;cases h0
    ·exact Zqp _ _
theorem Zpe:ZfF []=[]:=by unfold ZfF;rw[Zbh]
theorem ZnH(n:Int)(l:LB)(h:(bcutLast n l).2.2=false):(bcutLast n l).1=[]:=by
 cases l with
 | nil=>rw[bcutLast]
 | cons c r=>
  rw[bcutLast]at h ⊢
  split at h
  ·next hr=>have h':(bcutLast n r).2.2=false:=h;rw[hr]at h';cases h'
  ·next hr=>
   rw[if_neg hr]
   split
   ·rfl
   ·rfl
theorem ZdK{u:U}(t:LB)(h:Fr u)(hf:u.sch≠Zo)(h0:(ZE u t).2=0):Sd (ZE u t).1:=by
 unfold ZE at h0 ⊢
 split
 ·next h1=>rw[if_pos h1]at h0;cases h0
 next h1=>
  rw[if_neg h1]at h0;unfold Zdq at h0 ⊢
  split
  ·next h2=>rw[if_pos h2]at h0;exact absurd h0 h2
  next h2=>
   rw[if_neg h2]at h0
   have hp:=Zu1 (u:={ u with nam:=ZfF (bcut (isB 58) (bcutLast 64 (bcut (slB (Zb u.sch)) t).1).1).1,pw:=ZfF (bcut (isB 58) (bcutLast 64 (bcut (slB (Zb u.sch)) t).1).1).2.1 }) (p:=(bcutLast 64 (bcut (slB (Zb u.sch)) t).1).2.1)
    { sc:=h.sc,nf:=hf,pnam:=ZeZ _ _,ppw:=ZeZ _ _,pq:=h.pq,pfr:=h.pfr
      popath:=by show Pr u.opath;rw[h.zopath];exact pr_nil
      psegs:=by show PrS u.segs;rw[h.zsegs];exact ZkZ
      zop:=h.zop,zhp:=h.zhp
      user:=fun e=>by
       have e1:(bcutLast 64 (bcut (slB (Zb u.sch)) t).1).2.2=false:=by
        cases hc:(bcutLast 64 (bcut (slB (Zb u.sch)) t).1).2.2
        ·rfl
        ·exact absurd ⟨hc,e⟩ h1
       have e2:=ZnH _ _ e1
       constructor
       ·show ZfF (bcut (isB 58) (bcutLast 64 (bcut (slB (Zb u.sch)) t).1).1).1=[]
        rw[e2];exact Zpe
       ·show ZfF (bcut (isB 58) (bcutLast 64 (bcut (slB (Zb u.sch)) t).1).1).2.1=[]
        rw[e2];exact Zpe } (Classical.not_not.1 h2)
   split
   ·exact hp.segs (Zbo _ _)
   next h3=>
    refine hp.sd fun e=>absurd ?_ h3
    have:Zb u.sch=true:=by have e':=e;rw[ZsP (Classical.not_not.1 h2)]at e';exact e'
    rw[this];rfl
theorem ZsQ{u base:U}(h:Fr u)(hb:Sd base)(hs:base.sch=u.sch):Sh (kept u base) where
 sc:=h.sc
 pnam:=hb.pnam
 ppw:=hb.ppw
 phost:=hb.phost
 popath:=by show Pr u.opath;rw[h.zopath];exact pr_nil
 psegs:=by show PrS u.segs;rw[h.zsegs];exact ZkZ
 pq:=h.pq
 pfr:=h.pfr
 port:=fun e=>by have:=hb.port e;rw[hs]at this;exact this
 who:=fun e=>hb.who (by rw[hs];exact e)
 op:=h.zop
 hst:=fun e=>by have:=hb.hst;rw[hs]at this;exact this e
theorem ZsR{u base:U}(l:LB)(h:Fr u)(hb:Sd base)(hs:base.sch=u.sch):Sd (Zak (kept u base) l base):=by
 have hk:=ZsQ h hb hs;unfold Zak
 split
 ·refine(hk.segs' hb.psegs fun e=>(hb.sp (by rw[hs];exact e)).2).noq _ ?_
  split
  ·exact h.pq
  ·exact hb.pq
 ·exact hk.segs (Zfx _ _ hb.psegs)
theorem Zhh{u base:U}(l:LB)(h:Fr u)(hb:Sd base)(hs:base.sch=u.sch)(h0:(Z1 u l base).2=0):Sd (Z1 u l base).1:=by
 unfold Z1 at h0 ⊢
 split
 ·next h1=>rw[if_pos h1]at h0;exact ZsN l h h1 (fun _=>hb) h0
 next h1=>
  rw[if_neg h1]at h0
  split
  ·next h2=>rw[if_pos h2]at h0;exact ZdK _ h h1 h0
  split
  ·exact(ZsQ h hb hs).segs (Zbo _ _)
  ·exact ZsR l h hb hs
theorem Zqq{u base:U}(l:LB)(h:Fr u)(hf:u.sch≠Zo)(hb:base.sch=u.sch→Sd base)(h0:(Zbf u l base).2=0):Sd (Zbf u l base).1:=by
 unfold Zbf at h0 ⊢
 split
 ·next h1=>rw[if_pos h1]at h0;exact Zhh l h (hb h1.1) h1.1 h0
 ·next h1=>rw[if_neg h1]at h0;exact ZdK _ h hf h0
theorem Zj4{u base:U}(l:LB)(h:Fr u)(hb:base.sch=u.sch→Sd base)(h0:(Z2 u l base).2=0):Sd (Z2 u l base).1:=by
 unfold Z2 at h0 ⊢
 split
 ·next h1=>rw[if_pos h1]at h0;exact ZsN l h h1 (fun e=>hb (e.trans h1.symm)) h0
 next h1=>
  rw[if_neg h1]at h0
  split
  ·next h2=>rw[if_pos h2]at h0;exact Zqq l h h1 hb h0
  next h2=>
   rw[if_neg h2]at h0
   have bare:∀(o:Bool) (x:LB) (s:List LB),Pr x→PrS s→Sd { u with op:=o,opath:=x,segs:=s }:=fun o x s hx hs=>{
    sc:=h.sc
    pnam:=by show Pr u.nam;rw[h.znam];exact pr_nil
    ppw:=by show Pr u.pw;rw[h.zpw];exact pr_nil
    phost:=by show Pr u.host;rw[h.zhost];exact pr_nil
    popath:=hx
    psegs:=hs
    pq:=h.pq
    pfr:=h.pfr
    port:=fun e=>by have e':u.hp=true:=e;rw[h.zhp]at e';cases e'
    who:=fun _=>⟨h.znam,h.zpw,h.zhp⟩
    sp:=fun e=>absurd e h2
    hst:=fun e=>absurd e h2 }
   split
   ·exact bare true _ u.segs (ZeZ _ _) (by rw[h.zsegs];exact ZkZ)
   next h3=>
    rw[if_neg h3]at h0
    split
    ·exact bare u.op u.opath _ (by rw[h.zopath];exact pr_nil) (Zbo _ _).1
    ·next h4=>rw[if_neg h4]at h0;exact ZdK _ h h1 h0
theorem ZsS{sch rest:LB}{found:Bool}{base:U}(hsc:sch≠[]→Zu0 sch)(hb:base.sch≠[]→Sd base)(hn:found=false→base.sch=sch)(h0:(Zc4 sch rest found base).2=0):Sd (Zc4 sch rest found base).1:=by
 unfold Zc4 at h0 ⊢
 split
 ·next h1=>rw[if_pos h1]at h0;cases h0
 next h1=>
  rw[if_neg h1]at h0
  split
  ·next h2=>rw[if_pos h2]at h0;exact Zj4 _ (Zk0 _ _ (hsc h1)) (fun e=>hb (by rw[e];exact h1)) h0
  ·next h2=>
   rw[if_neg h2]at h0
   have e:=hn (by simpa using h2)
   exact Zhh _ (Zk0 _ _ (hsc h1)) (hb (by rw[e];exact h1)) e h0
theorem Zu2(l:LB)(hf:Bool){base:U}(hb:base=zeroU∨Sd base)(h0:(ZbP l hf base).2=0):Sd (ZbP l hf base).1:=by
 have hb':base.sch≠[]→Sd base:=fun hn=>hb.elim (fun e=>absurd (by rw[e];rfl) hn) id
 unfold ZbP at h0 ⊢
 split
 ·next h1=>
  rw[if_pos h1]at h0
  refine ZsS (fun _=>?_) hb' (fun e=>by cases e) h0
  unfold ZW at h1 ⊢
  split
  ·next h2=>exact Zj3 h2.2
  ·next h2=>rw[if_neg h2]at h1;cases h1
 next h1=>
  rw[if_neg h1]at h0
  split
  ·next h2=>
   rw[if_pos h2]at h0
   have hs:Sd base:=hb.elim (fun e=>by rw[e]at h2;cases h2) id
   unfold Zc0 at h0 ⊢
   split
   ·exact hs
   ·next h3=>rw[if_neg h3]at h0;cases h0
  ·next h2=>
   rw[if_neg h2]at h0
   exact ZsS (fun hn=>(hb' hn).sc) hb' (fun _=>rfl) h0
theorem Zqr(l:LB){base:U}(hb:base=zeroU∨Sd base)(h0:(Zan l base).2=0):Sd (Zan l base).1:=by
 unfold Zan Zg3 at h0 ⊢
 split
 ·next h1=>rw[if_pos h1]at h0;exact absurd h0 h1
 ·next h1=>
  have h:=Zu2 (bcut (isB 35) (wholeText l)).1 (bcut (isB 35) (wholeText l)).2.2 hb (Classical.not_not.1 h1)
  exact { h with pfr:=ZeZ _ _ }
abbrev S0:List UInt8:=tl (ZaO 0)
abbrev S1:List UInt8:=tl (ZaO 1)
abbrev S5:List UInt8:=tl (ZaO 5)
abbrev SQ(sch:List UInt8):List UInt8:=tl (ZaO (Zbd sch))
theorem ZxH(sch:LB):Zjk (SQ sch):=by
 unfold SQ Zbd
 split
 ·exact Zxw
 ·exact Zxv
theorem ZbU(set:LB):Asis set []:=fun b hb=>by cases hb
def NoEnd(l:List UInt8):Prop:=∀a,l≠a++[32]
structure St' (u:U):Prop where
 sd:Sd u
 wf:Wf u
 anam:Asis S5 u.nam
 apw:Asis S5 u.pw
 ahost:ZlT u.host
 fhost:u.host≠[]→ZO u.host (Zb u.sch)=(u.host,0)
 seg:ZfE (u.sch==Zo) (Zb u.sch) u.segs
 aq:Asis (SQ u.sch) u.q
 afr:Asis S1 u.fr
 opq:u.op=true→u.segs=[]∧u.hh=false∧countSl false u.opath=0∧∀b∈u.opath,b≠63∧b≠35
 zop:u.op=false→u.opath=[]
 pth:u.op=false→u.hh=false→u.segs≠[]
 zport:u.hp=false→u.port=0
 fil:u.sch=Zo→u.host≠Zd6
 sp:Zb u.sch=true→u.hh=true
structure Fs (u:U):Prop where
 fr:Fr u
 wf:Wf u
 aq:Asis (SQ u.sch) u.q
 zfr:u.fr=[]
 zport:u.port=0
 zhh:u.hh=false
theorem Zk1{sch rest:LB}(h:Zu0 sch):Fs (ZcO sch (bcut (isB 63) rest).2.2 (bcut (isB 63) rest).2.1):=
 ⟨Zk0 _ _ h,ZkX _ _ _ (Ze6 _ _),ZcP (ZxH _) _,rfl,rfl,rfl⟩
theorem ZwT{s:List LB}{sch:LB}(hf:sch=Zo)(h:ZfE true true s):ZfE (sch==Zo) (Zb sch) s:=by subst hf;exact h
theorem ZeD{s:List LB}{sch:LB}(hf:sch=Zo)(h:ZfE (sch==Zo) (Zb sch) s):ZfE true true s:=by subst hf;exact h
theorem ZeE{u:U}{host:LB}{segs:List LB}{hq:Bool}{q:LB}(h:Fs u)(hf:u.sch=Zo)(ht:ZlT host)(hp:Pr host)(hfix:host≠[]→ZO host true=(host,0))(hl:host≠Zd6)(hs:ZfE true true segs)(hsp:PrS segs∧segs≠[])(hqa:Asis (SQ u.sch) q)(hqp:Pr q)(hqn:hq=false→q=[]):
  St' { u with hh:=true,host:=host,segs:=segs,hq:=hq,q:=q } where
 sd:=(Ze7 (u:=u) (hh:=true) h.fr hf hp hsp).noq hq hqp
 wf:=⟨fun e=>(by cases e),hqn,h.wf.nf⟩
 anam:=by show Asis S5 u.nam;rw[h.fr.znam];exact ZbU _
 apw:=by show Asis S5 u.pw;rw[h.fr.zpw];exact ZbU _
 ahost:=ht
 fhost:=fun e=>by show ZO host (Zb u.sch)=_;rw[hf,file_special];exact hfix e
 seg:=ZwT hf hs
 aq:=hqa
 afr:=by show Asis S1 u.fr;rw[h.zfr];exact ZbU _
 opq:=fun e=>by have e':u.op=true:=e;rw[h.fr.zop]at e';cases e'
 zop:=fun _=>h.fr.zopath
 pth:=fun _ e=>by cases e
 zport:=fun _=>h.zport
 fil:=fun _=>hl
 sp:=fun _=>rfl
theorem local_ne:([]:LB)≠Zd6:=by decide
theorem Zmm{l:LB}:ZlT (Zz l).1∧((Zz l).1≠[]→ZO (Zz l).1 true=((Zz l).1,0))∧(Zz l).1≠Zd6:=by
 unfold Zz
 split
 ·exact⟨hostT_nil,fun e=>absurd rfl e,local_ne⟩
 next h1=>
  split
  ·exact⟨hostT_nil,fun e=>absurd rfl e,local_ne⟩
  next h2=>
   split
   ·exact⟨hostT_nil,fun e=>absurd rfl e,local_ne⟩
   ·next h3=>exact⟨hostL_T,fun _=>ZlS (Classical.not_not.1 h2),h3⟩
theorem ZnI{u:U}(t:LB)(h:Fs u)(hf:u.sch=Zo)(h0:(Zad { u with hh:=true } t).2=0):St' (Zad { u with hh:=true } t).1∧(Zad { u with hh:=true } t).1.op=false:=by
 unfold Zad at h0 ⊢
 split
 ·exact⟨ZeE (u:=u) (host:=u.host) (hq:=u.hq) (q:=u.q) h hf (by rw[h.fr.zhost];exact hostT_nil) (by rw[h.fr.zhost];exact pr_nil) (fun e=>absurd h.fr.zhost e) (by rw[h.fr.zhost];exact local_ne) (ZeD hf (Ze1 t u.sch)) (Zbo t u.sch) h.aq h.fr.pq h.wf.nq,h.fr.zop⟩
 next h1=>
  rw[if_neg h1]at h0
  split
  ·next h2=>rw[if_pos h2]at h0;exact absurd h0 h2
  ·have hk:=Zmm (l:=(bcut (slB true) t).1)
   exact⟨ZeE (u:=u) (hq:=u.hq) (q:=u.q) h hf hk.1 (ZhL _) hk.2.1 hk.2.2 (ZeD hf (Ze1 _ u.sch)) (Zbo _ _) h.aq h.fr.pq h.wf.nq,h.fr.zop⟩
theorem ZnJ{u base:U}(l:LB)(h:Fs u)(hf:u.sch=Zo)(hb:base.sch=Zo→St' base)(h0:(ZdS u l base).2=0):St' (ZdS u l base).1∧(ZdS u l base).1.op=false:=by
 unfold ZdS at h0 ⊢
 split
 ·next h1=>rw[if_pos h1]at h0;exact ZnI _ h hf h0
 next h1=>
  rw[if_neg h1]at h0
  split
  ·exact⟨ZeE (u:=u) (host:=u.host) (hq:=u.hq) (q:=u.q) h hf (by rw[h.fr.zhost];exact hostT_nil) (by rw[h.fr.zhost];exact pr_nil) (fun e=>absurd h.fr.zhost e) (by rw[h.fr.zhost];exact local_ne) (ZeD hf (Ze1 _ u.sch)) (Zbo _ _) h.aq h.fr.pq h.wf.nq,h.fr.zop⟩
  next h2=>
   have hbf:base.sch=Zo:=Classical.not_not.1 h2;have hs:=hb hbf
   have hsp:Zb base.sch=true:=by rw[hbf];exact file_special
   have hfx:base.host≠[]→ZO base.host true=(base.host,0):=fun e=>by have:=hs.fhost e;rwa [hsp]at this
   split
   ·exact⟨ZeE (u:=u) (hq:=u.hq) (q:=u.q) h hf hs.ahost hs.sd.phost hfx (hs.fil hbf) (ZuB _ (ZeD hbf hs.seg)) (ZiZ _ hs.sd.psegs) h.aq h.fr.pq h.wf.nq,h.fr.zop⟩
   split
   ·exact⟨ZeE (u:=u) (hq:=u.hq) (q:=u.q) h hf hs.ahost hs.sd.phost hfx (hs.fil hbf) (ZeD hf (Ze1 _ u.sch)) (Zbo _ _) h.aq h.fr.pq h.wf.nq,h.fr.zop⟩
   ·show St' (Zak { u with hh:=true,host:=base.host } l base)∧(Zak { u with hh:=true,host:=base.host } l base).op=false
    unfold Zak
    split
    ·refine⟨?_,h.fr.zop⟩
     refine ZeE (u:=u) (hq:=u.hq||base.hq) (q:=if u.hq=true then u.q else base.q) h hf hs.ahost hs.sd.phost hfx (hs.fil hbf) (ZeD hbf hs.seg) ⟨hs.sd.psegs,(hs.sd.sp hsp).2⟩ ?_ ?_ ?_
     ·split
      ·exact h.aq
      ·have:=hs.aq;rw[hbf,←hf]at this;exact this
     ·split
      ·exact h.fr.pq
      ·exact hs.sd.pq
     ·intro e
      rw[Xg]at e
      rw[if_neg (by rw[e.1];decide)]
      exact hs.wf.nq e.2
    ·refine⟨?_,h.fr.zop⟩
     refine ZeE (u:=u) (hq:=u.hq) (q:=u.q) h hf hs.ahost hs.sd.phost hfx (hs.fil hbf) ?_ (Zfx _ _ hs.sd.psegs) h.aq h.fr.pq h.wf.nq
     refine ZeD hf (ZlU l ?_)
     show ZfE (u.sch==Zo) (Zb u.sch) base.segs
     have hseg:=hs.seg;rw[hbf]at hseg;rw[hf];exact hseg
theorem Zu3{u:U}{p:LB}(h0:(Z9 u p).2=0)(hz:u.port=0):
  (Z9 u p).1.hh=true∧ZlT (Z9 u p).1.host∧((Z9 u p).1.host≠[]→ZO (Z9 u p).1.host (Zb u.sch)=((Z9 u p).1.host,0))∧((Z9 u p).1.hp=false→(Z9 u p).1.port=0) ∧
  (Z9 u p).1.nam=u.nam∧(Z9 u p).1.pw=u.pw∧(Z9 u p).1.sch=u.sch∧(Z9 u p).1.q=u.q∧(Z9 u p).1.hq=u.hq∧(Z9 u p).1.fr=u.fr∧(Z9 u p).1.hf=u.hf∧(Z9 u p).1.op=u.op∧(Z9 u p).1.opath=u.opath∧(Z9 u p).1.segs=u.segs:=by
 unfold Z9 at h0 ⊢
 split
 ·next h1=>rw[if_pos h1]at h0;cases h0
 next h1=>
  rw[if_neg h1]at h0
  split
  ·next h2=>rw[if_pos h2]at h0;exact absurd h0 h2
  next h2=>
   rw[if_neg h2]at h0;have hx:=ZlS (Classical.not_not.1 h2)
   split
   ·exact⟨rfl,hostL_T,fun _=>hx,fun _=>hz,rfl,rfl,rfl,rfl,rfl,rfl,rfl,rfl,rfl,rfl⟩
   next h3=>
    rw[if_neg h3]at h0;unfold Zgu at h0 ⊢
    split
    ·next h4=>rw[if_pos h4]at h0;cases h0
    ·show _
     simp only;unfold Zal
     split
     ·exact⟨rfl,hostL_T,fun _=>hx,fun _=>rfl,rfl,rfl,rfl,rfl,rfl,rfl,rfl,rfl,rfl,rfl⟩
     ·exact⟨rfl,hostL_T,fun _=>hx,fun e=>(by cases e),rfl,rfl,rfl,rfl,rfl,rfl,rfl,rfl,rfl,rfl⟩
theorem ZcU{u:U}(t:LB)(h:Fs u)(hf:u.sch≠Zo)(h0:(ZE u t).2=0):St' (ZE u t).1∧(ZE u t).1.op=false:=by
 have hsd:=ZdK t h.fr hf h0;have hwf:=ZdJ t h.wf.wq;unfold ZE at h0 hsd hwf ⊢
 split at h0
 ·cases h0
 next h1=>
  rw[if_neg h1]at hsd hwf ⊢;unfold Zdq at h0 hsd hwf ⊢
  split at h0
  ·next h2=>exact absurd h0 h2
  next h2=>
   rw[if_neg h2]at hsd hwf ⊢;have hk:=Zu3 (Classical.not_not.1 h2) h.zport;obtain⟨k1,k2,k3,k4,k5,k6,k7,k8,k9,k10,k11,k12,k13,k14⟩:=hk;generalize Z9 _ _=pq at *;obtain⟨v,e⟩:=pq;simp only at *
   split at h0
   ·next h3=>
    rw[if_pos h3]at hsd hwf ⊢
    refine⟨?_,k12.trans h.fr.zop⟩
    exact {
     sd:=hsd,wf:=hwf
     anam:=by show Asis S5 v.nam;rw[k5];exact ZcP ZoI _
     apw:=by show Asis S5 v.pw;rw[k6];exact ZcP ZoI _
     ahost:=k2
     fhost:=fun x=>by show ZO v.host (Zb v.sch)=_;rw[k7];exact k3 x
     seg:=by show ZfE (v.sch==Zo) (Zb v.sch) _;rw[k7];exact Ze1 _ _
     aq:=by show Asis (SQ v.sch) v.q;rw[k7,k8];exact h.aq
     afr:=by show Asis S1 v.fr;rw[k10,h.zfr];exact ZbU _
     opq:=fun x=>by have x':v.op=true:=x;rw[k12,h.fr.zop]at x';cases x'
     zop:=fun _=>by show v.opath=[];rw[k13,h.fr.zopath]
     pth:=fun _ x=>by have x':v.hh=false:=x;rw[k1]at x';cases x'
     zport:=k4
     fil:=fun x=>absurd (k7.symm.trans x) hf
     sp:=fun _=>k1 }
   ·next h3=>
    rw[if_neg h3]at hsd hwf ⊢
    refine⟨?_,k12.trans h.fr.zop⟩
    exact {
     sd:=hsd,wf:=hwf
     anam:=by show Asis S5 v.nam;rw[k5];exact ZcP ZoI _
     apw:=by show Asis S5 v.pw;rw[k6];exact ZcP ZoI _
     ahost:=k2
     fhost:=fun x=>by show ZO v.host (Zb v.sch)=_;rw[k7];exact k3 x
     seg:=by show ZfE (v.sch==Zo) (Zb v.sch) v.segs;rw[k14,h.fr.zsegs];exact Zsb _ _
     aq:=by show Asis (SQ v.sch) v.q;rw[k7,k8];exact h.aq
     afr:=by show Asis S1 v.fr;rw[k10,h.zfr];exact ZbU _
     opq:=fun x=>by have x':v.op=true:=x;rw[k12,h.fr.zop]at x';cases x'
     zop:=fun _=>by show v.opath=[];rw[k13,h.fr.zopath]
     pth:=fun _ x=>by have x':v.hh=false:=x;rw[k1]at x';cases x'
     zport:=k4
     fil:=fun x=>absurd (k7.symm.trans x) hf
     sp:=fun _=>k1 }
theorem enc_from{set l:LB}{b:UInt8}(hb:b∈encB set (clean l)):b∈l∨b.toNat=37∨(48≤b.toNat∧b.toNat≤57)∨(65≤b.toNat∧b.toNat≤70):=by
 have hp:=ZeZ set _ b hb;obtain⟨c,hcm,hc⟩:=List.mem_flatMap.1 hb;have hcl:=c.toNat_lt;unfold Zaj at hc
 split at hc
 ·simp only[Xd,List.not_mem_nil,or_false]at hc
  rcases hc with rfl|rfl|rfl
  ·exact Or.inr (Or.inl rfl)
  ·exact Or.inr (Or.inr (ZbF (by omega) (by omega)))
  ·exact Or.inr (Or.inr (ZbF (by omega) (by omega)))
 ·rw[Xi]at hc
  subst hc;rcases ZiD _ l (Nat.le_refl _) b hcm with h1|h1
  ·exact Or.inl h1
  ·omega
theorem ZvX{set l:LB}{c:UInt8}(h:∀b∈l,b≠c)(hc:¬(c.toNat=37∨(48≤c.toNat∧c.toNat≤57)∨(65≤c.toNat∧c.toNat≤70))):∀b∈encB set (clean l),b≠c:=by
 intro b hb e;subst e;rcases enc_from hb with h1|h1
 ·exact h b h1 rfl
 ·exact hc h1
theorem ZsT{set l:LB}(h:countSl false l=0):countSl false (encB set (clean l))=0:=by
 cases l with
 | nil=>rw[clean_nil];rfl
 | cons c r=>
  have hc:slB false c=false:=by
   cases hh:slB false c
   ·rfl
   ·rw[countSl,if_pos hh]at h;cases h
  have key:∀(b:UInt8) (m:LB),slB false b=false→countSl false (encB set (b::m))=0:=by
   intro b m hb;rw[ZiF];unfold Zaj
   split
   ·rfl
   ·show countSl false (b::_)=0
    rw[countSl,if_neg (by rw[hb];decide)]
  by_cases hlo:c.toNat<128
  ·rw[Zh2 r hlo];exact key c _ hc
  ·obtain⟨b,m,hb,hh⟩:=ZoK r (by omega:128≤c.toNat)
   rw[hb]
   exact key b m (ZoM (by omega) false)
theorem ZsU{a b x:LB}(hb:b≠[])(h:a++b=x++[32]):∃y,b=y++[32]:=by
 rcases Xc b with rfl|⟨y,z,rfl⟩
 ·exact absurd rfl hb
 ·rw[Xa,←Xb]at h
  have:=Xf h rfl;rw[Xa,this];exact⟨y,rfl⟩
theorem ZsV:∀(n:Nat) (l a:LB),l.length≤n→clean l=a++[32]→∃y,l=y++[32]:=by
 intro n
 induction n with
 | zero=>
  intro l a hl h
  have:l=[]:=List.length_eq_zero_iff.1 (by omega)
  subst this;rw[clean_nil]at h
  exact absurd h (by simp)
 | succ n ih=>
  intro l a hl h
  cases l with
  | nil=>rw[clean_nil]at h;exact absurd h (by simp)
  | cons c r=>
   have hm:=Zeo c r;rw[Zdb]at h;simp only[List.length_cons]at hl
   by_cases hr:r.drop ((measure (c::r)).1-1)=[]
   ·rw[hr,clean_nil,List.append_nil]at h
    split at h
    ·have hlen:(measure (c::r)).1=r.length+1:=by
      have:=congrArg List.length hr;rw[Xk,List.length_nil]at this
      omega
     rw[hlen,List.take_of_length_le (by simp)]at h
     exact⟨a,h⟩
    ·have:=congrArg List.getLast? h
     simp at this
   ·obtain⟨y,hy⟩:=ZsU (ZkH hr) h
    obtain⟨z,hz⟩:=ih _ _ (by rw[Xk];omega) hy
    refine⟨(c::r).take (measure (c::r)).1++z,?_⟩
    have hs:(c::r).drop (measure (c::r)).1=z++[32]:=by
     rw[←hz]
     obtain⟨k,hk⟩:∃k,(measure (c::r)).1=k+1:=⟨(measure (c::r)).1 - 1,by omega⟩
     rw[hk,List.drop_succ_cons]
     rfl
    rw[Xb,←hs,List.take_append_drop]
theorem ZwU{set l a:LB}(h:encB set (clean l)=a++[32]):∃y,l=y++[32]:=by
 rcases Xc (clean l)with hn|⟨m,x,hx⟩
 ·rw[hn]at h;exact absurd h (by simp[encB])
 ·rw[Xa]at hx
  rw[hx,Zlj]at h
  obtain⟨y,hy⟩:=ZsU (by unfold Zaj;split<;>simp) h
  have hxl:=x.toNat_lt;unfold Zaj at hy
  split at hy
  ·have:=congrArg List.getLast? hy
   simp only[Xh,Xe,List.getLast?_cons_cons]at this
   have e:toB (capital ((x.toNat:Int)%16))=32:=by simpa using this
   have:=ZbF (n:=(x.toNat:Int)%16) (by omega) (by omega)
   rw[e]at this
   exact absurd this (by decide)
  ·have:=congrArg List.getLast? hy
   simp only[Xh,Xe]at this
   have e:x=32:=by simpa using this
   subst e;exact ZsV _ l m (Nat.le_refl _) hx
theorem NoEnd.enc{set l:LB}(h:NoEnd l):NoEnd (encB set (clean l)):=fun _ e=>by
 obtain⟨y,hy⟩:=ZwU e;exact h y hy
theorem NoEnd.tail{a b:LB}(h:NoEnd (a++b)):NoEnd b:=fun y e=>h (a++y) (by rw[e,Xb])
theorem Zfy(p:UInt8→Bool)(l:LB):((bcut p l).2.2=false∧(bcut p l).1=l)∨((bcut p l).2.2=true∧∃c,l=(bcut p l).1++c::(bcut p l).2.1):=by
 induction l with
 | nil=>left;exact⟨rfl,rfl⟩
 | cons c r ih=>
  rw[bcut]
  split
  ·right;exact⟨rfl,c,rfl⟩
  ·rcases ih with⟨h1,h2⟩|⟨h1,d,h2⟩
   ·left;exact⟨h1,by show c::(bcut p r).1=c::r;rw[h2]⟩
   ·right;exact⟨h1,d,by show c::r=c::(bcut p r).1++d::(bcut p r).2.1;rw[List.cons_append,←h2]⟩
theorem Zmn(p:UInt8→Bool)(l:LB):∀b∈(bcut p l).1,p b=false:=by
 induction l with
 | nil=>intro b hb;cases hb
 | cons c r ih=>
  intro b hb;rw[bcut]at hb
  split at hb
  ·cases hb
  ·next hc=>
   simp only[Xd]at hb;rcases hb with rfl|hb
   ·simpa using hc
   ·exact ih b hb
theorem Zu4(p:UInt8→Bool)(l:LB):(∀b∈(bcut p l).1,b∈l)∧(∀b∈(bcut p l).2.1,b∈l):=by
 rcases Zfy p l with⟨h1,h2⟩|⟨h1,c,h2⟩
 ·exact⟨fun b hb=>by rw[h2]at hb;exact hb,fun b hb=>by rw[Ze6 p l h1]at hb;cases hb⟩
 ·exact⟨fun b hb=>by rw[h2];simp[hb],fun b hb=>by rw[h2];simp[hb]⟩
theorem ZnK{u base:U}{segs:List LB}{hq:Bool}{q:LB}(h:Fs u)(hb:St' base)(hs:base.sch=u.sch)(hsg:ZfE (u.sch==Zo) (Zb u.sch) segs)(hn:base.hh=false→segs≠[])(hqa:Asis (SQ u.sch) q)(hqn:hq=false→q=[])
  (sd:Sd { kept u base with segs:=segs,hq:=hq,q:=q }):St' { kept u base with segs:=segs,hq:=hq,q:=q } where
 sd:=sd
 wf:=⟨hb.wf.nh,hqn,h.wf.nf⟩
 anam:=hb.anam
 apw:=hb.apw
 ahost:=hb.ahost
 fhost:=fun e=>by have:=hb.fhost e;rw[hs]at this;exact this
 seg:=hsg
 aq:=hqa
 afr:=by show Asis S1 u.fr;rw[h.zfr];exact ZbU _
 opq:=fun e=>by have e':u.op=true:=e;rw[h.fr.zop]at e';cases e'
 zop:=fun _=>h.fr.zopath
 pth:=fun _ e=>hn e
 zport:=hb.zport
 fil:=fun e=>hb.fil (hs.trans e)
 sp:=fun e=>hb.sp (by rw[hs];exact e)
theorem Zhi{u base:U}(l:LB)(h:Fs u)(hb:St' base)(hs:base.sch=u.sch)(hbo:base.op=false)(h0:(Z1 u l base).2=0):St' (Z1 u l base).1∧(Z1 u l base).1.op=false:=by
 have hsd:=Zhh l h.fr hb.sd hs h0;unfold Z1 at h0 hsd ⊢
 split
 ·next h1=>rw[if_pos h1]at h0;exact ZnJ l h h1 (fun _=>hb) h0
 next h1=>
  rw[if_neg h1]at h0 hsd
  split
  ·next h2=>rw[if_pos h2]at h0;exact ZcU _ h h1 h0
  next h2=>
   rw[if_neg h2]at h0 hsd
   have hbs:ZfE (u.sch==Zo) (Zb u.sch) base.segs:=by rw[←hs];exact hb.seg
   split
   ·next h3=>
    rw[if_pos h3]at hsd
    exact⟨ZnK (u:=u) (hq:=u.hq) (q:=u.q) h hb hs (Ze1 _ _) (fun _=>(Zbo _ _).2) h.aq h.wf.nq hsd,h.fr.zop⟩
   ·next h3=>
    rw[if_neg h3]at hsd
    show St' (Zak (kept u base) l base)∧(Zak (kept u base) l base).op=false
    have hsd':Sd (Zak (kept u base) l base):=hsd;unfold Zak at hsd' ⊢
    split
    ·next h4=>
     rw[if_pos h4]at hsd'
     refine⟨?_,h.fr.zop⟩
     refine ZnK (u:=u) (hq:=u.hq||base.hq) (q:=if u.hq=true then u.q else base.q) h hb hs hbs (fun e=>hb.pth hbo e) ?_ ?_ hsd'
     ·split
      ·exact h.aq
      ·have:=hb.aq;rw[hs]at this;exact this
     ·intro e
      rw[Xg]at e
      rw[if_neg (by rw[e.1];decide)]
      exact hb.wf.nq e.2
    ·next h4=>
     rw[if_neg h4]at hsd'
     exact⟨ZnK (u:=u) (hq:=u.hq) (q:=u.q) h hb hs (ZlU l hbs) (fun _=>(Zfx _ _ hb.sd.psegs).2) h.aq h.wf.nq hsd',h.fr.zop⟩
theorem Zj5{base:U}(hb:St' base)(h:Zb base.sch=true):base.op=false:=(hb.sd.sp h).1
theorem Zqs{u base:U}(l:LB)(h:Fs u)(hb:base.sch=u.sch→St' base)(hl:∀b∈l,b≠63∧b≠35)(h0:(Z2 u l base).2=0):St' (Z2 u l base).1∧((Z2 u l base).1.op=true→(Z2 u l base).1.opath=encB S0 (clean l)):=by
 have hsd:=Zj4 l h.fr (fun e=>(hb e).sd) h0
 have noop:∀ {v:U},St' v→v.op=false→St' v∧(v.op=true→v.opath=encB S0 (clean l)):=fun a b=>⟨a,fun e=>by rw[b]at e;cases e⟩
 unfold Z2 at h0 hsd ⊢
 split
 ·next h1=>
  rw[if_pos h1]at h0
  have k:=ZnJ l h h1 (fun e=>hb (e.trans h1.symm)) h0
  exact noop k.1 k.2
 next h1=>
  rw[if_neg h1]at h0 hsd
  split
  ·next h2=>
   rw[if_pos h2]at h0;unfold Zbf at h0 ⊢
   split
   ·next h3=>
    rw[if_pos h3]at h0;have hbs:=hb h3.1
    have k:=Zhi l h hbs h3.1 (Zj5 hbs (by rw[h3.1];exact h2)) h0
    exact noop k.1 k.2
   ·next h3=>
    rw[if_neg h3]at h0;have k:=ZcU _ h h1 h0;exact noop k.1 k.2
  next h2=>
   rw[if_neg h2]at h0 hsd
   split
   ·next h3=>
    rw[if_pos h3]at hsd
    refine⟨?_,fun _=>rfl⟩
    exact {
     sd:=hsd
     wf:=h.wf.pathed _ _
     anam:=by show Asis S5 u.nam;rw[h.fr.znam];exact ZbU _
     apw:=by show Asis S5 u.pw;rw[h.fr.zpw];exact ZbU _
     ahost:=by show ZlT u.host;rw[h.fr.zhost];exact hostT_nil
     fhost:=fun e=>absurd h.fr.zhost e
     seg:=by show ZfE _ _ u.segs;rw[h.fr.zsegs];exact Zsb _ _
     aq:=h.aq
     afr:=by show Asis S1 u.fr;rw[h.zfr];exact ZbU _
     opq:=fun _=>⟨h.fr.zsegs,h.zhh,ZsT h3,fun b hb=>⟨ZvX (fun b hb=>(hl b hb).1) (by decide) b hb,ZvX (fun b hb=>(hl b hb).2) (by decide) b hb⟩⟩
     zop:=fun e=>by cases e
     pth:=fun e=>by cases e
     zport:=fun _=>h.zport
     fil:=fun e=>absurd e h1
     sp:=fun e=>absurd e h2 }
   next h3=>
    rw[if_neg h3]at h0 hsd
    split
    ·next h4=>
     rw[if_pos h4]at hsd
     refine noop ?_ h.fr.zop
     exact {
      sd:=hsd
      wf:=h.wf.segs _
      anam:=by show Asis S5 u.nam;rw[h.fr.znam];exact ZbU _
      apw:=by show Asis S5 u.pw;rw[h.fr.zpw];exact ZbU _
      ahost:=by show ZlT u.host;rw[h.fr.zhost];exact hostT_nil
      fhost:=fun e=>absurd h.fr.zhost e
      seg:=Ze1 _ _
      aq:=h.aq
      afr:=by show Asis S1 u.fr;rw[h.zfr];exact ZbU _
      opq:=fun e=>by have e':u.op=true:=e;rw[h.fr.zop]at e';cases e'
      zop:=fun _=>h.fr.zopath
      pth:=fun _ _=>(Zbo _ _).2
      zport:=fun _=>h.zport
      fil:=fun e=>absurd e h1
      sp:=fun e=>absurd e h2 }
    ·next h4=>
     rw[if_neg h4]at h0;have k:=ZcU _ h h1 h0;exact noop k.1 k.2
theorem Zqt{u base:U}(l:LB)(h:(Z2 u l base).1.op=true)(h0:Fs u)(hs:(Z2 u l base).2=0)(hb:base.sch=u.sch→St' base):(Z2 u l base).1.hq=u.hq:=by
 unfold Z2 at h hs ⊢
 split
 ·next h1=>
  rw[if_pos h1]at h hs
  rw[(ZnJ l h0 h1 (fun e=>hb (e.trans h1.symm)) hs).2]at h
  cases h
 next h1=>
  rw[if_neg h1]at h hs
  split
  ·next h2=>
   rw[if_pos h2]at h hs;unfold Zbf at h hs
   split at hs
   ·next h3=>
    rw[if_pos h3]at h;have hbs:=hb h3.1
    rw[(Zhi l h0 hbs h3.1 (Zj5 hbs (by rw[h3.1];exact h2)) hs).2]at h
    cases h
   ·next h3=>
    rw[if_neg h3]at h;rw[(ZcU _ h0 h1 hs).2]at h
    cases h
  next h2=>
   rw[if_neg h2]at h hs
   split
   ·rfl
   next h3=>
    rw[if_neg h3]at h hs
    split
    ·rfl
    ·next h4=>
     rw[if_neg h4]at h hs;rw[(ZcU _ h0 h1 hs).2]at h
     cases h
theorem ZsW{sch rest:LB}{found:Bool}{base:U}(hsc:sch≠[]→Zu0 sch)(hb:base.sch≠[]→St' base)(hn:found=false→base.sch=sch∧base.op=false)(hr:∀b∈rest,b≠35)(h0:(Zc4 sch rest found base).2=0):St' (Zc4 sch rest found base).1∧((Zc4 sch rest found base).1.op=true→(Zc4 sch rest found base).1.hq=(bcut (isB 63) rest).2.2∧(Zc4 sch rest found base).1.opath=encB S0 (clean (bcut (isB 63) rest).1)):=by
 have hl:∀b∈(bcut (isB 63) rest).1,b≠63∧b≠35:=fun b hb'=>⟨fun e=>by have:=Zmn (isB 63) rest b hb';rw[e]at this;exact absurd this (by decide),hr b ((Zu4 (isB 63) rest).1 b hb')⟩
 unfold Zc4 at h0 ⊢
 split
 ·next h1=>rw[if_pos h1]at h0;cases h0
 next h1=>
  rw[if_neg h1]at h0
  split
  ·next h2=>
   rw[if_pos h2]at h0
   have k:=Zqs (bcut (isB 63) rest).1 (Zk1 (rest:=rest) (hsc h1)) (fun e=>hb (by rw[e];exact h1)) hl h0
   refine⟨k.1,fun e=>⟨?_,k.2 e⟩⟩
   exact Zqt _ e (Zk1 (rest:=rest) (hsc h1)) h0 (fun e=>hb (by rw[e];exact h1))
  ·next h2=>
   rw[if_neg h2]at h0
   have e:=hn (by simpa using h2)
   have k:=Zhi (bcut (isB 63) rest).1 (Zk1 (rest:=rest) (hsc h1)) (hb (by rw[e.1];exact h1)) e.1 e.2 h0
   exact⟨k.1,fun x=>by rw[k.2]at x;cases x⟩
structure St (u:U):Prop where
 st:St' u
 blank:u.op=true→u.hq=false→u.hf=false→NoEnd u.opath
theorem ZnL(l:LB):∃a,l=a++(ZW l).2.1:=by
 unfold ZW
 split
 ·next h=>
  rcases Zfy (isB 58) l with⟨h1,-⟩|⟨-,c,h2⟩
  ·rw[h.1]at h1;cases h1
  ·exact⟨(bcut (isB 58) l).1++[c],by rw[Xb];exact h2⟩
 ·exact⟨[],rfl⟩
theorem Zu5(l:LB)(hf:Bool){base:U}(hb:base=zeroU∨St' base)(hl:∀b∈l,b≠35)(he:hf=false→NoEnd l)(h0:(ZbP l hf base).2=0):St' (ZbP l hf base).1∧((ZbP l hf base).1.op=true→(ZbP l hf base).1.hq=false→hf=false→NoEnd (ZbP l hf base).1.opath):=by
 have hb':base.sch≠[]→St' base:=fun hn=>hb.elim (fun e=>absurd (by rw[e];rfl) hn) id
 obtain⟨a,ha⟩:=ZnL l
 have hr:∀b∈(ZW l).2.1,b≠35:=fun b hb=>hl b (by rw[ha];simp[hb])
 have fin:∀ {v:U},(v.op=true→v.hq=(bcut (isB 63) (ZW l).2.1).2.2∧v.opath=encB S0 (clean (bcut (isB 63) (ZW l).2.1).1))→v.op=true→v.hq=false→hf=false→NoEnd v.opath:=by
  intro v hv h1 h2 h3;obtain⟨k1,k2⟩:=hv h1;rw[h2]at k1;rcases Zfy (isB 63) (ZW l).2.1 with⟨-,e⟩|⟨e,-⟩
  ·rw[e]at k2
   rw[k2];have hn:=he h3;rw[ha]at hn;exact hn.tail.enc
  ·rw[e]at k1;cases k1
 unfold ZbP at h0 ⊢
 split
 ·next h1=>
  rw[if_pos h1]at h0
  have k:=ZsW (sch:=(ZW l).1) (rest:=(ZW l).2.1) (found:=true) (fun _=>by
   unfold ZW at h1 ⊢
   split
   ·next h2=>exact Zj3 h2.2
   ·next h2=>rw[if_neg h2]at h1;cases h1) hb' (fun e=>by cases e) hr h0
  exact⟨k.1,fin k.2⟩
 next h1=>
  rw[if_neg h1]at h0
  split
  ·next h2=>
   rw[if_pos h2]at h0
   have hs:St' base:=hb.elim (fun e=>by rw[e]at h2;cases h2) id
   unfold Zc0 at h0 ⊢
   split
   ·next h3=>exact⟨hs,fun _ _ e=>by rw[h3.2]at e;cases e⟩
   ·next h3=>rw[if_neg h3]at h0;cases h0
  ·next h2=>
   rw[if_neg h2]at h0
   have k:=ZsW (sch:=base.sch) (rest:=(ZW l).2.1) (found:=false) (fun hn=>(hb' hn).sd.sc) hb' (fun _=>⟨rfl,by simpa using h2⟩) hr h0
   exact⟨k.1,fin k.2⟩
theorem Zu6(m:LB):∀a x,trimB m=a++[x]→ZaT x=false:=by
 intro a x h;unfold trimB at h;have h1:=congrArg List.reverse h;rw[List.reverse_reverse,List.reverse_append]at h1
 have h2:(List.dropWhile ZaT (List.dropWhile ZaT m).reverse).head?=some x:=by rw[h1];rfl
 have:=List.head?_dropWhile_not ZaT (List.dropWhile ZaT m).reverse;rw[h2]at this
 simpa using this
theorem ZsX(l:LB):NoEnd (wholeText l):=by
 intro a h;unfold wholeText noBreaks at h;rcases Xc (trimB (clean l))with hn|⟨y,x,hx⟩
 ·rw[hn]at h;exact absurd h (by simp)
 ·rw[Xa]at hx
  have hb:=Zu6 _ _ _ hx
  have hk:(!Zd5 x)=true:=by
   unfold ZaT at hb;unfold Zd5;have:=of_decide_eq_false hb
   have h1:((x.toNat:Int)==9)=false:=beq_eq_false_iff_ne.2 (by omega)
   have h2:((x.toNat:Int)==10)=false:=beq_eq_false_iff_ne.2 (by omega)
   have h3:((x.toNat:Int)==13)=false:=beq_eq_false_iff_ne.2 (by omega)
   rw[h1,h2,h3];rfl
  rw[hx,List.filter_append]at h
  have hf1:List.filter (fun b=>!Zd5 b) [x]=[x]:=by simp only[List.filter,hk]
  rw[hf1]at h;have e:=Xf h rfl;simp only[List.cons.injEq,and_true]at e;subst e
  exact absurd hb (by decide)
theorem Zhj(l:LB){base:U}(hb:base=zeroU∨St' base)(h0:(Zan l base).2=0):St (Zan l base).1:=by
 have hwf:=Zqo l (base:=base) (hb.elim (fun e=>by rw[e];exact ZdU) (fun h=>h.wf))
 have hsd:=Zqr l (base:=base) (hb.elim Or.inl (fun h=>Or.inr h.sd)) h0
 unfold Zan Zg3 at h0 hwf hsd ⊢
 split
 ·next h1=>rw[if_pos h1]at h0;exact absurd h0 h1
 ·next h1=>
  rw[if_neg h1]at hwf hsd
  have hl:∀b∈(bcut (isB 35) (wholeText l)).1,b≠35:=fun b hb' e=>by have:=Zmn (isB 35) _ b hb';rw[e]at this;exact absurd this (by decide)
  have h:=Zu5 (bcut (isB 35) (wholeText l)).1 (bcut (isB 35) (wholeText l)).2.2 hb hl (fun e=>by
   rcases Zfy (isB 35) (wholeText l)with⟨-,e2⟩|⟨e2,-⟩
   ·rw[e2];exact ZsX l
   ·rw[e2]at e;cases e) (Classical.not_not.1 h1)
  refine⟨{ h.1 with sd:=hsd,wf:=hwf,afr:=ZcP Zxu _ },fun e1 e2 e3=>h.2 e1 e2 e3⟩
theorem Zqu{base:LB}{b:Bool}(h3:(Zc8 base b).2=0):(Zc8 base b).1=zeroU∨St' (Zc8 base b).1:=by
 unfold Zc8 at h3 ⊢
 split
 ·exact Or.inl rfl
 next h4=>
  rw[if_neg h4]at h3
  split
  ·exact Or.inl rfl
  next h5=>
   rw[if_neg h5]at h3;exact Or.inr (Zhj base (Or.inl rfl) h3).st
theorem Zu7(l base:LB)(b:Bool)(h0:(Zcp l base b).2=0):St (Zcp l base b).1:=by
 unfold Zcp at h0 ⊢
 split
 ·next h1=>rw[if_pos h1]at h0;cases h0
 next h1=>
  rw[if_neg h1]at h0
  split
  ·next h2=>rw[if_pos h2]at h0;exact absurd h0 h2
  next h2=>
   rw[if_neg h2]at h0;exact Zhj l (Zqu (Classical.not_not.1 h2)) h0
theorem Asis.ne{set l:LB}(h:Asis set l){c:UInt8}(hc:among (c.toNat:Int) set=true):∀b∈l,b≠c:=fun b hb e=>by
 subst e;have:=(h b hb).2.2;rw[hc]at this
 cases this
end Go.Proofs.YtchkhibgbnhjpaaGreatDoor
