import Derived.Test.YtchkhibgbnhjpabGreatDoorV19
open Bool renaming or_eq_false_iff→Xg,and_eq_true→Xj
open List renaming concat_eq_append→Xa,append_assoc→Xb,eq_nil_or_concat→Xc,mem_cons→Xd,getLast?_singleton→Xe,append_inj_right'→Xf,getLast?_append→Xh,mem_singleton→Xi,length_drop→Xk,map_cons→Xl
namespace Go.Proofs.YtchkhibgbnhjpabGreatDoor
open Go.RowKit
def PrS(ps:List (List UInt8)):Prop:=∀p∈ps,Pr p
theorem Zlj{ps:List LB}(h:PrS ps)(n:Nat):PrS (ps.take n):=fun p hp=>h p (List.mem_of_mem_take hp)
theorem Zow{a b:List LB}(ha:PrS a)(hb:PrS b):PrS (a++b):=fun x hx=>(List.mem_append.1 hx).elim (ha x) (hb x)
theorem Zox{s:LB}(h:Pr s):PrS [s]:=fun p hp=>by rw[Xi]at hp;subst hp;exact h
theorem ZhU:PrS []:=fun p hp=>by cases hp
theorem Zqq{c:UInt8}(h:Zbv c.toNat=true):32≤c.toNat∧c.toNat≤126:=by
 unfold Zbv at h;have:=of_decide_eq_true h
 omega
theorem Zoy{l:LB}(h:Zaf l=true):Pr (l.take 1):=by
 unfold Zaf at h
 split at h
 ·next a b=>
  rw[Xj]at h;have:=Zqq h.1;exact ZaX this.1 this.2
 ·cases h
theorem ZiY{f:Bool}{ps:List LB}(h:PrS ps):PrS (ZaC f ps):=by
 unfold ZaC
 split
 ·exact h
 ·exact Zlj h _
theorem Zqr{f:Bool}{ps:List LB}(s:LB)(h:PrS ps):PrS (joinL f ps s):=by
 unfold joinL
 refine Zow h (Zox ?_)
 split
 ·next hd=>exact Zar (Zoy hd.2.2) (ZaX (by decide) (by decide))
 ·exact ZcS _ _
theorem ZrE{f:Bool}{ps:List LB}(s:LB)(last:Bool)(h:PrS ps):PrS (ZcF f ps s last):=by
 have h2:PrS (if countDots s=2 then ZaC f ps else ps):=by
  split
  ·exact ZiY h
  ·exact h
 unfold ZcF
 split
 ·exact Zqr s h
 split
 ·exact Zow h2 (Zox pr_nil)
 ·exact h2
theorem Zqs{f:Bool}(ss:List LB):∀ps,PrS ps→PrS (Zbu f ps ss):=by
 induction ss with
 | nil=>intro ps h;rw[Zbu];exact h
 | cons x r ih=>
  intro ps h
  cases r with
  | nil=>rw[Zbu];exact ZrE x true h
  | cons y q=>rw[Zbu];exact ih _ (ZrE x false h)
theorem Zua(f:Bool)(ps:List LB)(s:LB):ZcF f ps s true≠[]:=by
 unfold ZcF
 split
 ·unfold joinL;simp
 ·simp
theorem Zoz{f:Bool}(ss:List LB):∀ps,ss≠[]→Zbu f ps ss≠[]:=by
 induction ss with
 | nil=>intro ps h;exact absurd rfl h
 | cons x r ih=>
  intro ps h
  cases r with
  | nil=>rw[Zbu];exact Zua f ps x
  | cons y q=>rw[Zbu];exact ih _ (by simp)
theorem Zf3(f sp:Bool){ps:List LB}(t:LB)(h:PrS ps):PrS (ZaR f sp ps t)∧ZaR f sp ps t≠[]:=by
 unfold ZaR
 refine⟨Zqs _ _ h,Zoz _ _ ?_⟩
 obtain⟨x,q,hx⟩:=Zdd (slB sp) t;rw[hx]
 simp
theorem ZaU(t sch:LB):PrS (Zbg t sch)∧Zbg t sch≠[]:=Zf3 _ _ t ZhU
theorem ZdJ{b:List LB}(t sch:LB)(h:PrS b):PrS (Zcu b t sch)∧Zcu b t sch≠[]:=Zf3 _ _ t (ZiY h)
theorem Zf4{b:List LB}(t:LB)(h:PrS b):PrS (ZaK b t)∧ZaK b t≠[]:=by
 unfold ZaK
 split
 ·exact ZaU _ _
 ·exact Zf3 _ _ t (Zlj h _)
structure ScOk (l:List UInt8):Prop where
 ne:l≠[]
 first:∀c r,l=c::r→97≤c.toNat∧c.toNat≤122
 all:∀b∈l,(97≤b.toNat∧b.toNat≤122)∨(48≤b.toNat∧b.toNat≤57)∨b.toNat=43∨b.toNat=45∨b.toNat=46
theorem ScOk.pr{l:LB}(h:ScOk l):Pr l:=fun b hb=>by have:=h.all b hb;omega
theorem Zg7{c:UInt8}(h:Zbv c.toNat=true):97≤(Zik c).toNat∧(Zik c).toNat≤122:=by
 unfold Zbv at h;have h1:=of_decide_eq_true h;unfold Zik
 split
 ·next hc=>rw[UInt8.toNat_add];have:(32:UInt8).toNat=32:=rfl;rw[this];omega
 ·omega
theorem Zg8{l:LB}(h:Zbq l=true):ScOk (Zae l):=by
 cases l with
 | nil=>cases h
 | cons c r=>
  simp only[Zbq,Xj]at h;have hc:=Zg7 h.1
  refine⟨by simp[Zae],?_,?_⟩
  ·intro d q e
   simp only[Zae,Xl,List.cons.injEq]at e;rw[←e.1];exact hc
  ·intro b hb
   simp only[Zae,Xl,Xd]at hb;rcases hb with rfl|hb
   ·exact Or.inl hc
   ·obtain⟨x,hx,rfl⟩:=List.mem_map.1 hb
    have hm:=List.all_eq_true.1 h.2 x hx;unfold ZfP at hm;simp only[Bool.or_eq_true,beq_iff_eq,decide_eq_true_eq]at hm;rcases hm with(((h1|h1)|h1)|h1)|h1
    ·right;right;left;unfold Zik;split<;>omega
    ·right;right;right;left;unfold Zik;split<;>omega
    ·right;right;right;right;unfold Zik;split<;>omega
    ·right;left;unfold Zik;split<;>omega
    ·exact Or.inl (Zg7 h1)
structure Sd (u:U):Prop where
 sc:ScOk u.sch
 pnam:Pr u.nam
 ppw:Pr u.pw
 phost:Pr u.host
 popath:Pr u.opath
 psegs:PrS u.segs
 pq:Pr u.q
 pfr:Pr u.fr
 port:u.hp=true→u.port≤65535∧((ZM u.sch).2=true→(u.port:Int)≠(ZM u.sch).1)
 who:u.host=[]∨u.sch=Zw→u.nam=[]∧u.pw=[]∧u.hp=false
 sp:Zb u.sch=true→u.op=false∧u.segs≠[]
 hst:Zb u.sch=true→u.sch≠Zw→u.host≠[]
structure Fr (u:U):Prop where
 sc:ScOk u.sch
 pq:Pr u.q
 pfr:Pr u.fr
 znam:u.nam=[]
 zpw:u.pw=[]
 zhost:u.host=[]
 zhp:u.hp=false
 zop:u.op=false
 zopath:u.opath=[]
 zsegs:u.segs=[]
theorem ZhV{sch:LB}(hq:Bool)(q:LB)(h:ScOk sch):Fr (ZbI sch hq q):=⟨h,ZcS _ _,pr_nil,rfl,rfl,rfl,rfl,rfl,rfl,rfl⟩
theorem Zdp{u:U}{hh:Bool}{host:LB}{segs:List LB}(h:Fr u)(hf:u.sch=Zw)(hp:Pr host)(hs:PrS segs∧segs≠[]):Sd { u with hh:=hh,host:=host,segs:=segs } where
 sc:=h.sc
 pnam:=by show Pr u.nam;rw[h.znam];exact pr_nil
 ppw:=by show Pr u.pw;rw[h.zpw];exact pr_nil
 phost:=hp
 popath:=by show Pr u.opath;rw[h.zopath];exact pr_nil
 psegs:=hs.1
 pq:=h.pq
 pfr:=h.pfr
 port:=fun e=>by have e':u.hp=true:=e;rw[h.zhp]at e';cases e'
 who:=fun _=>⟨h.znam,h.zpw,h.zhp⟩
 sp:=fun _=>⟨h.zop,hs.2⟩
 hst:=fun _ hn=>absurd hf hn
theorem Sd.noq{u:U}(h:Sd u)(b:Bool){q:LB}(hq:Pr q):Sd { u with hq:=b,q:=q }:={ h with pq:=hq }
theorem Ze2(l:LB):Pr (ZH l).1:=by
 unfold ZH
 (repeat' split)
 ·exact pr_nil
 ·exact pr_nil
 ·exact pr_nil
 ·exact Zk9 _ _
theorem Zj9{u:U}(t:LB)(h:Fr u)(hf:u.sch=Zw)(h0:(ZY u t).2=0):Sd (ZY u t).1:=by
 unfold ZY at h0 ⊢
 split
 ·have k:=Zdp (u:=u) (hh:=u.hh) (host:=u.host) h hf (by rw[h.zhost];exact pr_nil) (ZaU t u.sch)
  exact k
 next h1=>
  rw[if_neg h1]at h0
  split
  ·next h2=>rw[if_pos h2]at h0;exact absurd h0 h2
  ·exact Zdp (u:=u) (hh:=u.hh) h hf (Ze2 _) (ZaU _ _)
theorem Zgy{u base:U}(l:LB)(h:Fr u)(hf:u.sch=Zw)(hb:Sd base)(hbf:base.sch=Zw):Sd (Zal { u with hh:=true,host:=base.host } l base):=by
 unfold Zal
 split
 ·have hsp:Zb base.sch=true:=by rw[hbf];decide
  refine(Zdp (u:=u) (hh:=true) h hf hb.phost ⟨hb.psegs,(hb.sp hsp).2⟩).noq _ ?_
  split
  ·exact h.pq
  ·exact hb.pq
 ·exact Zdp (u:=u) (hh:=true) h hf hb.phost (ZdJ _ _ hb.psegs)
theorem ZoA{u base:U}(l:LB)(h:Fr u)(hf:u.sch=Zw)(hb:base.sch=Zw→Sd base)(h0:(Zcv u l base).2=0):Sd (Zcv u l base).1:=by
 unfold Zcv at h0 ⊢
 split
 ·next h1=>rw[if_pos h1]at h0;exact Zj9 _ { h with } hf h0
 next h1=>
  rw[if_neg h1]at h0
  split
  ·exact Zdp (u:=u) (hh:=true) (host:=u.host) h hf (by rw[h.zhost];exact pr_nil) (ZaU _ _)
  next h2=>
   have hbf:base.sch=Zw:=Classical.not_not.1 h2;have hs:=hb hbf
   split
   ·exact Zdp (u:=u) (hh:=true) h hf hs.phost (Zf4 _ hs.psegs)
   split
   ·exact Zdp (u:=u) (hh:=true) h hf hs.phost (ZaU _ _)
   ·exact Zgy l h hf hs hbf
structure Sh (u:U):Prop where
 sc:ScOk u.sch
 pnam:Pr u.nam
 ppw:Pr u.pw
 phost:Pr u.host
 popath:Pr u.opath
 psegs:PrS u.segs
 pq:Pr u.q
 pfr:Pr u.fr
 port:u.hp=true→u.port≤65535∧((ZM u.sch).2=true→(u.port:Int)≠(ZM u.sch).1)
 who:u.host=[]∨u.sch=Zw→u.nam=[]∧u.pw=[]∧u.hp=false
 op:u.op=false
 hst:Zb u.sch=true→u.sch≠Zw→u.host≠[]
theorem Sh.sd{u:U}(h:Sh u)(hs:Zb u.sch=true→u.segs≠[]):Sd u:=⟨h.sc,h.pnam,h.ppw,h.phost,h.popath,h.psegs,h.pq,h.pfr,h.port,h.who,fun e=>⟨h.op,hs e⟩,h.hst⟩
theorem Sh.segs{u:U}(h:Sh u){s:List LB}(hs:PrS s∧s≠[]):Sd { u with segs:=s }:=⟨h.sc,h.pnam,h.ppw,h.phost,h.popath,hs.1,h.pq,h.pfr,h.port,h.who,fun _=>⟨h.op,hs.2⟩,h.hst⟩
theorem Sh.segs'{u:U}(h:Sh u){s:List LB}(hs:PrS s)(hn:Zb u.sch=true→s≠[]):Sd { u with segs:=s }:=⟨h.sc,h.pnam,h.ppw,h.phost,h.popath,hs,h.pq,h.pfr,h.port,h.who,fun e=>⟨h.op,hn e⟩,h.hst⟩
theorem ZiZ{p:LB}(h:(Zu p).1=[])(h2:(Zu p).2.2=false):p=[]:=by
 unfold Zu at h h2
 cases hc:cutPortGo false p with
 | none=>rw[hc]at h;exact h
 | some q=>rw[hc]at h2;cases h2
theorem Zi0{p:LB}(h2:(Zu p).2.2=false):(Zu p).2.1=[]:=by
 unfold Zu at h2 ⊢
 cases hc:cutPortGo false p with
 | none=>rfl
 | some q=>rw[hc]at h2;cases h2
structure Fp (u:U) (p:List UInt8):Prop where
 sc:ScOk u.sch
 nf:u.sch≠Zw
 pnam:Pr u.nam
 ppw:Pr u.pw
 pq:Pr u.q
 pfr:Pr u.fr
 popath:Pr u.opath
 psegs:PrS u.segs
 zop:u.op=false
 zhp:u.hp=false
 user:p=[]→u.nam=[]∧u.pw=[]
theorem ZoB{u:U}{p:Int}(h:Sh u)(h0:0≤p)(h1:p≤65535)(hh:u.host≠[])(hf:u.sch≠Zw):Sh (ZaW u p):=by
 unfold ZaW
 split
 ·exact { h with port:=fun e=>(by cases e),who:=fun e=>(e.elim (fun e=>absurd e hh) (fun e=>absurd e hf)) }
 ·next hn=>
  refine { h with port:=fun _=>⟨by show p.toNat≤65535;omega,fun ho e=>hn ⟨ho,?_⟩⟩,who:=fun e=>(e.elim (fun e=>absurd e hh) (fun e=>absurd e hf)) }
  have e':((p.toNat:Nat):Int)=(ZM u.sch).1:=e
  omega
theorem Zqt{u:U}{p:LB}(h:Fp u p)(h0:(ZP u p).2=0):Sh (ZP u p).1:=by
 unfold ZP at h0 ⊢
 split
 ·next h1=>rw[if_pos h1]at h0;cases h0
 next h1=>
  rw[if_neg h1]at h0
  split
  ·next h2=>rw[if_pos h2]at h0;exact absurd h0 h2
  next h2=>
   rw[if_neg h2]at h0;have he:(ZI (Zu p).1 (Zb u.sch)).2=0:=Classical.not_not.1 h2
   have hx:(ZI (Zu p).1 (Zb u.sch)).1=[]→(Zu p).1=[]:=fun e=>Classical.byContradiction fun hn=>Zp8 hn he e
   have key:Sh { u with hh:=true,host:=(ZI (Zu p).1 (Zb u.sch)).1 }:={
    sc:=h.sc,pnam:=h.pnam,ppw:=h.ppw,phost:=Zk9 _ _,popath:=h.popath,psegs:=h.psegs,pq:=h.pq,pfr:=h.pfr
    port:=fun e=>by have e':u.hp=true:=e;rw[h.zhp]at e';cases e'
    who:=fun e=>by
     rcases e with e|e
     ·have e1:=hx e
      have e2:(Zu p).2.2=false:=by
       cases hc:(Zu p).2.2
       ·rfl
       ·exact absurd ⟨e1,Or.inr hc⟩ h1
      have e3:=h.user (ZiZ e1 e2);exact⟨e3.1,e3.2,h.zhp⟩
     ·exact absurd e h.nf
    op:=h.zop
    hst:=fun hs _ e=>h1 ⟨hx e,Or.inl hs⟩ }
   split
   ·exact key
   next h3=>
    rw[if_neg h3]at h0;unfold ZdO at h0 ⊢
    split
    ·next h4=>rw[if_pos h4]at h0;cases h0
    ·have hr:=Zdi (Zu p).2.1
     refine ZoB key hr.1 hr.2 ?_ h.nf
     intro e;have e1:=hx e
     have e2:(Zu p).2.2=false:=by
      cases hc:(Zu p).2.2
      ·rfl
      ·exact absurd ⟨e1,Or.inr hc⟩ h1
     exact h3 (Zi0 e2)
theorem Zmk(u:U)(p:Int):(ZaW u p).sch=u.sch:=by unfold ZaW;split<;>rfl
theorem ZoC{u:U}{p:LB}(h0:(ZP u p).2=0):(ZP u p).1.sch=u.sch:=by
 unfold ZP at h0 ⊢
 split
 ·next h1=>rw[if_pos h1]at h0;cases h0
 next h1=>
  rw[if_neg h1]at h0
  split
  ·next h2=>rw[if_pos h2]at h0;exact absurd h0 h2
  next h2=>
   rw[if_neg h2]at h0
   split
   ·rfl
   next h3=>
    rw[if_neg h3]at h0;unfold ZdO at h0 ⊢
    split
    ·next h4=>rw[if_pos h4]at h0;cases h0
    ·exact Zmk _ _
theorem Zfq:Zgn []=[]:=by unfold Zgn;rw[Za3]
theorem Zka(n:Int)(l:LB)(h:(bcutLast n l).2.2=false):(bcutLast n l).1=[]:=by
 cases l with
 | nil=>rw[bcutLast]
 | cons c r=>
  rw[bcutLast]at h ⊢
  split at h
  ·next hr=>have h':(bcutLast n r).2.2=false:=h;rw[hr]at h';cases h'
  ·next hr=>
   rw[if_neg hr]
   split
   ·rfl
   ·rfl
theorem Zcn{u:U}(t:LB)(h:Fr u)(hf:u.sch≠Zw)(h0:(Zs u t).2=0):Sd (Zs u t).1:=by
 unfold Zs at h0 ⊢
 split
 ·next h1=>rw[if_pos h1]at h0;cases h0
 next h1=>
  rw[if_neg h1]at h0;unfold ZbR at h0 ⊢
  split
  ·next h2=>rw[if_pos h2]at h0;exact absurd h0 h2
  next h2=>
   rw[if_neg h2]at h0
   have hp:=Zqt (u:={ u with nam:=Zgn (bcut (isB 58) (bcutLast 64 (bcut (slB (Zb u.sch)) t).1).1).1,pw:=Zgn (bcut (isB 58) (bcutLast 64 (bcut (slB (Zb u.sch)) t).1).1).2.1 }) (p:=(bcutLast 64 (bcut (slB (Zb u.sch)) t).1).2.1)
    { sc:=h.sc,nf:=hf,pnam:=ZcS _ _,ppw:=ZcS _ _,pq:=h.pq,pfr:=h.pfr
      popath:=by show Pr u.opath;rw[h.zopath];exact pr_nil
      psegs:=by show PrS u.segs;rw[h.zsegs];exact ZhU
      zop:=h.zop,zhp:=h.zhp
      user:=fun e=>by
       have e1:(bcutLast 64 (bcut (slB (Zb u.sch)) t).1).2.2=false:=by
        cases hc:(bcutLast 64 (bcut (slB (Zb u.sch)) t).1).2.2
        ·rfl
        ·exact absurd ⟨hc,e⟩ h1
       have e2:=Zka _ _ e1
       constructor
       ·show Zgn (bcut (isB 58) (bcutLast 64 (bcut (slB (Zb u.sch)) t).1).1).1=[]
        rw[e2];exact Zfq
       ·show Zgn (bcut (isB 58) (bcutLast 64 (bcut (slB (Zb u.sch)) t).1).1).2.1=[]
        rw[e2];exact Zfq } (Classical.not_not.1 h2)
   split
   ·exact hp.segs (ZaU _ _)
   next h3=>
    refine hp.sd fun e=>absurd ?_ h3
    have:Zb u.sch=true:=by have e':=e;rw[ZoC (Classical.not_not.1 h2)]at e';exact e'
    rw[this];rfl
theorem ZoD{u base:U}(h:Fr u)(hb:Sd base)(hs:base.sch=u.sch):Sh (kept u base) where
 sc:=h.sc
 pnam:=hb.pnam
 ppw:=hb.ppw
 phost:=hb.phost
 popath:=by show Pr u.opath;rw[h.zopath];exact pr_nil
 psegs:=by show PrS u.segs;rw[h.zsegs];exact ZhU
 pq:=h.pq
 pfr:=h.pfr
 port:=fun e=>by have:=hb.port e;rw[hs]at this;exact this
 who:=fun e=>hb.who (by rw[hs];exact e)
 op:=h.zop
 hst:=fun e=>by have:=hb.hst;rw[hs]at this;exact this e
theorem ZoE{u base:U}(l:LB)(h:Fr u)(hb:Sd base)(hs:base.sch=u.sch):Sd (Zal (kept u base) l base):=by
 have hk:=ZoD h hb hs;unfold Zal
 split
 ·refine(hk.segs' hb.psegs fun e=>(hb.sp (by rw[hs];exact e)).2).noq _ ?_
  split
  ·exact h.pq
  ·exact hb.pq
 ·exact hk.segs (ZdJ _ _ hb.psegs)
theorem ZeF{u base:U}(l:LB)(h:Fr u)(hb:Sd base)(hs:base.sch=u.sch)(h0:(ZV u l base).2=0):Sd (ZV u l base).1:=by
 unfold ZV at h0 ⊢
 split
 ·next h1=>rw[if_pos h1]at h0;exact ZoA l h h1 (fun _=>hb) h0
 next h1=>
  rw[if_neg h1]at h0
  split
  ·next h2=>rw[if_pos h2]at h0;exact Zcn _ h h1 h0
  split
  ·exact(ZoD h hb hs).segs (ZaU _ _)
  ·exact ZoE l h hb hs
theorem Zml{u base:U}(l:LB)(h:Fr u)(hf:u.sch≠Zw)(hb:base.sch=u.sch→Sd base)(h0:(Zay u l base).2=0):Sd (Zay u l base).1:=by
 unfold Zay at h0 ⊢
 split
 ·next h1=>rw[if_pos h1]at h0;exact ZeF l h (hb h1.1) h1.1 h0
 ·next h1=>rw[if_neg h1]at h0;exact Zcn _ h hf h0
theorem Zg9{u base:U}(l:LB)(h:Fr u)(hb:base.sch=u.sch→Sd base)(h0:(ZQ u l base).2=0):Sd (ZQ u l base).1:=by
 unfold ZQ at h0 ⊢
 split
 ·next h1=>rw[if_pos h1]at h0;exact ZoA l h h1 (fun e=>hb (e.trans h1.symm)) h0
 next h1=>
  rw[if_neg h1]at h0
  split
  ·next h2=>rw[if_pos h2]at h0;exact Zml l h h1 hb h0
  next h2=>
   rw[if_neg h2]at h0
   have bare:∀(o:Bool) (x:LB) (s:List LB),Pr x→PrS s→Sd { u with op:=o,opath:=x,segs:=s }:=fun o x s hx hs=>{
    sc:=h.sc
    pnam:=by show Pr u.nam;rw[h.znam];exact pr_nil
    ppw:=by show Pr u.pw;rw[h.zpw];exact pr_nil
    phost:=by show Pr u.host;rw[h.zhost];exact pr_nil
    popath:=hx
    psegs:=hs
    pq:=h.pq
    pfr:=h.pfr
    port:=fun e=>by have e':u.hp=true:=e;rw[h.zhp]at e';cases e'
    who:=fun _=>⟨h.znam,h.zpw,h.zhp⟩
    sp:=fun e=>absurd e h2
    hst:=fun e=>absurd e h2 }
   split
   ·exact bare true _ u.segs (ZcS _ _) (by rw[h.zsegs];exact ZhU)
   next h3=>
    rw[if_neg h3]at h0
    split
    ·exact bare u.op u.opath _ (by rw[h.zopath];exact pr_nil) (ZaU _ _).1
    ·next h4=>rw[if_neg h4]at h0;exact Zcn _ h h1 h0
theorem ZoF{sch rest:LB}{found:Bool}{base:U}(hsc:sch≠[]→ScOk sch)(hb:base.sch≠[]→Sd base)(hn:found=false→base.sch=sch)(h0:(ZbY sch rest found base).2=0):Sd (ZbY sch rest found base).1:=by
 unfold ZbY at h0 ⊢
 split
 ·next h1=>rw[if_pos h1]at h0;cases h0
 next h1=>
  rw[if_neg h1]at h0
  split
  ·next h2=>rw[if_pos h2]at h0;exact Zg9 _ (ZhV _ _ (hsc h1)) (fun e=>hb (by rw[e];exact h1)) h0
  ·next h2=>
   rw[if_neg h2]at h0
   have e:=hn (by simpa using h2)
   exact ZeF _ (ZhV _ _ (hsc h1)) (hb (by rw[e];exact h1)) e h0
theorem Zqu(l:LB)(hf:Bool){base:U}(hb:base=zeroU∨Sd base)(h0:(ZaT l hf base).2=0):Sd (ZaT l hf base).1:=by
 have hb':base.sch≠[]→Sd base:=fun hn=>hb.elim (fun e=>absurd (by rw[e];rfl) hn) id
 unfold ZaT at h0 ⊢
 split
 ·next h1=>
  rw[if_pos h1]at h0
  refine ZoF (fun _=>?_) hb' (fun e=>by cases e) h0
  unfold Zax at h1 ⊢
  split
  ·next h2=>exact Zg8 h2.2
  ·next h2=>rw[if_neg h2]at h1;cases h1
 next h1=>
  rw[if_neg h1]at h0
  split
  ·next h2=>
   rw[if_pos h2]at h0
   have hs:Sd base:=hb.elim (fun e=>by rw[e]at h2;cases h2) id
   unfold ZbQ at h0 ⊢
   split
   ·exact hs
   ·next h3=>rw[if_neg h3]at h0;cases h0
  ·next h2=>
   rw[if_neg h2]at h0
   exact ZoF (fun hn=>(hb' hn).sc) hb' (fun _=>rfl) h0
theorem Zmm(l:LB){base:U}(hb:base=zeroU∨Sd base)(h0:(ZD l base).2=0):Sd (ZD l base).1:=by
 unfold ZD Zgv at h0 ⊢
 split
 ·next h1=>rw[if_pos h1]at h0;exact absurd h0 h1
 ·next h1=>
  have h:=Zqu (bcut (isB 35) (wholeText l)).1 (bcut (isB 35) (wholeText l)).2.2 hb (Classical.not_not.1 h1)
  exact { h with pfr:=ZcS _ _ }
abbrev S0:List UInt8:=tl (ZaN 0)
abbrev S1:List UInt8:=tl (ZaN 1)
abbrev S5:List UInt8:=tl (ZaN 5)
abbrev SQ(sch:List UInt8):List UInt8:=tl (ZaN (Zbr sch))
theorem Ztx(sch:LB):Zgx (SQ sch):=by
 unfold SQ Zbr
 split
 ·exact Zti
 ·exact Zth
theorem ZaM(set:LB):Asis set []:=fun b hb=>by cases hb
def NoEnd(l:List UInt8):Prop:=∀a,l≠a++[32]
structure St' (u:U):Prop where
 sd:Sd u
 wf:Wf u
 anam:Asis S5 u.nam
 apw:Asis S5 u.pw
 ahost:HostT u.host
 fhost:u.host≠[]→ZI u.host (Zb u.sch)=(u.host,0)
 seg:ZdP (u.sch==Zw) (Zb u.sch) u.segs
 aq:Asis (SQ u.sch) u.q
 afr:Asis S1 u.fr
 opq:u.op=true→u.segs=[]∧u.hh=false∧countSl false u.opath=0∧∀b∈u.opath,b≠63∧b≠35
 zop:u.op=false→u.opath=[]
 pth:u.op=false→u.hh=false→u.segs≠[]
 zport:u.hp=false→u.port=0
 fil:u.sch=Zw→u.host≠Zej
 sp:Zb u.sch=true→u.hh=true
structure Fs (u:U):Prop where
 fr:Fr u
 wf:Wf u
 aq:Asis (SQ u.sch) u.q
 zfr:u.fr=[]
 zport:u.port=0
 zhh:u.hh=false
theorem ZhW{sch rest:LB}(h:ScOk sch):Fs (ZbI sch (bcut (isB 63) rest).2.2 (bcut (isB 63) rest).2.1):=
 ⟨ZhV _ _ h,ZhT _ _ _ (Zdo _ _),ZbL (Ztx _) _,rfl,rfl,rfl⟩
theorem Zsw{s:List LB}{sch:LB}(hf:sch=Zw)(h:ZdP true true s):ZdP (sch==Zw) (Zb sch) s:=by subst hf;exact h
theorem ZcU{s:List LB}{sch:LB}(hf:sch=Zw)(h:ZdP (sch==Zw) (Zb sch) s):ZdP true true s:=by subst hf;exact h
theorem ZcV{u:U}{host:LB}{segs:List LB}{hq:Bool}{q:LB}(h:Fs u)(hf:u.sch=Zw)(ht:HostT host)(hp:Pr host)(hfix:host≠[]→ZI host true=(host,0))(hl:host≠Zej)(hs:ZdP true true segs)(hsp:PrS segs∧segs≠[])(hqa:Asis (SQ u.sch) q)(hqp:Pr q)(hqn:hq=false→q=[]):
  St' { u with hh:=true,host:=host,segs:=segs,hq:=hq,q:=q } where
 sd:=(Zdp (u:=u) (hh:=true) h.fr hf hp hsp).noq hq hqp
 wf:=⟨fun e=>(by cases e),hqn,h.wf.nf⟩
 anam:=by show Asis S5 u.nam;rw[h.fr.znam];exact ZaM _
 apw:=by show Asis S5 u.pw;rw[h.fr.zpw];exact ZaM _
 ahost:=ht
 fhost:=fun e=>by show ZI host (Zb u.sch)=_;rw[hf,file_special];exact hfix e
 seg:=Zsw hf hs
 aq:=hqa
 afr:=by show Asis S1 u.fr;rw[h.zfr];exact ZaM _
 opq:=fun e=>by have e':u.op=true:=e;rw[h.fr.zop]at e';cases e'
 zop:=fun _=>h.fr.zopath
 pth:=fun _ e=>by cases e
 zport:=fun _=>h.zport
 fil:=fun _=>hl
 sp:=fun _=>rfl
theorem local_ne:([]:LB)≠Zej:=by decide
theorem Zi1{l:LB}:HostT (ZH l).1∧((ZH l).1≠[]→ZI (ZH l).1 true=((ZH l).1,0))∧(ZH l).1≠Zej:=by
 unfold ZH
 split
 ·exact⟨hostT_nil,fun e=>absurd rfl e,local_ne⟩
 next h1=>
  split
  ·exact⟨hostT_nil,fun e=>absurd rfl e,local_ne⟩
  next h2=>
   split
   ·exact⟨hostT_nil,fun e=>absurd rfl e,local_ne⟩
   ·next h3=>exact⟨hostL_T,fun _=>ZiP (Classical.not_not.1 h2),h3⟩
theorem Zkb{u:U}(t:LB)(h:Fs u)(hf:u.sch=Zw)(h0:(ZY { u with hh:=true } t).2=0):St' (ZY { u with hh:=true } t).1∧(ZY { u with hh:=true } t).1.op=false:=by
 unfold ZY at h0 ⊢
 split
 ·exact⟨ZcV (u:=u) (host:=u.host) (hq:=u.hq) (q:=u.q) h hf (by rw[h.fr.zhost];exact hostT_nil) (by rw[h.fr.zhost];exact pr_nil) (fun e=>absurd h.fr.zhost e) (by rw[h.fr.zhost];exact local_ne) (ZcU hf (Zdm t u.sch)) (ZaU t u.sch) h.aq h.fr.pq h.wf.nq,h.fr.zop⟩
 next h1=>
  rw[if_neg h1]at h0
  split
  ·next h2=>rw[if_pos h2]at h0;exact absurd h0 h2
  ·have hk:=Zi1 (l:=(bcut (slB true) t).1)
   exact⟨ZcV (u:=u) (hq:=u.hq) (q:=u.q) h hf hk.1 (Ze2 _) hk.2.1 hk.2.2 (ZcU hf (Zdm _ u.sch)) (ZaU _ _) h.aq h.fr.pq h.wf.nq,h.fr.zop⟩
theorem Zkc{u base:U}(l:LB)(h:Fs u)(hf:u.sch=Zw)(hb:base.sch=Zw→St' base)(h0:(Zcv u l base).2=0):St' (Zcv u l base).1∧(Zcv u l base).1.op=false:=by
 unfold Zcv at h0 ⊢
 split
 ·next h1=>rw[if_pos h1]at h0;exact Zkb _ h hf h0
 next h1=>
  rw[if_neg h1]at h0
  split
  ·exact⟨ZcV (u:=u) (host:=u.host) (hq:=u.hq) (q:=u.q) h hf (by rw[h.fr.zhost];exact hostT_nil) (by rw[h.fr.zhost];exact pr_nil) (fun e=>absurd h.fr.zhost e) (by rw[h.fr.zhost];exact local_ne) (ZcU hf (Zdm _ u.sch)) (ZaU _ _) h.aq h.fr.pq h.wf.nq,h.fr.zop⟩
  next h2=>
   have hbf:base.sch=Zw:=Classical.not_not.1 h2;have hs:=hb hbf
   have hsp:Zb base.sch=true:=by rw[hbf];exact file_special
   have hfx:base.host≠[]→ZI base.host true=(base.host,0):=fun e=>by have:=hs.fhost e;rwa [hsp]at this
   split
   ·exact⟨ZcV (u:=u) (hq:=u.hq) (q:=u.q) h hf hs.ahost hs.sd.phost hfx (hs.fil hbf) (Zqg _ (ZcU hbf hs.seg)) (Zf4 _ hs.sd.psegs) h.aq h.fr.pq h.wf.nq,h.fr.zop⟩
   split
   ·exact⟨ZcV (u:=u) (hq:=u.hq) (q:=u.q) h hf hs.ahost hs.sd.phost hfx (hs.fil hbf) (ZcU hf (Zdm _ u.sch)) (ZaU _ _) h.aq h.fr.pq h.wf.nq,h.fr.zop⟩
   ·show St' (Zal { u with hh:=true,host:=base.host } l base)∧(Zal { u with hh:=true,host:=base.host } l base).op=false
    unfold Zal
    split
    ·refine⟨?_,h.fr.zop⟩
     refine ZcV (u:=u) (hq:=u.hq||base.hq) (q:=if u.hq=true then u.q else base.q) h hf hs.ahost hs.sd.phost hfx (hs.fil hbf) (ZcU hbf hs.seg) ⟨hs.sd.psegs,(hs.sd.sp hsp).2⟩ ?_ ?_ ?_
     ·split
      ·exact h.aq
      ·have:=hs.aq;rw[hbf,←hf]at this;exact this
     ·split
      ·exact h.fr.pq
      ·exact hs.sd.pq
     ·intro e
      rw[Xg]at e
      rw[if_neg (by rw[e.1];decide)]
      exact hs.wf.nq e.2
    ·refine⟨?_,h.fr.zop⟩
     refine ZcV (u:=u) (hq:=u.hq) (q:=u.q) h hf hs.ahost hs.sd.phost hfx (hs.fil hbf) ?_ (ZdJ _ _ hs.sd.psegs) h.aq h.fr.pq h.wf.nq
     refine ZcU hf (ZiU l ?_)
     show ZdP (u.sch==Zw) (Zb u.sch) base.segs
     have hseg:=hs.seg;rw[hbf]at hseg;rw[hf];exact hseg
theorem Zqv{u:U}{p:LB}(h0:(ZP u p).2=0)(hz:u.port=0):
  (ZP u p).1.hh=true∧HostT (ZP u p).1.host∧((ZP u p).1.host≠[]→ZI (ZP u p).1.host (Zb u.sch)=((ZP u p).1.host,0))∧((ZP u p).1.hp=false→(ZP u p).1.port=0) ∧
  (ZP u p).1.nam=u.nam∧(ZP u p).1.pw=u.pw∧(ZP u p).1.sch=u.sch∧(ZP u p).1.q=u.q∧(ZP u p).1.hq=u.hq∧(ZP u p).1.fr=u.fr∧(ZP u p).1.hf=u.hf∧(ZP u p).1.op=u.op∧(ZP u p).1.opath=u.opath∧(ZP u p).1.segs=u.segs:=by
 unfold ZP at h0 ⊢
 split
 ·next h1=>rw[if_pos h1]at h0;cases h0
 next h1=>
  rw[if_neg h1]at h0
  split
  ·next h2=>rw[if_pos h2]at h0;exact absurd h0 h2
  next h2=>
   rw[if_neg h2]at h0;have hx:=ZiP (Classical.not_not.1 h2)
   split
   ·exact⟨rfl,hostL_T,fun _=>hx,fun _=>hz,rfl,rfl,rfl,rfl,rfl,rfl,rfl,rfl,rfl,rfl⟩
   next h3=>
    rw[if_neg h3]at h0;unfold ZdO at h0 ⊢
    split
    ·next h4=>rw[if_pos h4]at h0;cases h0
    ·show _
     simp only;unfold ZaW
     split
     ·exact⟨rfl,hostL_T,fun _=>hx,fun _=>rfl,rfl,rfl,rfl,rfl,rfl,rfl,rfl,rfl,rfl,rfl⟩
     ·exact⟨rfl,hostL_T,fun _=>hx,fun e=>(by cases e),rfl,rfl,rfl,rfl,rfl,rfl,rfl,rfl,rfl,rfl⟩
theorem ZbM{u:U}(t:LB)(h:Fs u)(hf:u.sch≠Zw)(h0:(Zs u t).2=0):St' (Zs u t).1∧(Zs u t).1.op=false:=by
 have hsd:=Zcn t h.fr hf h0;have hwf:=Zcm t h.wf.wq;unfold Zs at h0 hsd hwf ⊢
 split at h0
 ·cases h0
 next h1=>
  rw[if_neg h1]at hsd hwf ⊢;unfold ZbR at h0 hsd hwf ⊢
  split at h0
  ·next h2=>exact absurd h0 h2
  next h2=>
   rw[if_neg h2]at hsd hwf ⊢;have hk:=Zqv (Classical.not_not.1 h2) h.zport;obtain⟨k1,k2,k3,k4,k5,k6,k7,k8,k9,k10,k11,k12,k13,k14⟩:=hk;generalize ZP _ _=pq at *;obtain⟨v,e⟩:=pq;simp only at *
   split at h0
   ·next h3=>
    rw[if_pos h3]at hsd hwf ⊢
    refine⟨?_,k12.trans h.fr.zop⟩
    exact {
     sd:=hsd,wf:=hwf
     anam:=by show Asis S5 v.nam;rw[k5];exact ZbL Zla _
     apw:=by show Asis S5 v.pw;rw[k6];exact ZbL Zla _
     ahost:=k2
     fhost:=fun x=>by show ZI v.host (Zb v.sch)=_;rw[k7];exact k3 x
     seg:=by show ZdP (v.sch==Zw) (Zb v.sch) _;rw[k7];exact Zdm _ _
     aq:=by show Asis (SQ v.sch) v.q;rw[k7,k8];exact h.aq
     afr:=by show Asis S1 v.fr;rw[k10,h.zfr];exact ZaM _
     opq:=fun x=>by have x':v.op=true:=x;rw[k12,h.fr.zop]at x';cases x'
     zop:=fun _=>by show v.opath=[];rw[k13,h.fr.zopath]
     pth:=fun _ x=>by have x':v.hh=false:=x;rw[k1]at x';cases x'
     zport:=k4
     fil:=fun x=>absurd (k7.symm.trans x) hf
     sp:=fun _=>k1 }
   ·next h3=>
    rw[if_neg h3]at hsd hwf ⊢
    refine⟨?_,k12.trans h.fr.zop⟩
    exact {
     sd:=hsd,wf:=hwf
     anam:=by show Asis S5 v.nam;rw[k5];exact ZbL Zla _
     apw:=by show Asis S5 v.pw;rw[k6];exact ZbL Zla _
     ahost:=k2
     fhost:=fun x=>by show ZI v.host (Zb v.sch)=_;rw[k7];exact k3 x
     seg:=by show ZdP (v.sch==Zw) (Zb v.sch) v.segs;rw[k14,h.fr.zsegs];exact Zoj _ _
     aq:=by show Asis (SQ v.sch) v.q;rw[k7,k8];exact h.aq
     afr:=by show Asis S1 v.fr;rw[k10,h.zfr];exact ZaM _
     opq:=fun x=>by have x':v.op=true:=x;rw[k12,h.fr.zop]at x';cases x'
     zop:=fun _=>by show v.opath=[];rw[k13,h.fr.zopath]
     pth:=fun _ x=>by have x':v.hh=false:=x;rw[k1]at x';cases x'
     zport:=k4
     fil:=fun x=>absurd (k7.symm.trans x) hf
     sp:=fun _=>k1 }
theorem enc_from{set l:LB}{b:UInt8}(hb:b∈encB set (clean l)):b∈l∨b.toNat=37∨(48≤b.toNat∧b.toNat≤57)∨(65≤b.toNat∧b.toNat≤70):=by
 have hp:=ZcS set _ b hb;obtain⟨c,hcm,hc⟩:=List.mem_flatMap.1 hb;have hcl:=c.toNat_lt;unfold ZN at hc
 split at hc
 ·simp only[Xd,List.not_mem_nil,or_false]at hc
  rcases hc with rfl|rfl|rfl
  ·exact Or.inr (Or.inl rfl)
  ·exact Or.inr (Or.inr (Zao (by omega) (by omega)))
  ·exact Or.inr (Or.inr (Zao (by omega) (by omega)))
 ·rw[Xi]at hc
  subst hc;rcases ZfW _ l (Nat.le_refl _) b hcm with h1|h1
  ·exact Or.inl h1
  ·omega
theorem ZrF{set l:LB}{c:UInt8}(h:∀b∈l,b≠c)(hc:¬(c.toNat=37∨(48≤c.toNat∧c.toNat≤57)∨(65≤c.toNat∧c.toNat≤70))):∀b∈encB set (clean l),b≠c:=by
 intro b hb e;subst e;rcases enc_from hb with h1|h1
 ·exact h b h1 rfl
 ·exact hc h1
theorem ZoG{set l:LB}(h:countSl false l=0):countSl false (encB set (clean l))=0:=by
 cases l with
 | nil=>rw[clean_nil];rfl
 | cons c r=>
  have hc:slB false c=false:=by
   cases hh:slB false c
   ·rfl
   ·rw[countSl,if_pos hh]at h;cases h
  have key:∀(b:UInt8) (m:LB),slB false b=false→countSl false (encB set (b::m))=0:=by
   intro b m hb;rw[Zdk];unfold ZN
   split
   ·rfl
   ·show countSl false (b::_)=0
    rw[countSl,if_neg (by rw[hb];decide)]
  by_cases hlo:c.toNat<128
  ·rw[ZhQ r hlo];exact key c _ hc
  ·obtain⟨b,m,hb,hh⟩:=Zld r (by omega:128≤c.toNat)
   rw[hb]
   exact key b m (Zle (by omega) false)
theorem ZoH{a b x:LB}(hb:b≠[])(h:a++b=x++[32]):∃y,b=y++[32]:=by
 rcases Xc b with rfl|⟨y,z,rfl⟩
 ·exact absurd rfl hb
 ·rw[Xa,←Xb]at h
  have:=Xf h rfl;rw[Xa,this];exact⟨y,rfl⟩
theorem ZoI:∀(n:Nat) (l a:LB),l.length≤n→clean l=a++[32]→∃y,l=y++[32]:=by
 intro n
 induction n with
 | zero=>
  intro l a hl h
  have:l=[]:=List.length_eq_zero_iff.1 (by omega)
  subst this;rw[clean_nil]at h
  exact absurd h (by simp)
 | succ n ih=>
  intro l a hl h
  cases l with
  | nil=>rw[clean_nil]at h;exact absurd h (by simp)
  | cons c r=>
   have hm:=ZcO c r;rw[Zb1]at h;simp only[List.length_cons]at hl
   by_cases hr:r.drop ((measure (c::r)).1-1)=[]
   ·rw[hr,clean_nil,List.append_nil]at h
    split at h
    ·have hlen:(measure (c::r)).1=r.length+1:=by
      have:=congrArg List.length hr;rw[Xk,List.length_nil]at this
      omega
     rw[hlen,List.take_of_length_le (by simp)]at h
     exact⟨a,h⟩
    ·have:=congrArg List.getLast? h
     simp at this
   ·obtain⟨y,hy⟩:=ZoH (ZhM hr) h
    obtain⟨z,hz⟩:=ih _ _ (by rw[Xk];omega) hy
    refine⟨(c::r).take (measure (c::r)).1++z,?_⟩
    have hs:(c::r).drop (measure (c::r)).1=z++[32]:=by
     rw[←hz]
     obtain⟨k,hk⟩:∃k,(measure (c::r)).1=k+1:=⟨(measure (c::r)).1 - 1,by omega⟩
     rw[hk,List.drop_succ_cons]
     rfl
    rw[Xb,←hs,List.take_append_drop]
theorem Zsx{set l a:LB}(h:encB set (clean l)=a++[32]):∃y,l=y++[32]:=by
 rcases Xc (clean l)with hn|⟨m,x,hx⟩
 ·rw[hn]at h;exact absurd h (by simp[encB])
 ·rw[Xa]at hx
  rw[hx,Zil]at h
  obtain⟨y,hy⟩:=ZoH (by unfold ZN;split<;>simp) h
  have hxl:=x.toNat_lt;unfold ZN at hy
  split at hy
  ·have:=congrArg List.getLast? hy
   simp only[Xh,Xe,List.getLast?_cons_cons]at this
   have e:toB (capital ((x.toNat:Int)%16))=32:=by simpa using this
   have:=Zao (n:=(x.toNat:Int)%16) (by omega) (by omega)
   rw[e]at this
   exact absurd this (by decide)
  ·have:=congrArg List.getLast? hy
   simp only[Xh,Xe]at this
   have e:x=32:=by simpa using this
   subst e;exact ZoI _ l m (Nat.le_refl _) hx
theorem NoEnd.enc{set l:LB}(h:NoEnd l):NoEnd (encB set (clean l)):=fun _ e=>by
 obtain⟨y,hy⟩:=Zsx e;exact h y hy
theorem NoEnd.tail{a b:LB}(h:NoEnd (a++b)):NoEnd b:=fun y e=>h (a++y) (by rw[e,Xb])
theorem ZdK(p:UInt8→Bool)(l:LB):((bcut p l).2.2=false∧(bcut p l).1=l)∨((bcut p l).2.2=true∧∃c,l=(bcut p l).1++c::(bcut p l).2.1):=by
 induction l with
 | nil=>left;exact⟨rfl,rfl⟩
 | cons c r ih=>
  rw[bcut]
  split
  ·right;exact⟨rfl,c,rfl⟩
  ·rcases ih with⟨h1,h2⟩|⟨h1,d,h2⟩
   ·left;exact⟨h1,by show c::(bcut p r).1=c::r;rw[h2]⟩
   ·right;exact⟨h1,d,by show c::r=c::(bcut p r).1++d::(bcut p r).2.1;rw[List.cons_append,←h2]⟩
theorem Zi2(p:UInt8→Bool)(l:LB):∀b∈(bcut p l).1,p b=false:=by
 induction l with
 | nil=>intro b hb;cases hb
 | cons c r ih=>
  intro b hb;rw[bcut]at hb
  split at hb
  ·cases hb
  ·next hc=>
   simp only[Xd]at hb;rcases hb with rfl|hb
   ·simpa using hc
   ·exact ih b hb
theorem Zqw(p:UInt8→Bool)(l:LB):(∀b∈(bcut p l).1,b∈l)∧(∀b∈(bcut p l).2.1,b∈l):=by
 rcases ZdK p l with⟨h1,h2⟩|⟨h1,c,h2⟩
 ·exact⟨fun b hb=>by rw[h2]at hb;exact hb,fun b hb=>by rw[Zdo p l h1]at hb;cases hb⟩
 ·exact⟨fun b hb=>by rw[h2];simp[hb],fun b hb=>by rw[h2];simp[hb]⟩
theorem Zkd{u base:U}{segs:List LB}{hq:Bool}{q:LB}(h:Fs u)(hb:St' base)(hs:base.sch=u.sch)(hsg:ZdP (u.sch==Zw) (Zb u.sch) segs)(hn:base.hh=false→segs≠[])(hqa:Asis (SQ u.sch) q)(hqn:hq=false→q=[])
  (sd:Sd { kept u base with segs:=segs,hq:=hq,q:=q }):St' { kept u base with segs:=segs,hq:=hq,q:=q } where
 sd:=sd
 wf:=⟨hb.wf.nh,hqn,h.wf.nf⟩
 anam:=hb.anam
 apw:=hb.apw
 ahost:=hb.ahost
 fhost:=fun e=>by have:=hb.fhost e;rw[hs]at this;exact this
 seg:=hsg
 aq:=hqa
 afr:=by show Asis S1 u.fr;rw[h.zfr];exact ZaM _
 opq:=fun e=>by have e':u.op=true:=e;rw[h.fr.zop]at e';cases e'
 zop:=fun _=>h.fr.zopath
 pth:=fun _ e=>hn e
 zport:=hb.zport
 fil:=fun e=>hb.fil (hs.trans e)
 sp:=fun e=>hb.sp (by rw[hs];exact e)
theorem ZeG{u base:U}(l:LB)(h:Fs u)(hb:St' base)(hs:base.sch=u.sch)(hbo:base.op=false)(h0:(ZV u l base).2=0):St' (ZV u l base).1∧(ZV u l base).1.op=false:=by
 have hsd:=ZeF l h.fr hb.sd hs h0;unfold ZV at h0 hsd ⊢
 split
 ·next h1=>rw[if_pos h1]at h0;exact Zkc l h h1 (fun _=>hb) h0
 next h1=>
  rw[if_neg h1]at h0 hsd
  split
  ·next h2=>rw[if_pos h2]at h0;exact ZbM _ h h1 h0
  next h2=>
   rw[if_neg h2]at h0 hsd
   have hbs:ZdP (u.sch==Zw) (Zb u.sch) base.segs:=by rw[←hs];exact hb.seg
   split
   ·next h3=>
    rw[if_pos h3]at hsd
    exact⟨Zkd (u:=u) (hq:=u.hq) (q:=u.q) h hb hs (Zdm _ _) (fun _=>(ZaU _ _).2) h.aq h.wf.nq hsd,h.fr.zop⟩
   ·next h3=>
    rw[if_neg h3]at hsd
    show St' (Zal (kept u base) l base)∧(Zal (kept u base) l base).op=false
    have hsd':Sd (Zal (kept u base) l base):=hsd;unfold Zal at hsd' ⊢
    split
    ·next h4=>
     rw[if_pos h4]at hsd'
     refine⟨?_,h.fr.zop⟩
     refine Zkd (u:=u) (hq:=u.hq||base.hq) (q:=if u.hq=true then u.q else base.q) h hb hs hbs (fun e=>hb.pth hbo e) ?_ ?_ hsd'
     ·split
      ·exact h.aq
      ·have:=hb.aq;rw[hs]at this;exact this
     ·intro e
      rw[Xg]at e
      rw[if_neg (by rw[e.1];decide)]
      exact hb.wf.nq e.2
    ·next h4=>
     rw[if_neg h4]at hsd'
     exact⟨Zkd (u:=u) (hq:=u.hq) (q:=u.q) h hb hs (ZiU l hbs) (fun _=>(ZdJ _ _ hb.sd.psegs).2) h.aq h.wf.nq hsd',h.fr.zop⟩
theorem Zha{base:U}(hb:St' base)(h:Zb base.sch=true):base.op=false:=(hb.sd.sp h).1
theorem Zmn{u base:U}(l:LB)(h:Fs u)(hb:base.sch=u.sch→St' base)(hl:∀b∈l,b≠63∧b≠35)(h0:(ZQ u l base).2=0):St' (ZQ u l base).1∧((ZQ u l base).1.op=true→(ZQ u l base).1.opath=encB S0 (clean l)):=by
 have hsd:=Zg9 l h.fr (fun e=>(hb e).sd) h0
 have noop:∀ {v:U},St' v→v.op=false→St' v∧(v.op=true→v.opath=encB S0 (clean l)):=fun a b=>⟨a,fun e=>by rw[b]at e;cases e⟩
 unfold ZQ at h0 hsd ⊢
 split
 ·next h1=>
  rw[if_pos h1]at h0
  have k:=Zkc l h h1 (fun e=>hb (e.trans h1.symm)) h0
  exact noop k.1 k.2
 next h1=>
  rw[if_neg h1]at h0 hsd
  split
  ·next h2=>
   rw[if_pos h2]at h0;unfold Zay at h0 ⊢
   split
   ·next h3=>
    rw[if_pos h3]at h0;have hbs:=hb h3.1
    have k:=ZeG l h hbs h3.1 (Zha hbs (by rw[h3.1];exact h2)) h0
    exact noop k.1 k.2
   ·next h3=>
    rw[if_neg h3]at h0;have k:=ZbM _ h h1 h0;exact noop k.1 k.2
  next h2=>
   rw[if_neg h2]at h0 hsd
   split
   ·next h3=>
    rw[if_pos h3]at hsd
    refine⟨?_,fun _=>rfl⟩
    exact {
     sd:=hsd
     wf:=h.wf.pathed _ _
     anam:=by show Asis S5 u.nam;rw[h.fr.znam];exact ZaM _
     apw:=by show Asis S5 u.pw;rw[h.fr.zpw];exact ZaM _
     ahost:=by show HostT u.host;rw[h.fr.zhost];exact hostT_nil
     fhost:=fun e=>absurd h.fr.zhost e
     seg:=by show ZdP _ _ u.segs;rw[h.fr.zsegs];exact Zoj _ _
     aq:=h.aq
     afr:=by show Asis S1 u.fr;rw[h.zfr];exact ZaM _
     opq:=fun _=>⟨h.fr.zsegs,h.zhh,ZoG h3,fun b hb=>⟨ZrF (fun b hb=>(hl b hb).1) (by decide) b hb,ZrF (fun b hb=>(hl b hb).2) (by decide) b hb⟩⟩
     zop:=fun e=>by cases e
     pth:=fun e=>by cases e
     zport:=fun _=>h.zport
     fil:=fun e=>absurd e h1
     sp:=fun e=>absurd e h2 }
   next h3=>
    rw[if_neg h3]at h0 hsd
    split
    ·next h4=>
     rw[if_pos h4]at hsd
     refine noop ?_ h.fr.zop
     exact {
      sd:=hsd
      wf:=h.wf.segs _
      anam:=by show Asis S5 u.nam;rw[h.fr.znam];exact ZaM _
      apw:=by show Asis S5 u.pw;rw[h.fr.zpw];exact ZaM _
      ahost:=by show HostT u.host;rw[h.fr.zhost];exact hostT_nil
      fhost:=fun e=>absurd h.fr.zhost e
      seg:=Zdm _ _
      aq:=h.aq
      afr:=by show Asis S1 u.fr;rw[h.zfr];exact ZaM _
      opq:=fun e=>by have e':u.op=true:=e;rw[h.fr.zop]at e';cases e'
      zop:=fun _=>h.fr.zopath
      pth:=fun _ _=>(ZaU _ _).2
      zport:=fun _=>h.zport
      fil:=fun e=>absurd e h1
      sp:=fun e=>absurd e h2 }
    ·next h4=>
     rw[if_neg h4]at h0;have k:=ZbM _ h h1 h0;exact noop k.1 k.2
theorem Zmo{u base:U}(l:LB)(h:(ZQ u l base).1.op=true)(h0:Fs u)(hs:(ZQ u l base).2=0)(hb:base.sch=u.sch→St' base):(ZQ u l base).1.hq=u.hq:=by
 unfold ZQ at h hs ⊢
 split
 ·next h1=>
  rw[if_pos h1]at h hs
  rw[(Zkc l h0 h1 (fun e=>hb (e.trans h1.symm)) hs).2]at h
  cases h
 next h1=>
  rw[if_neg h1]at h hs
  split
  ·next h2=>
   rw[if_pos h2]at h hs;unfold Zay at h hs
   split at hs
   ·next h3=>
    rw[if_pos h3]at h;have hbs:=hb h3.1
    rw[(ZeG l h0 hbs h3.1 (Zha hbs (by rw[h3.1];exact h2)) hs).2]at h
    cases h
   ·next h3=>
    rw[if_neg h3]at h;rw[(ZbM _ h0 h1 hs).2]at h
    cases h
  next h2=>
   rw[if_neg h2]at h hs
   split
   ·rfl
   next h3=>
    rw[if_neg h3]at h hs
    split
    ·rfl
    ·next h4=>
     rw[if_neg h4]at h hs;rw[(ZbM _ h0 h1 hs).2]at h
     cases h
theorem ZoJ{sch rest:LB}{found:Bool}{base:U}(hsc:sch≠[]→ScOk sch)(hb:base.sch≠[]→St' base)(hn:found=false→base.sch=sch∧base.op=false)(hr:∀b∈rest,b≠35)(h0:(ZbY sch rest found base).2=0):St' (ZbY sch rest found base).1∧((ZbY sch rest found base).1.op=true→(ZbY sch rest found base).1.hq=(bcut (isB 63) rest).2.2∧(ZbY sch rest found base).1.opath=encB S0 (clean (bcut (isB 63) rest).1)):=by
 have hl:∀b∈(bcut (isB 63) rest).1,b≠63∧b≠35:=fun b hb'=>⟨fun e=>by have:=Zi2 (isB 63) rest b hb';rw[e]at this;exact absurd this (by decide),hr b ((Zqw (isB 63) rest).1 b hb')⟩
 unfold ZbY at h0 ⊢
 split
 ·next h1=>rw[if_pos h1]at h0;cases h0
 next h1=>
  rw[if_neg h1]at h0
  split
  ·next h2=>
   rw[if_pos h2]at h0
   have k:=Zmn (bcut (isB 63) rest).1 (ZhW (rest:=rest) (hsc h1)) (fun e=>hb (by rw[e];exact h1)) hl h0
   refine⟨k.1,fun e=>⟨?_,k.2 e⟩⟩
   exact Zmo _ e (ZhW (rest:=rest) (hsc h1)) h0 (fun e=>hb (by rw[e];exact h1))
  ·next h2=>
   rw[if_neg h2]at h0
   have e:=hn (by simpa using h2)
   have k:=ZeG (bcut (isB 63) rest).1 (ZhW (rest:=rest) (hsc h1)) (hb (by rw[e.1];exact h1)) e.1 e.2 h0
   exact⟨k.1,fun x=>by rw[k.2]at x;cases x⟩
structure St (u:U):Prop where
 st:St' u
 blank:u.op=true→u.hq=false→u.hf=false→NoEnd u.opath
theorem Zke(l:LB):∃a,l=a++(Zax l).2.1:=by
 unfold Zax
 split
 ·next h=>
  rcases ZdK (isB 58) l with⟨h1,-⟩|⟨-,c,h2⟩
  ·rw[h.1]at h1;cases h1
  ·exact⟨(bcut (isB 58) l).1++[c],by rw[Xb];exact h2⟩
 ·exact⟨[],rfl⟩
theorem Zqx(l:LB)(hf:Bool){base:U}(hb:base=zeroU∨St' base)(hl:∀b∈l,b≠35)(he:hf=false→NoEnd l)(h0:(ZaT l hf base).2=0):St' (ZaT l hf base).1∧((ZaT l hf base).1.op=true→(ZaT l hf base).1.hq=false→hf=false→NoEnd (ZaT l hf base).1.opath):=by
 have hb':base.sch≠[]→St' base:=fun hn=>hb.elim (fun e=>absurd (by rw[e];rfl) hn) id
 obtain⟨a,ha⟩:=Zke l
 have hr:∀b∈(Zax l).2.1,b≠35:=fun b hb=>hl b (by rw[ha];simp[hb])
 have fin:∀ {v:U},(v.op=true→v.hq=(bcut (isB 63) (Zax l).2.1).2.2∧v.opath=encB S0 (clean (bcut (isB 63) (Zax l).2.1).1))→v.op=true→v.hq=false→hf=false→NoEnd v.opath:=by
  intro v hv h1 h2 h3;obtain⟨k1,k2⟩:=hv h1;rw[h2]at k1;rcases ZdK (isB 63) (Zax l).2.1 with⟨-,e⟩|⟨e,-⟩
  ·rw[e]at k2
   rw[k2];have hn:=he h3;rw[ha]at hn;exact hn.tail.enc
  ·rw[e]at k1;cases k1
 unfold ZaT at h0 ⊢
 split
 ·next h1=>
  rw[if_pos h1]at h0
  have k:=ZoJ (sch:=(Zax l).1) (rest:=(Zax l).2.1) (found:=true) (fun _=>by
   unfold Zax at h1 ⊢
   split
   ·next h2=>exact Zg8 h2.2
   ·next h2=>rw[if_neg h2]at h1;cases h1) hb' (fun e=>by cases e) hr h0
  exact⟨k.1,fin k.2⟩
 next h1=>
  rw[if_neg h1]at h0
  split
  ·next h2=>
   rw[if_pos h2]at h0
   have hs:St' base:=hb.elim (fun e=>by rw[e]at h2;cases h2) id
   unfold ZbQ at h0 ⊢
   split
   ·next h3=>exact⟨hs,fun _ _ e=>by rw[h3.2]at e;cases e⟩
   ·next h3=>rw[if_neg h3]at h0;cases h0
  ·next h2=>
   rw[if_neg h2]at h0
   have k:=ZoJ (sch:=base.sch) (rest:=(Zax l).2.1) (found:=false) (fun hn=>(hb' hn).sd.sc) hb' (fun _=>⟨rfl,by simpa using h2⟩) hr h0
   exact⟨k.1,fin k.2⟩
theorem Zqy(m:LB):∀a x,trimB m=a++[x]→Z2 x=false:=by
 intro a x h;unfold trimB at h;have h1:=congrArg List.reverse h;rw[List.reverse_reverse,List.reverse_append]at h1
 have h2:(List.dropWhile Z2 (List.dropWhile Z2 m).reverse).head?=some x:=by rw[h1];rfl
 have:=List.head?_dropWhile_not Z2 (List.dropWhile Z2 m).reverse;rw[h2]at this
 simpa using this
theorem ZoK(l:LB):NoEnd (wholeText l):=by
 intro a h;unfold wholeText noBreaks at h;rcases Xc (trimB (clean l))with hn|⟨y,x,hx⟩
 ·rw[hn]at h;exact absurd h (by simp)
 ·rw[Xa]at hx
  have hb:=Zqy _ _ _ hx
  have hk:(!Zc3 x)=true:=by
   unfold Z2 at hb;unfold Zc3;have:=of_decide_eq_false hb
   have h1:((x.toNat:Int)==9)=false:=beq_eq_false_iff_ne.2 (by omega)
   have h2:((x.toNat:Int)==10)=false:=beq_eq_false_iff_ne.2 (by omega)
   have h3:((x.toNat:Int)==13)=false:=beq_eq_false_iff_ne.2 (by omega)
   rw[h1,h2,h3];rfl
  rw[hx,List.filter_append]at h
  have hf1:List.filter (fun b=>!Zc3 b) [x]=[x]:=by simp only[List.filter,hk]
  rw[hf1]at h;have e:=Xf h rfl;simp only[List.cons.injEq,and_true]at e;subst e
  exact absurd hb (by decide)
theorem ZeH(l:LB){base:U}(hb:base=zeroU∨St' base)(h0:(ZD l base).2=0):St (ZD l base).1:=by
 have hwf:=Zmh l (base:=base) (hb.elim (fun e=>by rw[e];exact Zcx) (fun h=>h.wf))
 have hsd:=Zmm l (base:=base) (hb.elim Or.inl (fun h=>Or.inr h.sd)) h0
 unfold ZD Zgv at h0 hwf hsd ⊢
 split
 ·next h1=>rw[if_pos h1]at h0;exact absurd h0 h1
 ·next h1=>
  rw[if_neg h1]at hwf hsd
  have hl:∀b∈(bcut (isB 35) (wholeText l)).1,b≠35:=fun b hb' e=>by have:=Zi2 (isB 35) _ b hb';rw[e]at this;exact absurd this (by decide)
  have h:=Zqx (bcut (isB 35) (wholeText l)).1 (bcut (isB 35) (wholeText l)).2.2 hb hl (fun e=>by
   rcases ZdK (isB 35) (wholeText l)with⟨-,e2⟩|⟨e2,-⟩
   ·rw[e2];exact ZoK l
   ·rw[e2]at e;cases e) (Classical.not_not.1 h1)
  refine⟨{ h.1 with sd:=hsd,wf:=hwf,afr:=ZbL Ztg _ },fun e1 e2 e3=>h.2 e1 e2 e3⟩
theorem Zmp{base:LB}{b:Bool}(h3:(ZbS base b).2=0):(ZbS base b).1=zeroU∨St' (ZbS base b).1:=by
 unfold ZbS at h3 ⊢
 split
 ·exact Or.inl rfl
 next h4=>
  rw[if_neg h4]at h3
  split
  ·exact Or.inl rfl
  next h5=>
   rw[if_neg h5]at h3;exact Or.inr (ZeH base (Or.inl rfl) h3).st
theorem Zqz(l base:LB)(b:Bool)(h0:(Zat l base b).2=0):St (Zat l base b).1:=by
 unfold Zat at h0 ⊢
 split
 ·next h1=>rw[if_pos h1]at h0;cases h0
 next h1=>
  rw[if_neg h1]at h0
  split
  ·next h2=>rw[if_pos h2]at h0;exact absurd h0 h2
  next h2=>
   rw[if_neg h2]at h0;exact ZeH l (Zmp (Classical.not_not.1 h2)) h0
end Go.Proofs.YtchkhibgbnhjpabGreatDoor
