import Derived.Test.YtchkhibgbnhjpabGreatDoorB32
import Derived.Test.YtchkhibgbnhjpabGreatDoorB33
open Bool renaming or_eq_false_iff→Xg,and_eq_true→Xj
open List renaming concat_eq_append→Xa,append_assoc→Xb,eq_nil_or_concat→Xc,mem_cons→Xd,getLast?_singleton→Xe,append_inj_right'→Xf,getLast?_append→Xh,mem_singleton→Xi,length_drop→Xk,map_cons→Xl
namespace Go.Proofs.YtchkhibgbnhjpabGreatDoor
open Go.RowKit
def PrS(ps:List (List UInt8)):Prop:=∀p∈ps,Pr p
theorem Zo3{ps:List LB}(h:PrS ps)(n:Nat):PrS (ps.take n):=fun p hp=>h p (List.mem_of_mem_take hp)
theorem ZsB{a b:List LB}(ha:PrS a)(hb:PrS b):PrS (a++b):=fun x hx=>(List.mem_append.1 hx).elim (ha x) (hb x)
theorem ZsC{s:LB}(h:Pr s):PrS [s]:=fun p hp=>by rw[Xi]at hp;subst hp;exact h
theorem ZkJ:PrS []:=fun p hp=>by cases hp
theorem ZuO{c:UInt8}(h:alpha c.toNat=true):32≤c.toNat∧c.toNat≤126:=by
 unfold alpha at h;have:=of_decide_eq_true h
 omega
theorem ZsD{l:LB}(h:ZN l=true):Pr (l.take 1):=by
 unfold ZN at h
 split at h
 ·next a b=>
  rw[Xj]at h;have:=ZuO h.1;exact ZfB this.1 this.2
 ·cases h
theorem Zl6{f:Bool}{ps:List LB}(h:PrS ps):PrS (ZaK f ps):=by
 unfold ZaK
 split
 ·exact h
 ·exact Zo3 h _
theorem ZuP{f:Bool}{ps:List LB}(s:LB)(h:PrS ps):PrS (joinL f ps s):=by
 unfold joinL
 refine ZsB h (ZsC ?_)
 split
 ·next hd=>exact Zgh (ZsD hd.2.2) (ZfB (by decide) (by decide))
 ·exact Zen _ _
theorem ZvI{f:Bool}{ps:List LB}(s:LB)(last:Bool)(h:PrS ps):PrS (ZdM f ps s last):=by
 have h2:PrS (if countDots s=2 then ZaK f ps else ps):=by
  split
  ·exact Zl6 h
  ·exact h
 unfold ZdM
 split
 ·exact ZuP s h
 split
 ·exact ZsB h2 (ZsC pr_nil)
 ·exact h2
theorem ZuQ{f:Bool}(ss:List LB):∀ps,PrS ps→PrS (Zch f ps ss):=by
 induction ss with
 | nil=>intro ps h;rw[Zch];exact h
 | cons x r ih=>
  intro ps h
  cases r with
  | nil=>rw[Zch];exact ZvI x true h
  | cons y q=>rw[Zch];exact ih _ (ZvI x false h)
theorem ZxS(f:Bool)(ps:List LB)(s:LB):ZdM f ps s true≠[]:=by
 unfold ZdM
 split
 ·unfold joinL;simp
 ·simp
theorem ZsE{f:Bool}(ss:List LB):∀ps,ss≠[]→Zch f ps ss≠[]:=by
 induction ss with
 | nil=>intro ps h;exact absurd rfl h
 | cons x r ih=>
  intro ps h
  cases r with
  | nil=>rw[Zch];exact ZxS f ps x
  | cons y q=>rw[Zch];exact ih _ (by simp)
theorem ZiC(f sp:Bool){ps:List LB}(t:LB)(h:PrS ps):PrS (Za4 f sp ps t)∧Za4 f sp ps t≠[]:=by
 unfold Za4
 refine⟨ZuQ _ _ h,ZsE _ _ ?_⟩
 obtain⟨x,q,hx⟩:=ZeO (slB sp) t;rw[hx]
 simp
theorem Zbh(t sch:LB):PrS (Zbe t sch)∧Zbe t sch≠[]:=ZiC _ _ t ZkJ
theorem Zft{b:List LB}(t sch:LB)(h:PrS b):PrS (ZcQ b t sch)∧ZcQ b t sch≠[]:=ZiC _ _ t (Zl6 h)
theorem ZiD{b:List LB}(t:LB)(h:PrS b):PrS (ZaN b t)∧ZaN b t≠[]:=by
 unfold ZaN
 split
 ·exact Zbh _ _
 ·exact ZiC _ _ t (Zo3 h _)
structure ZuR (l:List UInt8):Prop where
 ne:l≠[]
 first:∀c r,l=c::r→97≤c.toNat∧c.toNat≤122
 all:∀b∈l,(97≤b.toNat∧b.toNat≤122)∨(48≤b.toNat∧b.toNat≤57)∨b.toNat=43∨b.toNat=45∨b.toNat=46
theorem ZjJ{c:UInt8}(h:alpha c.toNat=true):97≤(Zd9 c).toNat∧(Zd9 c).toNat≤122:=by
 unfold alpha at h;have h1:=of_decide_eq_true h;unfold Zd9
 split
 ·next hc=>rw[UInt8.toNat_add];have:(32:UInt8).toNat=32:=rfl;rw[this];omega
 ·omega
theorem ZjK{l:LB}(h:Zcm l=true):ZuR (lower l):=by
 cases l with
 | nil=>cases h
 | cons c r=>
  simp only[Zcm,Xj]at h;have hc:=ZjJ h.1
  refine⟨by simp[lower],?_,?_⟩
  ·intro d q e
   simp only[lower,Xl,List.cons.injEq]at e;rw[←e.1];exact hc
  ·intro b hb
   simp only[lower,Xl,Xd]at hb;rcases hb with rfl|hb
   ·exact Or.inl hc
   ·obtain⟨x,hx,rfl⟩:=List.mem_map.1 hb
    have hm:=List.all_eq_true.1 h.2 x hx;unfold ZgE at hm;simp only[Bool.or_eq_true,beq_iff_eq,decide_eq_true_eq]at hm;rcases hm with(((h1|h1)|h1)|h1)|h1
    ·right;right;left;unfold Zd9;split<;>omega
    ·right;right;right;left;unfold Zd9;split<;>omega
    ·right;right;right;right;unfold Zd9;split<;>omega
    ·right;left;unfold Zd9;split<;>omega
    ·exact Or.inl (ZjJ h1)
structure Sd (u:U):Prop where
 sc:ZuR u.sch
 pnam:Pr u.nam
 ppw:Pr u.pw
 phost:Pr u.host
 popath:Pr u.opath
 psegs:PrS u.segs
 pq:Pr u.q
 pfr:Pr u.fr
 port:u.hp=true→u.port≤65535∧((ZJ u.sch).2=true→(u.port:Int)≠(ZJ u.sch).1)
 who:u.host=[]∨u.sch=Zv→u.nam=[]∧u.pw=[]∧u.hp=false
 sp:Zc u.sch=true→u.op=false∧u.segs≠[]
 hst:Zc u.sch=true→u.sch≠Zv→u.host≠[]
structure Fr (u:U):Prop where
 sc:ZuR u.sch
 pq:Pr u.q
 pfr:Pr u.fr
 znam:u.nam=[]
 zpw:u.pw=[]
 zhost:u.host=[]
 zhp:u.hp=false
 zop:u.op=false
 zopath:u.opath=[]
 zsegs:u.segs=[]
theorem ZkK{sch:LB}(hq:Bool)(q:LB)(h:ZuR sch):Fr (ZcE sch hq q):=⟨h,Zen _ _,pr_nil,rfl,rfl,rfl,rfl,rfl,rfl,rfl⟩
theorem Ze3{u:U}{hh:Bool}{host:LB}{segs:List LB}(h:Fr u)(hf:u.sch=Zv)(hp:Pr host)(hs:PrS segs∧segs≠[]):Sd { u with hh:=hh,host:=host,segs:=segs } where
 sc:=h.sc
 pnam:=by show Pr u.nam;rw[h.znam];exact pr_nil
 ppw:=by show Pr u.pw;rw[h.zpw];exact pr_nil
 phost:=hp
 popath:=by show Pr u.opath;rw[h.zopath];exact pr_nil
 psegs:=hs.1
 pq:=h.pq
 pfr:=h.pfr
 port:=fun e=>by have e':u.hp=true:=e;rw[h.zhp]at e';cases e'
 who:=fun _=>⟨h.znam,h.zpw,h.zhp⟩
 sp:=fun _=>⟨h.zop,hs.2⟩
 hst:=fun _ hn=>absurd hf hn
theorem Sd.noq{u:U}(h:Sd u)(b:Bool){q:LB}(hq:Pr q):Sd { u with hq:=b,q:=q }:={ h with pq:=hq }
theorem Zho(l:LB):Pr (ZH l).1:=by
 unfold ZH
 (repeat' split)
 ·exact pr_nil
 ·exact pr_nil
 ·exact pr_nil
 ·exact Zoy _ _
theorem Zny{u:U}(t:LB)(h:Fr u)(hf:u.sch=Zv)(h0:(Z6 u t).2=0):Sd (Z6 u t).1:=by
 unfold Z6 at h0 ⊢
 split
 ·have k:=Ze3 (u:=u) (hh:=u.hh) (host:=u.host) h hf (by rw[h.zhost];exact pr_nil) (Zbh t u.sch)
  exact k
 next h1=>
  rw[if_neg h1]at h0
  split
  ·next h2=>rw[if_pos h2]at h0;exact absurd h0 h2
  ·exact Ze3 (u:=u) (hh:=u.hh) h hf (Zho _) (Zbh _ _)
theorem Zi1{u base:U}(l:LB)(h:Fr u)(hf:u.sch=Zv)(hb:Sd base)(hbf:base.sch=Zv):Sd (Zad { u with hh:=true,host:=base.host } l base):=by
 unfold Zad
 split
 ·have hsp:Zc base.sch=true:=by rw[hbf];decide
  refine(Ze3 (u:=u) (hh:=true) h hf hb.phost ⟨hb.psegs,(hb.sp hsp).2⟩).noq _ ?_
  split
  ·exact h.pq
  ·exact hb.pq
 ·exact Ze3 (u:=u) (hh:=true) h hf hb.phost (Zft _ _ hb.psegs)
theorem ZsF{u base:U}(l:LB)(h:Fr u)(hf:u.sch=Zv)(hb:base.sch=Zv→Sd base)(h0:(ZdN u l base).2=0):Sd (ZdN u l base).1:=by
 unfold ZdN at h0 ⊢
 split
 ·next h1=>rw[if_pos h1]at h0;exact Zny _ { h with } hf h0
 next h1=>
  rw[if_neg h1]at h0
  split
  ·exact Ze3 (u:=u) (hh:=true) (host:=u.host) h hf (by rw[h.zhost];exact pr_nil) (Zbh _ _)
  next h2=>
   have hbf:base.sch=Zv:=Classical.not_not.1 h2;have hs:=hb hbf
   split
   ·exact Ze3 (u:=u) (hh:=true) h hf hs.phost (ZiD _ hs.psegs)
   split
   ·exact Ze3 (u:=u) (hh:=true) h hf hs.phost (Zbh _ _)
   ·exact Zi1 l h hf hs hbf
structure Sh (u:U):Prop where
 sc:ZuR u.sch
 pnam:Pr u.nam
 ppw:Pr u.pw
 phost:Pr u.host
 popath:Pr u.opath
 psegs:PrS u.segs
 pq:Pr u.q
 pfr:Pr u.fr
 port:u.hp=true→u.port≤65535∧((ZJ u.sch).2=true→(u.port:Int)≠(ZJ u.sch).1)
 who:u.host=[]∨u.sch=Zv→u.nam=[]∧u.pw=[]∧u.hp=false
 op:u.op=false
 hst:Zc u.sch=true→u.sch≠Zv→u.host≠[]
theorem Sh.sd{u:U}(h:Sh u)(hs:Zc u.sch=true→u.segs≠[]):Sd u:=⟨h.sc,h.pnam,h.ppw,h.phost,h.popath,h.psegs,h.pq,h.pfr,h.port,h.who,fun e=>⟨h.op,hs e⟩,h.hst⟩
theorem Sh.segs{u:U}(h:Sh u){s:List LB}(hs:PrS s∧s≠[]):Sd { u with segs:=s }:=⟨h.sc,h.pnam,h.ppw,h.phost,h.popath,hs.1,h.pq,h.pfr,h.port,h.who,fun _=>⟨h.op,hs.2⟩,h.hst⟩
theorem Sh.segs'{u:U}(h:Sh u){s:List LB}(hs:PrS s)(hn:Zc u.sch=true→s≠[]):Sd { u with segs:=s }:=⟨h.sc,h.pnam,h.ppw,h.phost,h.popath,hs,h.pq,h.pfr,h.port,h.who,fun e=>⟨h.op,hn e⟩,h.hst⟩
theorem Zl7{p:LB}(h:(Zu p).1=[])(h2:(Zu p).2.2=false):p=[]:=by
 unfold Zu at h h2
 cases hc:cutPortGo false p with
 | none=>rw[hc]at h;exact h
 | some q=>rw[hc]at h2;cases h2
theorem Zl8{p:LB}(h2:(Zu p).2.2=false):(Zu p).2.1=[]:=by
 unfold Zu at h2 ⊢
 cases hc:cutPortGo false p with
 | none=>rfl
 | some q=>rw[hc]at h2;cases h2
structure Fp (u:U) (p:List UInt8):Prop where
 sc:ZuR u.sch
 nf:u.sch≠Zv
 pnam:Pr u.nam
 ppw:Pr u.pw
 pq:Pr u.q
 pfr:Pr u.fr
 popath:Pr u.opath
 psegs:PrS u.segs
 zop:u.op=false
 zhp:u.hp=false
 user:p=[]→u.nam=[]∧u.pw=[]
theorem ZsG{u:U}{p:Int}(h:Sh u)(h0:0≤p)(h1:p≤65535)(hh:u.host≠[])(hf:u.sch≠Zv):Sh (Za6 u p):=by
 unfold Za6
 split
 ·exact { h with port:=fun e=>(by cases e),who:=fun e=>(e.elim (fun e=>absurd e hh) (fun e=>absurd e hf)) }
 ·next hn=>
  refine { h with port:=fun _=>⟨by show p.toNat≤65535;omega,fun ho e=>hn ⟨ho,?_⟩⟩,who:=fun e=>(e.elim (fun e=>absurd e hh) (fun e=>absurd e hf)) }
  have e':((p.toNat:Nat):Int)=(ZJ u.sch).1:=e
  omega
theorem ZuS{u:U}{p:LB}(h:Fp u p)(h0:(Z2 u p).2=0):Sh (Z2 u p).1:=by
 unfold Z2 at h0 ⊢
 split
 ·next h1=>rw[if_pos h1]at h0;cases h0
 next h1=>
  rw[if_neg h1]at h0
  split
  ·next h2=>rw[if_pos h2]at h0;exact absurd h0 h2
  next h2=>
   rw[if_neg h2]at h0;have he:(ZT (Zu p).1 (Zc u.sch)).2=0:=Classical.not_not.1 h2
   have hx:(ZT (Zu p).1 (Zc u.sch)).1=[]→(Zu p).1=[]:=fun e=>Classical.byContradiction fun hn=>Zui hn he e
   have key:Sh { u with hh:=true,host:=(ZT (Zu p).1 (Zc u.sch)).1 }:={
    sc:=h.sc,pnam:=h.pnam,ppw:=h.ppw,phost:=Zoy _ _,popath:=h.popath,psegs:=h.psegs,pq:=h.pq,pfr:=h.pfr
    port:=fun e=>by have e':u.hp=true:=e;rw[h.zhp]at e';cases e'
    who:=fun e=>by
     rcases e with e|e
     ·have e1:=hx e
      have e2:(Zu p).2.2=false:=by
       cases hc:(Zu p).2.2
       ·rfl
       ·exact absurd ⟨e1,Or.inr hc⟩ h1
      have e3:=h.user (Zl7 e1 e2);exact⟨e3.1,e3.2,h.zhp⟩
     ·exact absurd e h.nf
    op:=h.zop
    hst:=fun hs _ e=>h1 ⟨hx e,Or.inl hs⟩ }
   split
   ·exact key
   next h3=>
    rw[if_neg h3]at h0;unfold Zgg at h0 ⊢
    split
    ·next h4=>rw[if_pos h4]at h0;cases h0
    ·have hr:=ZeT (Zu p).2.1
     refine ZsG key hr.1 hr.2 ?_ h.nf
     intro e;have e1:=hx e
     have e2:(Zu p).2.2=false:=by
      cases hc:(Zu p).2.2
      ·rfl
      ·exact absurd ⟨e1,Or.inr hc⟩ h1
     exact h3 (Zl8 e2)
theorem Zqg(u:U)(p:Int):(Za6 u p).sch=u.sch:=by unfold Za6;split<;>rfl
theorem ZsH{u:U}{p:LB}(h0:(Z2 u p).2=0):(Z2 u p).1.sch=u.sch:=by
 unfold Z2 at h0 ⊢
 split
 ·next h1=>rw[if_pos h1]at h0;cases h0
 next h1=>
  rw[if_neg h1]at h0
  split
  ·next h2=>rw[if_pos h2]at h0;exact absurd h0 h2
  next h2=>
   rw[if_neg h2]at h0
   split
   ·rfl
   next h3=>
    rw[if_neg h3]at h0;unfold Zgg at h0 ⊢
    split
    ·next h4=>rw[if_pos h4]at h0;cases h0
    ·exact Zqg _ _
theorem Zo4:ZfA []=[]:=by unfold ZfA;rw[Za9]
theorem Znz(n:Int)(l:LB)(h:(bcutLast n l).2.2=false):(bcutLast n l).1=[]:=by
 cases l with
 | nil=>rw[bcutLast]
 | cons c r=>
  rw[bcutLast]at h ⊢
  split at h
  ·next hr=>have h':(bcutLast n r).2.2=false:=h;rw[hr]at h';cases h'
  ·next hr=>
   rw[if_neg hr]
   split
   ·rfl
   ·rfl
theorem ZdD{u:U}(t:LB)(h:Fr u)(hf:u.sch≠Zv)(h0:(Zy u t).2=0):Sd (Zy u t).1:=by
 unfold Zy at h0 ⊢
 split
 ·next h1=>rw[if_pos h1]at h0;cases h0
 next h1=>
  rw[if_neg h1]at h0;unfold Zdi at h0 ⊢
  split
  ·next h2=>rw[if_pos h2]at h0;exact absurd h0 h2
  next h2=>
   rw[if_neg h2]at h0
   have hp:=ZuS (u:={ u with nam:=ZfA (bcut (isB 58) (bcutLast 64 (bcut (slB (Zc u.sch)) t).1).1).1,pw:=ZfA (bcut (isB 58) (bcutLast 64 (bcut (slB (Zc u.sch)) t).1).1).2.1 }) (p:=(bcutLast 64 (bcut (slB (Zc u.sch)) t).1).2.1)
    { sc:=h.sc,nf:=hf,pnam:=Zen _ _,ppw:=Zen _ _,pq:=h.pq,pfr:=h.pfr
      popath:=by show Pr u.opath;rw[h.zopath];exact pr_nil
      psegs:=by show PrS u.segs;rw[h.zsegs];exact ZkJ
      zop:=h.zop,zhp:=h.zhp
      user:=fun e=>by
       have e1:(bcutLast 64 (bcut (slB (Zc u.sch)) t).1).2.2=false:=by
        cases hc:(bcutLast 64 (bcut (slB (Zc u.sch)) t).1).2.2
        ·rfl
        ·exact absurd ⟨hc,e⟩ h1
       have e2:=Znz _ _ e1
       constructor
       ·show ZfA (bcut (isB 58) (bcutLast 64 (bcut (slB (Zc u.sch)) t).1).1).1=[]
        rw[e2];exact Zo4
       ·show ZfA (bcut (isB 58) (bcutLast 64 (bcut (slB (Zc u.sch)) t).1).1).2.1=[]
        rw[e2];exact Zo4 } (Classical.not_not.1 h2)
   split
   ·exact hp.segs (Zbh _ _)
   next h3=>
    refine hp.sd fun e=>absurd ?_ h3
    have:Zc u.sch=true:=by have e':=e;rw[ZsH (Classical.not_not.1 h2)]at e';exact e'
    rw[this];rfl
theorem ZsI{u base:U}(h:Fr u)(hb:Sd base)(hs:base.sch=u.sch):Sh (kept u base) where
 sc:=h.sc
 pnam:=hb.pnam
 ppw:=hb.ppw
 phost:=hb.phost
 popath:=by show Pr u.opath;rw[h.zopath];exact pr_nil
 psegs:=by show PrS u.segs;rw[h.zsegs];exact ZkJ
 pq:=h.pq
 pfr:=h.pfr
 port:=fun e=>by have:=hb.port e;rw[hs]at this;exact this
 who:=fun e=>hb.who (by rw[hs];exact e)
 op:=h.zop
 hst:=fun e=>by have:=hb.hst;rw[hs]at this;exact this e
theorem ZsJ{u base:U}(l:LB)(h:Fr u)(hb:Sd base)(hs:base.sch=u.sch):Sd (Zad (kept u base) l base):=by
 have hk:=ZsI h hb hs;unfold Zad
 split
 ·refine(hk.segs' hb.psegs fun e=>(hb.sp (by rw[hs];exact e)).2).noq _ ?_
  split
  ·exact h.pq
  ·exact hb.pq
 ·exact hk.segs (Zft _ _ hb.psegs)
theorem ZgV{u base:U}(l:LB)(h:Fr u)(hb:Sd base)(hs:base.sch=u.sch)(h0:(ZX u l base).2=0):Sd (ZX u l base).1:=by
 unfold ZX at h0 ⊢
 split
 ·next h1=>rw[if_pos h1]at h0;exact ZsF l h h1 (fun _=>hb) h0
 next h1=>
  rw[if_neg h1]at h0
  split
  ·next h2=>rw[if_pos h2]at h0;exact ZdD _ h h1 h0
  split
  ·exact(ZsI h hb hs).segs (Zbh _ _)
  ·exact ZsJ l h hb hs
theorem Zqh{u base:U}(l:LB)(h:Fr u)(hf:u.sch≠Zv)(hb:base.sch=u.sch→Sd base)(h0:(Za7 u l base).2=0):Sd (Za7 u l base).1:=by
 unfold Za7 at h0 ⊢
 split
 ·next h1=>rw[if_pos h1]at h0;exact ZgV l h (hb h1.1) h1.1 h0
 ·next h1=>rw[if_neg h1]at h0;exact ZdD _ h hf h0
theorem ZjL{u base:U}(l:LB)(h:Fr u)(hb:base.sch=u.sch→Sd base)(h0:(ZY u l base).2=0):Sd (ZY u l base).1:=by
 unfold ZY at h0 ⊢
 split
 ·next h1=>rw[if_pos h1]at h0;exact ZsF l h h1 (fun e=>hb (e.trans h1.symm)) h0
 next h1=>
  rw[if_neg h1]at h0
  split
  ·next h2=>rw[if_pos h2]at h0;exact Zqh l h h1 hb h0
  next h2=>
   rw[if_neg h2]at h0
   have bare:∀(o:Bool) (x:LB) (s:List LB),Pr x→PrS s→Sd { u with op:=o,opath:=x,segs:=s }:=fun o x s hx hs=>{
    sc:=h.sc
    pnam:=by show Pr u.nam;rw[h.znam];exact pr_nil
    ppw:=by show Pr u.pw;rw[h.zpw];exact pr_nil
    phost:=by show Pr u.host;rw[h.zhost];exact pr_nil
    popath:=hx
    psegs:=hs
    pq:=h.pq
    pfr:=h.pfr
    port:=fun e=>by have e':u.hp=true:=e;rw[h.zhp]at e';cases e'
    who:=fun _=>⟨h.znam,h.zpw,h.zhp⟩
    sp:=fun e=>absurd e h2
    hst:=fun e=>absurd e h2 }
   split
   ·exact bare true _ u.segs (Zen _ _) (by rw[h.zsegs];exact ZkJ)
   next h3=>
    rw[if_neg h3]at h0
    split
    ·exact bare u.op u.opath _ (by rw[h.zopath];exact pr_nil) (Zbh _ _).1
    ·next h4=>rw[if_neg h4]at h0;exact ZdD _ h h1 h0
theorem ZsK{sch rest:LB}{found:Bool}{base:U}(hsc:sch≠[]→ZuR sch)(hb:base.sch≠[]→Sd base)(hn:found=false→base.sch=sch)(h0:(ZcX sch rest found base).2=0):Sd (ZcX sch rest found base).1:=by
 unfold ZcX at h0 ⊢
 split
 ·next h1=>rw[if_pos h1]at h0;cases h0
 next h1=>
  rw[if_neg h1]at h0
  split
  ·next h2=>rw[if_pos h2]at h0;exact ZjL _ (ZkK _ _ (hsc h1)) (fun e=>hb (by rw[e];exact h1)) h0
  ·next h2=>
   rw[if_neg h2]at h0
   have e:=hn (by simpa using h2)
   exact ZgV _ (ZkK _ _ (hsc h1)) (hb (by rw[e];exact h1)) e h0
theorem ZuT(l:LB)(hf:Bool){base:U}(hb:base=zeroU∨Sd base)(h0:(ZbK l hf base).2=0):Sd (ZbK l hf base).1:=by
 have hb':base.sch≠[]→Sd base:=fun hn=>hb.elim (fun e=>absurd (by rw[e];rfl) hn) id
 unfold ZbK at h0 ⊢
 split
 ·next h1=>
  rw[if_pos h1]at h0
  refine ZsK (fun _=>?_) hb' (fun e=>by cases e) h0
  unfold Zaw at h1 ⊢
  split
  ·next h2=>exact ZjK h2.2
  ·next h2=>rw[if_neg h2]at h1;cases h1
 next h1=>
  rw[if_neg h1]at h0
  split
  ·next h2=>
   rw[if_pos h2]at h0
   have hs:Sd base:=hb.elim (fun e=>by rw[e]at h2;cases h2) id
   unfold ZcR at h0 ⊢
   split
   ·exact hs
   ·next h3=>rw[if_neg h3]at h0;cases h0
  ·next h2=>
   rw[if_neg h2]at h0
   exact ZsK (fun hn=>(hb' hn).sc) hb' (fun _=>rfl) h0
theorem Zqi(l:LB){base:U}(hb:base=zeroU∨Sd base)(h0:(Zae l base).2=0):Sd (Zae l base).1:=by
 unfold Zae ZgG at h0 ⊢
 split
 ·next h1=>rw[if_pos h1]at h0;exact absurd h0 h1
 ·next h1=>
  have h:=ZuT (bcut (isB 35) (wholeText l)).1 (bcut (isB 35) (wholeText l)).2.2 hb (Classical.not_not.1 h1)
  exact { h with pfr:=Zen _ _ }
abbrev S0:List UInt8:=tl (ZaJ 0)
abbrev S1:List UInt8:=tl (ZaJ 1)
abbrev S5:List UInt8:=tl (ZaJ 5)
abbrev SQ(sch:List UInt8):List UInt8:=tl (ZaJ (ZaQ sch))
theorem Zxr(sch:LB):ZiW (SQ sch):=by
 unfold SQ ZaQ
 split
 ·exact Zxf
 ·exact Zxe
theorem ZbP(set:LB):Asis set []:=fun b hb=>by cases hb
def NoEnd(l:List UInt8):Prop:=∀a,l≠a++[32]
structure St' (u:U):Prop where
 sd:Sd u
 wf:Wf u
 anam:Asis S5 u.nam
 apw:Asis S5 u.pw
 ahost:ZlG u.host
 fhost:u.host≠[]→ZT u.host (Zc u.sch)=(u.host,0)
 seg:Zfz (u.sch==Zv) (Zc u.sch) u.segs
 aq:Asis (SQ u.sch) u.q
 afr:Asis S1 u.fr
 opq:u.op=true→u.segs=[]∧u.hh=false∧countSl false u.opath=0∧∀b∈u.opath,b≠63∧b≠35
 zop:u.op=false→u.opath=[]
 pth:u.op=false→u.hh=false→u.segs≠[]
 zport:u.hp=false→u.port=0
 fil:u.sch=Zv→u.host≠ZeS
 sp:Zc u.sch=true→u.hh=true
structure Fs (u:U):Prop where
 fr:Fr u
 wf:Wf u
 aq:Asis (SQ u.sch) u.q
 zfr:u.fr=[]
 zport:u.port=0
 zhh:u.hh=false
theorem ZkL{sch rest:LB}(h:ZuR sch):Fs (ZcE sch (bcut (isB 63) rest).2.2 (bcut (isB 63) rest).2.1):=
 ⟨ZkK _ _ h,ZkH _ _ _ (Ze2 _ _),ZcG (Zxr _) _,rfl,rfl,rfl⟩
theorem ZwF{s:List LB}{sch:LB}(hf:sch=Zv)(h:Zfz true true s):Zfz (sch==Zv) (Zc sch) s:=by subst hf;exact h
theorem Zer{s:List LB}{sch:LB}(hf:sch=Zv)(h:Zfz (sch==Zv) (Zc sch) s):Zfz true true s:=by subst hf;exact h
theorem Zes{u:U}{host:LB}{segs:List LB}{hq:Bool}{q:LB}(h:Fs u)(hf:u.sch=Zv)(ht:ZlG host)(hp:Pr host)(hfix:host≠[]→ZT host true=(host,0))(hl:host≠ZeS)(hs:Zfz true true segs)(hsp:PrS segs∧segs≠[])(hqa:Asis (SQ u.sch) q)(hqp:Pr q)(hqn:hq=false→q=[]):
  St' { u with hh:=true,host:=host,segs:=segs,hq:=hq,q:=q } where
 sd:=(Ze3 (u:=u) (hh:=true) h.fr hf hp hsp).noq hq hqp
 wf:=⟨fun e=>(by cases e),hqn,h.wf.nf⟩
 anam:=by show Asis S5 u.nam;rw[h.fr.znam];exact ZbP _
 apw:=by show Asis S5 u.pw;rw[h.fr.zpw];exact ZbP _
 ahost:=ht
 fhost:=fun e=>by show ZT host (Zc u.sch)=_;rw[hf,file_special];exact hfix e
 seg:=ZwF hf hs
 aq:=hqa
 afr:=by show Asis S1 u.fr;rw[h.zfr];exact ZbP _
 opq:=fun e=>by have e':u.op=true:=e;rw[h.fr.zop]at e';cases e'
 zop:=fun _=>h.fr.zopath
 pth:=fun _ e=>by cases e
 zport:=fun _=>h.zport
 fil:=fun _=>hl
 sp:=fun _=>rfl
theorem local_ne:([]:LB)≠ZeS:=by decide
theorem Zl9{l:LB}:ZlG (ZH l).1∧((ZH l).1≠[]→ZT (ZH l).1 true=((ZH l).1,0))∧(ZH l).1≠ZeS:=by
 unfold ZH
 split
 ·exact⟨hostT_nil,fun e=>absurd rfl e,local_ne⟩
 next h1=>
  split
  ·exact⟨hostT_nil,fun e=>absurd rfl e,local_ne⟩
  next h2=>
   split
   ·exact⟨hostT_nil,fun e=>absurd rfl e,local_ne⟩
   ·next h3=>exact⟨hostL_T,fun _=>ZlF (Classical.not_not.1 h2),h3⟩
theorem ZnA{u:U}(t:LB)(h:Fs u)(hf:u.sch=Zv)(h0:(Z6 { u with hh:=true } t).2=0):St' (Z6 { u with hh:=true } t).1∧(Z6 { u with hh:=true } t).1.op=false:=by
 unfold Z6 at h0 ⊢
 split
 ·exact⟨Zes (u:=u) (host:=u.host) (hq:=u.hq) (q:=u.q) h hf (by rw[h.fr.zhost];exact hostT_nil) (by rw[h.fr.zhost];exact pr_nil) (fun e=>absurd h.fr.zhost e) (by rw[h.fr.zhost];exact local_ne) (Zer hf (ZeX t u.sch)) (Zbh t u.sch) h.aq h.fr.pq h.wf.nq,h.fr.zop⟩
 next h1=>
  rw[if_neg h1]at h0
  split
  ·next h2=>rw[if_pos h2]at h0;exact absurd h0 h2
  ·have hk:=Zl9 (l:=(bcut (slB true) t).1)
   exact⟨Zes (u:=u) (hq:=u.hq) (q:=u.q) h hf hk.1 (Zho _) hk.2.1 hk.2.2 (Zer hf (ZeX _ u.sch)) (Zbh _ _) h.aq h.fr.pq h.wf.nq,h.fr.zop⟩
theorem ZnB{u base:U}(l:LB)(h:Fs u)(hf:u.sch=Zv)(hb:base.sch=Zv→St' base)(h0:(ZdN u l base).2=0):St' (ZdN u l base).1∧(ZdN u l base).1.op=false:=by
 unfold ZdN at h0 ⊢
 split
 ·next h1=>rw[if_pos h1]at h0;exact ZnA _ h hf h0
 next h1=>
  rw[if_neg h1]at h0
  split
  ·exact⟨Zes (u:=u) (host:=u.host) (hq:=u.hq) (q:=u.q) h hf (by rw[h.fr.zhost];exact hostT_nil) (by rw[h.fr.zhost];exact pr_nil) (fun e=>absurd h.fr.zhost e) (by rw[h.fr.zhost];exact local_ne) (Zer hf (ZeX _ u.sch)) (Zbh _ _) h.aq h.fr.pq h.wf.nq,h.fr.zop⟩
  next h2=>
   have hbf:base.sch=Zv:=Classical.not_not.1 h2;have hs:=hb hbf
   have hsp:Zc base.sch=true:=by rw[hbf];exact file_special
   have hfx:base.host≠[]→ZT base.host true=(base.host,0):=fun e=>by have:=hs.fhost e;rwa [hsp]at this
   split
   ·exact⟨Zes (u:=u) (hq:=u.hq) (q:=u.q) h hf hs.ahost hs.sd.phost hfx (hs.fil hbf) (Zuq _ (Zer hbf hs.seg)) (ZiD _ hs.sd.psegs) h.aq h.fr.pq h.wf.nq,h.fr.zop⟩
   split
   ·exact⟨Zes (u:=u) (hq:=u.hq) (q:=u.q) h hf hs.ahost hs.sd.phost hfx (hs.fil hbf) (Zer hf (ZeX _ u.sch)) (Zbh _ _) h.aq h.fr.pq h.wf.nq,h.fr.zop⟩
   ·show St' (Zad { u with hh:=true,host:=base.host } l base)∧(Zad { u with hh:=true,host:=base.host } l base).op=false
    unfold Zad
    split
    ·refine⟨?_,h.fr.zop⟩
     refine Zes (u:=u) (hq:=u.hq||base.hq) (q:=if u.hq=true then u.q else base.q) h hf hs.ahost hs.sd.phost hfx (hs.fil hbf) (Zer hbf hs.seg) ⟨hs.sd.psegs,(hs.sd.sp hsp).2⟩ ?_ ?_ ?_
     ·split
      ·exact h.aq
      ·have:=hs.aq;rw[hbf,←hf]at this;exact this
     ·split
      ·exact h.fr.pq
      ·exact hs.sd.pq
     ·intro e
      rw[Xg]at e
      rw[if_neg (by rw[e.1];decide)]
      exact hs.wf.nq e.2
    ·refine⟨?_,h.fr.zop⟩
     refine Zes (u:=u) (hq:=u.hq) (q:=u.q) h hf hs.ahost hs.sd.phost hfx (hs.fil hbf) ?_ (Zft _ _ hs.sd.psegs) h.aq h.fr.pq h.wf.nq
     refine Zer hf (ZlH l ?_)
     show Zfz (u.sch==Zv) (Zc u.sch) base.segs
     have hseg:=hs.seg;rw[hbf]at hseg;rw[hf];exact hseg
theorem ZuU{u:U}{p:LB}(h0:(Z2 u p).2=0)(hz:u.port=0):
  (Z2 u p).1.hh=true∧ZlG (Z2 u p).1.host∧((Z2 u p).1.host≠[]→ZT (Z2 u p).1.host (Zc u.sch)=((Z2 u p).1.host,0))∧((Z2 u p).1.hp=false→(Z2 u p).1.port=0) ∧
  (Z2 u p).1.nam=u.nam∧(Z2 u p).1.pw=u.pw∧(Z2 u p).1.sch=u.sch∧(Z2 u p).1.q=u.q∧(Z2 u p).1.hq=u.hq∧(Z2 u p).1.fr=u.fr∧(Z2 u p).1.hf=u.hf∧(Z2 u p).1.op=u.op∧(Z2 u p).1.opath=u.opath∧(Z2 u p).1.segs=u.segs:=by
 unfold Z2 at h0 ⊢
 split
 ·next h1=>rw[if_pos h1]at h0;cases h0
 next h1=>
  rw[if_neg h1]at h0
  split
  ·next h2=>rw[if_pos h2]at h0;exact absurd h0 h2
  next h2=>
   rw[if_neg h2]at h0;have hx:=ZlF (Classical.not_not.1 h2)
   split
   ·exact⟨rfl,hostL_T,fun _=>hx,fun _=>hz,rfl,rfl,rfl,rfl,rfl,rfl,rfl,rfl,rfl,rfl⟩
   next h3=>
    rw[if_neg h3]at h0;unfold Zgg at h0 ⊢
    split
    ·next h4=>rw[if_pos h4]at h0;cases h0
    ·show _
     simp only;unfold Za6
     split
     ·exact⟨rfl,hostL_T,fun _=>hx,fun _=>rfl,rfl,rfl,rfl,rfl,rfl,rfl,rfl,rfl,rfl,rfl⟩
     ·exact⟨rfl,hostL_T,fun _=>hx,fun e=>(by cases e),rfl,rfl,rfl,rfl,rfl,rfl,rfl,rfl,rfl,rfl⟩
theorem ZcL{u:U}(t:LB)(h:Fs u)(hf:u.sch≠Zv)(h0:(Zy u t).2=0):St' (Zy u t).1∧(Zy u t).1.op=false:=by
 have hsd:=ZdD t h.fr hf h0;have hwf:=ZdC t h.wf.wq;unfold Zy at h0 hsd hwf ⊢
 split at h0
 ·cases h0
 next h1=>
  rw[if_neg h1]at hsd hwf ⊢;unfold Zdi at h0 hsd hwf ⊢
  split at h0
  ·next h2=>exact absurd h0 h2
  next h2=>
   rw[if_neg h2]at hsd hwf ⊢;have hk:=ZuU (Classical.not_not.1 h2) h.zport;obtain⟨k1,k2,k3,k4,k5,k6,k7,k8,k9,k10,k11,k12,k13,k14⟩:=hk;generalize Z2 _ _=pq at *;obtain⟨v,e⟩:=pq;simp only at *
   split at h0
   ·next h3=>
    rw[if_pos h3]at hsd hwf ⊢
    refine⟨?_,k12.trans h.fr.zop⟩
    exact {
     sd:=hsd,wf:=hwf
     anam:=by show Asis S5 v.nam;rw[k5];exact ZcG Zoz _
     apw:=by show Asis S5 v.pw;rw[k6];exact ZcG Zoz _
     ahost:=k2
     fhost:=fun x=>by show ZT v.host (Zc v.sch)=_;rw[k7];exact k3 x
     seg:=by show Zfz (v.sch==Zv) (Zc v.sch) _;rw[k7];exact ZeX _ _
     aq:=by show Asis (SQ v.sch) v.q;rw[k7,k8];exact h.aq
     afr:=by show Asis S1 v.fr;rw[k10,h.zfr];exact ZbP _
     opq:=fun x=>by have x':v.op=true:=x;rw[k12,h.fr.zop]at x';cases x'
     zop:=fun _=>by show v.opath=[];rw[k13,h.fr.zopath]
     pth:=fun _ x=>by have x':v.hh=false:=x;rw[k1]at x';cases x'
     zport:=k4
     fil:=fun x=>absurd (k7.symm.trans x) hf
     sp:=fun _=>k1 }
   ·next h3=>
    rw[if_neg h3]at hsd hwf ⊢
    refine⟨?_,k12.trans h.fr.zop⟩
    exact {
     sd:=hsd,wf:=hwf
     anam:=by show Asis S5 v.nam;rw[k5];exact ZcG Zoz _
     apw:=by show Asis S5 v.pw;rw[k6];exact ZcG Zoz _
     ahost:=k2
     fhost:=fun x=>by show ZT v.host (Zc v.sch)=_;rw[k7];exact k3 x
     seg:=by show Zfz (v.sch==Zv) (Zc v.sch) v.segs;rw[k14,h.fr.zsegs];exact Zr4 _ _
     aq:=by show Asis (SQ v.sch) v.q;rw[k7,k8];exact h.aq
     afr:=by show Asis S1 v.fr;rw[k10,h.zfr];exact ZbP _
     opq:=fun x=>by have x':v.op=true:=x;rw[k12,h.fr.zop]at x';cases x'
     zop:=fun _=>by show v.opath=[];rw[k13,h.fr.zopath]
     pth:=fun _ x=>by have x':v.hh=false:=x;rw[k1]at x';cases x'
     zport:=k4
     fil:=fun x=>absurd (k7.symm.trans x) hf
     sp:=fun _=>k1 }
theorem enc_from{set l:LB}{b:UInt8}(hb:b∈encB set (clean l)):b∈l∨b.toNat=37∨(48≤b.toNat∧b.toNat≤57)∨(65≤b.toNat∧b.toNat≤70):=by
 have hp:=Zen set _ b hb;obtain⟨c,hcm,hc⟩:=List.mem_flatMap.1 hb;have hcl:=c.toNat_lt;unfold Zab at hc
 split at hc
 ·simp only[Xd,List.not_mem_nil,or_false]at hc
  rcases hc with rfl|rfl|rfl
  ·exact Or.inr (Or.inl rfl)
  ·exact Or.inr (Or.inr (Zby (by omega) (by omega)))
  ·exact Or.inr (Or.inr (Zby (by omega) (by omega)))
 ·rw[Xi]at hc
  subst hc;rcases Zig _ l (Nat.le_refl _) b hcm with h1|h1
  ·exact Or.inl h1
  ·omega
theorem ZvJ{set l:LB}{c:UInt8}(h:∀b∈l,b≠c)(hc:¬(c.toNat=37∨(48≤c.toNat∧c.toNat≤57)∨(65≤c.toNat∧c.toNat≤70))):∀b∈encB set (clean l),b≠c:=by
 intro b hb e;subst e;rcases enc_from hb with h1|h1
 ·exact h b h1 rfl
 ·exact hc h1
theorem ZsL{set l:LB}(h:countSl false l=0):countSl false (encB set (clean l))=0:=by
 cases l with
 | nil=>rw[clean_nil];rfl
 | cons c r=>
  have hc:slB false c=false:=by
   cases hh:slB false c
   ·rfl
   ·rw[countSl,if_pos hh]at h;cases h
  have key:∀(b:UInt8) (m:LB),slB false b=false→countSl false (encB set (b::m))=0:=by
   intro b m hb;rw[Zii];unfold Zab
   split
   ·rfl
   ·show countSl false (b::_)=0
    rw[countSl,if_neg (by rw[hb];decide)]
  by_cases hlo:c.toNat<128
  ·rw[ZhI r hlo];exact key c _ hc
  ·obtain⟨b,m,hb,hh⟩:=ZoB r (by omega:128≤c.toNat)
   rw[hb]
   exact key b m (ZoD (by omega) false)
theorem ZsM{a b x:LB}(hb:b≠[])(h:a++b=x++[32]):∃y,b=y++[32]:=by
 rcases Xc b with rfl|⟨y,z,rfl⟩
 ·exact absurd rfl hb
 ·rw[Xa,←Xb]at h
  have:=Xf h rfl;rw[Xa,this];exact⟨y,rfl⟩
theorem ZsN:∀(n:Nat) (l a:LB),l.length≤n→clean l=a++[32]→∃y,l=y++[32]:=by
 intro n
 induction n with
 | zero=>
  intro l a hl h
  have:l=[]:=List.length_eq_zero_iff.1 (by omega)
  subst this;rw[clean_nil]at h
  exact absurd h (by simp)
 | succ n ih=>
  intro l a hl h
  cases l with
  | nil=>rw[clean_nil]at h;exact absurd h (by simp)
  | cons c r=>
   have hm:=Zeb c r;rw[Zc2]at h;simp only[List.length_cons]at hl
   by_cases hr:r.drop ((measure (c::r)).1-1)=[]
   ·rw[hr,clean_nil,List.append_nil]at h
    split at h
    ·have hlen:(measure (c::r)).1=r.length+1:=by
      have:=congrArg List.length hr;rw[Xk,List.length_nil]at this
      omega
     rw[hlen,List.take_of_length_le (by simp)]at h
     exact⟨a,h⟩
    ·have:=congrArg List.getLast? h
     simp at this
   ·obtain⟨y,hy⟩:=ZsM (Zkp hr) h
    obtain⟨z,hz⟩:=ih _ _ (by rw[Xk];omega) hy
    refine⟨(c::r).take (measure (c::r)).1++z,?_⟩
    have hs:(c::r).drop (measure (c::r)).1=z++[32]:=by
     rw[←hz]
     obtain⟨k,hk⟩:∃k,(measure (c::r)).1=k+1:=⟨(measure (c::r)).1 - 1,by omega⟩
     rw[hk,List.drop_succ_cons]
     rfl
    rw[Xb,←hs,List.take_append_drop]
theorem ZwG{set l a:LB}(h:encB set (clean l)=a++[32]):∃y,l=y++[32]:=by
 rcases Xc (clean l)with hn|⟨m,x,hx⟩
 ·rw[hn]at h;exact absurd h (by simp[encB])
 ·rw[Xa]at hx
  rw[hx,Zk0]at h
  obtain⟨y,hy⟩:=ZsM (by unfold Zab;split<;>simp) h
  have hxl:=x.toNat_lt;unfold Zab at hy
  split at hy
  ·have:=congrArg List.getLast? hy
   simp only[Xh,Xe,List.getLast?_cons_cons]at this
   have e:toB (capital ((x.toNat:Int)%16))=32:=by simpa using this
   have:=Zby (n:=(x.toNat:Int)%16) (by omega) (by omega)
   rw[e]at this
   exact absurd this (by decide)
  ·have:=congrArg List.getLast? hy
   simp only[Xh,Xe]at this
   have e:x=32:=by simpa using this
   subst e;exact ZsN _ l m (Nat.le_refl _) hx
theorem NoEnd.enc{set l:LB}(h:NoEnd l):NoEnd (encB set (clean l)):=fun _ e=>by
 obtain⟨y,hy⟩:=ZwG e;exact h y hy
theorem NoEnd.tail{a b:LB}(h:NoEnd (a++b)):NoEnd b:=fun y e=>h (a++y) (by rw[e,Xb])
theorem Zfu(p:UInt8→Bool)(l:LB):((bcut p l).2.2=false∧(bcut p l).1=l)∨((bcut p l).2.2=true∧∃c,l=(bcut p l).1++c::(bcut p l).2.1):=by
 induction l with
 | nil=>left;exact⟨rfl,rfl⟩
 | cons c r ih=>
  rw[bcut]
  split
  ·right;exact⟨rfl,c,rfl⟩
  ·rcases ih with⟨h1,h2⟩|⟨h1,d,h2⟩
   ·left;exact⟨h1,by show c::(bcut p r).1=c::r;rw[h2]⟩
   ·right;exact⟨h1,d,by show c::r=c::(bcut p r).1++d::(bcut p r).2.1;rw[List.cons_append,←h2]⟩
theorem Zma(p:UInt8→Bool)(l:LB):∀b∈(bcut p l).1,p b=false:=by
 induction l with
 | nil=>intro b hb;cases hb
 | cons c r ih=>
  intro b hb;rw[bcut]at hb
  split at hb
  ·cases hb
  ·next hc=>
   simp only[Xd]at hb;rcases hb with rfl|hb
   ·simpa using hc
   ·exact ih b hb
theorem ZuV(p:UInt8→Bool)(l:LB):(∀b∈(bcut p l).1,b∈l)∧(∀b∈(bcut p l).2.1,b∈l):=by
 rcases Zfu p l with⟨h1,h2⟩|⟨h1,c,h2⟩
 ·exact⟨fun b hb=>by rw[h2]at hb;exact hb,fun b hb=>by rw[Ze2 p l h1]at hb;cases hb⟩
 ·exact⟨fun b hb=>by rw[h2];simp[hb],fun b hb=>by rw[h2];simp[hb]⟩
theorem ZnC{u base:U}{segs:List LB}{hq:Bool}{q:LB}(h:Fs u)(hb:St' base)(hs:base.sch=u.sch)(hsg:Zfz (u.sch==Zv) (Zc u.sch) segs)(hn:base.hh=false→segs≠[])(hqa:Asis (SQ u.sch) q)(hqn:hq=false→q=[])
  (sd:Sd { kept u base with segs:=segs,hq:=hq,q:=q }):St' { kept u base with segs:=segs,hq:=hq,q:=q } where
 sd:=sd
 wf:=⟨hb.wf.nh,hqn,h.wf.nf⟩
 anam:=hb.anam
 apw:=hb.apw
 ahost:=hb.ahost
 fhost:=fun e=>by have:=hb.fhost e;rw[hs]at this;exact this
 seg:=hsg
 aq:=hqa
 afr:=by show Asis S1 u.fr;rw[h.zfr];exact ZbP _
 opq:=fun e=>by have e':u.op=true:=e;rw[h.fr.zop]at e';cases e'
 zop:=fun _=>h.fr.zopath
 pth:=fun _ e=>hn e
 zport:=hb.zport
 fil:=fun e=>hb.fil (hs.trans e)
 sp:=fun e=>hb.sp (by rw[hs];exact e)
theorem ZgW{u base:U}(l:LB)(h:Fs u)(hb:St' base)(hs:base.sch=u.sch)(hbo:base.op=false)(h0:(ZX u l base).2=0):St' (ZX u l base).1∧(ZX u l base).1.op=false:=by
 have hsd:=ZgV l h.fr hb.sd hs h0;unfold ZX at h0 hsd ⊢
 split
 ·next h1=>rw[if_pos h1]at h0;exact ZnB l h h1 (fun _=>hb) h0
 next h1=>
  rw[if_neg h1]at h0 hsd
  split
  ·next h2=>rw[if_pos h2]at h0;exact ZcL _ h h1 h0
  next h2=>
   rw[if_neg h2]at h0 hsd
   have hbs:Zfz (u.sch==Zv) (Zc u.sch) base.segs:=by rw[←hs];exact hb.seg
   split
   ·next h3=>
    rw[if_pos h3]at hsd
    exact⟨ZnC (u:=u) (hq:=u.hq) (q:=u.q) h hb hs (ZeX _ _) (fun _=>(Zbh _ _).2) h.aq h.wf.nq hsd,h.fr.zop⟩
   ·next h3=>
    rw[if_neg h3]at hsd
    show St' (Zad (kept u base) l base)∧(Zad (kept u base) l base).op=false
    have hsd':Sd (Zad (kept u base) l base):=hsd;unfold Zad at hsd' ⊢
    split
    ·next h4=>
     rw[if_pos h4]at hsd'
     refine⟨?_,h.fr.zop⟩
     refine ZnC (u:=u) (hq:=u.hq||base.hq) (q:=if u.hq=true then u.q else base.q) h hb hs hbs (fun e=>hb.pth hbo e) ?_ ?_ hsd'
     ·split
      ·exact h.aq
      ·have:=hb.aq;rw[hs]at this;exact this
     ·intro e
      rw[Xg]at e
      rw[if_neg (by rw[e.1];decide)]
      exact hb.wf.nq e.2
    ·next h4=>
     rw[if_neg h4]at hsd'
     exact⟨ZnC (u:=u) (hq:=u.hq) (q:=u.q) h hb hs (ZlH l hbs) (fun _=>(Zft _ _ hb.sd.psegs).2) h.aq h.wf.nq hsd',h.fr.zop⟩
theorem ZjM{base:U}(hb:St' base)(h:Zc base.sch=true):base.op=false:=(hb.sd.sp h).1
theorem Zqj{u base:U}(l:LB)(h:Fs u)(hb:base.sch=u.sch→St' base)(hl:∀b∈l,b≠63∧b≠35)(h0:(ZY u l base).2=0):St' (ZY u l base).1∧((ZY u l base).1.op=true→(ZY u l base).1.opath=encB S0 (clean l)):=by
 have hsd:=ZjL l h.fr (fun e=>(hb e).sd) h0
 have noop:∀ {v:U},St' v→v.op=false→St' v∧(v.op=true→v.opath=encB S0 (clean l)):=fun a b=>⟨a,fun e=>by rw[b]at e;cases e⟩
 unfold ZY at h0 hsd ⊢
 split
 ·next h1=>
  rw[if_pos h1]at h0
  have k:=ZnB l h h1 (fun e=>hb (e.trans h1.symm)) h0
  exact noop k.1 k.2
 next h1=>
  rw[if_neg h1]at h0 hsd
  split
  ·next h2=>
   rw[if_pos h2]at h0;unfold Za7 at h0 ⊢
   split
   ·next h3=>
    rw[if_pos h3]at h0;have hbs:=hb h3.1
    have k:=ZgW l h hbs h3.1 (ZjM hbs (by rw[h3.1];exact h2)) h0
    exact noop k.1 k.2
   ·next h3=>
    rw[if_neg h3]at h0;have k:=ZcL _ h h1 h0;exact noop k.1 k.2
  next h2=>
   rw[if_neg h2]at h0 hsd
   split
   ·next h3=>
    rw[if_pos h3]at hsd
    refine⟨?_,fun _=>rfl⟩
    exact {
     sd:=hsd
     wf:=h.wf.pathed _ _
     anam:=by show Asis S5 u.nam;rw[h.fr.znam];exact ZbP _
     apw:=by show Asis S5 u.pw;rw[h.fr.zpw];exact ZbP _
     ahost:=by show ZlG u.host;rw[h.fr.zhost];exact hostT_nil
     fhost:=fun e=>absurd h.fr.zhost e
     seg:=by show Zfz _ _ u.segs;rw[h.fr.zsegs];exact Zr4 _ _
     aq:=h.aq
     afr:=by show Asis S1 u.fr;rw[h.zfr];exact ZbP _
     opq:=fun _=>⟨h.fr.zsegs,h.zhh,ZsL h3,fun b hb=>⟨ZvJ (fun b hb=>(hl b hb).1) (by decide) b hb,ZvJ (fun b hb=>(hl b hb).2) (by decide) b hb⟩⟩
     zop:=fun e=>by cases e
     pth:=fun e=>by cases e
     zport:=fun _=>h.zport
     fil:=fun e=>absurd e h1
     sp:=fun e=>absurd e h2 }
   next h3=>
    rw[if_neg h3]at h0 hsd
    split
    ·next h4=>
     rw[if_pos h4]at hsd
     refine noop ?_ h.fr.zop
     exact {
      sd:=hsd
      wf:=h.wf.segs _
      anam:=by show Asis S5 u.nam;rw[h.fr.znam];exact ZbP _
      apw:=by show Asis S5 u.pw;rw[h.fr.zpw];exact ZbP _
      ahost:=by show ZlG u.host;rw[h.fr.zhost];exact hostT_nil
      fhost:=fun e=>absurd h.fr.zhost e
      seg:=ZeX _ _
      aq:=h.aq
      afr:=by show Asis S1 u.fr;rw[h.zfr];exact ZbP _
      opq:=fun e=>by have e':u.op=true:=e;rw[h.fr.zop]at e';cases e'
      zop:=fun _=>h.fr.zopath
      pth:=fun _ _=>(Zbh _ _).2
      zport:=fun _=>h.zport
      fil:=fun e=>absurd e h1
      sp:=fun e=>absurd e h2 }
    ·next h4=>
     rw[if_neg h4]at h0;have k:=ZcL _ h h1 h0;exact noop k.1 k.2
theorem Zqk{u base:U}(l:LB)(h:(ZY u l base).1.op=true)(h0:Fs u)(hs:(ZY u l base).2=0)(hb:base.sch=u.sch→St' base):(ZY u l base).1.hq=u.hq:=by
 unfold ZY at h hs ⊢
 split
 ·next h1=>
  rw[if_pos h1]at h hs
  rw[(ZnB l h0 h1 (fun e=>hb (e.trans h1.symm)) hs).2]at h
  cases h
 next h1=>
  rw[if_neg h1]at h hs
  split
  ·next h2=>
   rw[if_pos h2]at h hs;unfold Za7 at h hs
   split at hs
   ·next h3=>
    rw[if_pos h3]at h;have hbs:=hb h3.1
    rw[(ZgW l h0 hbs h3.1 (ZjM hbs (by rw[h3.1];exact h2)) hs).2]at h
    cases h
   ·next h3=>
    rw[if_neg h3]at h;rw[(ZcL _ h0 h1 hs).2]at h
    cases h
  next h2=>
   rw[if_neg h2]at h hs
   split
   ·rfl
   next h3=>
    rw[if_neg h3]at h hs
    split
    ·rfl
    ·next h4=>
     rw[if_neg h4]at h hs;rw[(ZcL _ h0 h1 hs).2]at h
     cases h
theorem ZsO{sch rest:LB}{found:Bool}{base:U}(hsc:sch≠[]→ZuR sch)(hb:base.sch≠[]→St' base)(hn:found=false→base.sch=sch∧base.op=false)(hr:∀b∈rest,b≠35)(h0:(ZcX sch rest found base).2=0):St' (ZcX sch rest found base).1∧((ZcX sch rest found base).1.op=true→(ZcX sch rest found base).1.hq=(bcut (isB 63) rest).2.2∧(ZcX sch rest found base).1.opath=encB S0 (clean (bcut (isB 63) rest).1)):=by
 have hl:∀b∈(bcut (isB 63) rest).1,b≠63∧b≠35:=fun b hb'=>⟨fun e=>by have:=Zma (isB 63) rest b hb';rw[e]at this;exact absurd this (by decide),hr b ((ZuV (isB 63) rest).1 b hb')⟩
 unfold ZcX at h0 ⊢
 split
 ·next h1=>rw[if_pos h1]at h0;cases h0
 next h1=>
  rw[if_neg h1]at h0
  split
  ·next h2=>
   rw[if_pos h2]at h0
   have k:=Zqj (bcut (isB 63) rest).1 (ZkL (rest:=rest) (hsc h1)) (fun e=>hb (by rw[e];exact h1)) hl h0
   refine⟨k.1,fun e=>⟨?_,k.2 e⟩⟩
   exact Zqk _ e (ZkL (rest:=rest) (hsc h1)) h0 (fun e=>hb (by rw[e];exact h1))
  ·next h2=>
   rw[if_neg h2]at h0
   have e:=hn (by simpa using h2)
   have k:=ZgW (bcut (isB 63) rest).1 (ZkL (rest:=rest) (hsc h1)) (hb (by rw[e.1];exact h1)) e.1 e.2 h0
   exact⟨k.1,fun x=>by rw[k.2]at x;cases x⟩
structure St (u:U):Prop where
 st:St' u
 blank:u.op=true→u.hq=false→u.hf=false→NoEnd u.opath
theorem ZnD(l:LB):∃a,l=a++(Zaw l).2.1:=by
 unfold Zaw
 split
 ·next h=>
  rcases Zfu (isB 58) l with⟨h1,-⟩|⟨-,c,h2⟩
  ·rw[h.1]at h1;cases h1
  ·exact⟨(bcut (isB 58) l).1++[c],by rw[Xb];exact h2⟩
 ·exact⟨[],rfl⟩
theorem ZuW(l:LB)(hf:Bool){base:U}(hb:base=zeroU∨St' base)(hl:∀b∈l,b≠35)(he:hf=false→NoEnd l)(h0:(ZbK l hf base).2=0):St' (ZbK l hf base).1∧((ZbK l hf base).1.op=true→(ZbK l hf base).1.hq=false→hf=false→NoEnd (ZbK l hf base).1.opath):=by
 have hb':base.sch≠[]→St' base:=fun hn=>hb.elim (fun e=>absurd (by rw[e];rfl) hn) id
 obtain⟨a,ha⟩:=ZnD l
 have hr:∀b∈(Zaw l).2.1,b≠35:=fun b hb=>hl b (by rw[ha];simp[hb])
 have fin:∀ {v:U},(v.op=true→v.hq=(bcut (isB 63) (Zaw l).2.1).2.2∧v.opath=encB S0 (clean (bcut (isB 63) (Zaw l).2.1).1))→v.op=true→v.hq=false→hf=false→NoEnd v.opath:=by
  intro v hv h1 h2 h3;obtain⟨k1,k2⟩:=hv h1;rw[h2]at k1;rcases Zfu (isB 63) (Zaw l).2.1 with⟨-,e⟩|⟨e,-⟩
  ·rw[e]at k2
   rw[k2];have hn:=he h3;rw[ha]at hn;exact hn.tail.enc
  ·rw[e]at k1;cases k1
 unfold ZbK at h0 ⊢
 split
 ·next h1=>
  rw[if_pos h1]at h0
  have k:=ZsO (sch:=(Zaw l).1) (rest:=(Zaw l).2.1) (found:=true) (fun _=>by
   unfold Zaw at h1 ⊢
   split
   ·next h2=>exact ZjK h2.2
   ·next h2=>rw[if_neg h2]at h1;cases h1) hb' (fun e=>by cases e) hr h0
  exact⟨k.1,fin k.2⟩
 next h1=>
  rw[if_neg h1]at h0
  split
  ·next h2=>
   rw[if_pos h2]at h0
   have hs:St' base:=hb.elim (fun e=>by rw[e]at h2;cases h2) id
   unfold ZcR at h0 ⊢
   split
   ·next h3=>exact⟨hs,fun _ _ e=>by rw[h3.2]at e;cases e⟩
   ·next h3=>rw[if_neg h3]at h0;cases h0
  ·next h2=>
   rw[if_neg h2]at h0
   have k:=ZsO (sch:=base.sch) (rest:=(Zaw l).2.1) (found:=false) (fun hn=>(hb' hn).sd.sc) hb' (fun _=>⟨rfl,by simpa using h2⟩) hr h0
   exact⟨k.1,fin k.2⟩
theorem ZuX(m:LB):∀a x,trimB m=a++[x]→ZaO x=false:=by
 intro a x h;unfold trimB at h;have h1:=congrArg List.reverse h;rw[List.reverse_reverse,List.reverse_append]at h1
 have h2:(List.dropWhile ZaO (List.dropWhile ZaO m).reverse).head?=some x:=by rw[h1];rfl
 have:=List.head?_dropWhile_not ZaO (List.dropWhile ZaO m).reverse;rw[h2]at this
 simpa using this
theorem ZsP(l:LB):NoEnd (wholeText l):=by
 intro a h;unfold wholeText noBreaks at h;rcases Xc (trimB (clean l))with hn|⟨y,x,hx⟩
 ·rw[hn]at h;exact absurd h (by simp)
 ·rw[Xa]at hx
  have hb:=ZuX _ _ _ hx
  have hk:(!ZdX x)=true:=by
   unfold ZaO at hb;unfold ZdX;have:=of_decide_eq_false hb
   have h1:((x.toNat:Int)==9)=false:=beq_eq_false_iff_ne.2 (by omega)
   have h2:((x.toNat:Int)==10)=false:=beq_eq_false_iff_ne.2 (by omega)
   have h3:((x.toNat:Int)==13)=false:=beq_eq_false_iff_ne.2 (by omega)
   rw[h1,h2,h3];rfl
  rw[hx,List.filter_append]at h
  have hf1:List.filter (fun b=>!ZdX b) [x]=[x]:=by simp only[List.filter,hk]
  rw[hf1]at h;have e:=Xf h rfl;simp only[List.cons.injEq,and_true]at e;subst e
  exact absurd hb (by decide)
theorem ZgX(l:LB){base:U}(hb:base=zeroU∨St' base)(h0:(Zae l base).2=0):St (Zae l base).1:=by
 have hwf:=Zqf l (base:=base) (hb.elim (fun e=>by rw[e];exact ZdO) (fun h=>h.wf))
 have hsd:=Zqi l (base:=base) (hb.elim Or.inl (fun h=>Or.inr h.sd)) h0
 unfold Zae ZgG at h0 hwf hsd ⊢
 split
 ·next h1=>rw[if_pos h1]at h0;exact absurd h0 h1
 ·next h1=>
  rw[if_neg h1]at hwf hsd
  have hl:∀b∈(bcut (isB 35) (wholeText l)).1,b≠35:=fun b hb' e=>by have:=Zma (isB 35) _ b hb';rw[e]at this;exact absurd this (by decide)
  have h:=ZuW (bcut (isB 35) (wholeText l)).1 (bcut (isB 35) (wholeText l)).2.2 hb hl (fun e=>by
   rcases Zfu (isB 35) (wholeText l)with⟨-,e2⟩|⟨e2,-⟩
   ·rw[e2];exact ZsP l
   ·rw[e2]at e;cases e) (Classical.not_not.1 h1)
  refine⟨{ h.1 with sd:=hsd,wf:=hwf,afr:=ZcG Zxd _ },fun e1 e2 e3=>h.2 e1 e2 e3⟩
theorem Zql{base:LB}{b:Bool}(h3:(Zc0 base b).2=0):(Zc0 base b).1=zeroU∨St' (Zc0 base b).1:=by
 unfold Zc0 at h3 ⊢
 split
 ·exact Or.inl rfl
 next h4=>
  rw[if_neg h4]at h3
  split
  ·exact Or.inl rfl
  next h5=>
   rw[if_neg h5]at h3;exact Or.inr (ZgX base (Or.inl rfl) h3).st
theorem ZuY(l base:LB)(b:Bool)(h0:(Zci l base b).2=0):St (Zci l base b).1:=by
 unfold Zci at h0 ⊢
 split
 ·next h1=>rw[if_pos h1]at h0;cases h0
 next h1=>
  rw[if_neg h1]at h0
  split
  ·next h2=>rw[if_pos h2]at h0;exact absurd h0 h2
  next h2=>
   rw[if_neg h2]at h0;exact ZgX l (Zql (Classical.not_not.1 h2)) h0
theorem Asis.ne{set l:LB}(h:Asis set l){c:UInt8}(hc:among (c.toNat:Int) set=true):∀b∈l,b≠c:=fun b hb e=>by
 subst e;have:=(h b hb).2.2;rw[hc]at this
 cases this
end Go.Proofs.YtchkhibgbnhjpabGreatDoor
