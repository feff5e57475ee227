import Derived.Test.YtchkhibgbnhjpaaGreatDoorK31
namespace Go.Proofs.YtchkhibgbnhjpaaGreatDoor
open Go.RowKit
def PrS (ps:List (List UInt8)):Prop:=∀ p∈ps,Pr p
theorem ZnR {ps:List (List UInt8)} (h:PrS ps) (n:Nat):PrS (ps.take n):=fun p hp=>h p (List.mem_of_mem_take hp)
theorem Zrc {a b:List (List UInt8)} (ha:PrS a) (hb:PrS b):PrS (a++b):=fun x hx=>(List.mem_append.1 hx).elim (ha x) (hb x)
theorem Zrd {s:List UInt8} (h:Pr s):PrS [s]:=fun p hp=>by rw [List.mem_singleton] at hp;subst hp;exact h
theorem ZjT:PrS []:=fun p hp=>by cases hp
theorem Zte {c:UInt8} (h:alpha c.toNat=true):32≤c.toNat∧c.toNat≤126:=by
 unfold alpha at h
 have:=of_decide_eq_true h
 omega
theorem Zre {l:List UInt8} (h:ZJ l=true):Pr (l.take 1):=by
 unfold ZJ at h
 split at h
 ·next a b=>
  rw [Bool.and_eq_true] at h
  have:=Zte h.1
  exact ZeZ this.1 this.2
 ·cases h
theorem Zld {f:Bool} {ps:List (List UInt8)} (h:PrS ps):PrS (Zaz f ps):=by
 unfold Zaz
 split
 ·exact h
 ·exact ZnR h _
theorem Ztf {f:Bool} {ps:List (List UInt8)} (s:List UInt8) (h:PrS ps):PrS (joinL f ps s):=by
 unfold joinL
 refine Zrc h (Zrd ?_)
 split
 ·next hd=>exact ZfL (Zre hd.2.2) (ZeZ (by decide) (by decide))
 ·exact Zen _ _
theorem Zt3 {f:Bool} {ps:List (List UInt8)} (s:List UInt8) (last:Bool) (h:PrS ps):PrS (Zdj f ps s last):=by
 have h2:PrS (if countDots s=2 then Zaz f ps else ps):=by
  split
  ·exact Zld h
  ·exact h
 unfold Zdj
 split
 ·exact Ztf s h
 split
 ·exact Zrc h2 (Zrd pr_nil)
 ·exact h2
theorem Ztg {f:Bool} (ss:List (List UInt8)):∀ ps,PrS ps→PrS (ZbX f ps ss):=by
 induction ss with
 | nil=>intro ps h;rw [ZbX];exact h
 | cons x r ih=>
  intro ps h
  cases r with
  | nil=>rw [ZbX];exact Zt3 x true h
  | cons y q=>rw [ZbX];exact ih _ (Zt3 x false h)
theorem ZvU (f:Bool) (ps:List (List UInt8)) (s:List UInt8):Zdj f ps s true≠[]:=by
 unfold Zdj
 split
 ·unfold joinL;simp
 ·simp
theorem Zrf {f:Bool} (ss:List (List UInt8)):∀ ps,ss≠[]→ZbX f ps ss≠[]:=by
 induction ss with
 | nil=>intro ps h;exact absurd rfl h
 | cons x r ih=>
  intro ps h
  cases r with
  | nil=>rw [ZbX];exact ZvU f ps x
  | cons y q=>rw [ZbX];exact ih _ (by simp)
theorem Zh6 (f sp:Bool) {ps:List (List UInt8)} (t:List UInt8) (h:PrS ps):PrS (ZaP f sp ps t)∧ZaP f sp ps t≠[]:=by
 unfold ZaP
 refine ⟨Ztg _ _ h,Zrf _ _ ?_⟩
 obtain ⟨x,q,hx⟩:=Zef (slB sp) t
 rw [hx]
 simp
theorem Za4 (t sch:List UInt8):PrS (ZbG t sch)∧ZbG t sch≠[]:=Zh6 _ _ t ZjT
theorem ZeT {b:List (List UInt8)} (t sch:List UInt8) (h:PrS b):PrS (Zct b t sch)∧Zct b t sch≠[]:=Zh6 _ _ t (Zld h)
theorem Zh7 {b:List (List UInt8)} (t:List UInt8) (h:PrS b):PrS (ZaB b t)∧ZaB b t≠[]:=by
 unfold ZaB
 split
 ·exact Za4 _ _
 ·exact Zh6 _ _ t (ZnR h _)
structure Zth (l:List UInt8):Prop where
 ne:l≠[]
 first:∀ c r,l=c :: r→97≤c.toNat∧c.toNat≤122
 all:∀ b∈l,(97≤b.toNat∧b.toNat≤122)∨(48≤b.toNat∧b.toNat≤57)∨b.toNat=43∨b.toNat=45∨b.toNat=46
theorem ZiZ {c:UInt8} (h:alpha c.toNat=true):97≤(ZdG c).toNat∧(ZdG c).toNat≤122:=by
 unfold alpha at h
 have h1:=of_decide_eq_true h
 unfold ZdG
 split
 ·next hc=>rw [UInt8.toNat_add];have:(32:UInt8).toNat=32:=rfl;rw [this];omega
 ·omega
theorem Zi0 {l:List UInt8} (h:Zb1 l=true):Zth (lower l):=by
 cases l with
 | nil=>cases h
 | cons c r=>
  simp only [Zb1,Bool.and_eq_true] at h
  have hc:=ZiZ h.1
  refine ⟨by simp [lower],?_,?_⟩
  ·intro d q e
   simp only [lower,List.map_cons,List.cons.injEq] at e
   rw [← e.1]
   exact hc
  ·intro b hb
   simp only [lower,List.map_cons,List.mem_cons] at hb
   rcases hb with rfl | hb
   ·exact Or.inl hc
   ·obtain ⟨x,hx,rfl⟩:=List.mem_map.1 hb
    have hm:=List.all_eq_true.1 h.2 x hx
    unfold Zf9 at hm
    simp only [Bool.or_eq_true,beq_iff_eq,decide_eq_true_eq] at hm
    rcases hm with (((h1 | h1) | h1) | h1) | h1
    ·right;right;left;unfold ZdG;split <;> omega
    ·right;right;right;left;unfold ZdG;split <;> omega
    ·right;right;right;right;unfold ZdG;split <;> omega
    ·right;left;unfold ZdG;split <;> omega
    ·exact Or.inl (ZiZ h1)
structure Sd (u:U):Prop where
 sc:Zth u.sch
 pnam:Pr u.nam
 ppw:Pr u.pw
 phost:Pr u.host
 popath:Pr u.opath
 psegs:PrS u.segs
 pq:Pr u.q
 pfr:Pr u.fr
 port:u.hp=true→u.port≤65535∧((ZF u.sch).2=true→(u.port:Int)≠(ZF u.sch).1)
 who:u.host=[]∨u.sch=Zs→u.nam=[]∧u.pw=[]∧u.hp=false
 sp:Zc u.sch=true→u.op=false∧u.segs≠[]
 hst:Zc u.sch=true→u.sch≠Zs→u.host≠[]
structure Fr (u:U):Prop where
 sc:Zth u.sch
 pq:Pr u.q
 pfr:Pr u.fr
 znam:u.nam=[]
 zpw:u.pw=[]
 zhost:u.host=[]
 zhp:u.hp=false
 zop:u.op=false
 zopath:u.opath=[]
 zsegs:u.segs=[]
theorem ZjU {sch:List UInt8} (hq:Bool) (q:List UInt8) (h:Zth sch):Fr (Zci sch hq q):=⟨h,Zen _ _,pr_nil,rfl,rfl,rfl,rfl,rfl,rfl,rfl⟩
theorem Zev {u:U} {hh:Bool} {host:List UInt8} {segs:List (List UInt8)} (h:Fr u) (hf:u.sch=Zs) (hp:Pr host) (hs:PrS segs∧segs≠[]):Sd { u with hh:=hh,host:=host,segs:=segs } where
 sc:=h.sc
 pnam:=by show Pr u.nam;rw [h.znam];exact pr_nil
 ppw:=by show Pr u.pw;rw [h.zpw];exact pr_nil
 phost:=hp
 popath:=by show Pr u.opath;rw [h.zopath];exact pr_nil
 psegs:=hs.1
 pq:=h.pq
 pfr:=h.pfr
 port:=fun e=>by have e':u.hp=true:=e;rw [h.zhp] at e';cases e'
 who:=fun _=>⟨h.znam,h.zpw,h.zhp⟩
 sp:=fun _=>⟨h.zop,hs.2⟩
 hst:=fun _ hn=>absurd hf hn
theorem Sd.noq {u:U} (h:Sd u) (b:Bool) {q:List UInt8} (hq:Pr q):Sd { u with hq:=b,q:=q }:={ h with pq:=hq }
theorem ZgQ (l:List UInt8):Pr (ZM l).1:=by
 unfold ZM
 (repeat' split)
 ·exact pr_nil
 ·exact pr_nil
 ·exact pr_nil
 ·exact Znl _ _
theorem Zmu {u:U} (t:List UInt8) (h:Fr u) (hf:u.sch=Zs) (h0:(Z2 u t).2=0):Sd (Z2 u t).1:=by
 unfold Z2 at h0 ⊢
 split
 ·have k:=Zev (u:=u) (hh:=u.hh) (host:=u.host) h hf (by rw [h.zhost];exact pr_nil) (Za4 t u.sch)
  exact k
 next h1=>
  rw [if_neg h1] at h0
  split
  ·next h2=>rw [if_pos h2] at h0;exact absurd h0 h2
  ·exact Zev (u:=u) (hh:=u.hh) h hf (ZgQ _) (Za4 _ _)
theorem Zio {u base:U} (l:List UInt8) (h:Fr u) (hf:u.sch=Zs) (hb:Sd base) (hbf:base.sch=Zs):Sd (Z7 { u with hh:=true,host:=base.host } l base):=by
 unfold Z7
 split
 ·have hsp:Zc base.sch=true:=by rw [hbf];decide
  refine (Zev (u:=u) (hh:=true) h hf hb.phost ⟨hb.psegs,(hb.sp hsp).2⟩).noq _ ?_
  split
  ·exact h.pq
  ·exact hb.pq
 ·exact Zev (u:=u) (hh:=true) h hf hb.phost (ZeT _ _ hb.psegs)
theorem Zrg {u base:U} (l:List UInt8) (h:Fr u) (hf:u.sch=Zs) (hb:base.sch=Zs→Sd base) (h0:(Zdk u l base).2=0):Sd (Zdk u l base).1:=by
 unfold Zdk at h0 ⊢
 split
 ·next h1=>rw [if_pos h1] at h0;exact Zmu _ { h with } hf h0
 next h1=>
  rw [if_neg h1] at h0
  split
  ·exact Zev (u:=u) (hh:=true) (host:=u.host) h hf (by rw [h.zhost];exact pr_nil) (Za4 _ _)
  next h2=>
   have hbf:base.sch=Zs:=Classical.not_not.1 h2
   have hs:=hb hbf
   split
   ·exact Zev (u:=u) (hh:=true) h hf hs.phost (Zh7 _ hs.psegs)
   split
   ·exact Zev (u:=u) (hh:=true) h hf hs.phost (Za4 _ _)
   ·exact Zio l h hf hs hbf
structure Sh (u:U):Prop where
 sc:Zth u.sch
 pnam:Pr u.nam
 ppw:Pr u.pw
 phost:Pr u.host
 popath:Pr u.opath
 psegs:PrS u.segs
 pq:Pr u.q
 pfr:Pr u.fr
 port:u.hp=true→u.port≤65535∧((ZF u.sch).2=true→(u.port:Int)≠(ZF u.sch).1)
 who:u.host=[]∨u.sch=Zs→u.nam=[]∧u.pw=[]∧u.hp=false
 op:u.op=false
 hst:Zc u.sch=true→u.sch≠Zs→u.host≠[]
theorem Sh.sd {u:U} (h:Sh u) (hs:Zc u.sch=true→u.segs≠[]):Sd u:=⟨h.sc,h.pnam,h.ppw,h.phost,h.popath,h.psegs,h.pq,h.pfr,h.port,h.who,fun e=>⟨h.op,hs e⟩,h.hst⟩
theorem Sh.segs {u:U} (h:Sh u) {s:List (List UInt8)} (hs:PrS s∧s≠[]):Sd { u with segs:=s }:=⟨h.sc,h.pnam,h.ppw,h.phost,h.popath,hs.1,h.pq,h.pfr,h.port,h.who,fun _=>⟨h.op,hs.2⟩,h.hst⟩
theorem Sh.segs' {u:U} (h:Sh u) {s:List (List UInt8)} (hs:PrS s) (hn:Zc u.sch=true→s≠[]):Sd { u with segs:=s }:=⟨h.sc,h.pnam,h.ppw,h.phost,h.popath,hs,h.pq,h.pfr,h.port,h.who,fun e=>⟨h.op,hn e⟩,h.hst⟩
theorem Zle {p:List UInt8} (h:(Zz p).1=[]) (h2:(Zz p).2.2=false):p=[]:=by
 unfold Zz at h h2
 cases hc:cutPortGo false p with
 | none=>rw [hc] at h;exact h
 | some q=>rw [hc] at h2;cases h2
theorem Zlf {p:List UInt8} (h2:(Zz p).2.2=false):(Zz p).2.1=[]:=by
 unfold Zz at h2 ⊢
 cases hc:cutPortGo false p with
 | none=>rfl
 | some q=>rw [hc] at h2;cases h2
structure Fp (u:U) (p:List UInt8):Prop where
 sc:Zth u.sch
 nf:u.sch≠Zs
 pnam:Pr u.nam
 ppw:Pr u.pw
 pq:Pr u.q
 pfr:Pr u.fr
 popath:Pr u.opath
 psegs:PrS u.segs
 zop:u.op=false
 zhp:u.hp=false
 user:p=[]→u.nam=[]∧u.pw=[]
theorem Zrh {u:U} {p:Int} (h:Sh u) (h0:0≤p) (h1:p≤65535) (hh:u.host≠[]) (hf:u.sch≠Zs):Sh (Zba u p):=by
 unfold Zba
 split
 ·exact { h with port:=fun e=>(by cases e),who:=fun e=>(e.elim (fun e=>absurd e hh) (fun e=>absurd e hf)) }
 ·next hn=>
  refine { h with port:=fun _=>⟨by show p.toNat≤65535;omega,fun ho e=>hn ⟨ho,?_⟩⟩,who:=fun e=>(e.elim (fun e=>absurd e hh) (fun e=>absurd e hf)) }
  have e':((p.toNat:Nat):Int)=(ZF u.sch).1:=e
  omega
theorem Zti {u:U} {p:List UInt8} (h:Fp u p) (h0:(ZZ u p).2=0):Sh (ZZ u p).1:=by
 unfold ZZ at h0 ⊢
 split
 ·next h1=>rw [if_pos h1] at h0;cases h0
 next h1=>
  rw [if_neg h1] at h0
  split
  ·next h2=>rw [if_pos h2] at h0;exact absurd h0 h2
  next h2=>
   rw [if_neg h2] at h0
   have he:(ZR (Zz p).1 (Zc u.sch)).2=0:=Classical.not_not.1 h2
   have hx:(ZR (Zz p).1 (Zc u.sch)).1=[]→(Zz p).1=[]:=fun e=>Classical.byContradiction fun hn=>ZsI hn he e
   have key:Sh { u with hh:=true,host:=(ZR (Zz p).1 (Zc u.sch)).1 }:={
    sc:=h.sc,pnam:=h.pnam,ppw:=h.ppw,phost:=Znl _ _,popath:=h.popath,psegs:=h.psegs,pq:=h.pq,pfr:=h.pfr
    port:=fun e=>by have e':u.hp=true:=e;rw [h.zhp] at e';cases e'
    who:=fun e=>by
     rcases e with e | e
     ·have e1:=hx e
      have e2:(Zz p).2.2=false:=by
       cases hc:(Zz p).2.2
       ·rfl
       ·exact absurd ⟨e1,Or.inr hc⟩ h1
      have e3:=h.user (Zle e1 e2)
      exact ⟨e3.1,e3.2,h.zhp⟩
     ·exact absurd e h.nf
    op:=h.zop
    hst:=fun hs _ e=>h1 ⟨hx e,Or.inl hs⟩ }
   split
   ·exact key
   next h3=>
    rw [if_neg h3] at h0
    unfold ZfK at h0 ⊢
    split
    ·next h4=>rw [if_pos h4] at h0;cases h0
    ·have hr:=Zek (Zz p).2.1
     refine Zrh key hr.1 hr.2 ?_ h.nf
     intro e
     have e1:=hx e
     have e2:(Zz p).2.2=false:=by
      cases hc:(Zz p).2.2
      ·rfl
      ·exact absurd ⟨e1,Or.inr hc⟩ h1
     exact h3 (Zlf e2)
theorem Zo0 (u:U) (p:Int):(Zba u p).sch=u.sch:=by unfold Zba;split <;> rfl
theorem Zri {u:U} {p:List UInt8} (h0:(ZZ u p).2=0):(ZZ u p).1.sch=u.sch:=by
 unfold ZZ at h0 ⊢
 split
 ·next h1=>rw [if_pos h1] at h0;cases h0
 next h1=>
  rw [if_neg h1] at h0
  split
  ·next h2=>rw [if_pos h2] at h0;exact absurd h0 h2
  next h2=>
   rw [if_neg h2] at h0
   split
   ·rfl
   next h3=>
    rw [if_neg h3] at h0
    unfold ZfK at h0 ⊢
    split
    ·next h4=>rw [if_pos h4] at h0;cases h0
    ·exact Zo0 _ _
theorem ZnS:Zfs []=[]:=by unfold Zfs;rw [ZaS]
theorem Zmv (n:Int) (l:List UInt8) (h:(bcutLast n l).2.2=false):(bcutLast n l).1=[]:=by
 cases l with
 | nil=>rw [bcutLast]
 | cons c r=>
  rw [bcutLast] at h ⊢
  split at h
  ·next hr=>have h':(bcutLast n r).2.2=false:=h;rw [hr] at h';cases h'
  ·next hr=>
   rw [if_neg hr]
   split
   ·rfl
   ·rfl
theorem Zdc {u:U} (t:List UInt8) (h:Fr u) (hf:u.sch≠Zs) (h0:(Zv u t).2=0):Sd (Zv u t).1:=by
 unfold Zv at h0 ⊢
 split
 ·next h1=>rw [if_pos h1] at h0;cases h0
 next h1=>
  rw [if_neg h1] at h0
  unfold ZcT at h0 ⊢
  split
  ·next h2=>rw [if_pos h2] at h0;exact absurd h0 h2
  next h2=>
   rw [if_neg h2] at h0
   have hp:=Zti (u:={ u with nam:=Zfs (bcut (isB 58) (bcutLast 64 (bcut (slB (Zc u.sch)) t).1).1).1,pw:=Zfs (bcut (isB 58) (bcutLast 64 (bcut (slB (Zc u.sch)) t).1).1).2.1 }) (p:=(bcutLast 64 (bcut (slB (Zc u.sch)) t).1).2.1)
    { sc:=h.sc,nf:=hf,pnam:=Zen _ _,ppw:=Zen _ _,pq:=h.pq,pfr:=h.pfr
      popath:=by show Pr u.opath;rw [h.zopath];exact pr_nil
      psegs:=by show PrS u.segs;rw [h.zsegs];exact ZjT
      zop:=h.zop,zhp:=h.zhp
      user:=fun e=>by
       have e1:(bcutLast 64 (bcut (slB (Zc u.sch)) t).1).2.2=false:=by
        cases hc:(bcutLast 64 (bcut (slB (Zc u.sch)) t).1).2.2
        ·rfl
        ·exact absurd ⟨hc,e⟩ h1
       have e2:=Zmv _ _ e1
       constructor
       ·show Zfs (bcut (isB 58) (bcutLast 64 (bcut (slB (Zc u.sch)) t).1).1).1=[]
        rw [e2];exact ZnS
       ·show Zfs (bcut (isB 58) (bcutLast 64 (bcut (slB (Zc u.sch)) t).1).1).2.1=[]
        rw [e2];exact ZnS } (Classical.not_not.1 h2)
   split
   ·exact hp.segs (Za4 _ _)
   next h3=>
    refine hp.sd fun e=>absurd ?_ h3
    have:Zc u.sch=true:=by
     have e':=e
     rw [Zri (Classical.not_not.1 h2)] at e'
     exact e'
    rw [this];rfl
theorem Zrj {u base:U} (h:Fr u) (hb:Sd base) (hs:base.sch=u.sch):Sh (kept u base) where
 sc:=h.sc
 pnam:=hb.pnam
 ppw:=hb.ppw
 phost:=hb.phost
 popath:=by show Pr u.opath;rw [h.zopath];exact pr_nil
 psegs:=by show PrS u.segs;rw [h.zsegs];exact ZjT
 pq:=h.pq
 pfr:=h.pfr
 port:=fun e=>by have:=hb.port e;rw [hs] at this;exact this
 who:=fun e=>hb.who (by rw [hs];exact e)
 op:=h.zop
 hst:=fun e=>by have:=hb.hst;rw [hs] at this;exact this e
theorem Zrk {u base:U} (l:List UInt8) (h:Fr u) (hb:Sd base) (hs:base.sch=u.sch):Sd (Z7 (kept u base) l base):=by
 have hk:=Zrj h hb hs
 unfold Z7
 split
 ·refine (hk.segs' hb.psegs fun e=>(hb.sp (by rw [hs];exact e)).2).noq _ ?_
  split
  ·exact h.pq
  ·exact hb.pq
 ·exact hk.segs (ZeT _ _ hb.psegs)
theorem Zgq {u base:U} (l:List UInt8) (h:Fr u) (hb:Sd base) (hs:base.sch=u.sch) (h0:(ZT u l base).2=0):Sd (ZT u l base).1:=by
 unfold ZT at h0 ⊢
 split
 ·next h1=>rw [if_pos h1] at h0;exact Zrg l h h1 (fun _=>hb) h0
 next h1=>
  rw [if_neg h1] at h0
  split
  ·next h2=>rw [if_pos h2] at h0;exact Zdc _ h h1 h0
  split
  ·exact (Zrj h hb hs).segs (Za4 _ _)
  ·exact Zrk l h hb hs
theorem Zo1 {u base:U} (l:List UInt8) (h:Fr u) (hf:u.sch≠Zs) (hb:base.sch=u.sch→Sd base) (h0:(ZaQ u l base).2=0):Sd (ZaQ u l base).1:=by
 unfold ZaQ at h0 ⊢
 split
 ·next h1=>rw [if_pos h1] at h0;exact Zgq l h (hb h1.1) h1.1 h0
 ·next h1=>rw [if_neg h1] at h0;exact Zdc _ h hf h0
theorem Zi1 {u base:U} (l:List UInt8) (h:Fr u) (hb:base.sch=u.sch→Sd base) (h0:(ZU u l base).2=0):Sd (ZU u l base).1:=by
 unfold ZU at h0 ⊢
 split
 ·next h1=>rw [if_pos h1] at h0;exact Zrg l h h1 (fun e=>hb (e.trans h1.symm)) h0
 next h1=>
  rw [if_neg h1] at h0
  split
  ·next h2=>rw [if_pos h2] at h0;exact Zo1 l h h1 hb h0
  next h2=>
   rw [if_neg h2] at h0
   have bare:∀ (o:Bool) (x:List UInt8) (s:List (List UInt8)),Pr x→PrS s→Sd { u with op:=o,opath:=x,segs:=s }:=fun o x s hx hs=>{
    sc:=h.sc
    pnam:=by show Pr u.nam;rw [h.znam];exact pr_nil
    ppw:=by show Pr u.pw;rw [h.zpw];exact pr_nil
    phost:=by show Pr u.host;rw [h.zhost];exact pr_nil
    popath:=hx
    psegs:=hs
    pq:=h.pq
    pfr:=h.pfr
    port:=fun e=>by have e':u.hp=true:=e;rw [h.zhp] at e';cases e'
    who:=fun _=>⟨h.znam,h.zpw,h.zhp⟩
    sp:=fun e=>absurd e h2
    hst:=fun e=>absurd e h2 }
   split
   ·exact bare true _ u.segs (Zen _ _) (by rw [h.zsegs];exact ZjT)
   next h3=>
    rw [if_neg h3] at h0
    split
    ·exact bare u.op u.opath _ (by rw [h.zopath];exact pr_nil) (Za4 _ _).1
    ·next h4=>rw [if_neg h4] at h0;exact Zdc _ h h1 h0
theorem Zrl {sch rest:List UInt8} {found:Bool} {base:U} (hsc:sch≠[]→Zth sch) (hb:base.sch≠[]→Sd base) (hn:found=false→base.sch=sch) (h0:(Zcy sch rest found base).2=0):Sd (Zcy sch rest found base).1:=by
 unfold Zcy at h0 ⊢
 split
 ·next h1=>rw [if_pos h1] at h0;cases h0
 next h1=>
  rw [if_neg h1] at h0
  split
  ·next h2=>rw [if_pos h2] at h0;exact Zi1 _ (ZjU _ _ (hsc h1)) (fun e=>hb (by rw [e];exact h1)) h0
  ·next h2=>
   rw [if_neg h2] at h0
   have e:=hn (by simpa using h2)
   exact Zgq _ (ZjU _ _ (hsc h1)) (hb (by rw [e];exact h1)) e h0
theorem Ztj (l:List UInt8) (hf:Bool) {base:U} (hb:base=zeroU∨Sd base) (h0:(Zbv l hf base).2=0):Sd (Zbv l hf base).1:=by
 have hb':base.sch≠[]→Sd base:=fun hn=>hb.elim (fun e=>absurd (by rw [e];rfl) hn) id
 unfold Zbv at h0 ⊢
 split
 ·next h1=>
  rw [if_pos h1] at h0
  refine Zrl (fun _=>?_) hb' (fun e=>by cases e) h0
  unfold ZaD at h1 ⊢
  split
  ·next h2=>exact Zi0 h2.2
  ·next h2=>rw [if_neg h2] at h1;cases h1
 next h1=>
  rw [if_neg h1] at h0
  split
  ·next h2=>
   rw [if_pos h2] at h0
   have hs:Sd base:=hb.elim (fun e=>by rw [e] at h2;cases h2) id
   unfold Zcu at h0 ⊢
   split
   ·exact hs
   ·next h3=>rw [if_neg h3] at h0;cases h0
  ·next h2=>
   rw [if_neg h2] at h0
   exact Zrl (fun hn=>(hb' hn).sc) hb' (fun _=>rfl) h0
theorem Zo2 (l:List UInt8) {base:U} (hb:base=zeroU∨Sd base) (h0:(Z8 l base).2=0):Sd (Z8 l base).1:=by
 unfold Z8 Zgb at h0 ⊢
 split
 ·next h1=>rw [if_pos h1] at h0;exact absurd h0 h1
 ·next h1=>
  have h:=Ztj (bcut (isB 35) (wholeText l)).1 (bcut (isB 35) (wholeText l)).2.2 hb (Classical.not_not.1 h1)
  exact { h with pfr:=Zen _ _ }
abbrev S0:List UInt8:=tl (ZaG 0)
abbrev S1:List UInt8:=tl (ZaG 1)
abbrev S5:List UInt8:=tl (ZaG 5)
abbrev SQ (sch:List UInt8):List UInt8:=tl (ZaG (Za1 sch))
theorem ZvB (sch:List UInt8):Zij (SQ sch):=by
 unfold SQ Za1
 split
 ·exact Zvp
 ·exact Zvo
theorem Zby (set:List UInt8):Asis set []:=fun b hb=>by cases hb
def NoEnd (l:List UInt8):Prop:=∀ a,l≠a++[32]
structure St' (u:U):Prop where
 sd:Sd u
 wf:Wf u
 anam:Asis S5 u.nam
 apw:Asis S5 u.pw
 ahost:HostT u.host
 fhost:u.host≠[]→ZR u.host (Zc u.sch)=(u.host,0)
 seg:ZeY (u.sch == Zs) (Zc u.sch) u.segs
 aq:Asis (SQ u.sch) u.q
 afr:Asis S1 u.fr
 opq:u.op=true→u.segs=[]∧u.hh=false∧countSl false u.opath=0∧∀ b∈u.opath,b≠63∧b≠35
 zop:u.op=false→u.opath=[]
 pth:u.op=false→u.hh=false→u.segs≠[]
 zport:u.hp=false→u.port=0
 fil:u.sch=Zs→u.host≠Zej
 sp:Zc u.sch=true→u.hh=true
structure Fs (u:U):Prop where
 fr:Fr u
 wf:Wf u
 aq:Asis (SQ u.sch) u.q
 zfr:u.fr=[]
 zport:u.port=0
 zhh:u.hh=false
theorem ZjV {sch rest:List UInt8} (h:Zth sch):Fs (Zci sch (bcut (isB 63) rest).2.2 (bcut (isB 63) rest).2.1):=
 ⟨ZjU _ _ h,ZjR _ _ _ (Zeu _ _),Zck (ZvB _) _,rfl,rfl,rfl⟩
theorem ZuW {s:List (List UInt8)} {sch:List UInt8} (hf:sch=Zs) (h:ZeY true true s):ZeY (sch == Zs) (Zc sch) s:=by subst hf;exact h
theorem ZdW {s:List (List UInt8)} {sch:List UInt8} (hf:sch=Zs) (h:ZeY (sch == Zs) (Zc sch) s):ZeY true true s:=by subst hf;exact h
theorem ZdX {u:U} {host:List UInt8} {segs:List (List UInt8)} {hq:Bool} {q:List UInt8} (h:Fs u) (hf:u.sch=Zs) (ht:HostT host) (hp:Pr host) (hfix:host≠[]→ZR host true=(host,0)) (hl:host≠Zej) (hs:ZeY true true segs) (hsp:PrS segs∧segs≠[]) (hqa:Asis (SQ u.sch) q) (hqp:Pr q) (hqn:hq=false→q=[]):
  St' { u with hh:=true,host:=host,segs:=segs,hq:=hq,q:=q } where
 sd:=(Zev (u:=u) (hh:=true) h.fr hf hp hsp).noq hq hqp
 wf:=⟨fun e=>(by cases e),hqn,h.wf.nf⟩
 anam:=by show Asis S5 u.nam;rw [h.fr.znam];exact Zby _
 apw:=by show Asis S5 u.pw;rw [h.fr.zpw];exact Zby _
 ahost:=ht
 fhost:=fun e=>by show ZR host (Zc u.sch)=_;rw [hf,file_special];exact hfix e
 seg:=ZuW hf hs
 aq:=hqa
 afr:=by show Asis S1 u.fr;rw [h.zfr];exact Zby _
 opq:=fun e=>by have e':u.op=true:=e;rw [h.fr.zop] at e';cases e'
 zop:=fun _=>h.fr.zopath
 pth:=fun _ e=>by cases e
 zport:=fun _=>h.zport
 fil:=fun _=>hl
 sp:=fun _=>rfl
theorem local_ne:([]:List UInt8)≠Zej:=by decide
theorem Zlg {l:List UInt8}:HostT (ZM l).1∧((ZM l).1≠[]→ZR (ZM l).1 true=((ZM l).1,0))∧(ZM l).1≠Zej:=by
 unfold ZM
 split
 ·exact ⟨hostT_nil,fun e=>absurd rfl e,local_ne⟩
 next h1=>
  split
  ·exact ⟨hostT_nil,fun e=>absurd rfl e,local_ne⟩
  next h2=>
   split
   ·exact ⟨hostT_nil,fun e=>absurd rfl e,local_ne⟩
   ·next h3=>exact ⟨hostL_T,fun _=>ZkN (Classical.not_not.1 h2),h3⟩
theorem Zmw {u:U} (t:List UInt8) (h:Fs u) (hf:u.sch=Zs) (h0:(Z2 { u with hh:=true } t).2=0):St' (Z2 { u with hh:=true } t).1∧(Z2 { u with hh:=true } t).1.op=false:=by
 unfold Z2 at h0 ⊢
 split
 ·exact ⟨ZdX (u:=u) (host:=u.host) (hq:=u.hq) (q:=u.q) h hf (by rw [h.fr.zhost];exact hostT_nil) (by rw [h.fr.zhost];exact pr_nil) (fun e=>absurd h.fr.zhost e) (by rw [h.fr.zhost];exact local_ne) (ZdW hf (Zep t u.sch)) (Za4 t u.sch) h.aq h.fr.pq h.wf.nq,h.fr.zop⟩
 next h1=>
  rw [if_neg h1] at h0
  split
  ·next h2=>rw [if_pos h2] at h0;exact absurd h0 h2
  ·have hk:=Zlg (l:=(bcut (slB true) t).1)
   exact ⟨ZdX (u:=u) (hq:=u.hq) (q:=u.q) h hf hk.1 (ZgQ _) hk.2.1 hk.2.2 (ZdW hf (Zep _ u.sch)) (Za4 _ _) h.aq h.fr.pq h.wf.nq,h.fr.zop⟩
theorem Zmx {u base:U} (l:List UInt8) (h:Fs u) (hf:u.sch=Zs) (hb:base.sch=Zs→St' base) (h0:(Zdk u l base).2=0):St' (Zdk u l base).1∧(Zdk u l base).1.op=false:=by
 unfold Zdk at h0 ⊢
 split
 ·next h1=>rw [if_pos h1] at h0;exact Zmw _ h hf h0
 next h1=>
  rw [if_neg h1] at h0
  split
  ·exact ⟨ZdX (u:=u) (host:=u.host) (hq:=u.hq) (q:=u.q) h hf (by rw [h.fr.zhost];exact hostT_nil) (by rw [h.fr.zhost];exact pr_nil) (fun e=>absurd h.fr.zhost e) (by rw [h.fr.zhost];exact local_ne) (ZdW hf (Zep _ u.sch)) (Za4 _ _) h.aq h.fr.pq h.wf.nq,h.fr.zop⟩
  next h2=>
   have hbf:base.sch=Zs:=Classical.not_not.1 h2
   have hs:=hb hbf
   have hsp:Zc base.sch=true:=by rw [hbf];exact file_special
   have hfx:base.host≠[]→ZR base.host true=(base.host,0):=fun e=>by have:=hs.fhost e;rwa [hsp] at this
   split
   ·exact ⟨ZdX (u:=u) (hq:=u.hq) (q:=u.q) h hf hs.ahost hs.sd.phost hfx (hs.fil hbf) (ZsQ _ (ZdW hbf hs.seg)) (Zh7 _ hs.sd.psegs) h.aq h.fr.pq h.wf.nq,h.fr.zop⟩
   split
   ·exact ⟨ZdX (u:=u) (hq:=u.hq) (q:=u.q) h hf hs.ahost hs.sd.phost hfx (hs.fil hbf) (ZdW hf (Zep _ u.sch)) (Za4 _ _) h.aq h.fr.pq h.wf.nq,h.fr.zop⟩
   ·show St' (Z7 { u with hh:=true,host:=base.host } l base)∧(Z7 { u with hh:=true,host:=base.host } l base).op=false
    unfold Z7
    split
    ·refine ⟨?_,h.fr.zop⟩
     refine ZdX (u:=u) (hq:=u.hq || base.hq) (q:=if u.hq=true then u.q else base.q) h hf hs.ahost hs.sd.phost hfx (hs.fil hbf) (ZdW hbf hs.seg) ⟨hs.sd.psegs,(hs.sd.sp hsp).2⟩ ?_ ?_ ?_
     ·split
      ·exact h.aq
      ·have:=hs.aq;rw [hbf,← hf] at this;exact this
     ·split
      ·exact h.fr.pq
      ·exact hs.sd.pq
     ·intro e
      rw [Bool.or_eq_false_iff] at e
      rw [if_neg (by rw [e.1];decide)]
      exact hs.wf.nq e.2
    ·refine ⟨?_,h.fr.zop⟩
     refine ZdX (u:=u) (hq:=u.hq) (q:=u.q) h hf hs.ahost hs.sd.phost hfx (hs.fil hbf) ?_ (ZeT _ _ hs.sd.psegs) h.aq h.fr.pq h.wf.nq
     refine ZdW hf (ZkO l ?_)
     show ZeY (u.sch == Zs) (Zc u.sch) base.segs
     have hseg:=hs.seg
     rw [hbf] at hseg
     rw [hf]
     exact hseg
theorem Ztk {u:U} {p:List UInt8} (h0:(ZZ u p).2=0) (hz:u.port=0):
  (ZZ u p).1.hh=true∧HostT (ZZ u p).1.host∧((ZZ u p).1.host≠[]→ZR (ZZ u p).1.host (Zc u.sch)=((ZZ u p).1.host,0))∧((ZZ u p).1.hp=false→(ZZ u p).1.port=0) ∧
  (ZZ u p).1.nam=u.nam∧(ZZ u p).1.pw=u.pw∧(ZZ u p).1.sch=u.sch∧(ZZ u p).1.q=u.q∧(ZZ u p).1.hq=u.hq∧(ZZ u p).1.fr=u.fr∧(ZZ u p).1.hf=u.hf∧(ZZ u p).1.op=u.op∧(ZZ u p).1.opath=u.opath∧(ZZ u p).1.segs=u.segs:=by
 unfold ZZ at h0 ⊢
 split
 ·next h1=>rw [if_pos h1] at h0;cases h0
 next h1=>
  rw [if_neg h1] at h0
  split
  ·next h2=>rw [if_pos h2] at h0;exact absurd h0 h2
  next h2=>
   rw [if_neg h2] at h0
   have hx:=ZkN (Classical.not_not.1 h2)
   split
   ·exact ⟨rfl,hostL_T,fun _=>hx,fun _=>hz,rfl,rfl,rfl,rfl,rfl,rfl,rfl,rfl,rfl,rfl⟩
   next h3=>
    rw [if_neg h3] at h0
    unfold ZfK at h0 ⊢
    split
    ·next h4=>rw [if_pos h4] at h0;cases h0
    ·show _
     simp only
     unfold Zba
     split
     ·exact ⟨rfl,hostL_T,fun _=>hx,fun _=>rfl,rfl,rfl,rfl,rfl,rfl,rfl,rfl,rfl,rfl,rfl⟩
     ·exact ⟨rfl,hostL_T,fun _=>hx,fun e=>(by cases e),rfl,rfl,rfl,rfl,rfl,rfl,rfl,rfl,rfl,rfl⟩
theorem Zcq {u:U} (t:List UInt8) (h:Fs u) (hf:u.sch≠Zs) (h0:(Zv u t).2=0):St' (Zv u t).1∧(Zv u t).1.op=false:=by
 have hsd:=Zdc t h.fr hf h0
 have hwf:=Zdb t h.wf.wq
 unfold Zv at h0 hsd hwf ⊢
 split at h0
 ·cases h0
 next h1=>
  rw [if_neg h1] at hsd hwf ⊢
  unfold ZcT at h0 hsd hwf ⊢
  split at h0
  ·next h2=>exact absurd h0 h2
  next h2=>
   rw [if_neg h2] at hsd hwf ⊢
   have hk:=Ztk (Classical.not_not.1 h2) h.zport
   obtain ⟨k1,k2,k3,k4,k5,k6,k7,k8,k9,k10,k11,k12,k13,k14⟩:=hk
   generalize ZZ _ _=pq at *
   obtain ⟨v,e⟩:=pq
   simp only at *
   split at h0
   ·next h3=>
    rw [if_pos h3] at hsd hwf ⊢
    refine ⟨?_,k12.trans h.fr.zop⟩
    exact {
     sd:=hsd,wf:=hwf
     anam:=by show Asis S5 v.nam;rw [k5];exact Zck Znm _
     apw:=by show Asis S5 v.pw;rw [k6];exact Zck Znm _
     ahost:=k2
     fhost:=fun x=>by show ZR v.host (Zc v.sch)=_;rw [k7];exact k3 x
     seg:=by show ZeY (v.sch == Zs) (Zc v.sch) _;rw [k7];exact Zep _ _
     aq:=by show Asis (SQ v.sch) v.q;rw [k7,k8];exact h.aq
     afr:=by show Asis S1 v.fr;rw [k10,h.zfr];exact Zby _
     opq:=fun x=>by have x':v.op=true:=x;rw [k12,h.fr.zop] at x';cases x'
     zop:=fun _=>by show v.opath=[];rw [k13,h.fr.zopath]
     pth:=fun _ x=>by have x':v.hh=false:=x;rw [k1] at x';cases x'
     zport:=k4
     fil:=fun x=>absurd (k7.symm.trans x) hf
     sp:=fun _=>k1 }
   ·next h3=>
    rw [if_neg h3] at hsd hwf ⊢
    refine ⟨?_,k12.trans h.fr.zop⟩
    exact {
     sd:=hsd,wf:=hwf
     anam:=by show Asis S5 v.nam;rw [k5];exact Zck Znm _
     apw:=by show Asis S5 v.pw;rw [k6];exact Zck Znm _
     ahost:=k2
     fhost:=fun x=>by show ZR v.host (Zc v.sch)=_;rw [k7];exact k3 x
     seg:=by show ZeY (v.sch == Zs) (Zc v.sch) v.segs;rw [k14,h.fr.zsegs];exact ZqE _ _
     aq:=by show Asis (SQ v.sch) v.q;rw [k7,k8];exact h.aq
     afr:=by show Asis S1 v.fr;rw [k10,h.zfr];exact Zby _
     opq:=fun x=>by have x':v.op=true:=x;rw [k12,h.fr.zop] at x';cases x'
     zop:=fun _=>by show v.opath=[];rw [k13,h.fr.zopath]
     pth:=fun _ x=>by have x':v.hh=false:=x;rw [k1] at x';cases x'
     zport:=k4
     fil:=fun x=>absurd (k7.symm.trans x) hf
     sp:=fun _=>k1 }
theorem enc_from {set l:List UInt8} {b:UInt8} (hb:b∈encB set (clean l)):b∈l∨b.toNat=37∨(48≤b.toNat∧b.toNat≤57)∨(65≤b.toNat∧b.toNat≤70):=by
 have hp:=Zen set _ b hb
 obtain ⟨c,hcm,hc⟩:=List.mem_flatMap.1 hb
 have hcl:=c.toNat_lt
 unfold Z6 at hc
 split at hc
 ·simp only [List.mem_cons,List.not_mem_nil,or_false] at hc
  rcases hc with rfl | rfl | rfl
  ·exact Or.inr (Or.inl rfl)
  ·exact Or.inr (Or.inr (Zbm (by omega) (by omega)))
  ·exact Or.inr (Or.inr (Zbm (by omega) (by omega)))
 ·rw [List.mem_singleton] at hc
  subst hc
  rcases ZhK _ l (Nat.le_refl _) b hcm with h1 | h1
  ·exact Or.inl h1
  ·omega
theorem Zt4 {set l:List UInt8} {c:UInt8} (h:∀ b∈l,b≠c) (hc:¬ (c.toNat=37∨(48≤c.toNat∧c.toNat≤57)∨(65≤c.toNat∧c.toNat≤70))):∀ b∈encB set (clean l),b≠c:=by
 intro b hb e
 subst e
 rcases enc_from hb with h1 | h1
 ·exact h b h1 rfl
 ·exact hc h1
theorem Zrm {set l:List UInt8} (h:countSl false l=0):countSl false (encB set (clean l))=0:=by
 cases l with
 | nil=>rw [clean_nil];rfl
 | cons c r=>
  have hc:slB false c=false:=by
   cases hh:slB false c
   ·rfl
   ·rw [countSl,if_pos hh] at h;cases h
  have key:∀ (b:UInt8) (m:List UInt8),slB false b=false→countSl false (encB set (b :: m))=0:=by
   intro b m hb
   rw [ZhM]
   unfold Z6
   split
   ·rfl
   ·show countSl false (b :: _)=0
    rw [countSl,if_neg (by rw [hb];decide)]
  by_cases hlo:c.toNat < 128
  ·rw [Zg9 r hlo];exact key c _ hc
  ·obtain ⟨b,m,hb,hh⟩:=Zno r (by omega:128≤c.toNat)
   rw [hb]
   exact key b m (Znq (by omega) false)
theorem Zrn {a b x:List UInt8} (hb:b≠[]) (h:a++b=x++[32]):∃ y,b=y++[32]:=by
 rcases List.eq_nil_or_concat b with rfl | ⟨y,z,rfl⟩
 ·exact absurd rfl hb
 ·rw [List.concat_eq_append,← List.append_assoc] at h
  have:=List.append_inj_right' h rfl
  rw [List.concat_eq_append,this]
  exact ⟨y,rfl⟩
theorem Zro:∀ (n:Nat) (l a:List UInt8),l.length≤n→clean l=a++[32]→∃ y,l=y++[32]:=by
 intro n
 induction n with
 | zero=>
  intro l a hl h
  have:l=[]:=List.length_eq_zero_iff.1 (by omega)
  subst this
  rw [clean_nil] at h
  exact absurd h (by simp)
 | succ n ih=>
  intro l a hl h
  cases l with
  | nil=>rw [clean_nil] at h;exact absurd h (by simp)
  | cons c r=>
   have hm:=ZdI c r
   rw [ZcE] at h
   simp only [List.length_cons] at hl
   by_cases hr:r.drop ((measure (c :: r)).1 - 1)=[]
   ·rw [hr,clean_nil,List.append_nil] at h
    split at h
    ·have hlen:(measure (c :: r)).1=r.length + 1:=by
      have:=congrArg List.length hr
      rw [List.length_drop,List.length_nil] at this
      omega
     rw [hlen,List.take_of_length_le (by simp)] at h
     exact ⟨a,h⟩
    ·have:=congrArg List.getLast? h
     simp at this
   ·obtain ⟨y,hy⟩:=Zrn (ZjA hr) h
    obtain ⟨z,hz⟩:=ih _ _ (by rw [List.length_drop];omega) hy
    refine ⟨(c :: r).take (measure (c :: r)).1++z,?_⟩
    have hs:(c :: r).drop (measure (c :: r)).1=z++[32]:=by
     rw [← hz]
     obtain ⟨k,hk⟩:∃ k,(measure (c :: r)).1=k + 1:=⟨(measure (c :: r)).1 - 1,by omega⟩
     rw [hk,List.drop_succ_cons]
     rfl
    rw [List.append_assoc,← hs,List.take_append_drop]
theorem ZuX {set l a:List UInt8} (h:encB set (clean l)=a++[32]):∃ y,l=y++[32]:=by
 rcases List.eq_nil_or_concat (clean l) with hn | ⟨m,x,hx⟩
 ·rw [hn] at h;exact absurd h (by simp [encB])
 ·rw [List.concat_eq_append] at hx
  rw [hx,Zj7] at h
  obtain ⟨y,hy⟩:=Zrn (by unfold Z6;split <;> simp) h
  have hxl:=x.toNat_lt
  unfold Z6 at hy
  split at hy
  ·have:=congrArg List.getLast? hy
   simp only [List.getLast?_append,List.getLast?_singleton,List.getLast?_cons_cons] at this
   have e:toB (capital ((x.toNat:Int) % 16))=32:=by simpa using this
   have:=Zbm (n:=(x.toNat:Int) % 16) (by omega) (by omega)
   rw [e] at this
   exact absurd this (by decide)
  ·have:=congrArg List.getLast? hy
   simp only [List.getLast?_append,List.getLast?_singleton] at this
   have e:x=32:=by simpa using this
   subst e
   exact Zro _ l m (Nat.le_refl _) hx
theorem NoEnd.enc {set l:List UInt8} (h:NoEnd l):NoEnd (encB set (clean l)):=fun _ e=>by
 obtain ⟨y,hy⟩:=ZuX e
 exact h y hy
theorem NoEnd.tail {a b:List UInt8} (h:NoEnd (a++b)):NoEnd b:=fun y e=>h (a++y) (by rw [e,List.append_assoc])
theorem ZeU (p:UInt8→Bool) (l:List UInt8):((bcut p l).2.2=false∧(bcut p l).1=l)∨((bcut p l).2.2=true∧∃ c,l=(bcut p l).1++c :: (bcut p l).2.1):=by
 induction l with
 | nil=>left;exact ⟨rfl,rfl⟩
 | cons c r ih=>
  rw [bcut]
  split
  ·right;exact ⟨rfl,c,rfl⟩
  ·rcases ih with ⟨h1,h2⟩ | ⟨h1,d,h2⟩
   ·left;exact ⟨h1,by show c :: (bcut p r).1=c :: r;rw [h2]⟩
   ·right;exact ⟨h1,d,by show c :: r=c :: (bcut p r).1++d :: (bcut p r).2.1;rw [List.cons_append,← h2]⟩
theorem Zlh (p:UInt8→Bool) (l:List UInt8):∀ b∈(bcut p l).1,p b=false:=by
 induction l with
 | nil=>intro b hb;cases hb
 | cons c r ih=>
  intro b hb
  rw [bcut] at hb
  split at hb
  ·cases hb
  ·next hc=>
   simp only [List.mem_cons] at hb
   rcases hb with rfl | hb
   ·simpa using hc
   ·exact ih b hb
theorem Ztl (p:UInt8→Bool) (l:List UInt8):(∀ b∈(bcut p l).1,b∈l)∧(∀ b∈(bcut p l).2.1,b∈l):=by
 rcases ZeU p l with ⟨h1,h2⟩ | ⟨h1,c,h2⟩
 ·exact ⟨fun b hb=>by rw [h2] at hb;exact hb,fun b hb=>by rw [Zeu p l h1] at hb;cases hb⟩
 ·exact ⟨fun b hb=>by rw [h2];simp [hb],fun b hb=>by rw [h2];simp [hb]⟩
theorem Zmy {u base:U} {segs:List (List UInt8)} {hq:Bool} {q:List UInt8} (h:Fs u) (hb:St' base) (hs:base.sch=u.sch) (hsg:ZeY (u.sch == Zs) (Zc u.sch) segs) (hn:base.hh=false→segs≠[]) (hqa:Asis (SQ u.sch) q) (hqn:hq=false→q=[])
  (sd:Sd { kept u base with segs:=segs,hq:=hq,q:=q }):St' { kept u base with segs:=segs,hq:=hq,q:=q } where
 sd:=sd
 wf:=⟨hb.wf.nh,hqn,h.wf.nf⟩
 anam:=hb.anam
 apw:=hb.apw
 ahost:=hb.ahost
 fhost:=fun e=>by have:=hb.fhost e;rw [hs] at this;exact this
 seg:=hsg
 aq:=hqa
 afr:=by show Asis S1 u.fr;rw [h.zfr];exact Zby _
 opq:=fun e=>by have e':u.op=true:=e;rw [h.fr.zop] at e';cases e'
 zop:=fun _=>h.fr.zopath
 pth:=fun _ e=>hn e
 zport:=hb.zport
 fil:=fun e=>hb.fil (hs.trans e)
 sp:=fun e=>hb.sp (by rw [hs];exact e)
theorem Zgr {u base:U} (l:List UInt8) (h:Fs u) (hb:St' base) (hs:base.sch=u.sch) (hbo:base.op=false) (h0:(ZT u l base).2=0):St' (ZT u l base).1∧(ZT u l base).1.op=false:=by
 have hsd:=Zgq l h.fr hb.sd hs h0
 unfold ZT at h0 hsd ⊢
 split
 ·next h1=>rw [if_pos h1] at h0;exact Zmx l h h1 (fun _=>hb) h0
 next h1=>
  rw [if_neg h1] at h0 hsd
  split
  ·next h2=>rw [if_pos h2] at h0;exact Zcq _ h h1 h0
  next h2=>
   rw [if_neg h2] at h0 hsd
   have hbs:ZeY (u.sch == Zs) (Zc u.sch) base.segs:=by rw [← hs];exact hb.seg
   split
   ·next h3=>
    rw [if_pos h3] at hsd
    exact ⟨Zmy (u:=u) (hq:=u.hq) (q:=u.q) h hb hs (Zep _ _) (fun _=>(Za4 _ _).2) h.aq h.wf.nq hsd,h.fr.zop⟩
   ·next h3=>
    rw [if_neg h3] at hsd
    show St' (Z7 (kept u base) l base)∧(Z7 (kept u base) l base).op=false
    have hsd':Sd (Z7 (kept u base) l base):=hsd
    unfold Z7 at hsd' ⊢
    split
    ·next h4=>
     rw [if_pos h4] at hsd'
     refine ⟨?_,h.fr.zop⟩
     refine Zmy (u:=u) (hq:=u.hq || base.hq) (q:=if u.hq=true then u.q else base.q) h hb hs hbs (fun e=>hb.pth hbo e) ?_ ?_ hsd'
     ·split
      ·exact h.aq
      ·have:=hb.aq;rw [hs] at this;exact this
     ·intro e
      rw [Bool.or_eq_false_iff] at e
      rw [if_neg (by rw [e.1];decide)]
      exact hb.wf.nq e.2
    ·next h4=>
     rw [if_neg h4] at hsd'
     exact ⟨Zmy (u:=u) (hq:=u.hq) (q:=u.q) h hb hs (ZkO l hbs) (fun _=>(ZeT _ _ hb.sd.psegs).2) h.aq h.wf.nq hsd',h.fr.zop⟩
theorem Zi2 {base:U} (hb:St' base) (h:Zc base.sch=true):base.op=false:=(hb.sd.sp h).1
theorem Zo3 {u base:U} (l:List UInt8) (h:Fs u) (hb:base.sch=u.sch→St' base) (hl:∀ b∈l,b≠63∧b≠35) (h0:(ZU u l base).2=0):St' (ZU u l base).1∧((ZU u l base).1.op=true→(ZU u l base).1.opath=encB S0 (clean l)):=by
 have hsd:=Zi1 l h.fr (fun e=>(hb e).sd) h0
 have noop:∀ {v:U},St' v→v.op=false→St' v∧(v.op=true→v.opath=encB S0 (clean l)):=fun a b=>⟨a,fun e=>by rw [b] at e;cases e⟩
 unfold ZU at h0 hsd ⊢
 split
 ·next h1=>
  rw [if_pos h1] at h0
  have k:=Zmx l h h1 (fun e=>hb (e.trans h1.symm)) h0
  exact noop k.1 k.2
 next h1=>
  rw [if_neg h1] at h0 hsd
  split
  ·next h2=>
   rw [if_pos h2] at h0
   unfold ZaQ at h0 ⊢
   split
   ·next h3=>
    rw [if_pos h3] at h0
    have hbs:=hb h3.1
    have k:=Zgr l h hbs h3.1 (Zi2 hbs (by rw [h3.1];exact h2)) h0
    exact noop k.1 k.2
   ·next h3=>
    rw [if_neg h3] at h0
    have k:=Zcq _ h h1 h0
    exact noop k.1 k.2
  next h2=>
   rw [if_neg h2] at h0 hsd
   split
   ·next h3=>
    rw [if_pos h3] at hsd
    refine ⟨?_,fun _=>rfl⟩
    exact {
     sd:=hsd
     wf:=h.wf.pathed _ _
     anam:=by show Asis S5 u.nam;rw [h.fr.znam];exact Zby _
     apw:=by show Asis S5 u.pw;rw [h.fr.zpw];exact Zby _
     ahost:=by show HostT u.host;rw [h.fr.zhost];exact hostT_nil
     fhost:=fun e=>absurd h.fr.zhost e
     seg:=by show ZeY _ _ u.segs;rw [h.fr.zsegs];exact ZqE _ _
     aq:=h.aq
     afr:=by show Asis S1 u.fr;rw [h.zfr];exact Zby _
     opq:=fun _=>⟨h.fr.zsegs,h.zhh,Zrm h3,fun b hb=>⟨Zt4 (fun b hb=>(hl b hb).1) (by decide) b hb,Zt4 (fun b hb=>(hl b hb).2) (by decide) b hb⟩⟩
     zop:=fun e=>by cases e
     pth:=fun e=>by cases e
     zport:=fun _=>h.zport
     fil:=fun e=>absurd e h1
     sp:=fun e=>absurd e h2 }
   next h3=>
    rw [if_neg h3] at h0 hsd
    split
    ·next h4=>
     rw [if_pos h4] at hsd
     refine noop ?_ h.fr.zop
     exact {
      sd:=hsd
      wf:=h.wf.segs _
      anam:=by show Asis S5 u.nam;rw [h.fr.znam];exact Zby _
      apw:=by show Asis S5 u.pw;rw [h.fr.zpw];exact Zby _
      ahost:=by show HostT u.host;rw [h.fr.zhost];exact hostT_nil
      fhost:=fun e=>absurd h.fr.zhost e
      seg:=Zep _ _
      aq:=h.aq
      afr:=by show Asis S1 u.fr;rw [h.zfr];exact Zby _
      opq:=fun e=>by have e':u.op=true:=e;rw [h.fr.zop] at e';cases e'
      zop:=fun _=>h.fr.zopath
      pth:=fun _ _=>(Za4 _ _).2
      zport:=fun _=>h.zport
      fil:=fun e=>absurd e h1
      sp:=fun e=>absurd e h2 }
    ·next h4=>
     rw [if_neg h4] at h0
     have k:=Zcq _ h h1 h0
     exact noop k.1 k.2
theorem Zo4 {u base:U} (l:List UInt8) (h:(ZU u l base).1.op=true) (h0:Fs u) (hs:(ZU u l base).2=0) (hb:base.sch=u.sch→St' base):(ZU u l base).1.hq=u.hq:=by
 unfold ZU at h hs ⊢
 split
 ·next h1=>
  rw [if_pos h1] at h hs
  rw [(Zmx l h0 h1 (fun e=>hb (e.trans h1.symm)) hs).2] at h
  cases h
 next h1=>
  rw [if_neg h1] at h hs
  split
  ·next h2=>
   rw [if_pos h2] at h hs
   unfold ZaQ at h hs
   split at hs
   ·next h3=>
    rw [if_pos h3] at h
    have hbs:=hb h3.1
    rw [(Zgr l h0 hbs h3.1 (Zi2 hbs (by rw [h3.1];exact h2)) hs).2] at h
    cases h
   ·next h3=>
    rw [if_neg h3] at h
    rw [(Zcq _ h0 h1 hs).2] at h
    cases h
  next h2=>
   rw [if_neg h2] at h hs
   split
   ·rfl
   next h3=>
    rw [if_neg h3] at h hs
    split
    ·rfl
    ·next h4=>
     rw [if_neg h4] at h hs
     rw [(Zcq _ h0 h1 hs).2] at h
     cases h
theorem Zrp {sch rest:List UInt8} {found:Bool} {base:U} (hsc:sch≠[]→Zth sch) (hb:base.sch≠[]→St' base) (hn:found=false→base.sch=sch∧base.op=false) (hr:∀ b∈rest,b≠35) (h0:(Zcy sch rest found base).2=0):
  St' (Zcy sch rest found base).1∧((Zcy sch rest found base).1.op=true→(Zcy sch rest found base).1.hq=(bcut (isB 63) rest).2.2∧(Zcy sch rest found base).1.opath=encB S0 (clean (bcut (isB 63) rest).1)):=by
 have hl:∀ b∈(bcut (isB 63) rest).1,b≠63∧b≠35:=fun b hb'=>⟨fun e=>by have:=Zlh (isB 63) rest b hb';rw [e] at this;exact absurd this (by decide),hr b ((Ztl (isB 63) rest).1 b hb')⟩
 unfold Zcy at h0 ⊢
 split
 ·next h1=>rw [if_pos h1] at h0;cases h0
 next h1=>
  rw [if_neg h1] at h0
  split
  ·next h2=>
   rw [if_pos h2] at h0
   have k:=Zo3 (bcut (isB 63) rest).1 (ZjV (rest:=rest) (hsc h1)) (fun e=>hb (by rw [e];exact h1)) hl h0
   refine ⟨k.1,fun e=>⟨?_,k.2 e⟩⟩
   exact Zo4 _ e (ZjV (rest:=rest) (hsc h1)) h0 (fun e=>hb (by rw [e];exact h1))
  ·next h2=>
   rw [if_neg h2] at h0
   have e:=hn (by simpa using h2)
   have k:=Zgr (bcut (isB 63) rest).1 (ZjV (rest:=rest) (hsc h1)) (hb (by rw [e.1];exact h1)) e.1 e.2 h0
   exact ⟨k.1,fun x=>by rw [k.2] at x;cases x⟩
end Go.Proofs.YtchkhibgbnhjpaaGreatDoor
