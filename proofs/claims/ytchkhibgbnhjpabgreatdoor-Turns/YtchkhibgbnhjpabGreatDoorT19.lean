import Derived.Test.YtchkhibgbnhjpabGreatDoorT18
open Array renaming getElem?_eq_some_iff→Xb
open Bool renaming and_eq_true→Xa
namespace Go.Proofs.YtchkhibgbnhjpabGreatDoor
open Go.RowKit
def LstK(k:Int)(w w':World)(pb:Nat)(bs:List ByteArray)(u:U):Except Int Lp→Prop
 | .error j=>k=j∧Nx w w'
 | .ok S=>k=0∧(∃r',UrlB w' pb r'∧RcIs w' r' (Zu9 u S) bs)∧But pb w w'
theorem LstK.but{k:Int}{w w':World}{pb:Nat}{bs:LA}{u:U}{M:Except Int Lp}(h:LstK k w w' pb bs u M):But pb w w':=by
 cases M with
 | error j=>exact But.nx h.2
 | ok S=>exact h.2.2
theorem OpK.but{w w':World}{b pb:Nat}{kd c:Int}{s t:BA}{r:Rc}(h:OpK w b kd c s t)(hu:UrlB w pb r)(hb:But pb w w'):OpK w' b kd c s t:=by
 refine(hb.block b (Xb.1 h).1 fun e=>?_).trans h
 subst e;unfold OpK at h;unfold UrlB at hu;rw[h]at hu;simp only[Option.some.injEq,Obj.cells.injEq]at hu
 exact absurd hu.2.1 (by decide)
theorem But.kpL{w w':World}{pb:Nat}{r:Rc}(hb:But pb w w')(h:UrlB w pb r):Kp 106 w w':=by
 intro k cs e fz hk he
 refine(hb.block k (Xb.1 hk).1 ?_).trans hk
 intro e';subst e';unfold UrlB at h;rw[hk]at h;simp only[Option.some.injEq,Obj.cells.injEq]at h;exact he h.2.1
theorem Zyk{u:U}(h:¬ZuR u=false):u.host≠[]∧u.sch≠Zw:=by
 have h':ZuR u=true:=by simpa using h
 unfold ZuR at h';rw[Xa]at h'
 refine⟨fun e=>?_,fun e=>?_⟩
 ·rw[e]at h';exact absurd h'.1 (by decide)
 ·rw[e]at h';exact absurd h'.2 (by simp)
theorem ZzF{u:U}(h:St u)(hh:u.host≠[]):u.hh=true:=by
 cases e:u.hh
 ·exact absurd (h.st.wf.nh e).2.2.1 hh
 ·rfl
theorem ZzG{u:U}(h:St u)(k:Int)(l:LB):St (ZuK u k l):=by
 unfold ZuK
 split
 ·exact h
 ·next hm=>
  obtain⟨hh,hf⟩:=Zyk hm;have hhh:=ZzF h hh
  split
  ·exact⟨{ h.st with sd:={ h.st.sd with pnam:=ZcS _ _,who:=fun g=>absurd g (by rintro(g|g);exact hh g;exact hf g) },wf:=⟨fun g=>absurd (hhh.symm.trans g) (by decide),h.st.wf.nq,h.st.wf.nf⟩,anam:=ZbL Zla _ },h.blank⟩
  ·exact⟨{ h.st with sd:={ h.st.sd with ppw:=ZcS _ _,who:=fun g=>absurd g (by rintro(g|g);exact hh g;exact hf g) },wf:=⟨fun g=>absurd (hhh.symm.trans g) (by decide),h.st.wf.nq,h.st.wf.nf⟩,apw:=ZbL Zla _ },h.blank⟩
theorem Zxx{u:U}(h:St u)(hh:u.host≠[])(hf:u.sch≠Zw){p:Int}(h0:0≤p)(h1:p≤65535):St (ZaW u p):=by
 have hhh:=ZzF h hh;unfold ZaW
 split
 ·exact⟨{ h.st with sd:={ h.st.sd with port:=(fun g=>by cases g),who:=fun g=>absurd g (by rintro(g|g);exact hh g;exact hf g) },wf:=⟨fun g=>absurd (hhh.symm.trans g) (by decide),h.st.wf.nq,h.st.wf.nf⟩,zport:=fun _=>rfl },h.blank⟩
 ·next hn=>
  refine⟨{ h.st with sd:={ h.st.sd with port:=fun _=>⟨by show p.toNat≤65535;omega,fun g e=>hn ⟨g,?_⟩⟩,who:=fun g=>absurd g (by rintro(g|g);exact hh g;exact hf g) },wf:=⟨fun g=>absurd (hhh.symm.trans g) (by decide),h.st.wf.nq,h.st.wf.nf⟩,zport:=(fun g=>by cases g) },h.blank⟩
  have e':((p.toNat:Nat):Int)=(ZM u.sch).1:=e
  omega
theorem ZzH{u:U}(h:St u):St { u with hp:=false,port:=0 }:=
 ⟨{ h.st with sd:={ h.st.sd with port:=(fun g=>by cases g),who:=fun g=>⟨(h.st.sd.who g).1,(h.st.sd.who g).2.1,rfl⟩ },wf:=⟨fun g=>⟨(h.st.wf.nh g).1,(h.st.wf.nh g).2.1,(h.st.wf.nh g).2.2.1,rfl⟩,h.st.wf.nq,h.st.wf.nf⟩,zport:=fun _=>rfl },h.blank⟩
theorem Zxy{u:U}(h:St u)(hh:u.host≠[])(hf:u.sch≠Zw)(l:LB):St (ZuQ u l):=by
 unfold ZuQ
 split
 ·exact h
 ·exact Zxx h hh hf (Zdi _).1 (Zdi _).2
theorem ZA7{u:U}(h:St u)(l:LB):St (ZuP u l):=by
 unfold ZuP
 split
 ·exact h
 ·next hm=>
  obtain⟨hh,hf⟩:=Zyk hm
  split
  ·exact ZzH h
  ·exact Zxy h hh hf _
theorem ZA8{u:U}(h:St u)(l:LB):St (ZuT u l):=by
 unfold ZuT
 split
 ·exact h
 ·next ho=>
  have ho':u.op=false:=by simpa using ho
  split
  ·next hc=>
   exact⟨{ h.st with sd:={ h.st.sd with psegs:=(fun s hs=>by cases hs),sp:=fun g=>absurd (hc.2.1.symm.trans g) (by decide) },wf:=⟨h.st.wf.nh,h.st.wf.nq,h.st.wf.nf⟩,seg:=Zoj _ _,opq:=fun g=>absurd (ho'.symm.trans g) (by decide),pth:=fun _ g=>absurd (hc.2.2.symm.trans g) (by decide) },fun g=>absurd (ho'.symm.trans g) (by decide)⟩
  ·exact⟨{ h.st with sd:={ h.st.sd with psegs:=(ZaU _ _).1,sp:=fun g=>⟨ho',(ZaU _ _).2⟩ },wf:=⟨h.st.wf.nh,h.st.wf.nq,h.st.wf.nf⟩,seg:=Zdm _ _,opq:=fun g=>absurd (ho'.symm.trans g) (by decide),pth:=fun _ _=>(ZaU _ _).2 },fun g=>absurd (ho'.symm.trans g) (by decide)⟩
theorem ZwQ{u:U}(h:St u):St (ZbZ u):=by
 have:=ZyK h (S:=[]) (fun p hp=>by cases hp)
 rwa [show Zu9 u []=ZbZ u from if_pos rfl]at this
theorem ZzI{u:U}(h:St u)(l:LB):St (ZuL u l):=by
 unfold ZuL
 split
 ·exact ZwQ h
 ·exact⟨{ h.st with sd:={ h.st.sd with pq:=ZcS _ _ },wf:=⟨h.st.wf.nh,(fun g=>by cases g),h.st.wf.nf⟩,aq:=ZbL (Ztx _) _ },(fun _ g=>by cases g)⟩
theorem ZzJ{u:U}(h:St u)(l:LB):St (ZuS u l):=by
 unfold ZuS
 split
 ·unfold Zvw Zbe
  split
  ·next hq=>
   exact⟨{ h.st with sd:={ h.st.sd with pfr:=pr_nil },wf:=⟨h.st.wf.nh,h.st.wf.nq,fun _=>rfl⟩,afr:=ZaM _ },fun _ g _=>absurd (show u.hq=true from hq.resolve_right (by intro x;cases x)) (by have g':u.hq=false:=g;rw[g'];decide)⟩
  ·refine⟨{ h.st with sd:={ h.st.sd with pfr:=pr_nil,popath:=fun b hb=>h.st.sd.popath b (Zvr hb) },wf:=⟨h.st.wf.nh,h.st.wf.nq,fun _=>rfl⟩,afr:=ZaM _,opq:=fun g=>?_,zop:=fun g=>?_ },fun _ _ _=>ZvQ _⟩
   ·obtain⟨a,b,c,d⟩:=h.st.opq g
    exact⟨a,b,ZvY c,fun x hx=>d x (Zvr hx)⟩
   ·show dropBl u.opath=[]
    rw[h.st.zop g]
    rfl
 ·exact⟨{ h.st with sd:={ h.st.sd with pfr:=ZcS _ _ },wf:=⟨h.st.wf.nh,h.st.wf.nq,(fun g=>by cases g)⟩,afr:=ZbL Ztg _ },(fun _ _ g=>by cases g)⟩
theorem ZvZ:(ZaD []).2=false:=by decide
theorem digits_nil(u:U):ZuQ u []=u:=if_pos ZvZ
theorem ZvS{l:LB}(h:(Zu l).2.2=false):(Zu l).2.1=[]:=by
 unfold Zu at h ⊢
 cases e:cutPortGo false l with
 | none=>rfl
 | some q=>rw[e]at h;cases h
theorem Zxz{u:U}(h:¬ZuY u=true):u.nam=[]∧u.pw=[]:=by
 have h':ZuY u=false:=by simpa using h
 unfold ZuY at h'
 have:(u.nam.isEmpty&&u.pw.isEmpty)=true:=by simpa using h'
 rw[Xa,List.isEmpty_iff,List.isEmpty_iff]at this;exact this
theorem Zwu{u:U}(h:St u)(ho:u.op=false){x:LB}(ht:HostT x)(hp:Pr x)(hfix:x≠[]→ZI x (Zb u.sch)=(x,0))(hl:u.sch=Zw→x≠Zej)(hw:x=[]→u.nam=[]∧u.pw=[]∧u.hp=false)(hs:Zb u.sch=true→u.sch≠Zw→x≠[]):St { u with hh:=true,host:=x }:=
 ⟨{ h.st with sd:={ h.st.sd with phost:=hp,who:=fun g=>g.elim hw (fun e=>h.st.sd.who (Or.inr e)),hst:=hs },wf:=⟨(fun g=>by cases g),h.st.wf.nq,h.st.wf.nf⟩,ahost:=ht,fhost:=hfix,opq:=fun g=>absurd (ho.symm.trans g) (by decide),pth:=(fun _ g=>by cases g),fil:=hl,sp:=fun _=>rfl },fun g=>absurd (ho.symm.trans g) (by decide)⟩
theorem ZzK{u:U}(h:St u)(l:LB)(p:Bool)(h0:(ZuN u l p).2=0):St (ZuN u l p).1:=by
 unfold ZuN at h0 ⊢
 split
 ·exact h
 next ho=>
  have ho':u.op=false:=by simpa using ho
  rw[if_neg ho]at h0
  split
  ·exact h
  next h2=>
   rw[if_neg h2]at h0
   split
   ·next h3=>rw[if_pos h3]at h0;exact absurd h0 h3
   next h3=>
    have h3':=Classical.not_not.1 h3;clear h0 h2 h3;unfold ZuG at h3' ⊢
    split
    ·next hf=>
     rw[if_pos hf]at h3';simp only;rw[digits_nil];have hk:=Zi1 (l:=ZuJ (Zb u.sch) l)
     refine Zwu h ho' hk.1 (Ze2 _) (fun e=>?_) (fun _=>hk.2.2) (fun _=>h.st.sd.who (Or.inr hf)) (fun _ g=>absurd hf g)
     have hs:Zb u.sch=true:=by rw[hf];exact file_special
     have hk':=hk.2.1 e;rw[hs]at hk' ⊢;exact hk'
    next hf=>
     rw[if_neg hf]at h3'
     split
     ·next h4=>rw[if_pos h4]at h3';cases h3'
     next h4=>
      rw[if_neg h4]at h3'
      split
      ·next h5=>rw[if_pos h5]at h3';cases h3'
      next h5=>
       rw[if_neg h5]at h3'
       split
       ·next h6=>rw[if_pos h6]at h3';exact absurd h3' h6
       next h6=>
        have hz:=Classical.not_not.1 h6;simp only
        by_cases hne:(Zu (ZuJ (Zb u.sch) l)).1=[]
        ·have hn2:¬((Zu (ZuJ (Zb u.sch) l)).2.2=true∨Zb u.sch=true∨ZuY u=true∨u.hp=true):=fun g=>h5 ⟨hne,g⟩
         have hsp:Zb u.sch=false:=by cases e:Zb u.sch;rfl;exact absurd (Or.inr (Or.inl e)) hn2
         have hd:(Zu (ZuJ (Zb u.sch) l)).2.1=[]:=ZvS (by cases e:(Zu (ZuJ (Zb u.sch) l)).2.2;rfl;exact absurd (Or.inl e) hn2)
         have hu:=Zxz (fun g=>hn2 (Or.inr (Or.inr (Or.inl g))))
         have hhp:u.hp=false:=by cases e:u.hp;rfl;exact absurd (Or.inr (Or.inr (Or.inr e))) hn2
         rw[hd,digits_nil,hne,hsp,ZoL]
         exact Zwu h ho' hostT_nil pr_nil (fun e=>absurd rfl e) (fun e=>absurd e hf) (fun _=>⟨hu.1,hu.2,hhp⟩) (fun g=>by rw[hsp]at g;cases g)
        ·have hx:=Zp8 hne hz
         refine Zxy (Zwu h ho' hostL_T (Zk9 _ _) (fun _=>ZiP hz) (fun e=>absurd e hf) (fun e=>absurd e hx) (fun _ _=>hx)) hx hf _
theorem Zx5{u:U}(h:St u){s:LB}(hs:ScOk s)(hsp:Zb u.sch=Zb s)(hf:s≠Zw)(hh:u.sch=Zw→u.host≠[]):St { u with sch:=s,hp:=false,port:=0 }:=
 ⟨{ h.st with
   sd:={ h.st.sd with sc:=hs,port:=(fun g=>by cases g),who:=fun g=>g.elim (fun e=>⟨(h.st.sd.who (Or.inl e)).1,(h.st.sd.who (Or.inl e)).2.1,rfl⟩) (fun e=>absurd e hf),sp:=fun g=>h.st.sd.sp (hsp.trans g),hst:=fun g _=>(Classical.em (u.sch=Zw)).elim hh (fun e=>h.st.sd.hst (hsp.trans g) e) }
   wf:=⟨fun g=>⟨(h.st.wf.nh g).1,(h.st.wf.nh g).2.1,(h.st.wf.nh g).2.2.1,rfl⟩,h.st.wf.nq,h.st.wf.nf⟩
   fhost:=fun e=>by show ZI u.host (Zb s)=_;rw[←hsp];exact h.st.fhost e
   seg:=⟨fun x hx=>by show Zob (Zb s) x;rw[←hsp];exact h.st.seg.each x hx,fun g=>absurd (beq_iff_eq.1 g) hf⟩
   aq:=by show Asis (SQ s) u.q;unfold SQ Zbr;rw[←hsp];exact h.st.aq
   zport:=fun _=>rfl
   fil:=fun e=>absurd e hf
   sp:=fun g=>h.st.sp (hsp.trans g) },h.blank⟩
theorem Zx6(u:U)(s:LB)(p:Int):ZaW { u with sch:=s } p=ZaW { u with sch:=s,hp:=false,port:=0 } p:=by unfold ZaW;simp only
theorem ZvH{u:U}{s:LB}(h:¬ZuI u s=false):Zb u.sch=Zb s∧(s=Zw→u.nam=[]∧u.pw=[]∧u.hp=false)∧(u.sch=Zw→u.host≠[]):=by
 have h':ZuI u s=true:=by simpa using h
 unfold ZuI at h';rw[Xa,Xa]at h';obtain⟨⟨h1,h2⟩,h3⟩:=h'
 refine⟨beq_iff_eq.1 h1,fun e=>?_,fun e g=>?_⟩
 ·rw[e]at h2
  have h4:(ZuY u||u.hp)=false:=by simpa using h2
  rw[Bool.or_eq_false_iff]at h4
  have:=Zxz (u:=u) (by rw[h4.1];decide)
  exact⟨this.1,this.2,h4.2⟩
 ·rw[e,g]at h3
  exact absurd h3 (by decide)
theorem ZAL{l:LB}(h:¬(Zax l).2.2=false):ScOk (Zax l).1:=by
 unfold Zax at h ⊢
 split
 ·next h2=>exact Zg8 h2.2
 ·next h2=>rw[if_neg h2]at h;exact absurd rfl h
theorem ZAM{u:U}(h:St u)(l:LB)(hm:(ZuH u l).sch=Zw→u.sch=Zw):St (ZuH u l):=by
 unfold ZuH at hm ⊢
 split
 ·exact h
 next hn=>
  rw[if_neg hn]at hm
  have hn1:¬(Zax (noBreaks l++[58])).2.2=false:=fun g=>hn (Or.inl g)
  obtain⟨k1,k2,k3⟩:=ZvH (fun g=>hn (Or.inr g))
  have hsc:=ZAL hn1;generalize (Zax (noBreaks l++[58])).1=s at *;clear hn hn1
  by_cases hf:s=Zw
  ·have hu:u.sch=Zw:=hm (by
    split
    ·have:∀p,(ZaW { u with sch:=s } p).sch=s:=fun p=>by unfold ZaW;split<;>rfl
     rw[this,hf]
    ·exact hf)
   rw[if_neg (by rw[(k2 hf).2.2];decide),hf,←hu]
   exact h
  ·have h2:=Zx5 h hsc k1 hf k3
   split
   ·next hp=>
    rw[Zx6]
    have hh:u.host≠[]:=fun e=>by have:=(h.st.sd.who (Or.inl e)).2.2;rw[hp]at this;cases this
    exact Zxx h2 hh hf (by omega) (by have:=(h.st.sd.port hp).1;omega)
   ·next hp=>
    have hp':u.hp=false:=by simpa using hp
    have e:({ u with sch:=s }:U)={ u with sch:=s,hp:=false,port:=0 }:=by rw[←hp',←h.st.zport hp']
    rw[e];exact h2
theorem ZwR(u:U)(l:LB):∃x,ZuK u 2 l={ u with nam:=x }:=by
 unfold ZuK
 split
 ·exact⟨u.nam,rfl⟩
 ·rw[if_pos rfl];exact⟨_,rfl⟩
theorem ZwS(u:U)(l:LB):∃x,ZuK u 3 l={ u with pw:=x }:=by
 unfold ZuK
 split
 ·exact⟨u.pw,rfl⟩
 ·rw[if_neg (by decide)];exact⟨_,rfl⟩
theorem Zvi(u:U)(p:Int):∃a b,ZaW u p={ u with hp:=a,port:=b }:=by
 unfold ZaW
 split
 ·exact⟨_,_,rfl⟩
 ·exact⟨_,_,rfl⟩
theorem Zvj(u:U)(l:LB):∃a b,ZuQ u l={ u with hp:=a,port:=b }:=by
 unfold ZuQ
 split
 ·exact⟨u.hp,u.port,rfl⟩
 ·exact Zvi u _
theorem ZxA(u:U)(l:LB):∃a b,ZuP u l={ u with hp:=a,port:=b }:=by
 unfold ZuP
 split
 ·exact⟨u.hp,u.port,rfl⟩
 ·split
  ·exact⟨_,_,rfl⟩
  ·exact Zvj u _
theorem ZxB(u:U)(l:LB):∃x,ZuT u l={ u with segs:=x }:=by
 unfold ZuT
 split
 ·exact⟨u.segs,rfl⟩
 ·split
  ·exact⟨_,rfl⟩
  ·exact⟨_,rfl⟩
theorem ZwT(u:U)(l:LB):∃s a b,ZuH u l={ u with sch:=s,hp:=a,port:=b }:=by
 unfold ZuH
 split
 ·exact⟨u.sch,u.hp,u.port,rfl⟩
 ·split
  ·obtain⟨a,b,e⟩:=Zvi { u with sch:=(Zax (noBreaks l++[58])).1 } u.port
   exact⟨_,a,b,e⟩
  ·exact⟨_,u.hp,u.port,rfl⟩
theorem ZvI(u:U)(l:LB)(p:Bool)(h0:(ZuN u l p).2=0):∃c x a b,(ZuN u l p).1={ u with hh:=c,host:=x,hp:=a,port:=b }∧(p=false→a=u.hp∧b=u.port):=by
 unfold ZuN at h0 ⊢
 split
 ·exact⟨u.hh,u.host,u.hp,u.port,rfl,fun _=>⟨rfl,rfl⟩⟩
 next ho=>
  rw[if_neg ho]at h0
  split
  ·exact⟨u.hh,u.host,u.hp,u.port,rfl,fun _=>⟨rfl,rfl⟩⟩
  next h2=>
   rw[if_neg h2]at h0
   split
   ·next h3=>rw[if_pos h3]at h0;exact absurd h0 h3
   next h3=>
    by_cases hp:p=false
    ·subst hp
     have hd:(ZuG u l false).2.1=[]:=by
      unfold ZuG
      split
      ·rfl
      ·split
       ·rfl
       ·next h4=>
        split
        ·rfl
        ·split
         ·rfl
         ·exact ZvS (by cases e:(Zu (ZuJ (Zb u.sch) l)).2.2;rfl;exact absurd ⟨e,rfl⟩ h4)
     rw[hd,digits_nil]
     exact⟨_,_,_,_,rfl,fun _=>⟨rfl,rfl⟩⟩
    ·obtain⟨a,b,e⟩:=Zvj { u with hh:=true,host:=(ZuG u l p).1 } (ZuG u l p).2.1
     exact⟨_,_,a,b,e,fun g=>absurd g hp⟩
theorem ZxC(u:U)(k:Int)(l:LB):ZuK (ZuK u k l) k l=ZuK u k l:=by
 unfold ZuK
 by_cases hm:ZuR u=false
 ·simp only[hm,if_pos]
 ·have hm1:∀x,ZuR { u with nam:=x }=ZuR u:=fun x=>rfl
  have hm2:∀x,ZuR { u with pw:=x }=ZuR u:=fun x=>rfl
  rw[if_neg hm]
  by_cases hk:k=2
  ·rw[if_pos hk,hm1,if_neg hm,if_pos hk]
  ·rw[if_neg hk,hm2,if_neg hm,if_neg hk]
theorem Zwv(u:U)(p:Int):ZaW (ZaW u p) p=ZaW u p:=by
 unfold ZaW
 by_cases h:(ZM u.sch).2=true∧p=(ZM u.sch).1
 ·rw[if_pos h];simp only[if_pos h]
 ·rw[if_neg h];simp only[if_neg h]
theorem Zww(u:U)(l:LB):ZuQ (ZuQ u l) l=ZuQ u l:=by
 unfold ZuQ
 by_cases h:(ZaD (l.takeWhile ZAl)).2=false
 ·simp only[if_pos h]
 ·simp only[if_neg h]
  exact Zwv u _
theorem ZzL(u:U)(l:LB):ZuP (ZuP u l) l=ZuP u l:=by
 by_cases hm:ZuR u=false
 ·have e:ZuP u l=u:=if_pos hm
  rw[e,e]
 ·by_cases hl:l=[]
  ·have e:ZuP u l={ u with hp:=false,port:=0 }:=by unfold ZuP;rw[if_neg hm,if_pos hl]
   rw[e];unfold ZuP
   rw[if_neg (show ¬ZuR { u with hp:=false,port:=0 }=false from hm),if_pos hl]
  ·have e:ZuP u l=ZuQ u (noBreaks l):=by unfold ZuP;rw[if_neg hm,if_neg hl]
   rw[e];obtain⟨a,b,e2⟩:=Zvj u (noBreaks l)
   have hm2:ZuR (ZuQ u (noBreaks l))=ZuR u:=by rw[e2];rfl
   unfold ZuP;rw[hm2,if_neg hm,if_neg hl];exact Zww u _
theorem ZzM(u:U)(l:LB):ZuT (ZuT u l) l=ZuT u l:=by
 unfold ZuT
 by_cases ho:u.op=true
 ·simp only[if_pos ho]
 ·by_cases hc:noBreaks l=[]∧Zb u.sch=false∧u.hh=true
  ·simp only[if_neg ho,if_pos hc]
  ·simp only[if_neg ho,if_neg hc]
theorem Zx7(l:LB):dropBl (dropBl l)=dropBl l:=by
 obtain⟨n,e⟩:=Zvl (dropBl l)
 cases n with
 | zero=>simpa using e.symm
 | succ n=>exact absurd (by rw[List.replicate_succ',←List.append_assoc]at e;exact e) (ZvQ l _)
theorem Zwx(u:U):Zbe (Zbe u)=Zbe u:=by
 unfold Zbe
 by_cases h:u.hq=true∨u.hf=true
 ·simp only[if_pos h]
 ·simp only[if_neg h,Zx7]
theorem ZxD(u:U):∃x,Zbe u={ u with opath:=x }:=by
 unfold Zbe
 split
 ·exact⟨u.opath,rfl⟩
 ·exact⟨_,rfl⟩
theorem Zx8(u:U)(l:LB):ZuL (ZuL u l) l=ZuL u l:=by
 unfold ZuL
 by_cases h:l=[]
 ·rw[if_pos h,if_pos h]
  unfold ZbZ
  obtain⟨x,e⟩:=ZxD { u with hq:=false,q:=[] }
  have e2:({ (Zbe { u with hq:=false,q:=[] })with hq:=false,q:=[] }:U)=Zbe { u with hq:=false,q:=[] }:=by rw[e]
  rw[e2];exact Zwx _
 ·rw[if_neg h,if_neg h]
theorem ZzN(u:U)(l:LB):ZuS (ZuS u l) l=ZuS u l:=by
 unfold ZuS
 by_cases h:l=[]
 ·rw[if_pos h,if_pos h]
  unfold Zvw
  obtain⟨x,e⟩:=ZxD { u with hf:=false,fr:=[] }
  have e2:({ (Zbe { u with hf:=false,fr:=[] })with hf:=false,fr:=[] }:U)=Zbe { u with hf:=false,fr:=[] }:=by rw[e]
  rw[e2];exact Zwx _
 ·rw[if_neg h,if_neg h]
theorem ZxE(u:U)(l:LB)(p:Bool)(h0:(ZuN u l p).2=0):ZuN (ZuN u l p).1 l p=((ZuN u l p).1,0):=by
 by_cases ho:u.op=true
 ·have e:ZuN u l p=(u,0):=if_pos ho
  rw[e];exact e
 ·by_cases h2:(ZuG u l p).2.2=2
  ·have e:ZuN u l p=(u,0):=by unfold ZuN;rw[if_neg ho,if_pos h2]
   rw[e];exact e
  ·by_cases h3:(ZuG u l p).2.2=0
   ·have e:ZuN u l p=(ZuQ { u with hh:=true,host:=(ZuG u l p).1 } (ZuG u l p).2.1,0):=by unfold ZuN;rw[if_neg ho,if_neg h2,if_neg (fun g=>g h3)]
    rw[e]
    obtain⟨a,b,e2⟩:=Zvj { u with hh:=true,host:=(ZuG u l p).1 } (ZuG u l p).2.1
    have hr:ZuG (ZuQ { u with hh:=true,host:=(ZuG u l p).1 } (ZuG u l p).2.1) l p=ZuG u l p:=by
     by_cases hc:(Zu (ZuJ (Zb u.sch) l)).1=[]∧u.sch≠Zw
     ·have hd:(ZuG u l p).2.1=[]:=by
       unfold ZuG at h2 ⊢;rw[if_neg hc.2]at h2 ⊢
       split
       ·rfl
       ·next h4=>
        rw[if_neg h4]at h2
        split
        ·rfl
        ·next h5=>
         split
         ·rfl
         ·exact ZvS (by cases e:(Zu (ZuJ (Zb u.sch) l)).2.2;rfl;exact absurd ⟨hc.1,Or.inl e⟩ h5)
      rw[hd,digits_nil]
      rfl
     ·rw[e2]
      unfold ZuG;simp only
      by_cases hf:u.sch=Zw
      ·rw[if_pos hf,if_pos hf]
      ·have hne:¬(Zu (ZuJ (Zb u.sch) l)).1=[]:=fun g=>hc ⟨g,hf⟩
       rw[if_neg hf,if_neg hf];simp only[hne,false_and,if_false]
    unfold ZuN
    rw[hr,if_neg (by rw[e2];exact ho),if_neg h2,if_neg (fun g=>g h3)]
    have e3:({ (ZuQ { u with hh:=true,host:=(ZuG u l p).1 } (ZuG u l p).2.1)with hh:=true,host:=(ZuG u l p).1 }:U)=ZuQ { u with hh:=true,host:=(ZuG u l p).1 } (ZuG u l p).2.1:=by rw[e2]
    rw[e3,Zww]
   ·exfalso
    unfold ZuN at h0;rw[if_neg ho,if_neg h2,if_pos h3]at h0;exact h3 h0
theorem ZyN{u:U}(h:St u)(l:LB):ZuH (ZuH u l) l=ZuH u l:=by
 by_cases hn:(Zax (noBreaks l++[58])).2.2=false∨ZuI u (Zax (noBreaks l++[58])).1=false
 ·have e:ZuH u l=u:=if_pos hn
  rw[e,e]
 ·obtain⟨k1,k2,k3⟩:=ZvH (fun g=>hn (Or.inr g))
  have hn1:¬(Zax (noBreaks l++[58])).2.2=false:=fun g=>hn (Or.inl g)
  have e:ZuH u l=if u.hp=true then ZaW { u with sch:=(Zax (noBreaks l++[58])).1 } u.port else { u with sch:=(Zax (noBreaks l++[58])).1 }:=if_neg hn
  obtain⟨s,hs⟩:∃s,(Zax (noBreaks l++[58])).1=s:=⟨_,rfl⟩;rw[hs]at e k1 k2
  have hhost:s=Zw→u.host≠[]:=fun ef=>(Classical.em (u.sch=Zw)).elim k3 (fun g=>h.st.sd.hst (k1.trans (by rw[ef];exact file_special)) g)
  have key:∀v:U,v.sch=s→v.nam=u.nam→v.pw=u.pw→v.host=u.host→(s=Zw→v.hp=false)→(v.hp=true→ZaW v v.port=v)→ZuH v l=v:=by
   intro v e1 e2 e3 e4 e5 e6
   have hb:ZuI v s=true:=by
    unfold ZuI ZuY;rw[e1,e2,e3,e4]
    by_cases ef:s=Zw
    ·have hu:=k2 ef
     rw[e5 ef,hu.1,hu.2.1]
     have:u.host.isEmpty=false:=by
      cases hh:u.host with
      | nil=>exact absurd hh (hhost ef)
      | cons c r=>rfl
     rw[this]
     simp
    ·have:(s==Zw)=false:=beq_eq_false_iff_ne.2 ef
     rw[this];have:(s != Zw)=true:=bne_iff_ne.2 ef;rw[this]
     simp
   unfold ZuH
   rw[hs,if_neg (by rintro(g|g);exact hn1 g;rw[hb]at g;cases g)]
   have e7:({ v with sch:=s }:U)=v:=by rw[←e1]
   rw[e7]
   split
   ·next g=>exact e6 g
   ·rfl
  rw[e]
  split
  ·next hp=>
   obtain⟨a,b,ea⟩:=Zvi { u with sch:=s } u.port
   refine key _ (by rw[ea]) (by rw[ea]) (by rw[ea]) (by rw[ea]) (fun ef=>by have:=(k2 ef).2.2;rw[hp]at this;cases this) (fun g=>?_)
   have hport:(ZaW { u with sch:=s } (u.port:Int)).port=u.port:=by
    unfold ZaW at g ⊢
    split at g
    ·cases g
    ·next hc=>rw[if_neg hc];simp
   rw[hport];exact Zwv _ _
  ·next hp=>
   refine key _ rfl rfl rfl rfl (fun ef=>(k2 ef).2.2) (fun g=>absurd g hp)
end Go.Proofs.YtchkhibgbnhjpabGreatDoor
