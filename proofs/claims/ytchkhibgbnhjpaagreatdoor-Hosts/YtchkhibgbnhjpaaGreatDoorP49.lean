import Derived.Test.YtchkhibgbnhjpaaGreatDoorP40
import Derived.Test.YtchkhibgbnhjpaaGreatDoorP47
open Bool renaming false_eq_true→Xc,not_eq_true→Xe,not_eq_true'→Xf,and_eq_true→Xi
open List renaming takeWhile_cons→Xa,isEmpty_iff→Xb,drop_zero→Xd,drop_succ_cons→Xg,length_nil→Xj
namespace Go.Proofs.YtchkhibgbnhjpaaGreatDoor
open Go.RowKit
theorem ZvD(u:U):ZeL (toR u)↔ZbV u=false:=by
 unfold ZeL ZbV;rw[←Xe,Xi,Xf,←Xe,Xb,bne_iff_ne]
 show(u.host=[]∨u.sch=Zo)↔_
 constructor
 ·rintro(h|h) ⟨h1,h2⟩
  ·exact h1 h
  ·exact h2 h
 ·intro h
  by_cases g:u.host=[]
  ·exact Or.inl g
  ·right
   exact Classical.byContradiction fun g2=>h ⟨g,g2⟩
theorem ZxO:ZvZ=fun b:UInt8=>numeral (b.toNat:Int):=rfl
theorem Zja{p:UInt8→Bool}{P:Int→Bool}(h:Asc p P)(l:LI)(hl:∀c∈l,Pt c):(Zc l).takeWhile p=Zc (l.takeWhile P):=by
 induction l with
 | nil=>rfl
 | cons c r ih=>
  rcases Zae (hl c (by simp))with⟨h0,h1,e⟩|⟨h0,e1,e⟩
  ·have hp:=h.lo c h0 h1
   rw[bytesOf_cons,e,List.singleton_append,Xa,Xa,hp]
   split
   ·rw[ih (fun x hx=>hl x (by simp[hx])),bytesOf_cons,e];rfl
   ·rfl
  ·have hc:=h.up c h0
   rw[Xa,if_neg (by rw[hc];decide),bytesOf_cons]
   cases hx:(utf c).map toB with
   | nil=>exact absurd hx e1
   | cons b q=>
    have hb:=h.hi b (e b (by rw[hx];simp))
    rw[List.cons_append,Xa,if_neg (by rw[hb];decide)]
    rfl
theorem Zjb(p:LI):ZU (p.takeWhile numeral)=!(p.takeWhile numeral).isEmpty:=by
 unfold ZU
 have:(p.takeWhile numeral).all numeral=true:=by
  rw[List.all_eq_true];intro c hc
  induction p with
  | nil=>cases hc
  | cons x r ih=>
   rw[Xa]at hc
   split at hc
   ·next hx=>
    rcases List.mem_cons.1 hc with rfl|hc
    ·exact hx
    ·exact ih hc
   ·cases hc
 rw[this,Bool.true_and]
theorem ZgL(u:U)(p:LI)(hp:∀c∈p,Pt c):ZaE (toR u) p=toR (ZaF u (Zc p)):=by
 unfold ZaE ZaF
 rw[ZxO,Zja Zf5 p hp,Zmf _ (fun c hc=>hp c ((List.takeWhile_sublist _).subset hc)),Zjb]
 have hemp:(!(p.takeWhile numeral).isEmpty)=false↔p.takeWhile numeral=[]:=by rw[Bool.not_eq_false',Xb]
 by_cases h:p.takeWhile numeral≠[]∧value (p.takeWhile numeral)≤65535
 ·have g:¬((!(p.takeWhile numeral).isEmpty)=false∨65535<value (p.takeWhile numeral)):=by
   rintro(g|g)
   ·exact h.1 (hemp.1 g)
   ·omega
  have hnn:0≤value (p.takeWhile numeral):=Zo8 _ (by rw[Zjb,Xf,←Xe,Xb];exact h.1)
  rw[if_pos h,if_neg g,if_neg (by intro x;cases x)]
  simp only;have es:(toR u).sch=u.sch:=rfl;rw[es,ZsF u.sch _ hnn];unfold Zal
  by_cases c4:(ZI u.sch).2=true∧value (p.takeWhile numeral)=(ZI u.sch).1
  ·rw[if_pos c4,if_pos c4]
   unfold toR
   simp
  ·rw[if_neg c4,if_neg c4]
   unfold toR
   simp
   omega
 ·have g:(!(p.takeWhile numeral).isEmpty)=false∨65535<value (p.takeWhile numeral):=by
   by_cases g:p.takeWhile numeral=[]
   ·exact Or.inl (hemp.2 g)
   ·right
    rcases Int.lt_or_le 65535 (value (p.takeWhile numeral))with k|k
    ·exact k
    ·exact absurd ⟨g,k⟩ h
  rw[if_neg h,if_pos g,if_pos rfl]
theorem ZqV(l:LB):Zk l=[]↔clean l=[]:=by rw[ZdN l,Zp (fun c hc=>(ZaR l c hc).pt)]
theorem Zn1(u:U)(l:LB):(if ZeL (toR u)then toR u else Zfc (toR u) (Zk l))=toR (ZbI u (clean l)):=by
 unfold ZbI Zfc;have hb:=ZvD u;have hn:=ZqV l
 by_cases h:ZbV u=false
 ·rw[if_pos (hb.2 h),if_pos h]
 ·rw[if_neg (fun g=>h (hb.1 g)),if_neg h]
  by_cases h0:Zk l=[]
  ·rw[if_pos h0,if_pos (hn.1 h0)]
   rfl
  ·rw[if_neg h0,if_neg (fun g=>h0 (hn.2 g)),ZdN l,Zdz (ZaR l)]
   exact ZgL u _ (fun c hc=>(Zla (ZaR l) c hc).pt)
theorem ZtC(sp:Bool):Zq3 (fun b=>slB sp b||(isB 63 b||isB 35 b)) ((if sp then [47,92]else [47])++[63,35]):=by
 cases sp
 ·exact⟨ZdT (p:=fun b=>slB false b||(isB 63 b||isB 35 b)) (P:=fun c=>among c [47,63,35]) (by decide +kernel),fun b=>by256 (P:=fun b=>128≤b.toNat→(slB false b||(isB 63 b||isB 35 b))=false) (by decide +kernel) b,fun c hc=>by simp[among];omega⟩
 ·exact⟨ZdT (p:=fun b=>slB true b||(isB 63 b||isB 35 b)) (P:=fun c=>among c [47,92,63,35]) (by decide +kernel),fun b=>by256 (P:=fun b=>128≤b.toNat→(slB true b||(isB 63 b||isB 35 b))=false) (by decide +kernel) b,fun c hc=>by simp[among];omega⟩
theorem bcut_or(p q:UInt8→Bool)(l:LB):(bcut q (bcut p l).1).1=(bcut (fun b=>p b||q b) l).1:=by
 induction l with
 | nil=>rfl
 | cons c r ih=>
  rw[bcut]
  cases hp:p c
  ·simp only[Xc,if_false]
   rw[bcut,bcut,hp]
   cases hq:q c
   ·simp only[Xc,if_false,Bool.or_self]
    rw[ih]
   ·simp only[if_true,Bool.or_true]
  ·simp only[if_true]
   rw[bcut.eq_2 (fun b=>p b||q b),hp]
   simp only[Bool.true_or,if_true]
   rfl
theorem Zn2(sch:LB)(l:LB):ZL (Zb sch) (clean l)=Zc (cut (flat (Zk l)) (Z0 sch)).1:=by
 unfold ZL;rw[ZdN l,Zdz (ZaR l),bcut_or,bcut_or]
 have hs:Zq3 (fun b=>slB (Zb sch) b||(isB 63 b||isB 35 b)) (Z0 sch):=by unfold Z0;rw[Zed,special_eq];exact ZtC _
 rw[Zah hs _ (fun c hc=>(Zla (ZaR l) c hc).pt)]
theorem ZfC(e:Int):ZhP e=if e=2 then 0 else e:=rfl
theorem ZvE(p:LI)(t:LB)(ht:∀c,numeral c=true→among c t=false):∀k:Nat,k≤(cut p t).1.length→((cut p t).1.drop k).takeWhile numeral=(p.drop k).takeWhile numeral:=by
 induction p with
 | nil=>intro k _;rfl
 | cons c r ih=>
  intro k hk;rw[cut]at hk ⊢
  cases ha:among c t
  ·rw[ha]at hk
   simp only[Xc,if_false]at hk ⊢
   cases k with
   | zero=>
    rw[Xd,Xd,Xa,Xa];have:=ih 0 (Nat.zero_le _);rw[Xd,Xd]at this;rw[this]
   | succ k=>
    rw[Xg,Xg]
    exact ih k (by simpa using hk)
  ·rw[ha]at hk
   simp only[if_true,Xj]at hk ⊢
   have hk0:k=0:=by omega
   subst hk0;rw[List.drop_nil,Xd,Xa]
   have:numeral c=false:=by
    cases hn:numeral c with
    | false=>rfl
    | true=>rw[ht c hn]at ha;cases ha
   rw[this]
   rfl
theorem ZtD(sch:LB):∀c,numeral c=true→among c (Z0 sch)=false:=by
 intro c hc;have:=Zf6 hc;unfold Z0;rw[Zed]
 split<;>(simp[among];omega)
theorem Zlb(m:RU)(p q:LI)(h:p.takeWhile numeral=q.takeWhile numeral):ZaE m p=ZaE m q:=by unfold ZaE;rw[h]
theorem ZtE{u:U}(l:LB)(ported:Bool):ZxI (ZaW u (clean l) ported) (if(toR u).op=true then(toR u,0)else Zam (toR u) (flat (Zk l)) ported):=by
 unfold ZaW;have eo:(toR u).op=u.op:=rfl;rw[eo]
 by_cases ho:u.op=true
 ·rw[if_pos ho,if_pos ho]
  exact⟨rfl,fun _=>rfl⟩
 ·rw[if_neg ho,if_neg ho]
  unfold Z6 Zam;rw[Zn2 u.sch l];have es:(toR u).sch=u.sch:=rfl;rw[es];have hsc:=Zla (ZaR l);generalize flat (Zk l)=p at *
  have hnsc:∀c∈(cut p (Z0 u.sch)).1,Sc c:=fun c hc=>hsc c (ZC (Or.inl hc))
  have hdig:=ZvE p (Z0 u.sch) (ZtD u.sch);generalize (cut p (Z0 u.sch)).1=name at *
  have hpt:∀c∈name,Pt c:=fun c hc=>(hnsc c hc).pt
  by_cases hf:u.sch=Zo
  ·have hf':u.sch=Zs:=hf
   rw[if_pos hf,if_pos hf'];simp only
   have hloc:(Zz (Zc name)).2=(ZH (toR u) name).2∧((ZH (toR u) name).2=0→(ZH (toR u) name).1=toR { u with hh:=true,host:=(Zz (Zc name)).1 }):=by
    unfold Zz ZH;have hE:=Zp hpt;obtain⟨e1,e2⟩:=Zhb name hnsc true
    by_cases h0:name=[]
    ·rw[if_pos (hE.2 h0),if_pos h0]
     exact⟨rfl,fun _=>rfl⟩
    ·have h0':¬Zc name=[]:=fun g=>h0 (hE.1 g)
     rw[if_neg h0',if_neg h0,e1]
     by_cases h1:(hostOf name true).2.2≠0
     ·rw[if_pos h1,if_pos h1]
      exact⟨rfl,fun g=>absurd g h1⟩
     ·have h1':=Classical.not_not.1 h1
      rw[if_neg h1,if_neg h1]
      by_cases h2:(hostOf name true).2.1=Zl6
      ·have h2':(hostOf name true).2.1=Zd6:=h2
       rw[if_pos h2',if_pos h2]
       exact⟨rfl,fun _=>rfl⟩
      ·have h2':¬(hostOf name true).2.1=Zd6:=h2
       rw[if_neg h2',if_neg h2]
       refine⟨rfl,fun _=>?_⟩
       rw[e2,decide_eq_true h1']
       rfl
   obtain⟨g1,g2⟩:=hloc;rw[g1]
   have hdn:∀x:U,ZaF x []=x:=fun x=>by unfold ZaF;rw[if_pos (by decide)]
   by_cases h2:(ZH (toR u) name).2=2
   ·rw[if_pos h2,if_pos (by rw[h2];decide)]
    exact⟨by rw[ZfC,if_pos h2],fun _=>rfl⟩
   ·rw[if_neg h2]
    by_cases h0:(ZH (toR u) name).2=0
    ·rw[if_neg (fun g=>g h0),if_neg (fun g=>g h0),hdn]
     exact⟨rfl,fun _=>g2 h0⟩
    ·have h0':(ZH (toR u) name).2≠0:=h0
     rw[if_pos h0',if_pos h0']
     exact⟨by rw[ZfC,if_neg h2],fun g=>absurd g h0⟩
  ·have hf':¬u.sch=Zs:=hf
   rw[if_neg hf,if_neg hf'];unfold Zda;rw[ZgH name hpt,es,special_eq];have ep:=Zps u;have eu:(toR u).user=u.nam∧(toR u).pass=u.pw:=⟨rfl,rfl⟩
   have hus:Za2 u=true↔(u.nam≠[]∨u.pw≠[]):=by
    unfold Za2;rw[Xf,←Xe,Xi,Xb,Xb]
    constructor
    ·intro h
     by_cases g:u.nam=[]
     ·exact Or.inr (fun g2=>h ⟨g,g2⟩)
     ·exact Or.inl g
    ·rintro(h|h) ⟨g1,g2⟩
     ·exact h g1
     ·exact h g2
   have hdn:∀x:U,ZaF x []=x:=fun x=>by unfold ZaF;rw[if_pos (by decide)]
   rcases ZgE name with hc|⟨k,hc,hk⟩
   ·have c0:¬(colon name=0∨(0<colon name∧ported=false)):=by omega
    have c1:¬0<colon name:=by omega
    rw[if_pos hc,if_neg c0];simp only[Xc,false_and,if_false,false_or];have hE:=Zp hpt
    by_cases h0:name=[]∧(Zb u.sch=true∨u.nam≠[]∨u.pw≠[]∨u.hp=true)
    ·have h0a:name=[]∧(Zb u.sch=true∨(toR u).user≠[]∨(toR u).pass≠[]∨0≤(toR u).port):=⟨h0.1,by
      rcases h0.2 with g|g|g|g
      ·exact Or.inl g
      ·exact Or.inr (Or.inl g)
      ·exact Or.inr (Or.inr (Or.inl g))
      ·exact Or.inr (Or.inr (Or.inr (ep.2 g)))⟩
     have h0b:Zc name=[]∧(Zb u.sch=true∨Za2 u=true∨u.hp=true):=⟨hE.2 h0.1,by
      rcases h0.2 with g|g|g|g
      ·exact Or.inl g
      ·exact Or.inr (Or.inl (hus.2 (Or.inl g)))
      ·exact Or.inr (Or.inl (hus.2 (Or.inr g)))
      ·exact Or.inr (Or.inr g)⟩
     rw[if_pos h0a,if_pos h0b]
     exact⟨rfl,fun _=>rfl⟩
    ·have h0a:¬(name=[]∧(Zb u.sch=true∨(toR u).user≠[]∨(toR u).pass≠[]∨0≤(toR u).port)):=fun g=>h0 ⟨g.1,by
      rcases g.2 with g|g|g|g
      ·exact Or.inl g
      ·exact Or.inr (Or.inl g)
      ·exact Or.inr (Or.inr (Or.inl g))
      ·exact Or.inr (Or.inr (Or.inr (ep.1 g)))⟩
     have h0b:¬(Zc name=[]∧(Zb u.sch=true∨Za2 u=true∨u.hp=true)):=fun g=>h0 ⟨hE.1 g.1,by
      rcases g.2 with g|g|g
      ·exact Or.inl g
      ·rcases hus.1 g with g|g
       ·exact Or.inr (Or.inl g)
       ·exact Or.inr (Or.inr (Or.inl g))
      ·exact Or.inr (Or.inr (Or.inr g))⟩
     obtain⟨e1,e2⟩:=Zhb name hnsc (Zb u.sch);rw[if_neg h0a,if_neg h0b,if_neg c1,e1];simp only
     by_cases h1:(hostOf name (Zb u.sch)).2.2=0
     ·have h1n:¬(hostOf name (Zb u.sch)).2.2≠0:=fun g=>g h1
      rw[if_neg h1n,if_neg h1n,if_neg (show ¬((0:Int)=2)by decide),if_neg (show ¬((0:Int)≠0)from fun g=>g rfl),hdn,if_neg c1]
      refine⟨rfl,fun _=>?_⟩
      unfold Zcg;simp only;rw[es,special_eq,e2,decide_eq_true h1]
      rfl
     ·have h1':(hostOf name (Zb u.sch)).2.2≠0:=h1
      rw[if_pos h1'];simp only
      by_cases h2:(hostOf name (Zb u.sch)).2.2=2
      ·rw[if_pos h2,if_pos h1']
       exact⟨by rw[ZfC,if_pos h2],fun _=>rfl⟩
      ·rw[if_neg h2,if_pos h1',if_pos h1']
       exact⟨by rw[ZfC,if_neg h2],fun g=>absurd g h1⟩
   ·have hcn:¬colon name=-1:=by omega
    have hkn:(colon name).toNat=k:=by omega
    have htp:∀c∈name.take k,Sc c:=fun c g=>hnsc c (List.mem_of_mem_take g)
    have hE:=Zp (l:=name.take k) (fun c hc=>(htp c hc).pt)
    rw[if_neg hcn,hkn];simp only[true_and,true_or]
    by_cases hpo:ported=false
    ·rw[if_pos hpo]
     simp only
     have c0:colon name=0∨(0<colon name∧ported=false):=by
      rcases Nat.eq_zero_or_pos k with g|g
      ·exact Or.inl (by omega)
      ·exact Or.inr ⟨by omega,hpo⟩
     rw[if_pos c0]
     exact⟨rfl,fun _=>rfl⟩
    ·rw[if_neg hpo]
     rcases Nat.eq_zero_or_pos k with g|hpos
     ·have c0:colon name=0∨(0<colon name∧ported=false):=Or.inl (by omega)
      have hn0:Zc (name.take k)=[]:=hE.2 (by rw[g];rfl)
      have hn1:Zc (name.take k)=[]∧True:=⟨hn0,trivial⟩;rw[if_pos c0,if_pos hn1]
      exact⟨rfl,fun _=>rfl⟩
     ·have c0:¬(colon name=0∨(0<colon name∧ported=false)):=by
       rintro(x|x)
       ·omega
       ·exact hpo x.2
      have htn:name.take k≠[]:=fun x=>by have:=congrArg List.length x;rw[List.length_take,Xj]at this;omega
      have hnn:¬name=[]:=fun x=>by rw[x]at hk;simp at hk
      have hn0:¬(Zc (name.take k)=[]∧True):=fun x=>htn (hE.1 x.1)
      have c1:¬(name=[]∧(Zb u.sch=true∨(toR u).user≠[]∨(toR u).pass≠[]∨0≤(toR u).port)):=fun x=>hnn x.1
      have c2:0<colon name:=by omega
      obtain⟨e1,e2⟩:=Zhb (name.take k) htp (Zb u.sch);rw[if_neg c0,if_neg hn0,if_neg c1,if_pos c2,e1];simp only
      by_cases h1:(hostOf (name.take k) (Zb u.sch)).2.2=0
      ·have h1n:¬(hostOf (name.take k) (Zb u.sch)).2.2≠0:=fun g=>g h1
       rw[if_neg h1n,if_neg h1n,if_neg (show ¬((0:Int)=2)by decide),if_neg (show ¬((0:Int)≠0)from fun x=>x rfl),if_pos c2]
       refine⟨rfl,fun _=>?_⟩
       have eh:Zcg (toR u) (name.take k)=toR { u with hh:=true,host:=(hostOf (name.take k) (Zb u.sch)).2.1 }:=by
        unfold Zcg;rw[es,special_eq,e2,decide_eq_true h1]
        rfl
       rw[eh,Zlb _ _ _ (hdig (k+1) (by omega)).symm]
       exact ZgL _ _ (fun c hc=>hpt c (List.mem_of_mem_drop hc))
      ·have h1':(hostOf (name.take k) (Zb u.sch)).2.2≠0:=h1
       rw[if_pos h1'];simp only
       by_cases h2:(hostOf (name.take k) (Zb u.sch)).2.2=2
       ·rw[if_pos h2,if_pos h1']
        exact⟨by rw[ZfC,if_pos h2],fun _=>rfl⟩
       ·rw[if_neg h2,if_pos h1',if_pos h1']
        exact⟨by rw[ZfC,if_neg h2],fun x=>absurd x h1⟩
theorem ZmA{u:U}(h:Wk u)(l:LB):Wk (ZaF u l):=by
 unfold ZaF
 split
 ·exact h
 ·exact ZtF h (ZcN _).2
theorem ZqW{u:U}(h:Wk u)(l:LB):Wk (ZbI u l):=by
 unfold ZbI
 split
 ·exact h
 ·split
  ·exact⟨fun g=>(by cases g),h.opq,h.zop,h.nq,h.pq,h.sp,h.path,h.lq⟩
  ·exact ZmA h _
theorem Zxb{u:U}(h:Wk u)(l:LB)(p:Bool)(h0:(ZaW u l p).2=0):Wk (ZaW u l p).1:=by
 unfold ZaW at h0 ⊢
 split
 ·exact h
 ·next ho=>
  split
  ·exact h
  ·split
   ·next h2 h3=>rw[if_neg ho,if_neg h2,if_pos h3]at h0;exact absurd h0 h3
   ·have hw:Wk { u with hh:=true,host:=(Z6 u l p).1 }:=⟨h.port,fun g=>absurd g ho,h.zop,h.nq,h.pq,fun _=>rfl,h.path,h.lq⟩
    exact ZmA hw _
theorem Zpt(u:U)(l:LB):(ZaF u l).q=u.q:=by
 unfold ZaF
 split
 ·rfl
 ·exact Zv0 _ _
theorem ZxQ(u:U)(l:LB)(p:Bool)(h0:(ZaW u l p).2=0):(ZaW u l p).1.q=u.q:=by
 unfold ZaW at h0 ⊢
 split
 ·rfl
 ·next ho=>
  split
  ·rfl
  ·split
   ·next h2 h3=>rw[if_neg ho,if_neg h2,if_pos h3]at h0;exact absurd h0 h3
   ·rw[Zpt]
theorem ZtH(m:RU)(p:LI)(b:Bool)(h:(Zam m p b).2≠0):(Zam m p b).1=m:=by
 unfold Zam Zda at h ⊢
 split
 ·split
  ·rfl
  ·next h1 h2=>rw[if_pos h1,if_neg h2]at h;exact absurd rfl h
 ·next h1=>
  rw[if_neg h1]at h
  split
  ·rfl
  ·next h2=>
   rw[if_neg h2]at h
   split
   ·rfl
   ·next h3=>
    rw[if_neg h3]at h
    generalize (if 0<colon (cut p (Z0 m.sch)).fst then List.take (colon (cut p (Z0 m.sch)).fst).toNat (cut p (Z0 m.sch)).fst else(cut p (Z0 m.sch)).fst)=hn at h ⊢
    split
    ·rfl
    ·next h4=>
     rw[if_neg h4]at h
     exfalso
     revert h
     split<;>exact fun g=>g rfl
theorem ZmB{u:U}(h:Wk u)(l:LB)(p:Bool):ZtG u l (ZaW u (clean l) p) (if(toR u).op=true then(toR u,0)else Zam (toR u) (flat (Zk l)) p) (Za1 u.q):=by
 obtain⟨s1,s2⟩:=ZtE (u:=u) l p
 refine⟨s1,fun h0=>⟨s2 h0,Zxb h _ _ h0,by rw[ZxQ u _ _ h0]⟩,fun h0=>⟨?_,rfl⟩⟩
 rw[s1]at h0
 split
 ·rfl
 ·next ho=>rw[if_neg ho]at h0;exact ZtH _ _ _ h0
theorem ZxR{u:U}(h:Wk u)(l:LB):ZtG u l (Zk9 u 4 l) (Zjf (toR u) 5 l) (Za6 (toR u) 5 l (Za1 u.q)):=ZmB h l true
theorem ZxS{u:U}(h:Wk u)(l:LB):ZtG u l (Zk9 u 5 l) (Zjf (toR u) 6 l) (Za6 (toR u) 6 l (Za1 u.q)):=ZmB h l false
theorem ZxT{u:U}(h:Wk u)(l:LB):ZtG u l (Zk9 u 6 l) (Zjf (toR u) 7 l) (Za6 (toR u) 7 l (Za1 u.q)):=by
 refine Zkh (Zn1 u l) (ZqW h _) ?_
 show Za1 u.q=Za1 (ZbI u (clean l)).q
 congr 1
 unfold ZbI
 split
 ·rfl
 ·split
  ·rfl
  ·rw[Zpt]
end Go.Proofs.YtchkhibgbnhjpaaGreatDoor
