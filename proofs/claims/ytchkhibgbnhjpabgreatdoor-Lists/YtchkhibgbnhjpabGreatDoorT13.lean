import Derived.Test.YtchkhibgbnhjpabGreatDoorT12
import Derived.Deep.RegionHeld
open Array renaming getElem?_eq_some_iff→Xa
open List renaming take_of_length_le→Xc,length_cons→Xd,take_succ_eq_append_getElem→Xf,mem_cons_of_mem→Xg,length_append→Xh,length_map→Xi,map_cons→Xj
open Nat renaming zero_le→Xb,le_trans→Xe,le_refl→Xk
open Go.Value renaming string→J,bool→C,int→I
open Go.IntKind renaming i64→X
open Go.Ending renaming returned→Y
open Go.Obj renaming cells→O
namespace Go.Proofs.YtchkhibgbnhjpabGreatDoor
open Tryz
open Go.RowKit
set_option maxHeartbeats 16000000
set_option maxRecDepth 8000
variable [Fl]
set_option linter.all false
theorem Sl.wk{u:U}(h:Sl u)(h1:(ZaL u).length<=9000)(h2:u.q.length<=90000):Wk u:=
 ⟨fun g=>(h.sd.port g).1,h.q3.opq,h.q3.zop,h.wf.nq,h.sd.pq,h.q3.sp,h1,Xe h2 (by decide)⟩
def PairB(w:World)(pp pb ub:Nat):Prop:=w.heap[pp]?=some (O #[.pointer (some ⟨pb,0,none⟩),.pointer (some ⟨ub,0,none⟩)] 49 (0,0))
theorem PairB.on{w w':World}{pp pb ub:Nat}(h:PairB w pp pb ub)(hb:Nx w w'):PairB w' pp pb ub:=(hb.block pp (Xa.1 h).1).trans h
theorem PairB.lt{w:World}{pp pb ub:Nat}(h:PairB w pp pb ub):pp<w.heap.size:=(Xa.1 h).1
theorem PairB.cells{w:World}{pp pb ub:Nat}(h:PairB w pp pb ub):w.cell? ⟨pp,0,none⟩=some (.pointer (some ⟨pb,0,none⟩))/\w.cell? ⟨pp,1,none⟩=some (.pointer (some ⟨ub,0,none⟩)):=by
 unfold PairB at h
 constructor<;>simp[World.cell?,h]
structure Both (w:World) (u:U) (pb ub rb:Nat) (r:Rc) (bs:List ByteArray) (R:RR) (rs:List ByteArray) (v:Value) (ps:List Pq):Prop where
 url:UrlB w pb r
 rc:RcIs w r u bs
 ref:URB w ub rb v
 rcd:RB w rb R
 ris:RIs w R (toR u) rs
 pl:PlAt w v ps
 list:ps.map tl2=Zzs u.q
 wk:Wk u
theorem Both.on{w w':World}{u:U}{pb ub rb:Nat}{r:Rc}{bs:LA}{R:RR}{rs:LA}{v:Value}{ps:List Pq}(h:Both w u pb ub rb r bs R rs v ps)(hb:Nx w w'):Both w' u pb ub rb r bs R rs v ps:=
 { h with url:=h.url.on hb,rc:=h.rc.on hb,ref:=h.ref.on hb,rcd:=h.rcd.on hb,ris:=h.ris.on hb,pl:=h.pl.on hb }
theorem ZKC{s:BA}{l:LB}(h:tl s=l):s.size=l.length:=by rw[<-Za,h]
theorem Both.rl{w:World}{u:U}{pb ub rb:Nat}{r:Rc}{bs:LA}{R:RR}{rs:LA}{v:Value}{ps:List Pq}(h:Both w u pb ub rb r bs R rs v ps):RL R:=by
 have e1:=h.ris.eq;have e2:=h.rc.eq
 have k:∀ {a b:BA} {l:LB},tl a=l->tl b=l->b.size<=300000->a.size<=300000:=fun ha hb hl=>by rw[ZKC ha,<-ZKC hb];exact hl
 refine⟨k (show tl R.user=u.nam by rw[<-show(R.u rs).user=tl R.user from rfl,e1];rfl) (show tl r.nam=u.nam by rw[<-e2];rfl) h.rc.lnam,
  k (show tl R.pass=u.pw by rw[<-show(R.u rs).pass=tl R.pass from rfl,e1];rfl) (show tl r.pw=u.pw by rw[<-e2];rfl) h.rc.lpw,
  k (show tl R.htx=u.host by rw[<-show(R.u rs).htx=tl R.htx from rfl,e1];rfl) (show tl r.host=u.host by rw[<-e2];rfl) h.rc.lhost,?_,
  k (show tl R.bl=u.opath by rw[<-show(R.u rs).bl=tl R.bl from rfl,e1];rfl) (show tl r.opath=u.opath by rw[<-e2];rfl) h.rc.lopath,
  k (show tl R.q=u.q by rw[<-show(R.u rs).q=tl R.q from rfl,e1];rfl) (show tl r.q=u.q by rw[<-e2];rfl) h.rc.lq,
  k (show tl R.fr=u.fr by rw[<-show(R.u rs).fr=tl R.fr from rfl,e1];rfl) (show tl r.fr=u.fr by rw[<-e2];rfl) h.rc.lfr⟩
 have hp:R.port=(toR u).port:=by rw[<-show(R.u rs).port=R.port from rfl,e1]
 have hl:u.port<=65535:=by rw[<-show(r.u bs).port=u.port by rw[e2]];exact h.rc.lport
 rw[hp];unfold toR;simp only
 split<;>omega
theorem ZGR{u:U}(h:Wk u):ZKg (toR u):=by
 intro _;have hl:=h.path;rw[ZC4 h]
 refine⟨by omega,fun h0=>?_⟩
 obtain⟨s1,s2⟩:=ZBS (ZaL u);rw[<-s1]at h0;have hs:=ZGq h0;rw[s2 h0]
 refine⟨(ZJZ (ZaL u) (by omega)).host,?_⟩
 unfold toR;simp only
 split
 .next hp=>have:=(hs.sd.port hp).1;omega
 .omega
theorem ZKD{u:U}(h:Wk u){a0 a1 a2 a3 a4 a5 a6 a7 a8 a9 a10:BA}{e:Ending}(he:ZNz e (toR u))(h0:tl a0=Zjc u)(h1:tl a1=ZAs u)(h2:tl a2=Zb2 u)(h3:tl a3=u.nam)(h4:tl a4=u.pw)(h5:tl a5=ZaA u)(h6:tl a6=u.host)(h7:tl a7=ZbE u)(h8:tl a8=ZaL u)(h9:tl a9=Zky u)(h10:tl a10=Zvb u):e=Y (.agg #[J a0,J a1,J a2,J a3,J a4,J a5,J a6,J a7,J a8,J a9,J a10]):=by obtain⟨t0,t1,t2,t3,t4,t5,t6,t7,t8,t9,t10,rfl,k0,k1,k2,k3,k4,k5,k6,k7,k8,k9,k10⟩:=he;rw[ZEM h]at k0;rw[ZEa h]at k1;rw[ZCm h.port]at k5;rw[ZLm h.port]at k7;rw[ZC4 h]at k8;rw[Zcs (k0.trans h0.symm),Zcs (k1.trans h1.symm),Zcs (k2.trans h2.symm),Zcs (k3.trans h3.symm),Zcs (k4.trans h4.symm),Zcs (k5.trans h5.symm),Zcs (k6.trans h6.symm),Zcs (k7.trans h7.symm),Zcs (k8.trans h8.symm),Zcs (k9.trans h9.symm),Zcs (k10.trans h10.symm)]
theorem ZCq(pb:Nat)(r:Rc)(u:U)(bs:LA)(w:World)(h0:UrlB w pb r)(h:RcIs w r u bs)(ht:Tb w)(hpl:u.sch=[98,108,111,98]->(ZaL u).length<=9000):Calls prog 54 #[.pointer (some ⟨pb,0,none⟩)] w fun e w'=>∃t:BA,e=Y (J t)/\tl t=ZAs u/\Nx w w':=by
 have HRC:=A h;have HTB:=A ht;have HPL:=A hpl;obtain⟨a0,a1,a2,a3,a4,a5,a6,a7,a8,a9,a10,a11,a12,a13⟩:=h0.cells;clear h ht h0 hpl
 go_enter func54,ntmps54
 go_wp2_with fail
 refine(ZD9 r u bs _ HRC.o HTB.o HPL.o).mono ?_
 rintro e w1 ⟨t,rfl,ht,-,hn⟩;have HT:=A ht;have HN:=A hn;clear ht hn a0 a1 a2 a3 a4 a5 a6 a7 a8 a9 a10 a11 a12 a13;go_wp2;go_ret;exact⟨t,rfl,HT.o,HN.o⟩
theorem ZLS(pp pb ub rb:Nat)(r:Rc)(u:U)(bs:LA)(R:RR)(rs:LA)(v:Value)(ps:List Pq)(w:World)(hp:PairB w pp pb ub)(hb:Both w u pb ub rb r bs R rs v ps)(ht:Tb w):Calls prog 21 #[.pointer (some ⟨pp,0,none⟩)] w fun e w'=>e=Y (C true)/\Nx w w':=by
 have HP:=A hp;have HB:=A hb;have HTB:=A ht;have HRL:=A hb.rl;have HBO:=A (ZGR hb.wk);have HPL:=A hb.wk.path;have HST:=A hb.wk;obtain⟨p0,p1⟩:=hp.cells;clear hp hb ht
 go_enter func21,ntmps21
 go_wp2_with fail
 refine(ZKi pb r u bs _ HB.o.url HB.o.rc HTB.o (fun _=>HPL.o)).mono ?_
 rintro e w1 ⟨⟨a0,a1,a2,a3,a4,a5,a6,a7,a8,a9,a10,rfl,g0,g1,g2,g3,g4,g5,g6,g7,g8,g9,g10,-,-⟩,hn1⟩
 have HG:Hid (∀e,ZNz e (toR u)->e=Y (.agg #[J a0,J a1,J a2,J a3,J a4,J a5,J a6,J a7,J a8,J a9,J a10])):=A (fun e he=>ZKD HST.o he g0 g1 g2 g3 g4 g5 g6 g7 g8 g9 g10)
 have G0:=A g0;have G1:=A g1;have HN1:=A hn1;obtain⟨p01,p11⟩:=(HP.o.on (hn1.alloc (O #[J a0,J a1,J a2,J a3,J a4,J a5,J a6,J a7,J a8,J a9,J a10] 66))).cells;clear g0 g1 g2 g3 g4 g5 g6 g7 g8 g9 g10 hn1 p0 p1;go_wp2_with fail
 refine(ZCo ub rb v R (toR u) rs _ (HB.o.ref.on (HN1.o.alloc _)) (HB.o.rcd.on (HN1.o.alloc _)) (HB.o.ris.on (HN1.o.alloc _)) HRL.o HBO.o).mono ?_
 rintro e w2 ⟨ha,hn2⟩;obtain rfl:=HG.o e ha;have HA2:Hid (C11 w2 w1.heap.size (J a0) (J a1) (J a2) (J a3) (J a4) (J a5) (J a6) (J a7) (J a8) (J a9) (J a10)):=A ((show C11 (w1.alloc (O #[J a0,J a1,J a2,J a3,J a4,J a5,J a6,J a7,J a8,J a9,J a10] 66)) w1.heap.size (J a0) (J a1) (J a2) (J a3) (J a4) (J a5) (J a6) (J a7) (J a8) (J a9) (J a10)from heap_alloc_new w1 _).on hn2);have HN2:=A (show Nx w w2 from(HN1.o.alloc _).then hn2);obtain⟨p02,p12⟩:=(HP.o.on (HN2.o.alloc (O #[J a0,J a1,J a2,J a3,J a4,J a5,J a6,J a7,J a8,J a9,J a10] 66))).cells;clear ha hn2 p01 p11 HG;go_wp2_with fail
 refine(Zig pb r u bs _ (HB.o.url.on (HN2.o.alloc _)) (HB.o.rc.on (HN2.o.alloc _)) (HTB.o.on (HN2.o.alloc _))).mono ?_
 rintro e w3 ⟨t,rfl,ht,hn3⟩;obtain rfl:=Zcs (ht.trans G0.o.symm);have HA3:=A ((HA2.o.on (Nx.rfl.alloc _)).on hn3);have HC3:Hid (C11 w3 w2.heap.size (J t) (J a1) (J a2) (J a3) (J a4) (J a5) (J a6) (J a7) (J a8) (J a9) (J a10)):=A ((show C11 (w2.alloc (O #[J t,J a1,J a2,J a3,J a4,J a5,J a6,J a7,J a8,J a9,J a10] 66)) w2.heap.size (J t) (J a1) (J a2) (J a3) (J a4) (J a5) (J a6) (J a7) (J a8) (J a9) (J a10)from heap_alloc_new w2 _).on hn3);have HN3:=A (show Nx w w3 from(HN2.o.alloc _).then hn3);obtain⟨p03,p13⟩:=(HP.o.on HN3.o).cells;clear ht hn3 p02 p12;go_wp2_with fail
 refine(ZCq pb r u bs _ (HB.o.url.on HN3.o) (HB.o.rc.on HN3.o) (HTB.o.on HN3.o) (fun _=>HPL.o)).mono ?_
 rintro e w4 ⟨t1,rfl,ht1,hn4⟩;obtain rfl:=Zcs (ht1.trans G1.o.symm);obtain⟨x0,x1,x2,x3,x4,x5,x6,x7,x8,x9,x10⟩:=(HA3.o.on hn4).cells;obtain⟨y0,y1,y2,y3,y4,y5,y6,y7,y8,y9,y10⟩:=(HC3.o.on hn4).cells;have HN4:=A (HN3.o.then hn4);clear ht1 hn4 p03 p13;go_wp2;go_ret;exact⟨rfl,HN4.o⟩
theorem ZEp(ps:List LB):ps.length<=pl ps:=by
 induction ps with
 | nil=>exact Xb _
 | cons s r ih=>
  have h1:=ZHA [s] r;have h2:=ZJR s;rw[show [s]++r=s::r from rfl]at h1;rw[Xd]
  omega
theorem ZMS{u:U}(h:Wk u){n:Nat}(hl:(ZaL u).length<=n):u.segs.length<=n:=by
 cases ho:u.op
 .have h1:=ZEp u.segs
  unfold ZaL at hl
  rw[ho,ifN (by decide)]at hl
  unfold pl at h1
  omega
 .rw[(h.opq ho).1];exact Xb _
theorem ZFX(l:LB)(hl:l.length<=160):(ZbN l).1.segs.length<=70000:=by
 have h1:=ZCD l (base:=zeroU) (B:=0) (ZAk 0);have h2:=ZEp (ZbN l).1.segs;have h3:pl (ZbN l).1.segs<=0+27*l.length+2:=h1.s
 omega
theorem Both.len{w:World}{u:U}{pb ub rb:Nat}{r:Rc}{bs:LA}{R:RR}{rs:LA}{v:Value}{ps:List Pq}(h:Both w u pb ub rb r bs R rs v ps):bs.length<=9000:=by
 have h1:=ZMS h.wk h.wk.path
 have h2:u.segs.length=bs.length:=by rw[<-h.rc.segs,Xi]
 omega
def ZMT(e:Ending)(w w':World)(x:U×Int):Prop:=
 (x.2≠0/\e=Y (.tuple #[.pointer none,C true])/\Nx w w') ∨
 (x.2=0/\∃pp pb ub rb r bs R rs v ps,e=Y (.tuple #[.pointer (some ⟨pp,0,none⟩),C true])/\PairB w' pp pb ub/\Both w' x.1 pb ub rb r bs R rs v ps/\w.heap.size<=pp/\w.heap.size<=pb/\w.heap.size<=ub/\w.heap.size<=rb/\Nx w w'/\OwnP w' w.heap.size v ps)
theorem ZLT(w:World)(pb ub:Nat):PairB (w.alloc (O #[.pointer (some ⟨pb,0,none⟩),.pointer (some ⟨ub,0,none⟩)] 49)) w.heap.size pb ub:=heap_alloc_new w _
theorem ZMU(s base:BA)(based:Bool)(w:World)(hs:s.size<=maxLen)(hb:base.size<=maxLen)(ht:Tb w):Calls prog 40 #[J s,J base,C based] w fun e w'=>ZMT e w w' (ZcN (tl s) (tl base) based):=by
 have HTB:=A ht;have HSM:=A (ZLq (tl s) (tl base) based)
 have HQL:Hid ((ZDL (tl s) (tl base) based).2=0->(ZDL (tl s) (tl base) based).1.q.length<=90000):=A (fun h0=>by
  obtain⟨s1,s2⟩:=HSM.o;rw[s2 (s1.trans h0)];have:=(ZEN (tl s) (tl base) based).q.1
  show(ZcN (tl s) (tl base) based).1.q.length<=90000
  omega)
 have HZP:Hid (base.size<=160->(parseR (tl base) none).2=0->(parseR (tl base) none).1.path.length<=70000):=A (fun hb h0=>by
  obtain⟨s1,s2⟩:=ZBS (tl base);rw[s2 (s1.trans h0)]
  exact ZFX (tl base) (by rw[Za];exact hb))
 have HST:Hid ((ZcN (tl s) (tl base) based).2=0->Sl (ZcN (tl s) (tl base) based).1):=A (fun h=>Zvr (tl s) (tl base) based h)
 have HPM:=A (ZLw (tl s) (tl base) based);have HHM:=A (ZEN (tl s) (tl base) based).q.1
 have HNR:=A (fun w1=>ZLO s base based w1 hs hb HQL.o HZP.o)
 clear ht
 go_enter func40,ntmps40
 go_wp2_with fail
 refine(ZIU s base based _ hs hb HTB.o).mono ?_
 rintro e w1 ⟨hp,hn1⟩;have HN1:=A hn1;clear HQL HZP hn1;generalize hpx:ZcN (tl s) (tl base) based=x at *;have HX:=A hpx;clear hpx;obtain⟨u,err⟩:=x;generalize ZDL (tl s) (tl base) based=y at *;obtain⟨m,err2⟩:=y;obtain⟨he12,hm⟩:=HSM.o;simp only at he12 hm;subst he12;simp only at HST HPM HHM;clear HSM;rcases hp with⟨he,rfl⟩|⟨he,pb,r,bs,rfl,hu,hr,hpb⟩
 .go_wp2_with fail
  refine(HNR.o _ (HTB.o.on HN1.o).2.2).mono ?_
  rintro e w2 hx;rcases hx with⟨-,rfl,hn2⟩|⟨h0,-⟩
  .have HN2:=A (HN1.o.then hn2)
   have he1:(err != err)=false:=by simp
   have he2:(err != 0)=true:=bne_iff_ne.2 he;have HER:=A he;clear hn2 he;go_wp2;go_ret2;rw[HX.o];exact Or.inl ⟨HER.o,rfl,HN2.o⟩
  .exact absurd h0 he
 .simp only at he
  subst he;have hme:=hm rfl;have HUB:=A hu
  replace hr:RcIs w1 r u bs:=hr
  have HRC:=A hr;have HPB:=A hpb;clear hm hu hr hpb;go_wp2_with fail
  refine(HNR.o _ (HTB.o.on HN1.o).2.2).mono ?_
  rintro e w2 hx;rcases hx with⟨h0,-⟩|⟨-,ub,rb,R,rs,v,ps,rfl,hU,hRB,hRI,hpl,hps,hub,hrb,hn2,hvn⟩
  .exact absurd rfl h0
  .replace hRI:RIs w2 R m rs:=hRI
   replace hps:ps.map tl2=ZEL m:=hps
   rw[hme]at hRI hps
   have hst:=HST.o (by trivial)
   have hwk:=Sl.wk hst (by have:=HPM.o;omega) (by have:=HHM.o;omega)
   rw[ZJQ hwk]at hps;have HBO:=A (show Both w2 u pb ub rb r bs R rs v ps from⟨HUB.o.on hn2,HRC.o.on hn2,hU,hRB,hRI,hpl,hps,hwk⟩);have HN2:=A (HN1.o.then hn2)
   have HVN:=A (OwnP.kp hvn (Kp.rfl (e:=88)) (by decide) HN1.o.size)
   have HZ:=A (show w.heap.size<=pb/\w.heap.size<=ub/\w.heap.size<=rb from⟨HPB.o,Xe HN1.o.size hub,Xe HN1.o.size hrb⟩);clear hU hRB hRI hpl hps hub hrb hvn hn2 hst hwk hme HUB HRC HST HPM HHM HNR HPB;go_wp2;go_ret2;rw[HX.o]
   exact Or.inr ⟨rfl,w2.heap.size,pb,ub,rb,r,bs,R,rs,v,ps,rfl,ZLT w2 pb ub,HBO.o.on (Nx.rfl.alloc _),HN2.o.size,HZ.o.1,HZ.o.2.1,HZ.o.2.2,HN2.o.alloc _,OwnP.kp HVN.o (Nx.kp (e:=88) (Nx.rfl.alloc _)) (by decide) (Xk _)⟩
theorem But.kpP{w w':World}{pb:Nat}{r:Rc}(hb:But pb w w')(h:UrlB w pb r):Kp 106 w w':=by
 refine⟨hb.size,fun k cs e fz hk he=>?_⟩
 refine(hb.block k (Xa.1 hk).1 ?_).trans hk
 intro e';subst e';unfold UrlB at h;rw[hk]at h;simp only[Option.some.injEq,Obj.cells.injEq]at h;exact he h.2.1
theorem ZGS(pp pb ub rb:Nat)(r:Rc)(u:U)(bs:LA)(R:RR)(rs:LA)(v:Value)(ps:List Pq)(w:World)(hp:PairB w pp pb ub)(hb:Both w u pb ub rb r bs R rs v ps)(hz:∀p∈ps,p.1.size<=300000/\p.2.size<=300000):Calls prog 22 #[.pointer (some ⟨pp,0,none⟩)] w fun e w'=>e=Y (C true)/\Nx w w':=by
 have HP:=A hp;have HB:=A hb
 have HL:=A (show ps.length=(Zzs u.q).length by rw[<-hb.list,Xi])
 have hc:=ZzF hb.list (ZCJ hb.rc);have HZ:=A hz
 have HQ:=A (show ZBx (ps.map tl2)=ZzA (Zzs u.q)by rw[hb.list];exact ZCF (ZBU _))
 obtain⟨p0,p1⟩:=hp.cells;clear hp hb hz
 go_enter func22,ntmps22
 go_wp2_with fail
 refine(ZFP pb r u bs _ HB.o.url HB.o.rc).mono ?_
 rintro e w1 ⟨rfl,hn1⟩;have HN1:=A hn1;obtain⟨p0',p1'⟩:=(HP.o.on hn1).cells;clear hn1 p0 p1;go_wp2_with fail
 refine(ZHJ pb r u bs _ (HB.o.on HN1.o).url (HB.o.on HN1.o).rc).mono ?_
 rintro e w2 ⟨t,rfl,ht,hn2⟩;have HT:=A ht;have HN2:=A (HN1.o.then hn2);obtain⟨p0,p1⟩:=(HP.o.on HN2.o).cells;clear ht hn2 p0' p1';go_wp2_with fail
 refine(ZCK ub rb v ps _ (HB.o.on HN2.o).ref (HB.o.on HN2.o).pl).mono ?_
 rintro e w' ⟨rfl,rfl⟩
 obtain⟨ao,cap,hve⟩:∃ao cap,v=.slice ao ps.length cap:=by obtain⟨ao,cap,h,-⟩:=HB.o.pl;exact⟨ao,cap,h⟩
 subst hve;go_wp2_with fail
 refine(ZFV ub rb _ ps _ (HB.o.on HN2.o).ref (HB.o.on HN2.o).pl hc HZ.o).mono ?_
 rintro e w3 ⟨s,rfl,hs,hn3⟩;have HN3:=A (HN2.o.then hn3)
 have heq:(t.toList==s.toList)=true:=by
  rw[ByteArray.toList_eq,ByteArray.toList_eq,beq_iff_eq]
  show tl t=tl s
  rw[HT.o,hs,HQ.o]
 have hlen:(((Zzs u.q).length:Int)==(ps.length:Int))=true:=by rw[HL.o];simp
 clear hs hn3 p0 p1;go_wp2;go_ret
 exact⟨Zm (by rfl),HN3.o⟩
theorem ZB2(a b:Value)(ps qs:List Pq)(w:World)(ha:PlAt w a ps)(hb:PlAt w b qs):Calls prog 59 #[a,b] w fun e w'=>e=Y (C (decide (ps=qs)))/\Nx w w':=by
 obtain⟨ao,cap,rfl,hlc,hcap,hnone,hsome⟩:=ha;obtain⟨bo,cap2,rfl,hlc2,hcap2,hnone2,hsome2⟩:=hb;unfold maxLen at hcap hcap2
 by_cases hl:ps.length=qs.length
 .have hl':((ps.length:Int) != (qs.length:Int))=false:=by rw[hl];simp
  have hl'':((ps.length:Int)==(qs.length:Int))=true:=by rw[hl];simp
  have HL:=A hl;clear hl
  go_enter func59,ntmps59
  go_wp2
  go_loopw [5] (fun i wr=>∃k:Nat,k<=ps.length/\i=I X k/\ps.take k=qs.take k/\Nx w wr) (fun i _=>ps.length-(intOf i).toNat)
  case atStart=>exact⟨0,Xb _,rfl,rfl,Nx.rfl⟩
  case round=>
   obtain⟨k,hk,rfl,hE,hnx⟩:=hrel;have HE:=A hE;have HN:=A hnx;clear hE hnx
   by_cases hlt:k<ps.length
   .have hlt2:k<qs.length:=by rw[<-HL.o];exact hlt
    obtain⟨a,ha⟩:=ZAh hlt hnone;subst ha;obtain⟨b,off,rfl,hr⟩:=hsome a rfl;obtain⟨c0,c1⟩:=(hr.on HN.o).cell hlt;obtain⟨a2,ha2⟩:=ZAh hlt2 hnone2;subst ha2;obtain⟨b2,off2,rfl,hr2⟩:=hsome2 a2 rfl;obtain⟨d0,d1⟩:=(hr2.on HN.o).cell hlt2;clear hnone hsome hnone2 hsome2 hr hr2
    by_cases h1:ps[k].1=qs[k].1
    focus
     have h1':ps[k].1.toList=qs[k].1.toList:=congrArg ByteArray.toList h1
     by_cases h2:ps[k].2=qs[k].2
     .have h2':ps[k].2.toList=qs[k].2.toList:=congrArg ByteArray.toList h2
      have HQ:=A (ZFv HE.o hlt hlt2 (Prod.ext h1 h2));clear h1 h2;go_wp2
      go_region
      all_goals go_wp2
      all_goals go_roundw
      all_goals first|exact⟨k+1,by omega,by go_num,HQ.o,HN.o.drew⟩|(simp[intOf];omega)
     focus
      have h2':=ZDu h2
      have HQ:=A (show decide (ps=qs)=false from decide_eq_false fun e=>h2 (by subst e;rfl))
      clear h1 h2
    rotate_left
    focus
     have h1':=ZDu h1
     have HQ:=A (show decide (ps=qs)=false from decide_eq_false fun e=>h1 (by subst e;rfl))
     clear h1
    all_goals
     go_wp2
     go_region
     all_goals go_wp2
     all_goals go_ret
     all_goals exact⟨by rw[HQ.o];rfl,HN.o.drew⟩
   .have HQ:=A (show decide (ps=qs)=true from decide_eq_true (by have h:=HE.o;rw[Xc (by omega),Xc (by have:=HL.o;omega)]at h;exact h))
    clear hnone hsome hnone2 hsome2;go_wp2;go_ret
    exact⟨by rw[HQ.o];rfl,HN.o⟩
 .have hl':((ps.length:Int) != (qs.length:Int))=true:=by simp only[bne_iff_ne];omega
  have hl'':((ps.length:Int)==(qs.length:Int))=false:=beq_eq_false_iff_ne.2 (by omega)
  have HQ:=A (show decide (ps=qs)=false from decide_eq_false fun e=>hl (by rw[e]))
  clear hl hnone hsome hnone2 hsome2
  go_enter func59,ntmps59
  go_wp2;go_ret
  exact⟨by rw[HQ.o];rfl,Nx.rfl⟩
theorem ZBu(a b:Value)(ps qs:LA)(w:World)(ha:ZbP w a ps)(hb:ZbP w b qs):Calls prog 46 #[a,b] w fun e w'=>e=Y (C (decide (ps=qs)))/\Nx w w':=by
 obtain⟨ao,cap,rfl,hlc,hcap,hnone,hsome⟩:=ha;obtain⟨bo,cap2,rfl,hlc2,hcap2,hnone2,hsome2⟩:=hb;unfold maxLen at hcap hcap2
 by_cases hl:ps.length=qs.length
 .have hl':((ps.length:Int) != (qs.length:Int))=false:=by rw[hl];simp
  have hl'':((ps.length:Int)==(qs.length:Int))=true:=by rw[hl];simp
  have HL:=A hl;clear hl
  go_enter func46,ntmps46
  go_wp2
  go_loopw [5] (fun i wr=>∃k:Nat,k<=ps.length/\i=I X k/\ps.take k=qs.take k/\Nx w wr) (fun i _=>ps.length-(intOf i).toNat)
  case atStart=>exact⟨0,Xb _,rfl,rfl,Nx.rfl⟩
  case round=>
   obtain⟨k,hk,rfl,hE,hnx⟩:=hrel;have HE:=A hE;have HN:=A hnx;clear hE hnx
   by_cases hlt:k<ps.length
   .have hlt2:k<qs.length:=by rw[<-HL.o];exact hlt
    obtain⟨a,ha⟩:=Zv hlt hnone;subst ha;obtain⟨b,off,rfl,hr⟩:=hsome a rfl;have c0:=(hr.on HN.o).cell hlt;obtain⟨a2,ha2⟩:=Zv hlt2 hnone2;subst ha2;obtain⟨b2,off2,rfl,hr2⟩:=hsome2 a2 rfl;have d0:=(hr2.on HN.o).cell hlt2;clear hnone hsome hnone2 hsome2 hr hr2
    by_cases h1:ps[k]=qs[k]
    .have h1':ps[k].toList=qs[k].toList:=congrArg ByteArray.toList h1
     have hb1:(ps[k].toList==qs[k].toList)=true:=beq_iff_eq.2 h1'
     have hb2:(ps[k].toList != qs[k].toList)=false:=by rw[bne,hb1];rfl
     have HQ:=A (show ps.take (k+1)=qs.take (k+1)by rw[Xf hlt,Xf hlt2,HE.o,h1])
     clear h1;go_wp2
     go_region
     all_goals go_wp2
     all_goals go_roundw
     all_goals first|exact⟨k+1,by omega,by go_num,HQ.o,HN.o.drew⟩|(simp[intOf];omega)
    .have h1':=ZDu h1
     have hb1:(ps[k].toList==qs[k].toList)=false:=beq_eq_false_iff_ne.2 h1'
     have hb2:(ps[k].toList != qs[k].toList)=true:=by rw[bne,hb1];rfl
     have HQ:=A (show decide (ps=qs)=false from decide_eq_false fun e=>h1 (by subst e;rfl))
     clear h1;go_wp2
     go_region
     all_goals go_wp2
     all_goals go_ret
     all_goals exact⟨by rw[HQ.o];rfl,HN.o.drew⟩
   .have HQ:=A (show decide (ps=qs)=true from decide_eq_true (by have h:=HE.o;rw[Xc (by omega),Xc (by have:=HL.o;omega)]at h;exact h))
    clear hnone hsome hnone2 hsome2;go_wp2;go_ret
    exact⟨by rw[HQ.o];rfl,HN.o⟩
 .have hl':((ps.length:Int) != (qs.length:Int))=true:=by simp only[bne_iff_ne];omega
  have hl'':((ps.length:Int)==(qs.length:Int))=false:=beq_eq_false_iff_ne.2 (by omega)
  have HQ:=A (show decide (ps=qs)=false from decide_eq_false fun e=>hl (by rw[e]))
  clear hl hnone hsome hnone2 hsome2
  go_enter func46,ntmps46
  go_wp2;go_ret
  exact⟨by rw[HQ.o];rfl,Nx.rfl⟩
def WB(w:World)(wb:Nat)(q:Bool)(us ps ts:Value):Prop:=w.heap[wb]?=some (O #[C q,us,ps,ts] 43 (0,0))
theorem WB.on{w w':World}{wb:Nat}{q:Bool}{us ps ts:Value}(h:WB w wb q us ps ts)(hb:Nx w w'):WB w' wb q us ps ts:=(hb.block wb (Xa.1 h).1).trans h
theorem WB.facts{w:World}{wb:Nat}{q:Bool}{us ps ts:Value}(h:WB w wb q us ps ts):w.cell? ⟨wb,0,none⟩=some (C q)/\w.cell? ⟨wb,1,none⟩=some us/\w.cell? ⟨wb,2,none⟩=some ps/\w.cell? ⟨wb,3,none⟩=some ts/\wb<w.heap.size:=by
 have hl:=(Xa.1 h).1;unfold WB at h
 refine⟨?_,?_,?_,?_,hl⟩<;>simp[World.cell?,h]
theorem WB.free{w:World}{wb:Nat}{q:Bool}{us ps ts:Value}(h:WB w wb q us ps ts)(i:Nat):w.frozen? ⟨wb,i,none⟩=false:=by
 unfold WB at h
 simp[World.frozen?,h]
theorem ZIV:(prog.info? 92).map (fun i=>(i.zero,i.size,i.bytes))=some (some (.agg #[.slice none 0 0,.slice none 0 0]),2,48):=by kernel_rfl
theorem ZKE:∀ {a b:LA},a.map tl=b.map tl->a=b:=by
 intro a
 induction a with
 | nil=>intro b h;cases b with|nil=>rfl|cons _ _=>cases h
 | cons x a ih=>
  intro b h
  cases b with
  | nil=>cases h
  | cons y b=>
   simp only[Xj,List.cons.injEq]at h;rw[ZDt h.1,ih h.2]
theorem StrIs.at{w:World}{base:Nat}{v:Value}{ss:LA}(h:StrIs w base v ss)(hl:ss.length<=1000000):ZbP w v ss:=by
 rcases h with⟨rfl,rfl⟩|⟨-,nb,-,rfl,hf⟩
 .exact SlAt.nil w
 .refine⟨some ⟨nb,0,none⟩,ss.length,rfl,Xk _,by unfold maxLen;omega,(fun g=>by cases g),fun a ha=>⟨nb,0,(Option.some.inj ha).symm,_,_,hf,fun i hi=>?_⟩⟩
  simp[hi]
theorem StrIs.on{w w':World}{base:Nat}{v:Value}{ss:LA}(h:StrIs w base v ss)(hb:Nx w w'):StrIs w' base v ss:=by
 rcases h with g|⟨h1,nb,h2,h3,h4⟩
 .exact Or.inl g
 .exact Or.inr ⟨h1,nb,h2,h3,h4.on hb⟩
theorem ZKF:(prog.info? 83).map (fun i=>(i.zero,i.size,i.bytes))=some (some (.agg #[.slice none 0 0,.slice none 0 0]),2,48):=by kernel_rfl
def OpB(w:World)(ob:Nat)(k a b c:Int)(s t:ByteArray):Prop:=w.heap[ob]?=some (O #[I X k,I X a,I X b,I X c,J s,J t] 45 (0,0))
theorem OpB.on{w w':World}{ob:Nat}{k a b c:Int}{s t:BA}(h:OpB w ob k a b c s t)(hb:Nx w w'):OpB w' ob k a b c s t:=(hb.block ob (Xa.1 h).1).trans h
theorem OpB.cells{w:World}{ob:Nat}{k a b c:Int}{s t:BA}(h:OpB w ob k a b c s t):w.cell? ⟨ob,2,none⟩=some (I X b)/\w.cell? ⟨ob,4,none⟩=some (J s)/\w.cell? ⟨ob,5,none⟩=some (J t):=by
 unfold OpB at h
 refine⟨?_,?_,?_⟩<;>simp[World.cell?,h]
theorem WB.s3{w:World}{wb:Nat}{q:Bool}{us ps ts:Value}(h:WB w wb q us ps ts)(x:Value):WB (w.setCell ⟨wb,3,none⟩ x) wb q us ps x:=by
 unfold WB at *;simp only[World.setCell,Array.getElem?_modify,ifP,h]
 rfl
theorem StrIs.slice{w:World}{base:Nat}{v:Value}{ss:LA}(h:StrIs w base v ss):∃ao cap,v=.slice ao ss.length cap:=by
 rcases h with⟨rfl,rfl⟩|⟨-,nb,-,rfl,-⟩
 .exact⟨none,0,rfl⟩
 .exact⟨_,_,rfl⟩
theorem ZFY(b:UInt8):(formByte b).length<=3:=by
 unfold formByte
 split
 .decide
 .unfold ZL
  split<;>simp
theorem ZCZ{l:LB}(h:Cpt l):(ZzP l).length<=3*l.length:=by
 rw[ZAP h];clear h
 induction l with
 | nil=>exact Xb _
 | cons b r ih=>
  rw[List.flatMap_cons,Xh,Xd];have:=ZFY b
  omega
theorem ZGT(b:UInt8):Pr (formByte b):=by
 unfold formByte
 split
 .exact ZeN (by decide) (by decide)
 .have h:=ZeO formB [b]
  rw[ZCc]at h
  exact fun x hx=>h x (List.mem_append.2 (Or.inl hx))
theorem ZEq{l:LB}(h:Cpt l):Pr (ZzP l):=by rw[ZAP h];intro x hx;obtain⟨b,-,hb⟩:=List.mem_flatMap.1 hx;exact ZGT b x hb
theorem ZLU{c:UInt8}(hc1:32<=c.toNat)(hc2:c.toNat<=126):∀ {ls:List LB},(∀a∈ls,Pr a)->Pr (ZzV c ls):=by
 intro ls
 induction ls with
 | nil=>intro _;exact pr_nil
 | cons a r ih=>
  intro h
  show Pr (if r=[]then a else a++c::ZzV c r)
  split
  .exact h a (by simp)
  .exact ZeM (h a (by simp)) (Zii hc1 hc2 (ih (fun b hb=>h b (Xg _ hb))))
theorem ZGU{ps:List (LB×LB)}(h:∀p∈ps,ZGw p):Pr (ZzA ps):=by
 unfold ZzA
 refine ZLU (by decide) (by decide) (fun a ha=>?_)
 obtain⟨p,hp,rfl⟩:=List.mem_map.1 ha
 exact ZeM (ZEq (h p hp).1) (Zii (by decide) (by decide) (ZEq (h p hp).2))
def ZKP(ps:List (List UInt8×List UInt8)):Nat:=(ps.map fun p=>3*(p.1.length+p.2.length)+2).sum
theorem ZET{ps:List (LB×LB)}(h:∀p∈ps,ZGw p):(ZzA ps).length<=ZKP ps:=by
 unfold ZzA
 refine Xe (ZAu _ _) ?_
 induction ps with
 | nil=>exact Xb _
 | cons p r ih=>
  rw[Xj,sumL_cons]
  have h1:=ZCZ (h p (by simp)).1
  have h2:=ZCZ (h p (by simp)).2
  have h3:=ih (fun q hq=>h q (Xg _ hq))
  have e:ZKP (p::r)=3*(p.1.length+p.2.length)+2+ZKP r:=by simp[ZKP]
  rw[e]
  have h4:(writePr p).length=(ZzP p.1).length+((ZzP p.2).length+1):=by unfold writePr;rw[Xh,Xd]
  omega
theorem ZLV(n:Int)(l:LB):(bcut (isB n) l).1.length+(bcut (isB n) l).2.1.length<=l.length:=by
 induction l with
 | nil=>exact Xb _
 | cons c r ih=>
  unfold bcut
  split
  .simp
  .simp only[Xd]
   omega
theorem ZKG{u:U}{S:List (LB×LB)}(h:Wk u)(hcl:∀p∈S,ZGw p)(hlen:(ZzA S).length<=295000):ZFW (toR u) S=toR (ZzR u S)/\Wk (ZzR u S)/\S=Zzs (ZzR u S).q:=by
 by_cases hS:S=[]
 .subst hS
  have e:ZzR u []=ZBT u:=ifP rfl;rw[e]
  refine⟨?_,ZJ0 (u:={ u with hq:=false,q:=[] }) ⟨h.port,h.opq,h.zop,fun _=>rfl,pr_nil,h.sp,h.path,Xb _⟩,?_⟩
  .exact ZIn (u:={ u with hq:=false,q:=[] }) h.zop
  .have e2:(ZBT u).q=[]:=by unfold ZBT ZAj;split<;>rfl
   rw[e2]
   decide +kernel
 .have e:ZzR u S={ u with hq:=true,q:=ZzA S }:=ifN hS
  have hpos:0<S.length:=Nat.pos_of_ne_zero (fun g=>hS (List.eq_nil_of_length_eq_zero g))
  rw[e]
  refine⟨?_,{ h with nq:=(fun g=>by cases g),pq:=ZGU hcl,lq:=hlen },(ZDz hcl).symm⟩
  unfold ZFW ZDv
  rw[decide_eq_true hpos,ifN (by rintro⟨-,g,-⟩;cases g),ZCF hcl]
  rfl
theorem But.kpW{w w':World}{wb:Nat}{q:Bool}{us ps ts:Value}(hb:But wb w w')(h:WB w wb q us ps ts):Kp 43 w w':=by
 refine⟨hb.size,fun k cs e fz hk he=>?_⟩
 refine(hb.block k (Xa.1 hk).1 ?_).trans hk
 intro e';subst e';unfold WB at h;rw[hk]at h;simp only[Option.some.injEq,Obj.cells.injEq]at h;exact he h.2.1
theorem PairB.kpW{w w':World}{pp pb ub:Nat}(h:PairB w pp pb ub)(hk:Kp 43 w w'):PairB w' pp pb ub:=hk.2 _ _ _ _ h (by decide)
theorem Both.kpW{w w':World}{u:U}{pb ub rb:Nat}{r:Rc}{bs:LA}{R:RR}{rs:LA}{v:Value}{ps:List Pq}(h:Both w u pb ub rb r bs R rs v ps)(hk:Kp 43 w w'):Both w' u pb ub rb r bs R rs v ps:=
 { h with url:=hk.2 _ _ _ _ h.url (by decide),rc:=h.rc.ks (fun k cs fz g=>hk.2 _ _ _ _ g (by decide)),ref:=hk.2 _ _ _ _ h.ref (by decide),rcd:=hk.2 _ _ _ _ h.rcd (by decide),ris:={ h.ris with seg:=h.ris.seg.kp hk (by decide),fw:=Xe h.ris.fw hk.1 },pl:=h.pl.kp hk (by decide) }
end Go.Proofs.YtchkhibgbnhjpabGreatDoor
