import Derived.Test.YtchkhibgbnhjpabGreatDoorB40
open Array renaming getElem?_eq_some_iff→Xa
namespace Go.Proofs.YtchkhibgbnhjpabGreatDoor
open Go.RowKit
set_option maxHeartbeats 16000000
set_option maxRecDepth 8000
def PairB(w:World)(pp pb ub:Nat):Prop:=w.heap[pp]?=some (Obj.cells #[.pointer (some ⟨pb,0,none⟩),.pointer (some ⟨ub,0,none⟩)] 49 (0,0))
theorem PairB.on{w w':World}{pp pb ub:Nat}(h:PairB w pp pb ub)(hb:Nx w w'):PairB w' pp pb ub:=(hb.block pp (Xa.1 h).1).trans h
theorem PairB.lt{w:World}{pp pb ub:Nat}(h:PairB w pp pb ub):pp<w.heap.size:=(Xa.1 h).1
theorem PairB.cells{w:World}{pp pb ub:Nat}(h:PairB w pp pb ub):w.cell? ⟨pp,0,none⟩=some (.pointer (some ⟨pb,0,none⟩))∧w.cell? ⟨pp,1,none⟩=some (.pointer (some ⟨ub,0,none⟩)):=by
 unfold PairB at h
 constructor<;>simp[World.cell?,h]
structure Both (w:World) (u:U) (pb ub rb:Nat) (r:Rc) (bs:List ByteArray) (R:RR) (rs:List ByteArray) (v:Value) (ps:List Pq):Prop where
 url:UrlB w pb r
 rc:RcIs w r u bs
 ref:URB w ub rb v
 rcd:RB w rb R
 ris:RIs w R (toR u) rs
 pl:PlAt w v ps
 list:ps.map tl2=Zba u.q
 wk:Wk u
theorem Both.on{w w':World}{u:U}{pb ub rb:Nat}{r:Rc}{bs:LA}{R:RR}{rs:LA}{v:Value}{ps:List Pq}(h:Both w u pb ub rb r bs R rs v ps)(hb:Nx w w'):Both w' u pb ub rb r bs R rs v ps:=
 { h with url:=h.url.on hb,rc:=h.rc.on hb,ref:=h.ref.on hb,rcd:=h.rcd.on hb,ris:=h.ris.on hb,pl:=h.pl.on hb }
theorem Ztl{s:BA}{l:LB}(h:tl s=l):s.size=l.length:=by rw[←tl_length,h]
theorem Both.rl{w:World}{u:U}{pb ub rb:Nat}{r:Rc}{bs:LA}{R:RR}{rs:LA}{v:Value}{ps:List Pq}(h:Both w u pb ub rb r bs R rs v ps):RL R:=by
 have e1:=h.ris.eq;have e2:=h.rc.eq
 have k:∀ {a b:BA} {l:LB},tl a=l→tl b=l→b.size≤300000→a.size≤300000:=fun ha hb hl=>by rw[Ztl ha,←Ztl hb];exact hl
 refine⟨k (show tl R.user=u.nam by rw[←show(R.u rs).user=tl R.user from rfl,e1];rfl) (show tl r.nam=u.nam by rw[←e2];rfl) h.rc.lnam,
  k (show tl R.pass=u.pw by rw[←show(R.u rs).pass=tl R.pass from rfl,e1];rfl) (show tl r.pw=u.pw by rw[←e2];rfl) h.rc.lpw,
  k (show tl R.htx=u.host by rw[←show(R.u rs).htx=tl R.htx from rfl,e1];rfl) (show tl r.host=u.host by rw[←e2];rfl) h.rc.lhost,?_,
  k (show tl R.bl=u.opath by rw[←show(R.u rs).bl=tl R.bl from rfl,e1];rfl) (show tl r.opath=u.opath by rw[←e2];rfl) h.rc.lopath,
  k (show tl R.q=u.q by rw[←show(R.u rs).q=tl R.q from rfl,e1];rfl) (show tl r.q=u.q by rw[←e2];rfl) h.rc.lq,
  k (show tl R.fr=u.fr by rw[←show(R.u rs).fr=tl R.fr from rfl,e1];rfl) (show tl r.fr=u.fr by rw[←e2];rfl) h.rc.lfr⟩
 have hp:R.port=(toR u).port:=by rw[←show(R.u rs).port=R.port from rfl,e1]
 have hl:u.port≤65535:=by rw[←show(r.u bs).port=u.port by rw[e2]];exact h.rc.lport
 rw[hp];unfold toR;simp only
 split<;>omega
theorem ZwQ{u:U}(h:Wk u):Ztf (toR u):=by
 intro _;have hl:=h.path;rw[ZhL h]
 refine⟨by omega,fun h0=>?_⟩
 obtain⟨s1,s2⟩:=Zfv (ZaY u);rw[←s1]at h0;have hs:=ZnF h0;rw[s2 h0]
 refine⟨(Zs8 (ZaY u) (by omega)).host,?_⟩
 unfold toR;simp only
 split
 ·next hp=>have:=(hs.st.sd.port hp).1;omega
 ·omega
theorem ZwR{u:U}(h:Wk u){a0 a1 a2 a3 a4 a5 a6 a7 a8 a9 a10:BA}{e:Ending}(he:ZxU e (toR u))(h0:tl a0=Zm5 u)(h1:tl a1=Zcq u)(h2:tl a2=ZcC u)(h3:tl a3=u.nam)(h4:tl a4=u.pw)(h5:tl a5=ZbJ u)(h6:tl a6=u.host)(h7:tl a7=Zb7 u)(h8:tl a8=ZaY u)(h9:tl a9=Zki u)(h10:tl a10=Zt5 u):e=.returned (.agg #[.string a0,.string a1,.string a2,.string a3,.string a4,.string a5,.string a6,.string a7,.string a8,.string a9,.string a10]):=by obtain⟨t0,t1,t2,t3,t4,t5,t6,t7,t8,t9,t10,rfl,k0,k1,k2,k3,k4,k5,k6,k7,k8,k9,k10⟩:=he;rw[Zu3 h]at k0;rw[Zqq h]at k1;rw[Zgs h.port]at k5;rw[Zu1 h.port]at k7;rw[ZhL h]at k8;rw[ZdQ (k0.trans h0.symm),ZdQ (k1.trans h1.symm),ZdQ (k2.trans h2.symm),ZdQ (k3.trans h3.symm),ZdQ (k4.trans h4.symm),ZdQ (k5.trans h5.symm),ZdQ (k6.trans h6.symm),ZdQ (k7.trans h7.symm),ZdQ (k8.trans h8.symm),ZdQ (k9.trans h9.symm),ZdQ (k10.trans h10.symm)]
theorem ZkP(pb:Nat)(r:Rc)(u:U)(bs:LA)(w:World)(h0:UrlB w pb r)(h:RcIs w r u bs)(ht:Tb w)(hpl:u.sch=[98,108,111,98]→(ZaY u).length≤9000):Calls Tryz.prog 54 #[.pointer (some ⟨pb,0,none⟩)] w fun e w'=>∃t:BA,e=.returned (.string t)∧tl t=Zcq u∧Nx w w':=by
 have HRC:=Za h;have HTB:=Za ht;have HPL:=Za hpl;obtain⟨a0,a1,a2,a3,a4,a5,a6,a7,a8,a9,a10,a11,a12,a13⟩:=h0.cells;clear h ht h0 hpl
 go_enter Tryz.func54,Tryz.ntmps54
 go_wp2_with fail
 refine(ZjO r u bs _ HRC.out HTB.out HPL.out).mono ?_
 rintro e w1 ⟨t,rfl,ht,-,hn⟩;have HT:=Za ht;have HN:=Za hn;clear ht hn a0 a1 a2 a3 a4 a5 a6 a7 a8 a9 a10 a11 a12 a13;go_wp2;go_ret;exact⟨t,rfl,HT.out,HN.out⟩
theorem Zpf(pp pb ub rb:Nat)(r:Rc)(u:U)(bs:LA)(R:RR)(rs:LA)(v:Value)(ps:List Pq)(w:World)(hp:PairB w pp pb ub)(hb:Both w u pb ub rb r bs R rs v ps)(ht:Tb w):Calls Tryz.prog 21 #[.pointer (some ⟨pp,0,none⟩)] w fun e w'=>e=.returned (.bool true)∧Nx w w':=by
 have HP:=Za hp;have HB:=Za hb;have HTB:=Za ht;have HRL:=Za hb.rl;have HBO:=Za (ZwQ hb.wk);have HPL:=Za hb.wk.path;have HST:=Za hb.wk;obtain⟨p0,p1⟩:=hp.cells;clear hp hb ht
 go_enter Tryz.func21,Tryz.ntmps21
 go_wp2_with fail
 refine(ZwP pb r u bs _ HB.out.url HB.out.rc HTB.out (fun _=>HPL.out)).mono ?_
 rintro e w1 ⟨⟨a0,a1,a2,a3,a4,a5,a6,a7,a8,a9,a10,rfl,g0,g1,g2,g3,g4,g5,g6,g7,g8,g9,g10,-,-⟩,hn1⟩
 have HG:Hid (∀e,ZxU e (toR u)→e=.returned (.agg #[.string a0,.string a1,.string a2,.string a3,.string a4,.string a5,.string a6,.string a7,.string a8,.string a9,.string a10])):=Za (fun e he=>ZwR HST.out he g0 g1 g2 g3 g4 g5 g6 g7 g8 g9 g10)
 have G0:=Za g0;have G1:=Za g1;have HN1:=Za hn1;obtain⟨p01,p11⟩:=(HP.out.on (hn1.alloc (Obj.cells #[.string a0,.string a1,.string a2,.string a3,.string a4,.string a5,.string a6,.string a7,.string a8,.string a9,.string a10] 66))).cells;clear g0 g1 g2 g3 g4 g5 g6 g7 g8 g9 g10 hn1 p0 p1;go_wp2_with fail
 refine(Zvi ub rb v R (toR u) rs _ (HB.out.ref.on (HN1.out.alloc _)) (HB.out.rcd.on (HN1.out.alloc _)) (HB.out.ris.on (HN1.out.alloc _)) HRL.out HBO.out).mono ?_
 rintro e w2 ⟨ha,hn2⟩;obtain rfl:=HG.out e ha;have HA2:Hid (C11 w2 w1.heap.size (.string a0) (.string a1) (.string a2) (.string a3) (.string a4) (.string a5) (.string a6) (.string a7) (.string a8) (.string a9) (.string a10)):=Za ((show C11 (w1.alloc (Obj.cells #[.string a0,.string a1,.string a2,.string a3,.string a4,.string a5,.string a6,.string a7,.string a8,.string a9,.string a10] 66)) w1.heap.size (.string a0) (.string a1) (.string a2) (.string a3) (.string a4) (.string a5) (.string a6) (.string a7) (.string a8) (.string a9) (.string a10)from heap_alloc_new w1 _).on hn2);have HN2:=Za (show Nx w w2 from(HN1.out.alloc _).then hn2);obtain⟨p02,p12⟩:=(HP.out.on (HN2.out.alloc (Obj.cells #[.string a0,.string a1,.string a2,.string a3,.string a4,.string a5,.string a6,.string a7,.string a8,.string a9,.string a10] 66))).cells;clear ha hn2 p01 p11 HG;go_wp2_with fail
 refine(Znu pb r u bs _ (HB.out.url.on (HN2.out.alloc _)) (HB.out.rc.on (HN2.out.alloc _)) (HTB.out.on (HN2.out.alloc _))).mono ?_
 rintro e w3 ⟨t,rfl,ht,hn3⟩;obtain rfl:=ZdQ (ht.trans G0.out.symm);have HA3:=Za ((HA2.out.on (Nx.rfl.alloc _)).on hn3);have HC3:Hid (C11 w3 w2.heap.size (.string t) (.string a1) (.string a2) (.string a3) (.string a4) (.string a5) (.string a6) (.string a7) (.string a8) (.string a9) (.string a10)):=Za ((show C11 (w2.alloc (Obj.cells #[.string t,.string a1,.string a2,.string a3,.string a4,.string a5,.string a6,.string a7,.string a8,.string a9,.string a10] 66)) w2.heap.size (.string t) (.string a1) (.string a2) (.string a3) (.string a4) (.string a5) (.string a6) (.string a7) (.string a8) (.string a9) (.string a10)from heap_alloc_new w2 _).on hn3);have HN3:=Za (show Nx w w3 from(HN2.out.alloc _).then hn3);obtain⟨p03,p13⟩:=(HP.out.on HN3.out).cells;clear ht hn3 p02 p12;go_wp2_with fail
 refine(ZkP pb r u bs _ (HB.out.url.on HN3.out) (HB.out.rc.on HN3.out) (HTB.out.on HN3.out) (fun _=>HPL.out)).mono ?_
 rintro e w4 ⟨t1,rfl,ht1,hn4⟩;obtain rfl:=ZdQ (ht1.trans G1.out.symm);obtain⟨x0,x1,x2,x3,x4,x5,x6,x7,x8,x9,x10⟩:=(HA3.out.on hn4).cells;obtain⟨y0,y1,y2,y3,y4,y5,y6,y7,y8,y9,y10⟩:=(HC3.out.on hn4).cells;have HN4:=Za (HN3.out.then hn4);clear ht1 hn4 p03 p13;go_wp2;go_ret;exact⟨rfl,HN4.out⟩
theorem ZjW(ps:List LB):ps.length≤pl ps:=by
 induction ps with
 | nil=>exact Nat.zero_le _
 | cons s r ih=>
  have h1:=Zpa [s] r;have h2:=Zs0 s;rw[show [s]++r=s::r from rfl]at h1;rw[List.length_cons]
  omega
theorem ZwS{u:U}(h:Wk u){n:Nat}(hl:(ZaY u).length≤n):u.segs.length≤n:=by
 cases ho:u.op
 ·have h1:=ZjW u.segs
  unfold ZaY at hl
  rw[ho,if_neg (by decide)]at hl
  unfold pl at h1
  omega
 ·rw[(h.opq ho).1];exact Nat.zero_le _
theorem Zmk(l:LB)(hl:l.length≤160):(ZbL l).1.segs.length≤70000:=by
 have h1:=ZgZ l (base:=zeroU) (B:=0) (Zcb 0);have h2:=ZjW (ZbL l).1.segs;have h3:pl (ZbL l).1.segs≤0+27*l.length+2:=h1.s
 omega
theorem Both.len{w:World}{u:U}{pb ub rb:Nat}{r:Rc}{bs:LA}{R:RR}{rs:LA}{v:Value}{ps:List Pq}(h:Both w u pb ub rb r bs R rs v ps):bs.length≤9000:=by
 have h1:=ZwS h.wk h.wk.path
 have h2:u.segs.length=bs.length:=by rw[←h.rc.segs,List.length_map]
 omega
def Ztm(e:Ending)(w w':World)(x:U×Int):Prop:=
 (x.2≠0∧e=.returned (.tuple #[.pointer none,.bool true])∧Nx w w') ∨
 (x.2=0∧∃pp pb ub rb r bs R rs v ps,e=.returned (.tuple #[.pointer (some ⟨pp,0,none⟩),.bool true])∧PairB w' pp pb ub∧Both w' x.1 pb ub rb r bs R rs v ps∧w.heap.size≤pp∧w.heap.size≤pb∧w.heap.size≤ub∧w.heap.size≤rb∧Nx w w')
theorem Zvl(w:World)(pb ub:Nat):PairB (w.alloc (Obj.cells #[.pointer (some ⟨pb,0,none⟩),.pointer (some ⟨ub,0,none⟩)] 49)) w.heap.size pb ub:=heap_alloc_new w _
theorem ZnN(s base:BA)(based:Bool)(w:World)(hs:s.size≤maxLen)(hb:base.size≤maxLen)(ht:Tb w):Calls Tryz.prog 40 #[.string s,.string base,.bool based] w fun e w'=>Ztm e w w' (Zci (tl s) (tl base) based):=by
 have HTB:=Za ht;have HSM:=Za (Zu6 (tl s) (tl base) based)
 have HQL:Hid ((ZiR (tl s) (tl base) based).2=0→(ZiR (tl s) (tl base) based).1.q.length≤90000):=Za (fun h0=>by
  obtain⟨s1,s2⟩:=HSM.out;rw[s2 (s1.trans h0)];have:=(Zpe (tl s) (tl base) based).q
  show(Zci (tl s) (tl base) based).1.q.length≤90000
  omega)
 have HZP:Hid (base.size≤160→(parseR (tl base) none).2=0→(parseR (tl base) none).1.path.length≤70000):=Za (fun hb h0=>by
  obtain⟨s1,s2⟩:=Zfv (tl base);rw[s2 (s1.trans h0)]
  exact Zmk (tl base) (by rw[tl_length];exact hb))
 have HST:Hid ((Zci (tl s) (tl base) based).2=0→St (Zci (tl s) (tl base) based).1):=Za (fun h=>ZuY (tl s) (tl base) based h)
 have HPM:=Za (Zvb (tl s) (tl base) based);have HHM:=Za (Zpe (tl s) (tl base) based).q;have HNR:=Za (Zvk s base based · hs hb HQL.out HZP.out);clear ht
 go_enter Tryz.func40,Tryz.ntmps40
 go_wp2_with fail
 refine(ZqH s base based _ hs hb HTB.out).mono ?_
 rintro e w1 ⟨hp,hn1⟩;have HN1:=Za hn1;clear HQL HZP hn1;generalize hpx:Zci (tl s) (tl base) based=x at *;have HX:=Za hpx;clear hpx;obtain⟨u,err⟩:=x;generalize ZiR (tl s) (tl base) based=y at *;obtain⟨m,err2⟩:=y;obtain⟨he12,hm⟩:=HSM.out;simp only at he12 hm;subst he12;simp only at HST HPM HHM;clear HSM;rcases hp with⟨he,rfl⟩|⟨he,pb,r,bs,rfl,hu,hr,hpb⟩
 ·go_wp2_with fail
  refine(HNR.out _).mono ?_
  rintro e w2 hx;rcases hx with⟨-,rfl,hn2⟩|⟨h0,-⟩
  ·have HN2:=Za (HN1.out.then hn2)
   have he1:(err != err)=false:=by simp
   have he2:(err != 0)=true:=bne_iff_ne.2 he;have HER:=Za he;clear hn2 he;go_wp2;go_ret2;rw[HX.out];exact Or.inl ⟨HER.out,rfl,HN2.out⟩
  ·exact absurd h0 he
 ·simp only at he
  subst he;have hme:=hm rfl;have HUB:=Za hu
  replace hr:RcIs w1 r u bs:=hr
  have HRC:=Za hr;have HPB:=Za hpb;clear hm hu hr hpb;go_wp2_with fail
  refine(HNR.out _).mono ?_
  rintro e w2 hx;rcases hx with⟨h0,-⟩|⟨-,ub,rb,R,rs,v,ps,rfl,hU,hRB,hRI,hpl,hps,hub,hrb,hn2⟩
  ·exact absurd rfl h0
  ·replace hRI:RIs w2 R m rs:=hRI
   replace hps:ps.map tl2=Zf0 m:=hps
   rw[hme]at hRI hps
   have hst:=(HST.out (by trivial)).st
   have hwk:=St'.wk hst (by have:=HPM.out;omega) (by have:=HHM.out;omega)
   rw[Zme hwk]at hps;have HBO:=Za (show Both w2 u pb ub rb r bs R rs v ps from⟨HUB.out.on hn2,HRC.out.on hn2,hU,hRB,hRI,hpl,hps,hwk⟩);have HN2:=Za (HN1.out.then hn2);have HZ:=Za (show w.heap.size≤pb∧w.heap.size≤ub∧w.heap.size≤rb from⟨HPB.out,Nat.le_trans HN1.out.size hub,Nat.le_trans HN1.out.size hrb⟩);clear hU hRB hRI hpl hps hub hrb hn2 hst hwk hme HUB HRC HST HPM HHM HNR HPB;go_wp2;go_ret2;rw[HX.out];exact Or.inr ⟨rfl,w2.heap.size,pb,ub,rb,r,bs,R,rs,v,ps,rfl,Zvl w2 pb ub,HBO.out.on (Nx.rfl.alloc _),HN2.out.size,HZ.out.1,HZ.out.2.1,HZ.out.2.2,HN2.out.alloc _⟩
theorem ZqI(s base:BA)(based:Bool)(w:World)(hs:s.size≤maxLen)(hb:base.size≤maxLen)(ht:Tb w):Calls Tryz.prog 17 #[.string s,.string base,.bool based] w fun e w'=>Ztm e w w' (Zci (tl s) (tl base) based):=by
 have HTB:=Za ht;clear ht
 go_enter Tryz.func17,Tryz.ntmps17
 go_wp2_with fail
 refine(ZnN s base based _ hs hb HTB.out).mono ?_
 rintro e w1 hp;rcases hp with⟨he,rfl,hn⟩|⟨he,pp,pb,ub,rb,r,bs,R,rs,v,ps,rfl,hP,hB,h1,h2,h3,h4,hn⟩
 ·have HN:=Za hn
  have HER:=Za he;clear he hn;go_wp2;go_ret2;exact Or.inl ⟨HER.out,rfl,HN.out⟩
 ·have HER:=Za he
  have HP:=Za hP;have HB:=Za hB;have HZ:=Za (show w.heap.size≤pp∧w.heap.size≤pb∧w.heap.size≤ub∧w.heap.size≤rb from⟨h1,h2,h3,h4⟩);have HN:=Za hn;clear he hP hB h1 h2 h3 h4 hn;go_wp2_with fail
  refine(Zpf pp pb ub rb r _ bs R rs v ps _ HP.out HB.out (HTB.out.on HN.out)).mono ?_
  rintro e w2 ⟨rfl,hn2⟩;have HN2:=Za hn2;clear hn2;go_wp2;go_ret2;exact Or.inr ⟨HER.out,pp,pb,ub,rb,r,bs,R,rs,v,ps,rfl,HP.out.on HN2.out,HB.out.on HN2.out,HZ.out.1,HZ.out.2.1,HZ.out.2.2.1,HZ.out.2.2.2,HN.out.then HN2.out⟩
theorem Ztn(s t:BA)(w:World)(hs:s.size≤maxLen)(ht:t.size≤maxLen):Calls Tryz.prog 16 #[.string s,.string t] w fun e w'=>e=.returned (.bool (decide (65536<s.size)||decide (65536<t.size)))∧w=w':=by
 unfold maxLen at hs ht
 by_cases h1:65536<s.size
 ·go_enter Tryz.func16,Tryz.ntmps16
  go_wp2;go_ret
  exact⟨by simp,rfl⟩
 ·by_cases h2:65536<t.size
  ·go_enter Tryz.func16,Tryz.ntmps16
   go_wp2;go_ret
   exact⟨by simp[h2];omega,rfl⟩
  ·go_enter Tryz.func16,Tryz.ntmps16
   go_wp2;go_ret
   exact⟨by simp[h1,h2];omega,rfl⟩
end Go.Proofs.YtchkhibgbnhjpabGreatDoor
