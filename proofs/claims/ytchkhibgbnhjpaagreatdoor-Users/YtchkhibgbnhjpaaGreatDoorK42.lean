import Derived.Test.YtchkhibgbnhjpaaGreatDoorK36
import Derived.Test.YtchkhibgbnhjpaaGreatDoorK41
namespace Go.Proofs.YtchkhibgbnhjpaaGreatDoor
open Go.RowKit
def PairB (w:World) (pp pb ub:Nat):Prop:=w.heap[pp]?=some (Obj.cells #[.pointer (some ⟨pb,0,none⟩),.pointer (some ⟨ub,0,none⟩)] 68 (0,0))
theorem PairB.on {w w':World} {pp pb ub:Nat} (h:PairB w pp pb ub) (hb:Nx w w'):PairB w' pp pb ub:=(hb.block pp (Array.getElem?_eq_some_iff.1 h).1).trans h
theorem PairB.lt {w:World} {pp pb ub:Nat} (h:PairB w pp pb ub):pp < w.heap.size:=(Array.getElem?_eq_some_iff.1 h).1
theorem PairB.cells {w:World} {pp pb ub:Nat} (h:PairB w pp pb ub):w.cell? ⟨pp,0,none⟩=some (.pointer (some ⟨pb,0,none⟩))∧w.cell? ⟨pp,1,none⟩=some (.pointer (some ⟨ub,0,none⟩)):=by
 unfold PairB at h
 constructor <;> simp [World.cell?,h]
structure Both (w:World) (u:U) (pb ub rb:Nat) (r:Rc) (bs:List ByteArray) (R:RR) (rs:List ByteArray) (v:Value) (ps:List Pq):Prop where
 url:UrlB w pb r
 rc:RcIs w r u bs
 ref:URB w ub rb v
 rcd:RB w rb R
 ris:RIs w R (toR u) rs
 pl:PlAt w v ps
 list:ps.map tl2=ZjX u.q
 wk:Wk u
theorem Both.on {w w':World} {u:U} {pb ub rb:Nat} {r:Rc} {bs:List ByteArray} {R:RR} {rs:List ByteArray} {v:Value} {ps:List Pq} (h:Both w u pb ub rb r bs R rs v ps) (hb:Nx w w'):Both w' u pb ub rb r bs R rs v ps:=
 { h with url:=h.url.on hb,rc:=h.rc.on hb,ref:=h.ref.on hb,rcd:=h.rcd.on hb,ris:=h.ris.on hb,pl:=h.pl.on hb }
theorem ZrY {s:ByteArray} {l:List UInt8} (h:tl s=l):s.size=l.length:=by rw [← tl_length,h]
theorem Both.rl {w:World} {u:U} {pb ub rb:Nat} {r:Rc} {bs:List ByteArray} {R:RR} {rs:List ByteArray} {v:Value} {ps:List Pq} (h:Both w u pb ub rb r bs R rs v ps):RL R:=by
 have e1:=h.ris.eq
 have e2:=h.rc.eq
 have k:∀ {a b:ByteArray} {l:List UInt8},tl a=l→tl b=l→b.size≤300000→a.size≤300000:=fun ha hb hl=>by rw [ZrY ha,← ZrY hb];exact hl
 refine ⟨k (show tl R.user=u.nam by rw [← show (R.u rs).user=tl R.user from rfl,e1];rfl) (show tl r.nam=u.nam by rw [← e2];rfl) h.rc.lnam,
  k (show tl R.pass=u.pw by rw [← show (R.u rs).pass=tl R.pass from rfl,e1];rfl) (show tl r.pw=u.pw by rw [← e2];rfl) h.rc.lpw,
  k (show tl R.htx=u.host by rw [← show (R.u rs).htx=tl R.htx from rfl,e1];rfl) (show tl r.host=u.host by rw [← e2];rfl) h.rc.lhost,?_,
  k (show tl R.bl=u.opath by rw [← show (R.u rs).bl=tl R.bl from rfl,e1];rfl) (show tl r.opath=u.opath by rw [← e2];rfl) h.rc.lopath,
  k (show tl R.q=u.q by rw [← show (R.u rs).q=tl R.q from rfl,e1];rfl) (show tl r.q=u.q by rw [← e2];rfl) h.rc.lq,
  k (show tl R.fr=u.fr by rw [← show (R.u rs).fr=tl R.fr from rfl,e1];rfl) (show tl r.fr=u.fr by rw [← e2];rfl) h.rc.lfr⟩
 have hp:R.port=(toR u).port:=by rw [← show (R.u rs).port=R.port from rfl,e1]
 have hl:u.port≤65535:=by rw [← show (r.u bs).port=u.port by rw [e2]];exact h.rc.lport
 rw [hp]
 unfold toR
 simp only
 split <;> omega
theorem Zu7 {u:U} (h:Wk u):ZrS (toR u):=by
 intro _
 have hl:=h.path
 rw [Zhc h]
 refine ⟨by omega,fun h0=>?_⟩
 obtain ⟨s1,s2⟩:=ZeV (ZaU u)
 rw [← s1] at h0
 have hs:=ZmB h0
 rw [s2 h0]
 refine ⟨(ZrL (ZaU u) (by omega)).host,?_⟩
 unfold toR
 simp only
 split
 ·next hp=>have:=(hs.st.sd.port hp).1;omega
 ·omega
theorem Zu8 {u:U} (h:Wk u) {a0 a1 a2 a3 a4 a5 a6 a7 a8 a9 a10:ByteArray} {e:Ending} (he:ZvX e (toR u)) (h0:tl a0=Zl1 u) (h1:tl a1=Zb5 u) (h2:tl a2=Zch u) (h3:tl a3=u.nam) (h4:tl a4=u.pw) (h5:tl a5=Zbt u) (h6:tl a6=u.host) (h7:tl a7=ZbP u) (h8:tl a8=ZaU u) (h9:tl a9=Zjt u) (h10:tl a10=Zsv u):
  e=.returned (.agg #[.string a0,.string a1,.string a2,.string a3,.string a4,.string a5,.string a6,.string a7,.string a8,.string a9,.string a10]):=by
 obtain ⟨t0,t1,t2,t3,t4,t5,t6,t7,t8,t9,t10,rfl,k0,k1,k2,k3,k4,k5,k6,k7,k8,k9,k10⟩:=he
 rw [Ztt h] at k0
 rw [Zpa h] at k1
 rw [ZfW h.port] at k5
 rw [Ztr h.port] at k7
 rw [Zhc h] at k8
 rw [Zdn (k0.trans h0.symm),Zdn (k1.trans h1.symm),Zdn (k2.trans h2.symm),Zdn (k3.trans h3.symm),Zdn (k4.trans h4.symm),Zdn (k5.trans h5.symm),Zdn (k6.trans h6.symm),Zdn (k7.trans h7.symm),Zdn (k8.trans h8.symm),Zdn (k9.trans h9.symm),Zdn (k10.trans h10.symm)]
set_option maxHeartbeats 8000000 in
theorem Zj0 (pb:Nat) (r:Rc) (u:U) (bs:List ByteArray) (w:World) (h0:UrlB w pb r) (h:RcIs w r u bs) (ht:Tb w) (hpl:u.sch=[98,108,111,98]→(ZaU u).length≤9000):
  Calls Tryz.prog 53 #[.pointer (some ⟨pb,0,none⟩)] w fun e w'=>∃ t:ByteArray,e=.returned (.string t)∧tl t=Zb5 u∧Nx w w':=by
 have HRC:=Za h
 have HTB:=Za ht
 have HPL:=Za hpl
 obtain ⟨a0,a1,a2,a3,a4,a5,a6,a7,a8,a9,a10,a11,a12,a13⟩:=h0.cells
 clear h ht h0 hpl
 go_enter Tryz.func53,Tryz.ntmps53
 go_wp2_with fail
 refine (Zi4 r u bs _ HRC.out HTB.out HPL.out).mono ?_
 rintro e w1 ⟨t,rfl,ht,-,hn⟩
 have HT:=Za ht
 have HN:=Za hn
 clear ht hn a0 a1 a2 a3 a4 a5 a6 a7 a8 a9 a10 a11 a12 a13
 go_wp2
 go_ret
 exact ⟨t,rfl,HT.out,HN.out⟩
set_option maxRecDepth 8000 in
set_option maxHeartbeats 16000000 in
theorem ZtM (pp pb ub rb:Nat) (r:Rc) (u:U) (bs:List ByteArray) (R:RR) (rs:List ByteArray) (v:Value) (ps:List Pq) (w:World) (hp:PairB w pp pb ub) (hb:Both w u pb ub rb r bs R rs v ps) (ht:Tb w):
  Calls Tryz.prog 28 #[.pointer (some ⟨pp,0,none⟩)] w fun e w'=>e=.returned (.bool true)∧Nx w w':=by
 have HP:=Za hp
 have HB:=Za hb
 have HTB:=Za ht
 have HRL:=Za hb.rl
 have HBO:=Za (Zu7 hb.wk)
 have HPL:=Za hb.wk.path
 have HST:=Za hb.wk
 obtain ⟨p0,p1⟩:=hp.cells
 clear hp hb ht
 go_enter Tryz.func28,Tryz.ntmps28
 go_wp2_with fail
 refine (Zu6 pb r u bs _ HB.out.url HB.out.rc HTB.out (fun _=>HPL.out)).mono ?_
 rintro e w1 ⟨⟨a0,a1,a2,a3,a4,a5,a6,a7,a8,a9,a10,rfl,g0,g1,g2,g3,g4,g5,g6,g7,g8,g9,g10,-,-⟩,hn1⟩
 have HG:Hid (∀ e,ZvX e (toR u)→e=.returned (.agg #[.string a0,.string a1,.string a2,.string a3,.string a4,.string a5,.string a6,.string a7,.string a8,.string a9,.string a10])):=Za (fun e he=>Zu8 HST.out he g0 g1 g2 g3 g4 g5 g6 g7 g8 g9 g10)
 have G0:=Za g0
 have G1:=Za g1
 have HN1:=Za hn1
 obtain ⟨p01,p11⟩:=(HP.out.on (hn1.alloc (Obj.cells #[.string a0,.string a1,.string a2,.string a3,.string a4,.string a5,.string a6,.string a7,.string a8,.string a9,.string a10] 34))).cells
 clear g0 g1 g2 g3 g4 g5 g6 g7 g8 g9 g10 hn1 p0 p1
 go_wp2_with fail
 refine (ZtJ ub rb v R (toR u) rs _ (HB.out.ref.on (HN1.out.alloc _)) (HB.out.rcd.on (HN1.out.alloc _)) (HB.out.ris.on (HN1.out.alloc _)) HRL.out HBO.out).mono ?_
 rintro e w2 ⟨ha,hn2⟩
 obtain rfl:=HG.out e ha
 have HA2:Hid (C11 w2 w1.heap.size (.string a0) (.string a1) (.string a2) (.string a3) (.string a4) (.string a5) (.string a6) (.string a7) (.string a8) (.string a9) (.string a10)):=Za ((show C11 (w1.alloc (Obj.cells #[.string a0,.string a1,.string a2,.string a3,.string a4,.string a5,.string a6,.string a7,.string a8,.string a9,.string a10] 34)) w1.heap.size (.string a0) (.string a1) (.string a2) (.string a3) (.string a4) (.string a5) (.string a6) (.string a7) (.string a8) (.string a9) (.string a10) from heap_alloc_new w1 _).on hn2)
 have HN2:=Za (show Nx w w2 from (HN1.out.alloc _).then hn2)
 obtain ⟨p02,p12⟩:=(HP.out.on (HN2.out.alloc (Obj.cells #[.string a0,.string a1,.string a2,.string a3,.string a4,.string a5,.string a6,.string a7,.string a8,.string a9,.string a10] 34))).cells
 clear ha hn2 p01 p11 HG
 go_wp2_with fail
 refine (Zmq pb r u bs _ (HB.out.url.on (HN2.out.alloc _)) (HB.out.rc.on (HN2.out.alloc _)) (HTB.out.on (HN2.out.alloc _))).mono ?_
 rintro e w3 ⟨t,rfl,ht,hn3⟩
 obtain rfl:=Zdn (ht.trans G0.out.symm)
 have HA3:=Za ((HA2.out.on (Nx.rfl.alloc _)).on hn3)
 have HC3:Hid (C11 w3 w2.heap.size (.string t) (.string a1) (.string a2) (.string a3) (.string a4) (.string a5) (.string a6) (.string a7) (.string a8) (.string a9) (.string a10)):=Za ((show C11 (w2.alloc (Obj.cells #[.string t,.string a1,.string a2,.string a3,.string a4,.string a5,.string a6,.string a7,.string a8,.string a9,.string a10] 34)) w2.heap.size (.string t) (.string a1) (.string a2) (.string a3) (.string a4) (.string a5) (.string a6) (.string a7) (.string a8) (.string a9) (.string a10) from heap_alloc_new w2 _).on hn3)
 have HN3:=Za (show Nx w w3 from (HN2.out.alloc _).then hn3)
 obtain ⟨p03,p13⟩:=(HP.out.on HN3.out).cells
 clear ht hn3 p02 p12
 go_wp2_with fail
 refine (Zj0 pb r u bs _ (HB.out.url.on HN3.out) (HB.out.rc.on HN3.out) (HTB.out.on HN3.out) (fun _=>HPL.out)).mono ?_
 rintro e w4 ⟨t1,rfl,ht1,hn4⟩
 obtain rfl:=Zdn (ht1.trans G1.out.symm)
 obtain ⟨x0,x1,x2,x3,x4,x5,x6,x7,x8,x9,x10⟩:=(HA3.out.on hn4).cells
 obtain ⟨y0,y1,y2,y3,y4,y5,y6,y7,y8,y9,y10⟩:=(HC3.out.on hn4).cells
 have HN4:=Za (HN3.out.then hn4)
 clear ht1 hn4 p03 p13
 go_wp2
 go_ret
 exact ⟨rfl,HN4.out⟩
theorem Zjc (ps:List (List UInt8)):ps.length≤pl ps:=by
 induction ps with
 | nil=>exact Nat.zero_le _
 | cons s r ih=>
  have h1:=ZnZ [s] r
  have h2:=ZrD s
  rw [show [s]++r=s :: r from rfl] at h1
  rw [List.length_cons]
  omega
theorem Zu9 {u:U} (h:Wk u) {n:Nat} (hl:(ZaU u).length≤n):u.segs.length≤n:=by
 cases ho:u.op
 ·have h1:=Zjc u.segs
  unfold ZaU at hl
  rw [ho,if_neg (by decide)] at hl
  unfold pl at h1
  omega
 ·rw [(h.opq ho).1];exact Nat.zero_le _
theorem Zlq (l:List UInt8) (hl:l.length≤160):(ZbA l).1.segs.length≤70000:=by
 have h1:=Zgt l (base:=zeroU) (B:=0) (ZbS 0)
 have h2:=Zjc (ZbA l).1.segs
 have h3:pl (ZbA l).1.segs≤0 + 27 * l.length + 2:=h1.s
 omega
theorem Both.len {w:World} {u:U} {pb ub rb:Nat} {r:Rc} {bs:List ByteArray} {R:RR} {rs:List ByteArray} {v:Value} {ps:List Pq} (h:Both w u pb ub rb r bs R rs v ps):bs.length≤9000:=by
 have h1:=Zu9 h.wk h.wk.path
 have h2:u.segs.length=bs.length:=by rw [← h.rc.segs,List.length_map]
 omega
def ZrZ (e:Ending) (w w':World) (x:U × Int):Prop:=
 (x.2≠0∧e=.returned (.tuple #[.pointer none,.bool true])∧Nx w w') ∨
 (x.2=0∧∃ pp pb ub rb r bs R rs v ps,e=.returned (.tuple #[.pointer (some ⟨pp,0,none⟩),.bool true])∧PairB w' pp pb ub∧Both w' x.1 pb ub rb r bs R rs v ps∧w.heap.size≤pp∧w.heap.size≤pb∧w.heap.size≤ub∧w.heap.size≤rb∧Nx w w')
theorem ZtN (w:World) (pb ub:Nat):PairB (w.alloc (Obj.cells #[.pointer (some ⟨pb,0,none⟩),.pointer (some ⟨ub,0,none⟩)] 68)) w.heap.size pb ub:=heap_alloc_new w _
set_option maxRecDepth 8000 in
set_option maxHeartbeats 8000000 in
theorem ZmJ (s base:ByteArray) (based:Bool) (w:World) (hs:s.size≤maxLen) (hb:base.size≤maxLen) (ht:Tb w):
  Calls Tryz.prog 27 #[.string s,.string base,.bool based] w fun e w'=>ZrZ e w w' (Zcp (tl s) (tl base) based):=by
 have HTB:=Za ht
 have HSM:=Za (Ztw (tl s) (tl base) based)
 have HQL:Hid ((Zie (tl s) (tl base) based).2=0→(Zie (tl s) (tl base) based).1.q.length≤90000):=Za (fun h0=>by
  obtain ⟨s1,s2⟩:=HSM.out
  rw [s2 (s1.trans h0)]
  have:=(ZtE (tl s) (tl base) based).q
  show (Zcp (tl s) (tl base) based).1.q.length≤90000
  omega)
 have HZP:Hid (base.size≤160→(parseR (tl base) none).2=0→(parseR (tl base) none).1.path.length≤70000):=Za (fun hb h0=>by
  obtain ⟨s1,s2⟩:=ZeV (tl base)
  rw [s2 (s1.trans h0)]
  exact Zlq (tl base) (by rw [tl_length];exact hb))
 have HST:Hid ((Zcp (tl s) (tl base) based).2=0→St (Zcp (tl s) (tl base) based).1):=Za (fun h=>Zto (tl s) (tl base) based h)
 have HPM:=Za (ZtB (tl s) (tl base) based)
 have HHM:=Za (ZtE (tl s) (tl base) based).q
 have HNR:=Za (ZtL s base based · hs hb HQL.out HZP.out)
 clear ht
 go_enter Tryz.func27,Tryz.ntmps27
 go_wp2_with fail
 refine (Zps s base based _ hs hb HTB.out).mono ?_
 rintro e w1 ⟨hp,hn1⟩
 have HN1:=Za hn1
 clear HQL HZP hn1
 generalize hpx:Zcp (tl s) (tl base) based=x at *
 have HX:=Za hpx
 clear hpx
 obtain ⟨u,err⟩:=x
 generalize Zie (tl s) (tl base) based=y at *
 obtain ⟨m,err2⟩:=y
 obtain ⟨he12,hm⟩:=HSM.out
 simp only at he12 hm
 subst he12
 simp only at HST HPM HHM
 clear HSM
 rcases hp with ⟨he,rfl⟩ | ⟨he,pb,r,bs,rfl,hu,hr,hpb⟩
 ·go_wp2_with fail
  refine (HNR.out _).mono ?_
  rintro e w2 hx
  rcases hx with ⟨-,rfl,hn2⟩ | ⟨h0,-⟩
  ·have HN2:=Za (HN1.out.then hn2)
   have he1:(err != err)=false:=by simp
   have he2:(err != 0)=true:=bne_iff_ne.2 he
   have HER:=Za he
   clear hn2 he
   go_wp2
   go_ret2
   rw [HX.out]
   exact Or.inl ⟨HER.out,rfl,HN2.out⟩
  ·exact absurd h0 he
 ·simp only at he
  subst he
  have hme:=hm rfl
  have HUB:=Za hu
  replace hr:RcIs w1 r u bs:=hr
  have HRC:=Za hr
  have HPB:=Za hpb
  clear hm hu hr hpb
  go_wp2_with fail
  refine (HNR.out _).mono ?_
  rintro e w2 hx
  rcases hx with ⟨h0,-⟩ | ⟨-,ub,rb,R,rs,v,ps,rfl,hU,hRB,hRI,hpl,hps,hub,hrb,hn2⟩
  ·exact absurd rfl h0
  ·replace hRI:RIs w2 R m rs:=hRI
   replace hps:ps.map tl2=ZjY m:=hps
   rw [hme] at hRI hps
   have hst:=(HST.out (by trivial)).st
   have hwk:=St'.wk hst (by have:=HPM.out;omega) (by have:=HHM.out;omega)
   rw [ZrC hwk] at hps
   have HBO:=Za (show Both w2 u pb ub rb r bs R rs v ps from ⟨HUB.out.on hn2,HRC.out.on hn2,hU,hRB,hRI,hpl,hps,hwk⟩)
   have HN2:=Za (HN1.out.then hn2)
   have HZ:=Za (show w.heap.size≤pb∧w.heap.size≤ub∧w.heap.size≤rb from ⟨HPB.out,Nat.le_trans HN1.out.size hub,Nat.le_trans HN1.out.size hrb⟩)
   clear hU hRB hRI hpl hps hub hrb hn2 hst hwk hme HUB HRC HST HPM HHM HNR HPB
   go_wp2
   go_ret2
   rw [HX.out]
   exact Or.inr ⟨rfl,w2.heap.size,pb,ub,rb,r,bs,R,rs,v,ps,rfl,ZtN w2 pb ub,HBO.out.on (Nx.rfl.alloc _),HN2.out.size,HZ.out.1,HZ.out.2.1,HZ.out.2.2,HN2.out.alloc _⟩
set_option maxRecDepth 8000 in
set_option maxHeartbeats 8000000 in
theorem Zjd (s base:ByteArray) (based:Bool) (w:World) (hs:s.size≤maxLen) (hb:base.size≤maxLen) (ht:Tb w):
  Calls Tryz.prog 16 #[.string s,.string base,.bool based] w fun e w'=>ZrZ e w w' (Zcp (tl s) (tl base) based):=by
 have HTB:=Za ht
 clear ht
 go_enter Tryz.func16,Tryz.ntmps16
 go_wp2_with fail
 refine (ZmJ s base based _ hs hb HTB.out).mono ?_
 rintro e w1 hp
 rcases hp with ⟨he,rfl,hn⟩ | ⟨he,pp,pb,ub,rb,r,bs,R,rs,v,ps,rfl,hP,hB,h1,h2,h3,h4,hn⟩
 ·have HN:=Za hn
  have HER:=Za he
  clear he hn
  go_wp2
  go_ret2
  exact Or.inl ⟨HER.out,rfl,HN.out⟩
 ·have HER:=Za he
  have HP:=Za hP
  have HB:=Za hB
  have HZ:=Za (show w.heap.size≤pp∧w.heap.size≤pb∧w.heap.size≤ub∧w.heap.size≤rb from ⟨h1,h2,h3,h4⟩)
  have HN:=Za hn
  clear he hP hB h1 h2 h3 h4 hn
  go_wp2_with fail
  refine (ZtM pp pb ub rb r _ bs R rs v ps _ HP.out HB.out (HTB.out.on HN.out)).mono ?_
  rintro e w2 ⟨rfl,hn2⟩
  have HN2:=Za hn2
  clear hn2
  go_wp2
  go_ret2
  exact Or.inr ⟨HER.out,pp,pb,ub,rb,r,bs,R,rs,v,ps,rfl,HP.out.on HN2.out,HB.out.on HN2.out,HZ.out.1,HZ.out.2.1,HZ.out.2.2.1,HZ.out.2.2.2,HN.out.then HN2.out⟩
theorem Zlr (s t:ByteArray) (w:World) (hs:s.size≤maxLen) (ht:t.size≤maxLen):
  Calls Tryz.prog 15 #[.string s,.string t] w fun e w'=>e=.returned (.bool (decide (65536 < s.size) || decide (65536 < t.size)))∧w=w':=by
 unfold maxLen at hs ht
 by_cases h1:65536 < s.size
 ·go_enter Tryz.func15,Tryz.ntmps15
  go_wp2
  go_ret
  exact ⟨by simp,rfl⟩
 ·by_cases h2:65536 < t.size
  ·go_enter Tryz.func15,Tryz.ntmps15
   go_wp2
   go_ret
   exact ⟨by simp [h2];omega,rfl⟩
  ·go_enter Tryz.func15,Tryz.ntmps15
   go_wp2
   go_ret
   exact ⟨by simp [h1,h2];omega,rfl⟩
theorem Zpt (s:ByteArray) (w:World) (hs:s.size≤maxLen) (ht:Tb w):
  Calls Tryz.prog 3 #[.string s] w fun e w'=>e=.returned (.bool true)∧Nx w w':=by
 have HTB:=Za ht
 clear ht
 go_enter Tryz.func3,Tryz.ntmps3
 go_wp2_with fail
 refine (Zlr s ⟨#[]⟩ _ hs (Zd (by decide))).mono ?_
 rintro e w' ⟨rfl,rfl⟩
 generalize (decide (65536 < s.size) || decide (65536 < (⟨#[]⟩:ByteArray).size))=b
 cases b
 ·go_wp2_with fail
  refine (Zjd s ⟨#[]⟩ false _ hs (Zd (by decide)) HTB.out).mono ?_
  rintro e w1 hp
  rcases hp with ⟨-,rfl,hn⟩ | ⟨-,pp,pb,ub,rb,r,bs,R,rs,v,ps,rfl,-,-,-,-,-,-,hn⟩
  all_goals have HN:=Za hn
  all_goals clear hn
  all_goals go_wp2
  all_goals go_ret
  all_goals exact ⟨rfl,HN.out⟩
 ·go_wp2
  go_ret
  exact ⟨rfl,Nx.rfl⟩
theorem ZmK (s base:ByteArray) (w:World) (hs:s.size≤maxLen) (hb:base.size≤maxLen) (ht:Tb w):
  Calls Tryz.prog 8 #[.string s,.string base] w fun e w'=>e=.returned (.bool true)∧Nx w w':=by
 have HTB:=Za ht
 clear ht
 go_enter Tryz.func8,Tryz.ntmps8
 go_wp2_with fail
 refine (Zlr s base _ hs hb).mono ?_
 rintro e w' ⟨rfl,rfl⟩
 generalize (decide (65536 < s.size) || decide (65536 < base.size))=b
 cases b
 ·go_wp2_with fail
  refine (Zjd s base true _ hs hb HTB.out).mono ?_
  rintro e w1 hp
  rcases hp with ⟨-,rfl,hn⟩ | ⟨-,pp,pb,ub,rb,r,bs,R,rs,v,ps,rfl,-,-,-,-,-,-,hn⟩
  all_goals have HN:=Za hn
  all_goals clear hn
  all_goals go_wp2
  all_goals go_ret
  all_goals exact ⟨rfl,HN.out⟩
 ·go_wp2
  go_ret
  exact ⟨rfl,Nx.rfl⟩
end Go.Proofs.YtchkhibgbnhjpaaGreatDoor
