import Derived.Test.YtchkhibgbnhjpabGreatDoorV13
open Array renaming getElem?_eq_some_iff→Xb
open Nat renaming le_refl→Xa
namespace Go.Proofs.YtchkhibgbnhjpabGreatDoor
open Go.RowKit
set_option maxHeartbeats 16000000
theorem ZeZ(n:Int)(l:LB):(bcutLast n l).1.length≤l.length∧(bcutLast n l).2.1.length≤l.length:=by
 induction l with
 | nil=>simp[bcutLast]
 | cons c r ih=>
  rw[bcutLast]
  split
  ·simp only[List.length_cons];omega
  ·split
   ·simp
   ·simp
def Zgn(l:List UInt8):List UInt8:=encB (tl (ZaN 5)) (clean l)
def ZbR(p:U×Int)(sch behind:List UInt8)(b:Bool):U×Int:=
 if p.2≠0 then(zeroU,p.2)else if b=true then({ p.1 with segs:=Zbg behind sch },0)else(p.1,0)
def Zs(u:U)(t:List UInt8):U×Int:=
 if(bcutLast 64 (bcut (slB (Zb u.sch)) t).1).2.2=true∧(bcutLast 64 (bcut (slB (Zb u.sch)) t).1).2.1=[]then(zeroU,2)
 else ZbR (ZP { u with nam:=Zgn (bcut (isB 58) (bcutLast 64 (bcut (slB (Zb u.sch)) t).1).1).1,pw:=Zgn (bcut (isB 58) (bcutLast 64 (bcut (slB (Zb u.sch)) t).1).1).2.1 } (bcutLast 64 (bcut (slB (Zb u.sch)) t).1).2.1)
  u.sch (bcut (slB (Zb u.sch)) t).2.1 (Zb u.sch||(bcut (slB (Zb u.sch)) t).2.2)
theorem ZbE(ru:Rc)(u:U)(bs:LA)(t:BA)(w:World)(h1:RcIs w ru u bs)(ht:Tb w)(hl:t.size≤30000):Calls Tryz.prog 228 #[.agg #[.string ru.sch,.string ru.nam,.string ru.pw,.bool ru.hh,.string ru.host,.bool ru.hp,.int .i64 (ru.port:Int),.bool ru.op,.string ru.opath,.slice ru.so ru.sn ru.sc,.bool ru.hq,.string ru.q,.bool ru.hf,.string ru.fr],.string t] w fun e w'=>Zfc e w' (Zs u (tl t)) (bs.length+30001)∧Nx w w':=by
 have HU:=Za h1;have HTB:=Za ht
 have HD:=Za (show Zs u (tl t)=if(bcutLast 64 (bcut (slB (Zb (tl ru.sch))) (tl t)).1).2.2=true∧(bcutLast 64 (bcut (slB (Zb (tl ru.sch))) (tl t)).1).2.1=[]then(zeroU,2)
  else ZbR (ZP { u with nam:=Zgn (bcut (isB 58) (bcutLast 64 (bcut (slB (Zb (tl ru.sch))) (tl t)).1).1).1,pw:=Zgn (bcut (isB 58) (bcutLast 64 (bcut (slB (Zb (tl ru.sch))) (tl t)).1).1).2.1 } (bcutLast 64 (bcut (slB (Zb (tl ru.sch))) (tl t)).1).2.1)
  (tl ru.sch) (bcut (slB (Zb (tl ru.sch))) (tl t)).2.1 (Zb (tl ru.sch)||(bcut (slB (Zb (tl ru.sch))) (tl t)).2.2)by rw[h1.usch];rfl)
 clear h1 ht;generalize hsp:Zb (tl ru.sch)=sp at *;have HSP:=Za hsp;clear hsp;have hc1:=Z8 (slB sp) (tl t)
 go_enter Tryz.func228,Tryz.ntmps228
 go_wp2_with (first|(go_at_call 189;refine(Z6 _ _).mono ?_;rintro e w' ⟨rfl,rfl⟩;rw[HSP.out])|fail)
 refine(Zci t sp _ (Zg (by omega))).mono ?_
 rintro e w1 ⟨⟨ah,be,rfl,hah,hbe⟩,hn1⟩;rw[←hah,←hbe]at HD hc1;rw[tl_length,tl_length,tl_length]at hc1
 have hal:ah.size≤30000:=by omega
 have hbl:be.size≤30000:=by omega
 obtain⟨g1,g2,g3⟩:=Zcb hn1;have HUB:=Za g1;have HZ:=Za g2;have HN:=Za g3;clear hah hbe hn1 g1 g2 g3 hc1;generalize (bcut (slB sp) (tl t)).2.2=sl at *;have hc2:=ZeZ 64 (tl ah);go_wp2_with fail
 refine(Zij ah 64 _ (Zg (by omega))).mono ?_
 rintro e w2 ⟨⟨us,pl,rfl,hus,hpl⟩,hn2⟩;rw[←hus,←hpl]at HD hc2;rw[tl_length,tl_length,tl_length]at hc2
 have hul:us.size≤30000:=by omega
 have hpll:pl.size≤30000:=by omega
 have HUB2:=Za (HUB.out.on hn2);have HZ2:=Za (HZ.out.on hn2);have HN2:=Za (HN.out.then hn2);clear hus hpl hn2 hc2 HUB HZ HN;generalize (bcutLast 64 (tl ah)).2.2=at_ at *
 by_cases hbad:at_=true∧pl.size=0
 ·have HE:=Za (HD.out.trans (if_pos ⟨hbad.1,Zz hbad.2⟩))
  obtain⟨rfl,hp0⟩:=hbad;have hp0':=Zf hp0;clear HD hp0;obtain⟨z0,z1,z2,z3,z4,z5,z6,z7,z8,z9,z10,z11,z12,z13⟩:=HZ2.out.cells;have zf0:=HZ2.out.free 0;have zf1:=HZ2.out.free 1;have zf2:=HZ2.out.free 2;have zf3:=HZ2.out.free 3;have zf4:=HZ2.out.free 4;have zf5:=HZ2.out.free 5;have zf6:=HZ2.out.free 6;have zf7:=HZ2.out.free 7;have zf8:=HZ2.out.free 8;have zf9:=HZ2.out.free 9;have zf10:=HZ2.out.free 10;have zf11:=HZ2.out.free 11;have zf12:=HZ2.out.free 12;have zf13:=HZ2.out.free 13;go_wp2
  refine Z9 (rb:=w.heap.size+1) Tryz.results228 rfl rfl (RecB.put HZ2.out _ _ _ _ _ _ _ _ _ _ _ _ _ _) rfl ⟨⟨rz,[],(by rw[HE.out];first|done|rfl),(by rw[HE.out];exact Zc6 _),by simp⟩,(Zd HN2.out (by omega) _ _ _ _ _ _ _ _ _ _ _ _ _ _)⟩
 ·have HD2:=Za (HD.out.trans (if_neg (fun h=>hbad ⟨h.1,by have:=congrArg List.length h.2;rw[tl_length]at this;simpa using this⟩)))
  clear HD
  have step:at_=false∨(at_=true∧pl.toList.isEmpty=false):=by
   cases at_
   ·exact Or.inl rfl
   ·exact Or.inr ⟨rfl,Ze (fun h=>hbad ⟨rfl,h⟩)⟩
  have STEP:=Za step;clear step hbad;have hc3:=Z8 (isB 58) (tl us)
  have main:Hid (∀(K:Ending→World→Prop),(∀(nm pw:BA) (c:Bool) (w3:World),nm.size≤30000→pw.size≤30000→tl nm=(bcut (isB 58) (tl us)).1→tl pw=(bcut (isB 58) (tl us)).2.1→Nx w2 w3→K (.returned (.tuple #[.string nm,.string pw,.bool c])) w3)→Calls Tryz.prog 141 #[.string us,.int .u8 58] w2 K):=Za (fun K hK=>(ZcN us 58 w2 (Zg (by omega))).mono (by
   rintro e w3 ⟨⟨a,b,rfl,ha,hb⟩,hn⟩;rw[←ha,←hb,tl_length,tl_length,tl_length]at hc3
   exact hK a b _ w3 (by omega) (by omega) ha hb hn))
  rcases STEP.out with rfl|⟨rfl,hp0'⟩
  ·go_wp2_with fail
   refine main.out _ ?_
   intro nm pw cb w3 hnl hpl hnm hpw hn3;rw[←hnm,←hpw]at HD2;have HUB3:=Za (HUB2.out.on hn3);have HZ3:=Za (HZ2.out.on hn3);have HN3:=Za (HN2.out.then hn3);clear hnm hpw hn3 main HUB2 HZ2 HN2 hc3;go_wp2_with fail
   refine(Zaw nm 5 _ (by omega)).mono ?_
   rintro e w4 ⟨en,rfl,hen,hn4⟩
   have hel:en.size≤300000:=by rw[←tl_length,hen];exact Zbc _ _ (by rw[tl_length];exact hnl)
   have HEN:=Za (show Zgn (tl nm)=tl en from hen.symm);have HUB4:=Za (HUB3.out.on hn4);have HZ4:=Za (HZ3.out.on hn4);have HN4:=Za (HN3.out.then hn4);clear hen hn4 HUB3 HZ3 HN3;rw[HEN.out]at HD2;obtain⟨a0,a1,a2,a3,a4,a5,a6,a7,a8,a9,a10,a11,a12,a13⟩:=HUB4.out.cells;have af1:=HUB4.out.free 1;go_wp2_with fail
   refine(Zaw pw 5 _ (by omega)).mono ?_
   rintro e w5 ⟨ep,rfl,hep,hn5⟩
   have hepl:ep.size≤300000:=by rw[←tl_length,hep];exact Zbc _ _ (by rw[tl_length];exact hpl)
   have HEP:=Za (show Zgn (tl pw)=tl ep from hep.symm);have HUB5:=Za ((HUB4.out.s1 en).on hn5)
   have HZ5:=Za ((HZ4.out.far (q:=w.heap.size) (by omega) 1 (.string en)).on hn5)
   have HN5:=Za (Nx.then (show Nx w _ from Below.setCell (p:=⟨w.heap.size,1,none⟩) HN4.out (Xa _) (.string en)) hn5);clear a0 a1 a2 a3 a4 a5 a6 a7 a8 a9 a10 a11 a12 a13 af1;clear hep hn5 HUB4 HZ4 HN4;rw[HEP.out]at HD2;obtain⟨a0,a1,a2,a3,a4,a5,a6,a7,a8,a9,a10,a11,a12,a13⟩:=HUB5.out.cells;have af2:=HUB5.out.free 2;have HUB6:=Za (HUB5.out.s2 ep)
   have HZ6:=Za (HZ5.out.far (q:=w.heap.size) (by omega) 2 (.string ep))
   have HN6:=Za (show Nx w (w5.setCell ⟨w.heap.size,2,none⟩ (.string ep))from Below.setCell (p:=⟨w.heap.size,2,none⟩) HN5.out (Xa _) (.string ep))
   have HRC:=Za (show RcIs (w5.setCell ⟨w.heap.size,2,none⟩ (.string ep)) { ru with nam:=en,pw:=ep } { u with nam:=tl en,pw:=tl ep } bs from { HU.out.on HN6.out with eq:=by rw[←HU.out.eq];rfl,lnam:=hel,lpw:=hepl })
   go_wp2_with fail
   refine(Zg0 { ru with nam:=en,pw:=ep } _ bs pl _ HRC.out (HTB.out.on HN6.out) hpll).mono ?_
   rintro e w7 ⟨⟨rp,ps,rfl,hrp,hpsl⟩,hn7⟩;have HUB7:=Za (HUB6.out.on hn7);have HZ7:=Za (HZ6.out.on hn7);have HN7:=Za (HN6.out.then hn7);have HP:=Za hrp;clear a0 a1 a2 a3 a4 a5 a6 a7 a8 a9 a10 a11 a12 a13 af2;clear hrp hn7 HUB5 HZ5 HN5 HUB6 HZ6 HN6 HRC;have hlz:w.heap.size+1<w7.heap.size:=(Xb.1 HZ7.out).1
   have hlu:w.heap.size<w7.heap.size:=by omega
   generalize ZP { u with nam:=tl en,pw:=tl ep } (tl pl)=pq at *
   obtain⟨pu,err⟩:=pq;simp only at HP
   have HPD:=Za (show ZbR (pu,err) (tl ru.sch) (tl be) (sp||sl)=if err≠0 then(zeroU,err)else if(sp||sl)=true then({ pu with segs:=Zbg (tl be) (tl ru.sch) },0)else(pu,0)from rfl)
   obtain⟨a0,a1,a2,a3,a4,a5,a6,a7,a8,a9,a10,a11,a12,a13⟩:=HUB7.out.cells;obtain⟨z0,z1,z2,z3,z4,z5,z6,z7,z8,z9,z10,z11,z12,z13⟩:=HZ7.out.cells;have zf0:=HZ7.out.free 0;have zf1:=HZ7.out.free 1;have zf2:=HZ7.out.free 2;have zf3:=HZ7.out.free 3;have zf4:=HZ7.out.free 4;have zf5:=HZ7.out.free 5;have zf6:=HZ7.out.free 6;have zf7:=HZ7.out.free 7;have zf8:=HZ7.out.free 8;have zf9:=HZ7.out.free 9;have zf10:=HZ7.out.free 10;have zf11:=HZ7.out.free 11;have zf12:=HZ7.out.free 12;have zf13:=HZ7.out.free 13
   by_cases he:err=0
   ·subst he
    have HD3:=Za (HD2.out.trans (HPD.out.trans (if_neg (by decide))))
    clear HD2 HPD
    by_cases hsl:(sp||sl)=true
    ·have HE:=Za (HD3.out.trans (if_pos hsl))
     clear HD3
     have two:sp=true∨(sp=false∧sl=true):=by
      cases sp
      ·exact Or.inr ⟨rfl,by simpa using hsl⟩
      ·exact Or.inl rfl
     clear hsl;rcases two with rfl|⟨rfl,rfl⟩
     ·go_wp2_with fail
      refine(ZaF be ru.sch _ (by omega)).mono ?_
      rintro e w8 ⟨v8,ds,rfl,ho,hds,hdl,hn8⟩;obtain⟨ao,n,cap,rfl⟩:=ZK ho;have HO:=Za (Za5 ho);have HDS:=Za hds
      have HSH:=Za (ZaO hds (Zaq (by rw[tl_length];exact hbl)))
      have HPB:=Za ((ZaS w7 rp).on hn8);have HZ8:=Za ((HZ7.out.on (Nx.rfl.alloc _)).on hn8);have HN8:=Za ((HN7.out.alloc _).then hn8);clear a0 a1 a2 a3 a4 a5 a6 a7 a8 a9 a10 a11 a12 a13 z0 z1 z2 z3 z4 z5 z6 z7 z8 z9 z10 z11 z12 z13 zf0 zf1 zf2 zf3 zf4 zf5 zf6 zf7 zf8 zf9 zf10 zf11 zf12 zf13;clear ho hds hn8;obtain⟨a0,a1,a2,a3,a4,a5,a6,a7,a8,a9,a10,a11,a12,a13⟩:=HPB.out.cells;have af9:=HPB.out.free 9;obtain⟨z0,z1,z2,z3,z4,z5,z6,z7,z8,z9,z10,z11,z12,z13⟩:=HZ8.out.cells;have zf0:=HZ8.out.free 0;have zf1:=HZ8.out.free 1;have zf2:=HZ8.out.free 2;have zf3:=HZ8.out.free 3;have zf4:=HZ8.out.free 4;have zf5:=HZ8.out.free 5;have zf6:=HZ8.out.free 6;have zf7:=HZ8.out.free 7;have zf8:=HZ8.out.free 8;have zf9:=HZ8.out.free 9;have zf10:=HZ8.out.free 10;have zf11:=HZ8.out.free 11;have zf12:=HZ8.out.free 12;have zf13:=HZ8.out.free 13;go_wp2
      refine Z9 (rb:=w.heap.size+1) Tryz.results228 rfl rfl (RecB.put (HZ8.out.far (by omega) 9 _) _ _ _ _ _ _ _ _ _ _ _ _ _ _) rfl ⟨⟨{ rp with so:=ao,sn:=n,sc:=cap },ds,(by rw[HE.out];first|done|rfl),?_,by omega⟩,(Zd (Below.setCell HN8.out (by show w.heap.size≤w7.heap.size;omega) _) (by omega) _ _ _ _ _ _ _ _ _ _ _ _ _ _)⟩
      exact { eq:=by rw[HE.out,←HP.out.eq];simp only[Rc.u];rw[HDS.out]
              seg:=HO.out.ks (Ks.then (Ks.then Ks.rfl (ZW HPB.out.ty (by decide) 9 _)) (Zq (HZ8.out.ty.set w7.heap.size 9 _) (by decide) _ _ _ _ _ _ _ _ _ _ _ _ _ _))
              lsch:=HP.out.lsch
              lnam:=HP.out.lnam
              lpw:=HP.out.lpw
              lhost:=HP.out.lhost
              lport:=HP.out.lport
              lopath:=HP.out.lopath
              lsegs:=by omega
              lseg:=HSH.out
              lq:=HP.out.lq
              lfr:=HP.out.lfr }
     ·go_wp2_with fail
      refine(ZaF be ru.sch _ (by omega)).mono ?_
      rintro e w8 ⟨v8,ds,rfl,ho,hds,hdl,hn8⟩;obtain⟨ao,n,cap,rfl⟩:=ZK ho;have HO:=Za (Za5 ho);have HDS:=Za hds
      have HSH:=Za (ZaO hds (Zaq (by rw[tl_length];exact hbl)))
      have HPB:=Za ((ZaS w7 rp).on hn8);have HZ8:=Za ((HZ7.out.on (Nx.rfl.alloc _)).on hn8);have HN8:=Za ((HN7.out.alloc _).then hn8);clear a0 a1 a2 a3 a4 a5 a6 a7 a8 a9 a10 a11 a12 a13 z0 z1 z2 z3 z4 z5 z6 z7 z8 z9 z10 z11 z12 z13 zf0 zf1 zf2 zf3 zf4 zf5 zf6 zf7 zf8 zf9 zf10 zf11 zf12 zf13;clear ho hds hn8;obtain⟨a0,a1,a2,a3,a4,a5,a6,a7,a8,a9,a10,a11,a12,a13⟩:=HPB.out.cells;have af9:=HPB.out.free 9;obtain⟨z0,z1,z2,z3,z4,z5,z6,z7,z8,z9,z10,z11,z12,z13⟩:=HZ8.out.cells;have zf0:=HZ8.out.free 0;have zf1:=HZ8.out.free 1;have zf2:=HZ8.out.free 2;have zf3:=HZ8.out.free 3;have zf4:=HZ8.out.free 4;have zf5:=HZ8.out.free 5;have zf6:=HZ8.out.free 6;have zf7:=HZ8.out.free 7;have zf8:=HZ8.out.free 8;have zf9:=HZ8.out.free 9;have zf10:=HZ8.out.free 10;have zf11:=HZ8.out.free 11;have zf12:=HZ8.out.free 12;have zf13:=HZ8.out.free 13;go_wp2
      refine Z9 (rb:=w.heap.size+1) Tryz.results228 rfl rfl (RecB.put (HZ8.out.far (by omega) 9 _) _ _ _ _ _ _ _ _ _ _ _ _ _ _) rfl ⟨⟨{ rp with so:=ao,sn:=n,sc:=cap },ds,(by rw[HE.out];first|done|rfl),?_,by omega⟩,(Zd (Below.setCell HN8.out (by show w.heap.size≤w7.heap.size;omega) _) (by omega) _ _ _ _ _ _ _ _ _ _ _ _ _ _)⟩
      exact { eq:=by rw[HE.out,←HP.out.eq];simp only[Rc.u];rw[HDS.out]
              seg:=HO.out.ks (Ks.then (Ks.then Ks.rfl (ZW HPB.out.ty (by decide) 9 _)) (Zq (HZ8.out.ty.set w7.heap.size 9 _) (by decide) _ _ _ _ _ _ _ _ _ _ _ _ _ _))
              lsch:=HP.out.lsch
              lnam:=HP.out.lnam
              lpw:=HP.out.lpw
              lhost:=HP.out.lhost
              lport:=HP.out.lport
              lopath:=HP.out.lopath
              lsegs:=by omega
              lseg:=HSH.out
              lq:=HP.out.lq
              lfr:=HP.out.lfr }
    ·have HE:=Za (HD3.out.trans (if_neg hsl))
     clear HD3
     obtain⟨rfl,rfl⟩:sp=false∧sl=false:=by cases sp<;>cases sl<;>simp_all
     clear hsl;go_wp2
     exact Z9 (rb:=w.heap.size+1) Tryz.results228 rfl rfl ((RecB.put HZ7.out _ _ _ _ _ _ _ _ _ _ _ _ _ _).on (Nx.rfl.alloc _)) rfl ⟨⟨rp,ps,(by rw[HE.out];first|done|rfl),(by rw[HE.out];exact HP.out.ks (Ks.then (Zq HZ7.out.ty (by decide) _ _ _ _ _ _ _ _ _ _ _ _ _ _) (Nx.ks (Nx.rfl.alloc _)))),by omega⟩,Nx.alloc (Zd HN7.out (by omega) _ _ _ _ _ _ _ _ _ _ _ _ _ _) _⟩
   ·have HE:=Za (HD2.out.trans (HPD.out.trans (if_pos he)))
    have he':(err != 0)=true:=Zd9 (beq_eq_false_iff_ne.2 he);clear HD2 HPD he;go_wp2
    exact Z9 (rb:=w.heap.size+1) Tryz.results228 rfl rfl ((RecB.put HZ7.out _ _ _ _ _ _ _ _ _ _ _ _ _ _).on (Nx.rfl.alloc _)) rfl ⟨⟨rz,[],(by rw[HE.out];first|done|rfl),(by rw[HE.out];exact Zc6 _),by simp⟩,Nx.alloc (Zd HN7.out (by omega) _ _ _ _ _ _ _ _ _ _ _ _ _ _) _⟩
  ·go_wp2_with fail
   refine main.out _ ?_
   intro nm pw cb w3 hnl hpl hnm hpw hn3;rw[←hnm,←hpw]at HD2;have HUB3:=Za (HUB2.out.on hn3);have HZ3:=Za (HZ2.out.on hn3);have HN3:=Za (HN2.out.then hn3);clear hnm hpw hn3 main HUB2 HZ2 HN2 hc3;go_wp2_with fail
   refine(Zaw nm 5 _ (by omega)).mono ?_
   rintro e w4 ⟨en,rfl,hen,hn4⟩
   have hel:en.size≤300000:=by rw[←tl_length,hen];exact Zbc _ _ (by rw[tl_length];exact hnl)
   have HEN:=Za (show Zgn (tl nm)=tl en from hen.symm);have HUB4:=Za (HUB3.out.on hn4);have HZ4:=Za (HZ3.out.on hn4);have HN4:=Za (HN3.out.then hn4);clear hen hn4 HUB3 HZ3 HN3;rw[HEN.out]at HD2;obtain⟨a0,a1,a2,a3,a4,a5,a6,a7,a8,a9,a10,a11,a12,a13⟩:=HUB4.out.cells;have af1:=HUB4.out.free 1;go_wp2_with fail
   refine(Zaw pw 5 _ (by omega)).mono ?_
   rintro e w5 ⟨ep,rfl,hep,hn5⟩
   have hepl:ep.size≤300000:=by rw[←tl_length,hep];exact Zbc _ _ (by rw[tl_length];exact hpl)
   have HEP:=Za (show Zgn (tl pw)=tl ep from hep.symm);have HUB5:=Za ((HUB4.out.s1 en).on hn5)
   have HZ5:=Za ((HZ4.out.far (q:=w.heap.size) (by omega) 1 (.string en)).on hn5)
   have HN5:=Za (Nx.then (show Nx w _ from Below.setCell (p:=⟨w.heap.size,1,none⟩) HN4.out (Xa _) (.string en)) hn5);clear a0 a1 a2 a3 a4 a5 a6 a7 a8 a9 a10 a11 a12 a13 af1;clear hep hn5 HUB4 HZ4 HN4;rw[HEP.out]at HD2;obtain⟨a0,a1,a2,a3,a4,a5,a6,a7,a8,a9,a10,a11,a12,a13⟩:=HUB5.out.cells;have af2:=HUB5.out.free 2;have HUB6:=Za (HUB5.out.s2 ep)
   have HZ6:=Za (HZ5.out.far (q:=w.heap.size) (by omega) 2 (.string ep))
   have HN6:=Za (show Nx w (w5.setCell ⟨w.heap.size,2,none⟩ (.string ep))from Below.setCell (p:=⟨w.heap.size,2,none⟩) HN5.out (Xa _) (.string ep))
   have HRC:=Za (show RcIs (w5.setCell ⟨w.heap.size,2,none⟩ (.string ep)) { ru with nam:=en,pw:=ep } { u with nam:=tl en,pw:=tl ep } bs from { HU.out.on HN6.out with eq:=by rw[←HU.out.eq];rfl,lnam:=hel,lpw:=hepl })
   go_wp2_with fail
   refine(Zg0 { ru with nam:=en,pw:=ep } _ bs pl _ HRC.out (HTB.out.on HN6.out) hpll).mono ?_
   rintro e w7 ⟨⟨rp,ps,rfl,hrp,hpsl⟩,hn7⟩;have HUB7:=Za (HUB6.out.on hn7);have HZ7:=Za (HZ6.out.on hn7);have HN7:=Za (HN6.out.then hn7);have HP:=Za hrp;clear a0 a1 a2 a3 a4 a5 a6 a7 a8 a9 a10 a11 a12 a13 af2;clear hrp hn7 HUB5 HZ5 HN5 HUB6 HZ6 HN6 HRC;have hlz:w.heap.size+1<w7.heap.size:=(Xb.1 HZ7.out).1
   have hlu:w.heap.size<w7.heap.size:=by omega
   generalize ZP { u with nam:=tl en,pw:=tl ep } (tl pl)=pq at *
   obtain⟨pu,err⟩:=pq;simp only at HP
   have HPD:=Za (show ZbR (pu,err) (tl ru.sch) (tl be) (sp||sl)=if err≠0 then(zeroU,err)else if(sp||sl)=true then({ pu with segs:=Zbg (tl be) (tl ru.sch) },0)else(pu,0)from rfl)
   obtain⟨a0,a1,a2,a3,a4,a5,a6,a7,a8,a9,a10,a11,a12,a13⟩:=HUB7.out.cells;obtain⟨z0,z1,z2,z3,z4,z5,z6,z7,z8,z9,z10,z11,z12,z13⟩:=HZ7.out.cells;have zf0:=HZ7.out.free 0;have zf1:=HZ7.out.free 1;have zf2:=HZ7.out.free 2;have zf3:=HZ7.out.free 3;have zf4:=HZ7.out.free 4;have zf5:=HZ7.out.free 5;have zf6:=HZ7.out.free 6;have zf7:=HZ7.out.free 7;have zf8:=HZ7.out.free 8;have zf9:=HZ7.out.free 9;have zf10:=HZ7.out.free 10;have zf11:=HZ7.out.free 11;have zf12:=HZ7.out.free 12;have zf13:=HZ7.out.free 13
   by_cases he:err=0
   ·subst he
    have HD3:=Za (HD2.out.trans (HPD.out.trans (if_neg (by decide))))
    clear HD2 HPD
    by_cases hsl:(sp||sl)=true
    ·have HE:=Za (HD3.out.trans (if_pos hsl))
     clear HD3
     have two:sp=true∨(sp=false∧sl=true):=by
      cases sp
      ·exact Or.inr ⟨rfl,by simpa using hsl⟩
      ·exact Or.inl rfl
     clear hsl;rcases two with rfl|⟨rfl,rfl⟩
     ·go_wp2_with fail
      refine(ZaF be ru.sch _ (by omega)).mono ?_
      rintro e w8 ⟨v8,ds,rfl,ho,hds,hdl,hn8⟩;obtain⟨ao,n,cap,rfl⟩:=ZK ho;have HO:=Za (Za5 ho);have HDS:=Za hds
      have HSH:=Za (ZaO hds (Zaq (by rw[tl_length];exact hbl)))
      have HPB:=Za ((ZaS w7 rp).on hn8);have HZ8:=Za ((HZ7.out.on (Nx.rfl.alloc _)).on hn8);have HN8:=Za ((HN7.out.alloc _).then hn8);clear a0 a1 a2 a3 a4 a5 a6 a7 a8 a9 a10 a11 a12 a13 z0 z1 z2 z3 z4 z5 z6 z7 z8 z9 z10 z11 z12 z13 zf0 zf1 zf2 zf3 zf4 zf5 zf6 zf7 zf8 zf9 zf10 zf11 zf12 zf13;clear ho hds hn8;obtain⟨a0,a1,a2,a3,a4,a5,a6,a7,a8,a9,a10,a11,a12,a13⟩:=HPB.out.cells;have af9:=HPB.out.free 9;obtain⟨z0,z1,z2,z3,z4,z5,z6,z7,z8,z9,z10,z11,z12,z13⟩:=HZ8.out.cells;have zf0:=HZ8.out.free 0;have zf1:=HZ8.out.free 1;have zf2:=HZ8.out.free 2;have zf3:=HZ8.out.free 3;have zf4:=HZ8.out.free 4;have zf5:=HZ8.out.free 5;have zf6:=HZ8.out.free 6;have zf7:=HZ8.out.free 7;have zf8:=HZ8.out.free 8;have zf9:=HZ8.out.free 9;have zf10:=HZ8.out.free 10;have zf11:=HZ8.out.free 11;have zf12:=HZ8.out.free 12;have zf13:=HZ8.out.free 13;go_wp2
      refine Z9 (rb:=w.heap.size+1) Tryz.results228 rfl rfl (RecB.put (HZ8.out.far (by omega) 9 _) _ _ _ _ _ _ _ _ _ _ _ _ _ _) rfl ⟨⟨{ rp with so:=ao,sn:=n,sc:=cap },ds,(by rw[HE.out];first|done|rfl),?_,by omega⟩,(Zd (Below.setCell HN8.out (by show w.heap.size≤w7.heap.size;omega) _) (by omega) _ _ _ _ _ _ _ _ _ _ _ _ _ _)⟩
      exact { eq:=by rw[HE.out,←HP.out.eq];simp only[Rc.u];rw[HDS.out]
              seg:=HO.out.ks (Ks.then (Ks.then Ks.rfl (ZW HPB.out.ty (by decide) 9 _)) (Zq (HZ8.out.ty.set w7.heap.size 9 _) (by decide) _ _ _ _ _ _ _ _ _ _ _ _ _ _))
              lsch:=HP.out.lsch
              lnam:=HP.out.lnam
              lpw:=HP.out.lpw
              lhost:=HP.out.lhost
              lport:=HP.out.lport
              lopath:=HP.out.lopath
              lsegs:=by omega
              lseg:=HSH.out
              lq:=HP.out.lq
              lfr:=HP.out.lfr }
     ·go_wp2_with fail
      refine(ZaF be ru.sch _ (by omega)).mono ?_
      rintro e w8 ⟨v8,ds,rfl,ho,hds,hdl,hn8⟩;obtain⟨ao,n,cap,rfl⟩:=ZK ho;have HO:=Za (Za5 ho);have HDS:=Za hds
      have HSH:=Za (ZaO hds (Zaq (by rw[tl_length];exact hbl)))
      have HPB:=Za ((ZaS w7 rp).on hn8);have HZ8:=Za ((HZ7.out.on (Nx.rfl.alloc _)).on hn8);have HN8:=Za ((HN7.out.alloc _).then hn8);clear a0 a1 a2 a3 a4 a5 a6 a7 a8 a9 a10 a11 a12 a13 z0 z1 z2 z3 z4 z5 z6 z7 z8 z9 z10 z11 z12 z13 zf0 zf1 zf2 zf3 zf4 zf5 zf6 zf7 zf8 zf9 zf10 zf11 zf12 zf13;clear ho hds hn8;obtain⟨a0,a1,a2,a3,a4,a5,a6,a7,a8,a9,a10,a11,a12,a13⟩:=HPB.out.cells;have af9:=HPB.out.free 9;obtain⟨z0,z1,z2,z3,z4,z5,z6,z7,z8,z9,z10,z11,z12,z13⟩:=HZ8.out.cells;have zf0:=HZ8.out.free 0;have zf1:=HZ8.out.free 1;have zf2:=HZ8.out.free 2;have zf3:=HZ8.out.free 3;have zf4:=HZ8.out.free 4;have zf5:=HZ8.out.free 5;have zf6:=HZ8.out.free 6;have zf7:=HZ8.out.free 7;have zf8:=HZ8.out.free 8;have zf9:=HZ8.out.free 9;have zf10:=HZ8.out.free 10;have zf11:=HZ8.out.free 11;have zf12:=HZ8.out.free 12;have zf13:=HZ8.out.free 13;go_wp2
      refine Z9 (rb:=w.heap.size+1) Tryz.results228 rfl rfl (RecB.put (HZ8.out.far (by omega) 9 _) _ _ _ _ _ _ _ _ _ _ _ _ _ _) rfl ⟨⟨{ rp with so:=ao,sn:=n,sc:=cap },ds,(by rw[HE.out];first|done|rfl),?_,by omega⟩,(Zd (Below.setCell HN8.out (by show w.heap.size≤w7.heap.size;omega) _) (by omega) _ _ _ _ _ _ _ _ _ _ _ _ _ _)⟩
      exact { eq:=by rw[HE.out,←HP.out.eq];simp only[Rc.u];rw[HDS.out]
              seg:=HO.out.ks (Ks.then (Ks.then Ks.rfl (ZW HPB.out.ty (by decide) 9 _)) (Zq (HZ8.out.ty.set w7.heap.size 9 _) (by decide) _ _ _ _ _ _ _ _ _ _ _ _ _ _))
              lsch:=HP.out.lsch
              lnam:=HP.out.lnam
              lpw:=HP.out.lpw
              lhost:=HP.out.lhost
              lport:=HP.out.lport
              lopath:=HP.out.lopath
              lsegs:=by omega
              lseg:=HSH.out
              lq:=HP.out.lq
              lfr:=HP.out.lfr }
    ·have HE:=Za (HD3.out.trans (if_neg hsl))
     clear HD3
     obtain⟨rfl,rfl⟩:sp=false∧sl=false:=by cases sp<;>cases sl<;>simp_all
     clear hsl;go_wp2
     exact Z9 (rb:=w.heap.size+1) Tryz.results228 rfl rfl ((RecB.put HZ7.out _ _ _ _ _ _ _ _ _ _ _ _ _ _).on (Nx.rfl.alloc _)) rfl ⟨⟨rp,ps,(by rw[HE.out];first|done|rfl),(by rw[HE.out];exact HP.out.ks (Ks.then (Zq HZ7.out.ty (by decide) _ _ _ _ _ _ _ _ _ _ _ _ _ _) (Nx.ks (Nx.rfl.alloc _)))),by omega⟩,Nx.alloc (Zd HN7.out (by omega) _ _ _ _ _ _ _ _ _ _ _ _ _ _) _⟩
   ·have HE:=Za (HD2.out.trans (HPD.out.trans (if_pos he)))
    have he':(err != 0)=true:=Zd9 (beq_eq_false_iff_ne.2 he);clear HD2 HPD he;go_wp2
    exact Z9 (rb:=w.heap.size+1) Tryz.results228 rfl rfl ((RecB.put HZ7.out _ _ _ _ _ _ _ _ _ _ _ _ _ _).on (Nx.rfl.alloc _)) rfl ⟨⟨rz,[],(by rw[HE.out];first|done|rfl),(by rw[HE.out];exact Zc6 _),by simp⟩,Nx.alloc (Zd HN7.out (by omega) _ _ _ _ _ _ _ _ _ _ _ _ _ _) _⟩
def kept(u base:U):U:={ u with nam:=base.nam,pw:=base.pw,hh:=base.hh,host:=base.host,hp:=base.hp,port:=base.port }
def ZV(u:U)(left:List UInt8)(base:U):U×Int:=
 if u.sch=Zw then Zcv u left base
 else if 1<countSl (Zb u.sch) left then Zs u (left.drop (if Zb u.sch=true then countSl (Zb u.sch) left else 2))
 else if countSl (Zb u.sch) left=1 then({ kept u base with segs:=Zbg (left.drop 1) u.sch },0)
 else(Zal (kept u base) left base,0)
theorem RcIs.kept{w:World}{ru rb:Rc}{u base:U}{bs cs:LA}(h1:RcIs w ru u bs)(h2:RcIs w rb base cs):RcIs w { ru with nam:=rb.nam,pw:=rb.pw,hh:=rb.hh,host:=rb.host,hp:=rb.hp,port:=rb.port } (kept u base) bs:=
 { h1 with eq:=by rw[←h1.eq,←h2.eq];rfl,lnam:=h2.lnam,lpw:=h2.lpw,lhost:=h2.lhost,lport:=h2.lport }
theorem Ze0(ru rb:Rc)(u base:U)(bs cs:LA)(left:BA)(w:World)(h1:RcIs w ru u bs)(h2:RcIs w rb base cs)(hcs:cs.length≤60000)(hbs:bs.length≤0)(hl:left.size≤30000)(ht:Tb w):Calls Tryz.prog 192 #[.agg #[.string ru.sch,.string ru.nam,.string ru.pw,.bool ru.hh,.string ru.host,.bool ru.hp,.int .i64 (ru.port:Int),.bool ru.op,.string ru.opath,.slice ru.so ru.sn ru.sc,.bool ru.hq,.string ru.q,.bool ru.hf,.string ru.fr],.string left,.agg #[.string rb.sch,.string rb.nam,.string rb.pw,.bool rb.hh,.string rb.host,.bool rb.hp,.int .i64 (rb.port:Int),.bool rb.op,.string rb.opath,.slice rb.so rb.sn rb.sc,.bool rb.hq,.string rb.q,.bool rb.hf,.string rb.fr]] w fun e w'=>Zfc e w' (ZV u (tl left) base) (cs.length+30002)∧Nx w w':=by
 have HU:=Za h1;have HBS:=Za h2;have HTB:=Za ht
 have HD:=Za (show ZV u (tl left) base=if tl ru.sch=Zw then Zcv u (tl left) base
  else if 1<countSl (Zb (tl ru.sch)) (tl left)then Zs u ((tl left).drop (if Zb (tl ru.sch)=true then countSl (Zb (tl ru.sch)) (tl left)else 2))
  else if countSl (Zb (tl ru.sch)) (tl left)=1 then({ kept u base with segs:=Zbg ((tl left).drop 1) (tl ru.sch) },0)
  else(Zal (kept u base) (tl left) base,0)by rw[h1.usch];rfl)
 clear h1 h2 ht
 by_cases hf:tl ru.sch=Zw
 ·have HE:=Za (HD.out.trans (if_pos hf))
  have hfe:=eqB hf;unfold Zw at hfe;clear HD hf
  go_enter Tryz.func192,Tryz.ntmps192
  go_wp2_with fail
  refine(ZiG ru rb u base bs cs left _ (HU.out.on (((Nx.rfl.alloc _).alloc _).alloc _)) (HBS.out.on (((Nx.rfl.alloc _).alloc _).alloc _)) hcs hl (HTB.out.on (((Nx.rfl.alloc _).alloc _).alloc _))).mono ?_
  rintro e w1 ⟨⟨r,ds,rfl,hr,hdl⟩,hn⟩;have HR:=Za hr;clear hr;obtain⟨g1,g2,g3,g4⟩:=ZX (ru:=ru) (Nx.then (show Nx _ _ from Nx.rfl) hn);have HUB:=Za g1;have HBB:=Za g2;have HZ:=Za g3;have HN:=Za g4;clear g1 g2 g3 g4 hn;obtain⟨z0,z1,z2,z3,z4,z5,z6,z7,z8,z9,z10,z11,z12,z13⟩:=HZ.out.cells;have zf0:=HZ.out.free 0;have zf1:=HZ.out.free 1;have zf2:=HZ.out.free 2;have zf3:=HZ.out.free 3;have zf4:=HZ.out.free 4;have zf5:=HZ.out.free 5;have zf6:=HZ.out.free 6;have zf7:=HZ.out.free 7;have zf8:=HZ.out.free 8;have zf9:=HZ.out.free 9;have zf10:=HZ.out.free 10;have zf11:=HZ.out.free 11;have zf12:=HZ.out.free 12;have zf13:=HZ.out.free 13;go_wp2
  exact Z9 (rb:=w.heap.size+1+1) Tryz.results192 rfl rfl (RecB.put HZ.out _ _ _ _ _ _ _ _ _ _ _ _ _ _) rfl ⟨⟨r,ds,(by rw[HE.out];first|done|rfl),(by rw[HE.out];exact HR.out.ks (Ks.then Ks.rfl (Zq HZ.out.ty (by decide) _ _ _ _ _ _ _ _ _ _ _ _ _ _))),by omega⟩,(Zd HN.out (by omega) _ _ _ _ _ _ _ _ _ _ _ _ _ _)⟩
 ·have HD2:=Za (HD.out.trans (if_neg hf))
  have hfe:=neB hf;unfold Zw at hfe;clear HD hf;generalize hsp:Zb (tl ru.sch)=sp at *;have HSP:=Za hsp;clear hsp;have hk:=Zdz sp (tl left);rw[tl_length]at hk;generalize hkk:countSl sp (tl left)=k at *;have HK:=Za hkk;clear hkk
  by_cases hk1:1<k
  ·have HD3:=Za (HD2.out.trans (if_pos hk1))
   have hki:1<(k:Int):=by omega
   have hl2:2≤left.size:=by omega
   clear HD2
   cases sp
   ·have HE:Hid (ZV u (tl left) base=Zs u ((tl left).drop 2)):=Za HD3.out
    have HFH:=Za (fun w1 (hn:Nx w w1)=>ZbE ru u bs (left.extract 2 left.size) w1 (HU.out.on hn) (HTB.out.on hn) (by rw[Zac];omega))
    rw[ZaE]at HFH;clear HD3
    go_enter Tryz.func192,Tryz.ntmps192
    go_wp2_with (first|(go_at_call 189;refine(Z6 _ _).mono ?_;rintro e w' ⟨rfl,rfl⟩;rw[HSP.out])|(go_at_call 226;refine(Zp _ _ _ (Zg (by omega))).mono ?_;rintro e w' ⟨rfl,rfl⟩;rw[HK.out]))
    go_region_with (go_at_call 228;refine(HFH.out _ (((Nx.rfl.alloc _).alloc _).alloc _).drew).mono ?_;rintro e w1 ⟨⟨r,ds,rfl,hr,hdl⟩,hn⟩;have HR:=Za hr;clear hr;obtain⟨g1,g2,g3,g4⟩:=ZX (ru:=ru) (Nx.then (show Nx _ _ from Nx.rfl.drew) hn);have HUB:=Za g1;have HBB:=Za g2;have HZ:=Za g3;have HN:=Za g4;clear g1 g2 g3 g4 hn;obtain⟨z0,z1,z2,z3,z4,z5,z6,z7,z8,z9,z10,z11,z12,z13⟩:=HZ.out.cells;have zf0:=HZ.out.free 0;have zf1:=HZ.out.free 1;have zf2:=HZ.out.free 2;have zf3:=HZ.out.free 3;have zf4:=HZ.out.free 4;have zf5:=HZ.out.free 5;have zf6:=HZ.out.free 6;have zf7:=HZ.out.free 7;have zf8:=HZ.out.free 8;have zf9:=HZ.out.free 9;have zf10:=HZ.out.free 10;have zf11:=HZ.out.free 11;have zf12:=HZ.out.free 12;have zf13:=HZ.out.free 13)
    all_goals go_wp2
    all_goals exact Z9 (rb:=w.heap.size+1+1) Tryz.results192 rfl rfl (RecB.put HZ.out _ _ _ _ _ _ _ _ _ _ _ _ _ _) rfl ⟨⟨r,ds,(by rw[HE.out];first|done|rfl),(by rw[HE.out];exact HR.out.ks (Ks.then Ks.rfl (Zq HZ.out.ty (by decide) _ _ _ _ _ _ _ _ _ _ _ _ _ _))),by omega⟩,(Zd HN.out (by omega) _ _ _ _ _ _ _ _ _ _ _ _ _ _)⟩
   ·have HE:Hid (ZV u (tl left) base=Zs u ((tl left).drop k)):=Za HD3.out
    have HFH:=Za (fun w1 (hn:Nx w w1)=>ZbE ru u bs (left.extract k left.size) w1 (HU.out.on hn) (HTB.out.on hn) (by rw[Zac];omega))
    rw[ZaE]at HFH;clear HD3
    go_enter Tryz.func192,Tryz.ntmps192
    go_wp2_with (first|(go_at_call 189;refine(Z6 _ _).mono ?_;rintro e w' ⟨rfl,rfl⟩;rw[HSP.out])|(go_at_call 226;refine(Zp _ _ _ (Zg (by omega))).mono ?_;rintro e w' ⟨rfl,rfl⟩;rw[HK.out]))
    go_region_with (go_at_call 228;refine(HFH.out _ (((Nx.rfl.alloc _).alloc _).alloc _).drew).mono ?_;rintro e w1 ⟨⟨r,ds,rfl,hr,hdl⟩,hn⟩;have HR:=Za hr;clear hr;obtain⟨g1,g2,g3,g4⟩:=ZX (ru:=ru) (Nx.then (show Nx _ _ from Nx.rfl.drew) hn);have HUB:=Za g1;have HBB:=Za g2;have HZ:=Za g3;have HN:=Za g4;clear g1 g2 g3 g4 hn;obtain⟨z0,z1,z2,z3,z4,z5,z6,z7,z8,z9,z10,z11,z12,z13⟩:=HZ.out.cells;have zf0:=HZ.out.free 0;have zf1:=HZ.out.free 1;have zf2:=HZ.out.free 2;have zf3:=HZ.out.free 3;have zf4:=HZ.out.free 4;have zf5:=HZ.out.free 5;have zf6:=HZ.out.free 6;have zf7:=HZ.out.free 7;have zf8:=HZ.out.free 8;have zf9:=HZ.out.free 9;have zf10:=HZ.out.free 10;have zf11:=HZ.out.free 11;have zf12:=HZ.out.free 12;have zf13:=HZ.out.free 13)
    all_goals go_wp2
    all_goals exact Z9 (rb:=w.heap.size+1+1) Tryz.results192 rfl rfl (RecB.put HZ.out _ _ _ _ _ _ _ _ _ _ _ _ _ _) rfl ⟨⟨r,ds,(by rw[HE.out];first|done|rfl),(by rw[HE.out];exact HR.out.ks (Ks.then Ks.rfl (Zq HZ.out.ty (by decide) _ _ _ _ _ _ _ _ _ _ _ _ _ _))),by omega⟩,(Zd HN.out (by omega) _ _ _ _ _ _ _ _ _ _ _ _ _ _)⟩
  ·have HD3:=Za (HD2.out.trans (if_neg hk1))
   have hki:(k:Int)≤1:=by omega
   clear HD2
   by_cases hke:k=1
   ·have HE:=Za (HD3.out.trans (if_pos hke))
    have hkb:((k:Int)==1)=true:=by rw[hke];rfl
    have hl1:1≤left.size:=by omega
    have HPR:=Za (fun w1=>ZaF (left.extract 1 left.size) ru.sch w1 (by rw[Zac];omega))
    rw[ZaE]at HPR;clear HD3 hke
    go_enter Tryz.func192,Tryz.ntmps192
    go_wp2_with (first|(go_at_call 189;refine(Z6 _ _).mono ?_;rintro e w' ⟨rfl,rfl⟩;rw[HSP.out])|(go_at_call 226;refine(Zp _ _ _ (Zg (by omega))).mono ?_;rintro e w' ⟨rfl,rfl⟩;rw[HK.out]))
    go_region_with (go_at_call 227;refine(HPR.out _).mono ?_;rintro e w1 ⟨v3,ds,rfl,ho,hds,hdl,hn⟩;obtain⟨ao,n,cap,rfl⟩:=ZK ho;have HO:=Za (Za5 ho);have HDS:=Za hds;have HSH:=Za (ZaO hds (Zaq (by rw[List.length_drop,tl_length];omega)));rw[Zac]at hdl;clear ho hds;obtain⟨g1,g2,g3,g4⟩:=ZX (ru:={ ru with nam:=rb.nam,pw:=rb.pw,hh:=rb.hh,host:=rb.host,hp:=rb.hp,port:=rb.port }) (Nx.then (show Nx _ _ from Nx.rfl.drew) hn);have HUB:=Za g1;have HBB:=Za g2;have HZ:=Za g3;have HN:=Za g4;clear g1 g2 g3 g4 hn;obtain⟨a0,a1,a2,a3,a4,a5,a6,a7,a8,a9,a10,a11,a12,a13⟩:=HUB.out.cells;have af9:=HUB.out.free 9;obtain⟨z0,z1,z2,z3,z4,z5,z6,z7,z8,z9,z10,z11,z12,z13⟩:=HZ.out.cells;have zf0:=HZ.out.free 0;have zf1:=HZ.out.free 1;have zf2:=HZ.out.free 2;have zf3:=HZ.out.free 3;have zf4:=HZ.out.free 4;have zf5:=HZ.out.free 5;have zf6:=HZ.out.free 6;have zf7:=HZ.out.free 7;have zf8:=HZ.out.free 8;have zf9:=HZ.out.free 9;have zf10:=HZ.out.free 10;have zf11:=HZ.out.free 11;have zf12:=HZ.out.free 12;have zf13:=HZ.out.free 13)
    all_goals go_wp2
    all_goals (
     refine Z9 (rb:=w.heap.size+1+1) Tryz.results192 rfl rfl (RecB.put (HZ.out.far (by omega) 9 _) _ _ _ _ _ _ _ _ _ _ _ _ _ _) rfl ⟨⟨{ ru with nam:=rb.nam,pw:=rb.pw,hh:=rb.hh,host:=rb.host,hp:=rb.hp,port:=rb.port,so:=ao,sn:=n,sc:=cap },ds,(by rw[HE.out];first|done|rfl),?_,by omega⟩,(Zd (Below.setCell HN.out (Xa _) _) (by omega) _ _ _ _ _ _ _ _ _ _ _ _ _ _)⟩
     exact { eq:=by rw[HE.out,←HU.out.eq,←HBS.out.eq];simp only[Rc.u,kept];rw[HDS.out]
             seg:=HO.out.ks (Ks.then (Ks.then Ks.rfl (ZW HUB.out.ty (by decide) 9 _)) (Zq (HZ.out.ty.set w.heap.size 9 _) (by decide) _ _ _ _ _ _ _ _ _ _ _ _ _ _))
             lsch:=HU.out.lsch
             lnam:=HBS.out.lnam
             lpw:=HBS.out.lpw
             lhost:=HBS.out.lhost
             lport:=HBS.out.lport
             lopath:=HU.out.lopath
             lsegs:=by omega
             lseg:=HSH.out
             lq:=HU.out.lq
             lfr:=HU.out.lfr })
   ·have HE:=Za (HD3.out.trans (if_neg hke))
    have hkb:((k:Int)==1)=false:=beq_eq_false_iff_ne.2 (by omega)
    clear HD3 hke
    go_enter Tryz.func192,Tryz.ntmps192
    go_wp2_with (first|(go_at_call 189;refine(Z6 _ _).mono ?_;rintro e w' ⟨rfl,rfl⟩;rw[HSP.out])|(go_at_call 226;refine(Zp _ _ _ (Zg (by omega))).mono ?_;rintro e w' ⟨rfl,rfl⟩;rw[HK.out])|fail)
    refine(ZgY { ru with nam:=rb.nam,pw:=rb.pw,hh:=rb.hh,host:=rb.host,hp:=rb.hp,port:=rb.port } rb (kept u base) base bs cs left _ (RcIs.kept (HU.out.on (((Nx.rfl.alloc _).alloc _).alloc _)) (HBS.out.on (((Nx.rfl.alloc _).alloc _).alloc _))) (HBS.out.on (((Nx.rfl.alloc _).alloc _).alloc _)) hcs hl).mono ?_
    rintro e w1 ⟨r,ds,rfl,hr,hdl,hn⟩;have HR:=Za hr;clear hr
    obtain⟨g1,g2,g3,g4⟩:=ZX (ru:={ ru with nam:=rb.nam,pw:=rb.pw,hh:=rb.hh,host:=rb.host,hp:=rb.hp,port:=rb.port }) (Nx.then (show Nx _ _ from Nx.rfl) hn)
    have HUB:=Za g1;have HBB:=Za g2;have HZ:=Za g3;have HN:=Za g4;clear g1 g2 g3 g4 hn;obtain⟨z0,z1,z2,z3,z4,z5,z6,z7,z8,z9,z10,z11,z12,z13⟩:=HZ.out.cells;have zf0:=HZ.out.free 0;have zf1:=HZ.out.free 1;have zf2:=HZ.out.free 2;have zf3:=HZ.out.free 3;have zf4:=HZ.out.free 4;have zf5:=HZ.out.free 5;have zf6:=HZ.out.free 6;have zf7:=HZ.out.free 7;have zf8:=HZ.out.free 8;have zf9:=HZ.out.free 9;have zf10:=HZ.out.free 10;have zf11:=HZ.out.free 11;have zf12:=HZ.out.free 12;have zf13:=HZ.out.free 13;go_wp2
    exact Z9 (rb:=w.heap.size+1+1) Tryz.results192 rfl rfl (RecB.put HZ.out _ _ _ _ _ _ _ _ _ _ _ _ _ _) rfl ⟨⟨r,ds,(by rw[HE.out];first|done|rfl),(by rw[HE.out];exact HR.out.ks (Ks.then Ks.rfl (Zq HZ.out.ty (by decide) _ _ _ _ _ _ _ _ _ _ _ _ _ _))),by omega⟩,(Zd HN.out (by omega) _ _ _ _ _ _ _ _ _ _ _ _ _ _)⟩
end Go.Proofs.YtchkhibgbnhjpabGreatDoor
