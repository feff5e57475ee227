import Derived.Test.YtchkhibgbnhjpabGreatDoorB15
open Array renaming getElem?_eq_some_iff→Xb
open Nat renaming le_refl→Xa
namespace Go.Proofs.YtchkhibgbnhjpabGreatDoor
open Go.RowKit
set_option maxHeartbeats 16000000
def Zgg(u:U)(port:List UInt8):U×Int:=if(ZaI port).2=false then(zeroU,2)else(Za6 u (ZaI port).1,0)
def Z2(u:U)(place:List UInt8):U×Int:=
 if(Zu place).1=[]∧(Zc u.sch=true∨(Zu place).2.2=true)then(zeroU,2)
 else if(ZT (Zu place).1 (Zc u.sch)).2≠0 then(zeroU,(ZT (Zu place).1 (Zc u.sch)).2)
 else if(Zu place).2.1=[]then({ u with hh:=true,host:=(ZT (Zu place).1 (Zc u.sch)).1 },0)
 else Zgg { u with hh:=true,host:=(ZT (Zu place).1 (Zc u.sch)).1 } (Zu place).2.1
theorem Zkn(l:LB):∀inb q,cutPortGo inb l=some q→q.1.length≤l.length∧q.2.length≤l.length:=by
 induction l with
 | nil=>intro inb q h;cases h
 | cons c r ih=>
  intro inb q h;rw[cutPortGo]at h
  have key:∀b,(cutPortGo b r).map (fun q=>(c::q.1,q.2))=some q→q.1.length≤(c::r).length∧q.2.length≤(c::r).length:=by
   intro b hb
   cases hq:cutPortGo b r with
   | none=>rw[hq]at hb;cases hb
   | some x=>
    rw[hq]at hb;simp only[Option.map_some,Option.some.injEq]at hb;subst hb;have:=ih b x hq;simp only[List.length_cons]
    omega
  split at h
  ·exact key _ h
  ·split at h
   ·exact key _ h
   ·split at h
    ·cases h
     simp
    ·exact key _ h
theorem Zid(l:LB):(Zu l).1.length≤l.length∧(Zu l).2.1.length≤l.length:=by
 unfold Zu
 cases h:cutPortGo false l with
 | none=>simp
 | some q=>exact Zkn l false q h
theorem Zjq(ru:Rc)(u:U)(bs:LA)(p:BA)(w:World)(h1:RcIs w ru u bs)(ht:Tb w)(hl:p.size≤30000):Calls Tryz.prog 262 #[.agg #[.string ru.sch,.string ru.nam,.string ru.pw,.bool ru.hh,.string ru.host,.bool ru.hp,.int .i64 (ru.port:Int),.bool ru.op,.string ru.opath,.slice ru.so ru.sn ru.sc,.bool ru.hq,.string ru.q,.bool ru.hf,.string ru.fr],.string p] w fun e w'=>Zfy e w' (Z2 u (tl p)) bs.length∧Nx w w':=by
 have HU:=Za h1;have HTB:=Za ht;have hcl:=Zid (tl p)
 have HD:=Za (show Z2 u (tl p)=if(Zu (tl p)).1=[]∧(Zc (tl ru.sch)=true∨(Zu (tl p)).2.2=true)then(zeroU,2)
  else if(ZT (Zu (tl p)).1 (Zc (tl ru.sch))).2≠0 then(zeroU,(ZT (Zu (tl p)).1 (Zc (tl ru.sch))).2)
  else if(Zu (tl p)).2.1=[]then({ u with hh:=true,host:=(ZT (Zu (tl p)).1 (Zc (tl ru.sch))).1 },0)
  else Zgg { u with hh:=true,host:=(ZT (Zu (tl p)).1 (Zc (tl ru.sch))).1 } (Zu (tl p)).2.1 by rw[h1.usch];rfl)
 clear h1 ht;generalize hsp:Zc (tl ru.sch)=sp at *;have HSP:=Za hsp;clear hsp
 go_enter Tryz.func262,Tryz.ntmps262
 go_wp2_with (first|(go_at_call 189;refine(ZZ _ _).mono ?_;rintro e w' ⟨rfl,rfl⟩;rw[HSP.out])|fail)
 refine(Zm6 p _ (by omega)).mono ?_
 rintro e w1 ⟨⟨x,y,rfl,hx,hy⟩,hn1⟩;rw[←hx,←hy]at HD hcl;rw[tl_length,tl_length,tl_length]at hcl
 have hxl:x.size≤30000:=by omega
 have hyl:y.size≤30000:=by omega
 obtain⟨g1,g2,g3⟩:=ZaA hn1;have HUB:=Za g1;have HZ:=Za g2;have HN:=Za g3;clear hx hy hn1 g1 g2 g3 hcl;generalize (Zu (tl p)).2.2=col at *
 by_cases hbad:x.size=0∧(sp=true∨col=true)
 ·have HE:=Za (HD.out.trans (if_pos ⟨Zw hbad.1,hbad.2⟩))
  obtain⟨hx0,hsc⟩:=hbad;have hx0':=Zl hx0;clear HD hx0;obtain⟨z0,z1,z2,z3,z4,z5,z6,z7,z8,z9,z10,z11,z12,z13⟩:=HZ.out.cells;have zf0:=HZ.out.free 0;have zf1:=HZ.out.free 1;have zf2:=HZ.out.free 2;have zf3:=HZ.out.free 3;have zf4:=HZ.out.free 4;have zf5:=HZ.out.free 5;have zf6:=HZ.out.free 6;have zf7:=HZ.out.free 7;have zf8:=HZ.out.free 8;have zf9:=HZ.out.free 9;have zf10:=HZ.out.free 10;have zf11:=HZ.out.free 11;have zf12:=HZ.out.free 12;have zf13:=HZ.out.free 13
  cases sp
  ·have hcol:col=true:=by rcases hsc with h|h;cases h;exact h
   subst hcol;clear hsc;go_wp2
   refine Zac (rb:=w.heap.size+1) Tryz.results262 rfl rfl (RecB.put HZ.out _ _ _ _ _ _ _ _ _ _ _ _ _ _) rfl ⟨⟨rz,[],(by rw[HE.out];first|done|rfl),(by rw[HE.out];exact ZeC _),by simp⟩,(Zd HN.out (by omega) _ _ _ _ _ _ _ _ _ _ _ _ _ _)⟩
  ·clear hsc
   go_wp2
   refine Zac (rb:=w.heap.size+1) Tryz.results262 rfl rfl (RecB.put HZ.out _ _ _ _ _ _ _ _ _ _ _ _ _ _) rfl ⟨⟨rz,[],(by rw[HE.out];first|done|rfl),(by rw[HE.out];exact ZeC _),by simp⟩,(Zd HN.out (by omega) _ _ _ _ _ _ _ _ _ _ _ _ _ _)⟩
 ·have HD2:=Za (HD.out.trans (if_neg (fun h=>hbad ⟨by have:=congrArg List.length h.1;rw[tl_length]at this;simpa using this,h.2⟩)))
  have HHL:=Za (Zib (l:=tl x) (sp:=sp) (by rw[tl_length];exact hxl))
  clear HD
  have step:(x.toList.isEmpty=false)∨(x.toList.isEmpty=true∧sp=false∧col=false):=by
   by_cases hx0:x.size=0
   ·refine Or.inr ⟨Zl hx0,?_,?_⟩
    ·cases sp
     ·rfl
     ·exact absurd ⟨hx0,Or.inl rfl⟩ hbad
    ·cases col
     ·rfl
     ·exact absurd ⟨hx0,Or.inr rfl⟩ hbad
   ·exact Or.inl (Zh hx0)
  have STEP:=Za step;clear step hbad
  have main:Hid (∀(K:Ending→World→Prop),(∀(fh:BA) (w2:World),fh.size≤300000→tl fh=(ZT (tl x) sp).1→Nx w1 w2→K (.returned (.tuple #[.string fh,.int .i64 (ZT (tl x) sp).2])) w2)→Calls Tryz.prog 277 #[.string x,.bool sp] w1 K):=Za (fun K hK=>(Zlk x sp w1 (by omega) (HTB.out.on HN.out)).mono (by
   rintro e w2 ⟨r,rfl,hr,hn⟩
   exact hK r w2 (by rw[←tl_length,hr];exact HHL.out) hr hn))
  rcases STEP.out with hxe|⟨hxe,rfl,rfl⟩
  ·go_wp2_with fail
   refine main.out _ ?_
   intro fh w2 hfs hfh hn2;rw[←hfh]at HD2;have HUB2:=Za (HUB.out.on hn2);have HZ2:=Za (HZ.out.on hn2);have HN2:=Za (HN.out.then hn2);have HU2:=Za (HU.out.on HN2.out);clear hfh hn2 main HHL HUB HZ HN;generalize (ZT (tl x) sp).2=err at *
   by_cases he:err=0
   ·subst he
    have HD3:=Za (HD2.out.trans (if_neg (by decide)))
    clear HD2;obtain⟨a0,a1,a2,a3,a4,a5,a6,a7,a8,a9,a10,a11,a12,a13⟩:=HUB2.out.cells;have af3:=HUB2.out.free 3;have af4:=HUB2.out.free 4;have af5:=HUB2.out.free 5;have af6:=HUB2.out.free 6;obtain⟨z0,z1,z2,z3,z4,z5,z6,z7,z8,z9,z10,z11,z12,z13⟩:=HZ2.out.cells;have zf0:=HZ2.out.free 0;have zf1:=HZ2.out.free 1;have zf2:=HZ2.out.free 2;have zf3:=HZ2.out.free 3;have zf4:=HZ2.out.free 4;have zf5:=HZ2.out.free 5;have zf6:=HZ2.out.free 6;have zf7:=HZ2.out.free 7;have zf8:=HZ2.out.free 8;have zf9:=HZ2.out.free 9;have zf10:=HZ2.out.free 10;have zf11:=HZ2.out.free 11;have zf12:=HZ2.out.free 12;have zf13:=HZ2.out.free 13
    by_cases hy0:y.size=0
    ·have HE:=Za (HD3.out.trans (if_pos (Zw hy0)))
     have hy0':=Zl hy0;clear HD3 hy0;go_wp2
     refine Zac (rb:=w.heap.size+1) Tryz.results262 rfl rfl (RecB.put ((HZ2.out.far (by omega) 3 _).far (by omega) 4 _) _ _ _ _ _ _ _ _ _ _ _ _ _ _) rfl ⟨⟨{ ru with hh:=true,host:=fh },bs,(by rw[HE.out];first|done|rfl),?_,Xa _⟩,(Zd (Below.setCell (Below.setCell HN2.out (Xa _) _) (Xa _) _) (by omega) _ _ _ _ _ _ _ _ _ _ _ _ _ _)⟩
     exact { eq:=by rw[HE.out,←HU.out.eq];rfl
             seg:=HU2.out.seg.ks (Ks.then (Ks.then (Ks.then Ks.rfl (ZW HUB2.out.ty (by decide) 3 _)) (ZW (HUB2.out.ty.set w.heap.size 3 _) (by decide) 4 _)) (Zm ((HZ2.out.ty.set w.heap.size 3 _).set w.heap.size 4 _) (by decide) _ _ _ _ _ _ _ _ _ _ _ _ _ _))
             lsch:=HU2.out.lsch
             lnam:=HU2.out.lnam
             lpw:=HU2.out.lpw
             lhost:=hfs
             lport:=HU2.out.lport
             lopath:=HU2.out.lopath
             lsegs:=HU2.out.lsegs
             lseg:=HU2.out.lseg
             lq:=HU2.out.lq
             lfr:=HU2.out.lfr }
    ·have HD4:=Za (HD3.out.trans (if_neg (ZcO hy0)))
     have hy0':=Zh hy0;clear HD3 hy0
     have HPD:=Za (show Zgg { u with hh:=true,host:=tl fh } (tl y)=if(ZaI (tl y)).2=false then(zeroU,2)else(Za6 { u with hh:=true,host:=tl fh } (ZaI (tl y)).1,0)from rfl)
     have hrg:=ZeT (tl y);generalize hq:ZaI (tl y)=nq at *;have HQ:=Za hq;clear hq;obtain⟨nv,nok⟩:=nq;simp only at HPD hrg
     cases nok
     ·have HE:=Za (HD4.out.trans (HPD.out.trans (if_pos rfl)))
      clear HD4 HPD
      go_wp2_with (go_at_call 278;refine(Zdy _ _ (by omega)).mono ?_;rintro e w' ⟨rfl,rfl⟩;rw[HQ.out])
      refine Zac (rb:=w.heap.size+1) Tryz.results262 rfl rfl (RecB.put ((HZ2.out.far (by omega) 3 _).far (by omega) 4 _) _ _ _ _ _ _ _ _ _ _ _ _ _ _) rfl ⟨⟨rz,[],(by rw[HE.out];first|done|rfl),by rw[HE.out];exact ZeC _,by simp⟩,(Zd (Below.setCell (Below.setCell HN2.out (Xa _) _) (Xa _) _) (by omega) _ _ _ _ _ _ _ _ _ _ _ _ _ _)⟩
     ·have HE:=Za (HD4.out.trans (HPD.out.trans (if_neg (by decide))))
      clear HD4 HPD
      obtain⟨pn,rfl⟩:∃pn:Nat,nv=(pn:Int):=⟨nv.toNat,by omega⟩
      have hpn:pn≤65535:=by omega
      go_wp2_with (first|(go_at_call 278;refine(Zdy _ _ (by omega)).mono ?_;rintro e w' ⟨rfl,rfl⟩;rw[HQ.out])|fail)
      refine(Zjp { ru with hh:=true,host:=fh } pn _).mono ?_
      rintro e w3 ⟨r3,rfl,hr3,hn3⟩
      have HR3:=Za ((((show RcIs w2 { ru with hh:=true,host:=fh } { u with hh:=true,host:=tl fh } bs from { HU2.out with eq:=by rw[←HU2.out.eq];rfl,lhost:=hfs }).ks (Ks.then (Ks.then Ks.rfl (ZW HUB2.out.ty (by decide) 3 (.bool true))) (ZW (HUB2.out.ty.set w.heap.size 3 (.bool true)) (by decide) 4 (.string fh)))).on hn3).atPort hpn)
      rw[←hr3]at HR3
      have HZ3:=Za ((HZ2.out.far (q:=w.heap.size) (by omega) 3 (.bool true)).far (q:=w.heap.size) (by omega) 4 (.string fh) |>.on hn3)
      have HN3:=Za ((Below.setCell (p:=⟨w.heap.size,4,none⟩) (Below.setCell (p:=⟨w.heap.size,3,none⟩) HN2.out (Xa _) (.bool true)) (Xa _) (.string fh) |> fun h=>Nx.then h hn3):Nx w w3)
      clear hr3 hn3;clear a0 a1 a2 a3 a4 a5 a6 a7 a8 a9 a10 a11 a12 a13 z0 z1 z2 z3 z4 z5 z6 z7 z8 z9 z10 z11 z12 z13 zf0 zf1 zf2 zf3 zf4 zf5 zf6 zf7 zf8 zf9 zf10 zf11 zf12 zf13 af3 af4 af5 af6;obtain⟨z0,z1,z2,z3,z4,z5,z6,z7,z8,z9,z10,z11,z12,z13⟩:=HZ3.out.cells;have zf0:=HZ3.out.free 0;have zf1:=HZ3.out.free 1;have zf2:=HZ3.out.free 2;have zf3:=HZ3.out.free 3;have zf4:=HZ3.out.free 4;have zf5:=HZ3.out.free 5;have zf6:=HZ3.out.free 6;have zf7:=HZ3.out.free 7;have zf8:=HZ3.out.free 8;have zf9:=HZ3.out.free 9;have zf10:=HZ3.out.free 10;have zf11:=HZ3.out.free 11;have zf12:=HZ3.out.free 12;have zf13:=HZ3.out.free 13;go_wp2
      exact Zac (rb:=w.heap.size+1) Tryz.results262 rfl rfl (RecB.put HZ3.out _ _ _ _ _ _ _ _ _ _ _ _ _ _) rfl ⟨⟨r3,bs,(by rw[HE.out];first|done|rfl),(by rw[HE.out];exact HR3.out.ks (Ks.then Ks.rfl (Zm HZ3.out.ty (by decide) _ _ _ _ _ _ _ _ _ _ _ _ _ _))),Xa _⟩,(Zd HN3.out (by omega) _ _ _ _ _ _ _ _ _ _ _ _ _ _)⟩
   ·have HE:=Za (HD2.out.trans (if_pos he))
    have he':(err != 0)=true:=ZhB (beq_eq_false_iff_ne.2 he);clear HD2 he;obtain⟨z0,z1,z2,z3,z4,z5,z6,z7,z8,z9,z10,z11,z12,z13⟩:=HZ2.out.cells;have zf0:=HZ2.out.free 0;have zf1:=HZ2.out.free 1;have zf2:=HZ2.out.free 2;have zf3:=HZ2.out.free 3;have zf4:=HZ2.out.free 4;have zf5:=HZ2.out.free 5;have zf6:=HZ2.out.free 6;have zf7:=HZ2.out.free 7;have zf8:=HZ2.out.free 8;have zf9:=HZ2.out.free 9;have zf10:=HZ2.out.free 10;have zf11:=HZ2.out.free 11;have zf12:=HZ2.out.free 12;have zf13:=HZ2.out.free 13;go_wp2
    refine Zac (rb:=w.heap.size+1) Tryz.results262 rfl rfl (RecB.put HZ2.out _ _ _ _ _ _ _ _ _ _ _ _ _ _) rfl ⟨⟨rz,[],(by rw[HE.out];first|done|rfl),(by rw[HE.out];exact ZeC _),by simp⟩,(Zd HN2.out (by omega) _ _ _ _ _ _ _ _ _ _ _ _ _ _)⟩
  ·go_wp2_with fail
   refine main.out _ ?_
   intro fh w2 hfs hfh hn2;rw[←hfh]at HD2;have HUB2:=Za (HUB.out.on hn2);have HZ2:=Za (HZ.out.on hn2);have HN2:=Za (HN.out.then hn2);have HU2:=Za (HU.out.on HN2.out);clear hfh hn2 main HHL HUB HZ HN;generalize (ZT (tl x) false).2=err at *
   by_cases he:err=0
   ·subst he
    have HD3:=Za (HD2.out.trans (if_neg (by decide)))
    clear HD2;obtain⟨a0,a1,a2,a3,a4,a5,a6,a7,a8,a9,a10,a11,a12,a13⟩:=HUB2.out.cells;have af3:=HUB2.out.free 3;have af4:=HUB2.out.free 4;have af5:=HUB2.out.free 5;have af6:=HUB2.out.free 6;obtain⟨z0,z1,z2,z3,z4,z5,z6,z7,z8,z9,z10,z11,z12,z13⟩:=HZ2.out.cells;have zf0:=HZ2.out.free 0;have zf1:=HZ2.out.free 1;have zf2:=HZ2.out.free 2;have zf3:=HZ2.out.free 3;have zf4:=HZ2.out.free 4;have zf5:=HZ2.out.free 5;have zf6:=HZ2.out.free 6;have zf7:=HZ2.out.free 7;have zf8:=HZ2.out.free 8;have zf9:=HZ2.out.free 9;have zf10:=HZ2.out.free 10;have zf11:=HZ2.out.free 11;have zf12:=HZ2.out.free 12;have zf13:=HZ2.out.free 13
    by_cases hy0:y.size=0
    ·have HE:=Za (HD3.out.trans (if_pos (Zw hy0)))
     have hy0':=Zl hy0;clear HD3 hy0;go_wp2
     refine Zac (rb:=w.heap.size+1) Tryz.results262 rfl rfl (RecB.put ((HZ2.out.far (by omega) 3 _).far (by omega) 4 _) _ _ _ _ _ _ _ _ _ _ _ _ _ _) rfl ⟨⟨{ ru with hh:=true,host:=fh },bs,(by rw[HE.out];first|done|rfl),?_,Xa _⟩,(Zd (Below.setCell (Below.setCell HN2.out (Xa _) _) (Xa _) _) (by omega) _ _ _ _ _ _ _ _ _ _ _ _ _ _)⟩
     exact { eq:=by rw[HE.out,←HU.out.eq];rfl
             seg:=HU2.out.seg.ks (Ks.then (Ks.then (Ks.then Ks.rfl (ZW HUB2.out.ty (by decide) 3 _)) (ZW (HUB2.out.ty.set w.heap.size 3 _) (by decide) 4 _)) (Zm ((HZ2.out.ty.set w.heap.size 3 _).set w.heap.size 4 _) (by decide) _ _ _ _ _ _ _ _ _ _ _ _ _ _))
             lsch:=HU2.out.lsch
             lnam:=HU2.out.lnam
             lpw:=HU2.out.lpw
             lhost:=hfs
             lport:=HU2.out.lport
             lopath:=HU2.out.lopath
             lsegs:=HU2.out.lsegs
             lseg:=HU2.out.lseg
             lq:=HU2.out.lq
             lfr:=HU2.out.lfr }
    ·have HD4:=Za (HD3.out.trans (if_neg (ZcO hy0)))
     have hy0':=Zh hy0;clear HD3 hy0
     have HPD:=Za (show Zgg { u with hh:=true,host:=tl fh } (tl y)=if(ZaI (tl y)).2=false then(zeroU,2)else(Za6 { u with hh:=true,host:=tl fh } (ZaI (tl y)).1,0)from rfl)
     have hrg:=ZeT (tl y);generalize hq:ZaI (tl y)=nq at *;have HQ:=Za hq;clear hq;obtain⟨nv,nok⟩:=nq;simp only at HPD hrg
     cases nok
     ·have HE:=Za (HD4.out.trans (HPD.out.trans (if_pos rfl)))
      clear HD4 HPD
      go_wp2_with (go_at_call 278;refine(Zdy _ _ (by omega)).mono ?_;rintro e w' ⟨rfl,rfl⟩;rw[HQ.out])
      refine Zac (rb:=w.heap.size+1) Tryz.results262 rfl rfl (RecB.put ((HZ2.out.far (by omega) 3 _).far (by omega) 4 _) _ _ _ _ _ _ _ _ _ _ _ _ _ _) rfl ⟨⟨rz,[],(by rw[HE.out];first|done|rfl),by rw[HE.out];exact ZeC _,by simp⟩,(Zd (Below.setCell (Below.setCell HN2.out (Xa _) _) (Xa _) _) (by omega) _ _ _ _ _ _ _ _ _ _ _ _ _ _)⟩
     ·have HE:=Za (HD4.out.trans (HPD.out.trans (if_neg (by decide))))
      clear HD4 HPD
      obtain⟨pn,rfl⟩:∃pn:Nat,nv=(pn:Int):=⟨nv.toNat,by omega⟩
      have hpn:pn≤65535:=by omega
      go_wp2_with (first|(go_at_call 278;refine(Zdy _ _ (by omega)).mono ?_;rintro e w' ⟨rfl,rfl⟩;rw[HQ.out])|fail)
      refine(Zjp { ru with hh:=true,host:=fh } pn _).mono ?_
      rintro e w3 ⟨r3,rfl,hr3,hn3⟩
      have HR3:=Za ((((show RcIs w2 { ru with hh:=true,host:=fh } { u with hh:=true,host:=tl fh } bs from { HU2.out with eq:=by rw[←HU2.out.eq];rfl,lhost:=hfs }).ks (Ks.then (Ks.then Ks.rfl (ZW HUB2.out.ty (by decide) 3 (.bool true))) (ZW (HUB2.out.ty.set w.heap.size 3 (.bool true)) (by decide) 4 (.string fh)))).on hn3).atPort hpn)
      rw[←hr3]at HR3
      have HZ3:=Za ((HZ2.out.far (q:=w.heap.size) (by omega) 3 (.bool true)).far (q:=w.heap.size) (by omega) 4 (.string fh) |>.on hn3)
      have HN3:=Za ((Below.setCell (p:=⟨w.heap.size,4,none⟩) (Below.setCell (p:=⟨w.heap.size,3,none⟩) HN2.out (Xa _) (.bool true)) (Xa _) (.string fh) |> fun h=>Nx.then h hn3):Nx w w3)
      clear hr3 hn3;clear a0 a1 a2 a3 a4 a5 a6 a7 a8 a9 a10 a11 a12 a13 z0 z1 z2 z3 z4 z5 z6 z7 z8 z9 z10 z11 z12 z13 zf0 zf1 zf2 zf3 zf4 zf5 zf6 zf7 zf8 zf9 zf10 zf11 zf12 zf13 af3 af4 af5 af6;obtain⟨z0,z1,z2,z3,z4,z5,z6,z7,z8,z9,z10,z11,z12,z13⟩:=HZ3.out.cells;have zf0:=HZ3.out.free 0;have zf1:=HZ3.out.free 1;have zf2:=HZ3.out.free 2;have zf3:=HZ3.out.free 3;have zf4:=HZ3.out.free 4;have zf5:=HZ3.out.free 5;have zf6:=HZ3.out.free 6;have zf7:=HZ3.out.free 7;have zf8:=HZ3.out.free 8;have zf9:=HZ3.out.free 9;have zf10:=HZ3.out.free 10;have zf11:=HZ3.out.free 11;have zf12:=HZ3.out.free 12;have zf13:=HZ3.out.free 13;go_wp2
      exact Zac (rb:=w.heap.size+1) Tryz.results262 rfl rfl (RecB.put HZ3.out _ _ _ _ _ _ _ _ _ _ _ _ _ _) rfl ⟨⟨r3,bs,(by rw[HE.out];first|done|rfl),(by rw[HE.out];exact HR3.out.ks (Ks.then Ks.rfl (Zm HZ3.out.ty (by decide) _ _ _ _ _ _ _ _ _ _ _ _ _ _))),Xa _⟩,(Zd HN3.out (by omega) _ _ _ _ _ _ _ _ _ _ _ _ _ _)⟩
   ·have HE:=Za (HD2.out.trans (if_pos he))
    have he':(err != 0)=true:=ZhB (beq_eq_false_iff_ne.2 he);clear HD2 he;obtain⟨z0,z1,z2,z3,z4,z5,z6,z7,z8,z9,z10,z11,z12,z13⟩:=HZ2.out.cells;have zf0:=HZ2.out.free 0;have zf1:=HZ2.out.free 1;have zf2:=HZ2.out.free 2;have zf3:=HZ2.out.free 3;have zf4:=HZ2.out.free 4;have zf5:=HZ2.out.free 5;have zf6:=HZ2.out.free 6;have zf7:=HZ2.out.free 7;have zf8:=HZ2.out.free 8;have zf9:=HZ2.out.free 9;have zf10:=HZ2.out.free 10;have zf11:=HZ2.out.free 11;have zf12:=HZ2.out.free 12;have zf13:=HZ2.out.free 13;go_wp2
    refine Zac (rb:=w.heap.size+1) Tryz.results262 rfl rfl (RecB.put HZ2.out _ _ _ _ _ _ _ _ _ _ _ _ _ _) rfl ⟨⟨rz,[],(by rw[HE.out];first|done|rfl),(by rw[HE.out];exact ZeC _),by simp⟩,(Zd HN2.out (by omega) _ _ _ _ _ _ _ _ _ _ _ _ _ _)⟩
theorem Zhd(n:Int)(l:LB):(bcutLast n l).1.length≤l.length∧(bcutLast n l).2.1.length≤l.length:=by
 induction l with
 | nil=>simp[bcutLast]
 | cons c r ih=>
  rw[bcutLast]
  split
  ·simp only[List.length_cons];omega
  ·split
   ·simp
   ·simp
def ZfA(l:List UInt8):List UInt8:=encB (tl (ZaJ 5)) (clean l)
def Zdi(p:U×Int)(sch behind:List UInt8)(b:Bool):U×Int:=
 if p.2≠0 then(zeroU,p.2)else if b=true then({ p.1 with segs:=Zbe behind sch },0)else(p.1,0)
def Zy(u:U)(t:List UInt8):U×Int:=
 if(bcutLast 64 (bcut (slB (Zc u.sch)) t).1).2.2=true∧(bcutLast 64 (bcut (slB (Zc u.sch)) t).1).2.1=[]then(zeroU,2)
 else Zdi (Z2 { u with nam:=ZfA (bcut (isB 58) (bcutLast 64 (bcut (slB (Zc u.sch)) t).1).1).1,pw:=ZfA (bcut (isB 58) (bcutLast 64 (bcut (slB (Zc u.sch)) t).1).1).2.1 } (bcutLast 64 (bcut (slB (Zc u.sch)) t).1).2.1)
  u.sch (bcut (slB (Zc u.sch)) t).2.1 (Zc u.sch||(bcut (slB (Zc u.sch)) t).2.2)
theorem Zcu(ru:Rc)(u:U)(bs:LA)(t:BA)(w:World)(h1:RcIs w ru u bs)(ht:Tb w)(hl:t.size≤30000):Calls Tryz.prog 228 #[.agg #[.string ru.sch,.string ru.nam,.string ru.pw,.bool ru.hh,.string ru.host,.bool ru.hp,.int .i64 (ru.port:Int),.bool ru.op,.string ru.opath,.slice ru.so ru.sn ru.sc,.bool ru.hq,.string ru.q,.bool ru.hf,.string ru.fr],.string t] w fun e w'=>Zfy e w' (Zy u (tl t)) (bs.length+30001)∧Nx w w':=by
 have HU:=Za h1;have HTB:=Za ht
 have HD:=Za (show Zy u (tl t)=if(bcutLast 64 (bcut (slB (Zc (tl ru.sch))) (tl t)).1).2.2=true∧(bcutLast 64 (bcut (slB (Zc (tl ru.sch))) (tl t)).1).2.1=[]then(zeroU,2)
  else Zdi (Z2 { u with nam:=ZfA (bcut (isB 58) (bcutLast 64 (bcut (slB (Zc (tl ru.sch))) (tl t)).1).1).1,pw:=ZfA (bcut (isB 58) (bcutLast 64 (bcut (slB (Zc (tl ru.sch))) (tl t)).1).1).2.1 } (bcutLast 64 (bcut (slB (Zc (tl ru.sch))) (tl t)).1).2.1)
  (tl ru.sch) (bcut (slB (Zc (tl ru.sch))) (tl t)).2.1 (Zc (tl ru.sch)||(bcut (slB (Zc (tl ru.sch))) (tl t)).2.2)by rw[h1.usch];rfl)
 clear h1 ht;generalize hsp:Zc (tl ru.sch)=sp at *;have HSP:=Za hsp;clear hsp;have hc1:=Zaz (slB sp) (tl t)
 go_enter Tryz.func228,Tryz.ntmps228
 go_wp2_with (first|(go_at_call 189;refine(ZZ _ _).mono ?_;rintro e w' ⟨rfl,rfl⟩;rw[HSP.out])|fail)
 refine(Zdw t sp _ (Zf (by omega))).mono ?_
 rintro e w1 ⟨⟨ah,be,rfl,hah,hbe⟩,hn1⟩;rw[←hah,←hbe]at HD hc1;rw[tl_length,tl_length,tl_length]at hc1
 have hal:ah.size≤30000:=by omega
 have hbl:be.size≤30000:=by omega
 obtain⟨g1,g2,g3⟩:=ZaA hn1;have HUB:=Za g1;have HZ:=Za g2;have HN:=Za g3;clear hah hbe hn1 g1 g2 g3 hc1;generalize (bcut (slB sp) (tl t)).2.2=sl at *;have hc2:=Zhd 64 (tl ah);go_wp2_with fail
 refine(ZkZ ah 64 _ (Zf (by omega))).mono ?_
 rintro e w2 ⟨⟨us,pl,rfl,hus,hpl⟩,hn2⟩;rw[←hus,←hpl]at HD hc2;rw[tl_length,tl_length,tl_length]at hc2
 have hul:us.size≤30000:=by omega
 have hpll:pl.size≤30000:=by omega
 have HUB2:=Za (HUB.out.on hn2);have HZ2:=Za (HZ.out.on hn2);have HN2:=Za (HN.out.then hn2);clear hus hpl hn2 hc2 HUB HZ HN;generalize (bcutLast 64 (tl ah)).2.2=at_ at *
 by_cases hbad:at_=true∧pl.size=0
 ·have HE:=Za (HD.out.trans (if_pos ⟨hbad.1,Zw hbad.2⟩))
  obtain⟨rfl,hp0⟩:=hbad;have hp0':=Zl hp0;clear HD hp0;obtain⟨z0,z1,z2,z3,z4,z5,z6,z7,z8,z9,z10,z11,z12,z13⟩:=HZ2.out.cells;have zf0:=HZ2.out.free 0;have zf1:=HZ2.out.free 1;have zf2:=HZ2.out.free 2;have zf3:=HZ2.out.free 3;have zf4:=HZ2.out.free 4;have zf5:=HZ2.out.free 5;have zf6:=HZ2.out.free 6;have zf7:=HZ2.out.free 7;have zf8:=HZ2.out.free 8;have zf9:=HZ2.out.free 9;have zf10:=HZ2.out.free 10;have zf11:=HZ2.out.free 11;have zf12:=HZ2.out.free 12;have zf13:=HZ2.out.free 13;go_wp2
  refine Zac (rb:=w.heap.size+1) Tryz.results228 rfl rfl (RecB.put HZ2.out _ _ _ _ _ _ _ _ _ _ _ _ _ _) rfl ⟨⟨rz,[],(by rw[HE.out];first|done|rfl),(by rw[HE.out];exact ZeC _),by simp⟩,(Zd HN2.out (by omega) _ _ _ _ _ _ _ _ _ _ _ _ _ _)⟩
 ·have HD2:=Za (HD.out.trans (if_neg (fun h=>hbad ⟨h.1,by have:=congrArg List.length h.2;rw[tl_length]at this;simpa using this⟩)))
  clear HD
  have step:at_=false∨(at_=true∧pl.toList.isEmpty=false):=by
   cases at_
   ·exact Or.inl rfl
   ·exact Or.inr ⟨rfl,Zh (fun h=>hbad ⟨rfl,h⟩)⟩
  have STEP:=Za step;clear step hbad;have hc3:=Zaz (isB 58) (tl us)
  have main:Hid (∀(K:Ending→World→Prop),(∀(nm pw:BA) (c:Bool) (w3:World),nm.size≤30000→pw.size≤30000→tl nm=(bcut (isB 58) (tl us)).1→tl pw=(bcut (isB 58) (tl us)).2.1→Nx w2 w3→K (.returned (.tuple #[.string nm,.string pw,.bool c])) w3)→Calls Tryz.prog 141 #[.string us,.int .u8 58] w2 K):=Za (fun K hK=>(Zfb us 58 w2 (Zf (by omega))).mono (by
   rintro e w3 ⟨⟨a,b,rfl,ha,hb⟩,hn⟩;rw[←ha,←hb,tl_length,tl_length,tl_length]at hc3
   exact hK a b _ w3 (by omega) (by omega) ha hb hn))
  rcases STEP.out with rfl|⟨rfl,hp0'⟩
  ·go_wp2_with fail
   refine main.out _ ?_
   intro nm pw cb w3 hnl hpl hnm hpw hn3;rw[←hnm,←hpw]at HD2;have HUB3:=Za (HUB2.out.on hn3);have HZ3:=Za (HZ2.out.on hn3);have HN3:=Za (HN2.out.then hn3);clear hnm hpw hn3 main HUB2 HZ2 HN2 hc3;go_wp2_with fail
   refine(ZaM nm 5 _ (by omega)).mono ?_
   rintro e w4 ⟨en,rfl,hen,hn4⟩
   have hel:en.size≤300000:=by rw[←tl_length,hen];exact Zbd _ _ (by rw[tl_length];exact hnl)
   have HEN:=Za (show ZfA (tl nm)=tl en from hen.symm);have HUB4:=Za (HUB3.out.on hn4);have HZ4:=Za (HZ3.out.on hn4);have HN4:=Za (HN3.out.then hn4);clear hen hn4 HUB3 HZ3 HN3;rw[HEN.out]at HD2;obtain⟨a0,a1,a2,a3,a4,a5,a6,a7,a8,a9,a10,a11,a12,a13⟩:=HUB4.out.cells;have af1:=HUB4.out.free 1;go_wp2_with fail
   refine(ZaM pw 5 _ (by omega)).mono ?_
   rintro e w5 ⟨ep,rfl,hep,hn5⟩
   have hepl:ep.size≤300000:=by rw[←tl_length,hep];exact Zbd _ _ (by rw[tl_length];exact hpl)
   have HEP:=Za (show ZfA (tl pw)=tl ep from hep.symm);have HUB5:=Za ((HUB4.out.s1 en).on hn5)
   have HZ5:=Za ((HZ4.out.far (q:=w.heap.size) (by omega) 1 (.string en)).on hn5)
   have HN5:=Za (Nx.then (show Nx w _ from Below.setCell (p:=⟨w.heap.size,1,none⟩) HN4.out (Xa _) (.string en)) hn5);clear a0 a1 a2 a3 a4 a5 a6 a7 a8 a9 a10 a11 a12 a13 af1;clear hep hn5 HUB4 HZ4 HN4;rw[HEP.out]at HD2;obtain⟨a0,a1,a2,a3,a4,a5,a6,a7,a8,a9,a10,a11,a12,a13⟩:=HUB5.out.cells;have af2:=HUB5.out.free 2;have HUB6:=Za (HUB5.out.s2 ep)
   have HZ6:=Za (HZ5.out.far (q:=w.heap.size) (by omega) 2 (.string ep))
   have HN6:=Za (show Nx w (w5.setCell ⟨w.heap.size,2,none⟩ (.string ep))from Below.setCell (p:=⟨w.heap.size,2,none⟩) HN5.out (Xa _) (.string ep))
   have HRC:=Za (show RcIs (w5.setCell ⟨w.heap.size,2,none⟩ (.string ep)) { ru with nam:=en,pw:=ep } { u with nam:=tl en,pw:=tl ep } bs from { HU.out.on HN6.out with eq:=by rw[←HU.out.eq];rfl,lnam:=hel,lpw:=hepl })
   go_wp2_with fail
   refine(Zjq { ru with nam:=en,pw:=ep } _ bs pl _ HRC.out (HTB.out.on HN6.out) hpll).mono ?_
   rintro e w7 ⟨⟨rp,ps,rfl,hrp,hpsl⟩,hn7⟩;have HUB7:=Za (HUB6.out.on hn7);have HZ7:=Za (HZ6.out.on hn7);have HN7:=Za (HN6.out.then hn7);have HP:=Za hrp;clear a0 a1 a2 a3 a4 a5 a6 a7 a8 a9 a10 a11 a12 a13 af2;clear hrp hn7 HUB5 HZ5 HN5 HUB6 HZ6 HN6 HRC;have hlz:w.heap.size+1<w7.heap.size:=(Xb.1 HZ7.out).1
   have hlu:w.heap.size<w7.heap.size:=by omega
   generalize Z2 { u with nam:=tl en,pw:=tl ep } (tl pl)=pq at *
   obtain⟨pu,err⟩:=pq;simp only at HP
   have HPD:=Za (show Zdi (pu,err) (tl ru.sch) (tl be) (sp||sl)=if err≠0 then(zeroU,err)else if(sp||sl)=true then({ pu with segs:=Zbe (tl be) (tl ru.sch) },0)else(pu,0)from rfl)
   obtain⟨a0,a1,a2,a3,a4,a5,a6,a7,a8,a9,a10,a11,a12,a13⟩:=HUB7.out.cells;obtain⟨z0,z1,z2,z3,z4,z5,z6,z7,z8,z9,z10,z11,z12,z13⟩:=HZ7.out.cells;have zf0:=HZ7.out.free 0;have zf1:=HZ7.out.free 1;have zf2:=HZ7.out.free 2;have zf3:=HZ7.out.free 3;have zf4:=HZ7.out.free 4;have zf5:=HZ7.out.free 5;have zf6:=HZ7.out.free 6;have zf7:=HZ7.out.free 7;have zf8:=HZ7.out.free 8;have zf9:=HZ7.out.free 9;have zf10:=HZ7.out.free 10;have zf11:=HZ7.out.free 11;have zf12:=HZ7.out.free 12;have zf13:=HZ7.out.free 13
   by_cases he:err=0
   ·subst he
    have HD3:=Za (HD2.out.trans (HPD.out.trans (if_neg (by decide))))
    clear HD2 HPD
    by_cases hsl:(sp||sl)=true
    ·have HE:=Za (HD3.out.trans (if_pos hsl))
     clear HD3
     have two:sp=true∨(sp=false∧sl=true):=by
      cases sp
      ·exact Or.inr ⟨rfl,by simpa using hsl⟩
      ·exact Or.inl rfl
     clear hsl;rcases two with rfl|⟨rfl,rfl⟩
     ·go_wp2_with fail
      refine(Zao be ru.sch _ (by omega)).mono ?_
      rintro e w8 ⟨v8,ds,rfl,ho,hds,hdl,hn8⟩;obtain⟨ao,n,cap,rfl⟩:=ZF ho;have HO:=Za (Zp ho);have HDS:=Za hds
      have HSH:=Za (Zax hds (Z1 (by rw[tl_length];exact hbl)))
      have HPB:=Za ((Za5 w7 rp).on hn8);have HZ8:=Za ((HZ7.out.on (Nx.rfl.alloc _)).on hn8);have HN8:=Za ((HN7.out.alloc _).then hn8);clear a0 a1 a2 a3 a4 a5 a6 a7 a8 a9 a10 a11 a12 a13 z0 z1 z2 z3 z4 z5 z6 z7 z8 z9 z10 z11 z12 z13 zf0 zf1 zf2 zf3 zf4 zf5 zf6 zf7 zf8 zf9 zf10 zf11 zf12 zf13;clear ho hds hn8;obtain⟨a0,a1,a2,a3,a4,a5,a6,a7,a8,a9,a10,a11,a12,a13⟩:=HPB.out.cells;have af9:=HPB.out.free 9;obtain⟨z0,z1,z2,z3,z4,z5,z6,z7,z8,z9,z10,z11,z12,z13⟩:=HZ8.out.cells;have zf0:=HZ8.out.free 0;have zf1:=HZ8.out.free 1;have zf2:=HZ8.out.free 2;have zf3:=HZ8.out.free 3;have zf4:=HZ8.out.free 4;have zf5:=HZ8.out.free 5;have zf6:=HZ8.out.free 6;have zf7:=HZ8.out.free 7;have zf8:=HZ8.out.free 8;have zf9:=HZ8.out.free 9;have zf10:=HZ8.out.free 10;have zf11:=HZ8.out.free 11;have zf12:=HZ8.out.free 12;have zf13:=HZ8.out.free 13;go_wp2
      refine Zac (rb:=w.heap.size+1) Tryz.results228 rfl rfl (RecB.put (HZ8.out.far (by omega) 9 _) _ _ _ _ _ _ _ _ _ _ _ _ _ _) rfl ⟨⟨{ rp with so:=ao,sn:=n,sc:=cap },ds,(by rw[HE.out];first|done|rfl),?_,by omega⟩,(Zd (Below.setCell HN8.out (by show w.heap.size≤w7.heap.size;omega) _) (by omega) _ _ _ _ _ _ _ _ _ _ _ _ _ _)⟩
      exact { eq:=by rw[HE.out,←HP.out.eq];simp only[Rc.u];rw[HDS.out]
              seg:=HO.out.ks (Ks.then (Ks.then Ks.rfl (ZW HPB.out.ty (by decide) 9 _)) (Zm (HZ8.out.ty.set w7.heap.size 9 _) (by decide) _ _ _ _ _ _ _ _ _ _ _ _ _ _))
              lsch:=HP.out.lsch
              lnam:=HP.out.lnam
              lpw:=HP.out.lpw
              lhost:=HP.out.lhost
              lport:=HP.out.lport
              lopath:=HP.out.lopath
              lsegs:=by omega
              lseg:=HSH.out
              lq:=HP.out.lq
              lfr:=HP.out.lfr }
     ·go_wp2_with fail
      refine(Zao be ru.sch _ (by omega)).mono ?_
      rintro e w8 ⟨v8,ds,rfl,ho,hds,hdl,hn8⟩;obtain⟨ao,n,cap,rfl⟩:=ZF ho;have HO:=Za (Zp ho);have HDS:=Za hds
      have HSH:=Za (Zax hds (Z1 (by rw[tl_length];exact hbl)))
      have HPB:=Za ((Za5 w7 rp).on hn8);have HZ8:=Za ((HZ7.out.on (Nx.rfl.alloc _)).on hn8);have HN8:=Za ((HN7.out.alloc _).then hn8);clear a0 a1 a2 a3 a4 a5 a6 a7 a8 a9 a10 a11 a12 a13 z0 z1 z2 z3 z4 z5 z6 z7 z8 z9 z10 z11 z12 z13 zf0 zf1 zf2 zf3 zf4 zf5 zf6 zf7 zf8 zf9 zf10 zf11 zf12 zf13;clear ho hds hn8;obtain⟨a0,a1,a2,a3,a4,a5,a6,a7,a8,a9,a10,a11,a12,a13⟩:=HPB.out.cells;have af9:=HPB.out.free 9;obtain⟨z0,z1,z2,z3,z4,z5,z6,z7,z8,z9,z10,z11,z12,z13⟩:=HZ8.out.cells;have zf0:=HZ8.out.free 0;have zf1:=HZ8.out.free 1;have zf2:=HZ8.out.free 2;have zf3:=HZ8.out.free 3;have zf4:=HZ8.out.free 4;have zf5:=HZ8.out.free 5;have zf6:=HZ8.out.free 6;have zf7:=HZ8.out.free 7;have zf8:=HZ8.out.free 8;have zf9:=HZ8.out.free 9;have zf10:=HZ8.out.free 10;have zf11:=HZ8.out.free 11;have zf12:=HZ8.out.free 12;have zf13:=HZ8.out.free 13;go_wp2
      refine Zac (rb:=w.heap.size+1) Tryz.results228 rfl rfl (RecB.put (HZ8.out.far (by omega) 9 _) _ _ _ _ _ _ _ _ _ _ _ _ _ _) rfl ⟨⟨{ rp with so:=ao,sn:=n,sc:=cap },ds,(by rw[HE.out];first|done|rfl),?_,by omega⟩,(Zd (Below.setCell HN8.out (by show w.heap.size≤w7.heap.size;omega) _) (by omega) _ _ _ _ _ _ _ _ _ _ _ _ _ _)⟩
      exact { eq:=by rw[HE.out,←HP.out.eq];simp only[Rc.u];rw[HDS.out]
              seg:=HO.out.ks (Ks.then (Ks.then Ks.rfl (ZW HPB.out.ty (by decide) 9 _)) (Zm (HZ8.out.ty.set w7.heap.size 9 _) (by decide) _ _ _ _ _ _ _ _ _ _ _ _ _ _))
              lsch:=HP.out.lsch
              lnam:=HP.out.lnam
              lpw:=HP.out.lpw
              lhost:=HP.out.lhost
              lport:=HP.out.lport
              lopath:=HP.out.lopath
              lsegs:=by omega
              lseg:=HSH.out
              lq:=HP.out.lq
              lfr:=HP.out.lfr }
    ·have HE:=Za (HD3.out.trans (if_neg hsl))
     clear HD3
     obtain⟨rfl,rfl⟩:sp=false∧sl=false:=by cases sp<;>cases sl<;>simp_all
     clear hsl;go_wp2
     exact Zac (rb:=w.heap.size+1) Tryz.results228 rfl rfl ((RecB.put HZ7.out _ _ _ _ _ _ _ _ _ _ _ _ _ _).on (Nx.rfl.alloc _)) rfl ⟨⟨rp,ps,(by rw[HE.out];first|done|rfl),(by rw[HE.out];exact HP.out.ks (Ks.then (Zm HZ7.out.ty (by decide) _ _ _ _ _ _ _ _ _ _ _ _ _ _) (Nx.ks (Nx.rfl.alloc _)))),by omega⟩,Nx.alloc (Zd HN7.out (by omega) _ _ _ _ _ _ _ _ _ _ _ _ _ _) _⟩
   ·have HE:=Za (HD2.out.trans (HPD.out.trans (if_pos he)))
    have he':(err != 0)=true:=ZhB (beq_eq_false_iff_ne.2 he);clear HD2 HPD he;go_wp2
    exact Zac (rb:=w.heap.size+1) Tryz.results228 rfl rfl ((RecB.put HZ7.out _ _ _ _ _ _ _ _ _ _ _ _ _ _).on (Nx.rfl.alloc _)) rfl ⟨⟨rz,[],(by rw[HE.out];first|done|rfl),(by rw[HE.out];exact ZeC _),by simp⟩,Nx.alloc (Zd HN7.out (by omega) _ _ _ _ _ _ _ _ _ _ _ _ _ _) _⟩
  ·go_wp2_with fail
   refine main.out _ ?_
   intro nm pw cb w3 hnl hpl hnm hpw hn3;rw[←hnm,←hpw]at HD2;have HUB3:=Za (HUB2.out.on hn3);have HZ3:=Za (HZ2.out.on hn3);have HN3:=Za (HN2.out.then hn3);clear hnm hpw hn3 main HUB2 HZ2 HN2 hc3;go_wp2_with fail
   refine(ZaM nm 5 _ (by omega)).mono ?_
   rintro e w4 ⟨en,rfl,hen,hn4⟩
   have hel:en.size≤300000:=by rw[←tl_length,hen];exact Zbd _ _ (by rw[tl_length];exact hnl)
   have HEN:=Za (show ZfA (tl nm)=tl en from hen.symm);have HUB4:=Za (HUB3.out.on hn4);have HZ4:=Za (HZ3.out.on hn4);have HN4:=Za (HN3.out.then hn4);clear hen hn4 HUB3 HZ3 HN3;rw[HEN.out]at HD2;obtain⟨a0,a1,a2,a3,a4,a5,a6,a7,a8,a9,a10,a11,a12,a13⟩:=HUB4.out.cells;have af1:=HUB4.out.free 1;go_wp2_with fail
   refine(ZaM pw 5 _ (by omega)).mono ?_
   rintro e w5 ⟨ep,rfl,hep,hn5⟩
   have hepl:ep.size≤300000:=by rw[←tl_length,hep];exact Zbd _ _ (by rw[tl_length];exact hpl)
   have HEP:=Za (show ZfA (tl pw)=tl ep from hep.symm);have HUB5:=Za ((HUB4.out.s1 en).on hn5)
   have HZ5:=Za ((HZ4.out.far (q:=w.heap.size) (by omega) 1 (.string en)).on hn5)
   have HN5:=Za (Nx.then (show Nx w _ from Below.setCell (p:=⟨w.heap.size,1,none⟩) HN4.out (Xa _) (.string en)) hn5);clear a0 a1 a2 a3 a4 a5 a6 a7 a8 a9 a10 a11 a12 a13 af1;clear hep hn5 HUB4 HZ4 HN4;rw[HEP.out]at HD2;obtain⟨a0,a1,a2,a3,a4,a5,a6,a7,a8,a9,a10,a11,a12,a13⟩:=HUB5.out.cells;have af2:=HUB5.out.free 2;have HUB6:=Za (HUB5.out.s2 ep)
   have HZ6:=Za (HZ5.out.far (q:=w.heap.size) (by omega) 2 (.string ep))
   have HN6:=Za (show Nx w (w5.setCell ⟨w.heap.size,2,none⟩ (.string ep))from Below.setCell (p:=⟨w.heap.size,2,none⟩) HN5.out (Xa _) (.string ep))
   have HRC:=Za (show RcIs (w5.setCell ⟨w.heap.size,2,none⟩ (.string ep)) { ru with nam:=en,pw:=ep } { u with nam:=tl en,pw:=tl ep } bs from { HU.out.on HN6.out with eq:=by rw[←HU.out.eq];rfl,lnam:=hel,lpw:=hepl })
   go_wp2_with fail
   refine(Zjq { ru with nam:=en,pw:=ep } _ bs pl _ HRC.out (HTB.out.on HN6.out) hpll).mono ?_
   rintro e w7 ⟨⟨rp,ps,rfl,hrp,hpsl⟩,hn7⟩;have HUB7:=Za (HUB6.out.on hn7);have HZ7:=Za (HZ6.out.on hn7);have HN7:=Za (HN6.out.then hn7);have HP:=Za hrp;clear a0 a1 a2 a3 a4 a5 a6 a7 a8 a9 a10 a11 a12 a13 af2;clear hrp hn7 HUB5 HZ5 HN5 HUB6 HZ6 HN6 HRC;have hlz:w.heap.size+1<w7.heap.size:=(Xb.1 HZ7.out).1
   have hlu:w.heap.size<w7.heap.size:=by omega
   generalize Z2 { u with nam:=tl en,pw:=tl ep } (tl pl)=pq at *
   obtain⟨pu,err⟩:=pq;simp only at HP
   have HPD:=Za (show Zdi (pu,err) (tl ru.sch) (tl be) (sp||sl)=if err≠0 then(zeroU,err)else if(sp||sl)=true then({ pu with segs:=Zbe (tl be) (tl ru.sch) },0)else(pu,0)from rfl)
   obtain⟨a0,a1,a2,a3,a4,a5,a6,a7,a8,a9,a10,a11,a12,a13⟩:=HUB7.out.cells;obtain⟨z0,z1,z2,z3,z4,z5,z6,z7,z8,z9,z10,z11,z12,z13⟩:=HZ7.out.cells;have zf0:=HZ7.out.free 0;have zf1:=HZ7.out.free 1;have zf2:=HZ7.out.free 2;have zf3:=HZ7.out.free 3;have zf4:=HZ7.out.free 4;have zf5:=HZ7.out.free 5;have zf6:=HZ7.out.free 6;have zf7:=HZ7.out.free 7;have zf8:=HZ7.out.free 8;have zf9:=HZ7.out.free 9;have zf10:=HZ7.out.free 10;have zf11:=HZ7.out.free 11;have zf12:=HZ7.out.free 12;have zf13:=HZ7.out.free 13
   by_cases he:err=0
   ·subst he
    have HD3:=Za (HD2.out.trans (HPD.out.trans (if_neg (by decide))))
    clear HD2 HPD
    by_cases hsl:(sp||sl)=true
    ·have HE:=Za (HD3.out.trans (if_pos hsl))
     clear HD3
     have two:sp=true∨(sp=false∧sl=true):=by
      cases sp
      ·exact Or.inr ⟨rfl,by simpa using hsl⟩
      ·exact Or.inl rfl
     clear hsl;rcases two with rfl|⟨rfl,rfl⟩
     ·go_wp2_with fail
      refine(Zao be ru.sch _ (by omega)).mono ?_
      rintro e w8 ⟨v8,ds,rfl,ho,hds,hdl,hn8⟩;obtain⟨ao,n,cap,rfl⟩:=ZF ho;have HO:=Za (Zp ho);have HDS:=Za hds
      have HSH:=Za (Zax hds (Z1 (by rw[tl_length];exact hbl)))
      have HPB:=Za ((Za5 w7 rp).on hn8);have HZ8:=Za ((HZ7.out.on (Nx.rfl.alloc _)).on hn8);have HN8:=Za ((HN7.out.alloc _).then hn8);clear a0 a1 a2 a3 a4 a5 a6 a7 a8 a9 a10 a11 a12 a13 z0 z1 z2 z3 z4 z5 z6 z7 z8 z9 z10 z11 z12 z13 zf0 zf1 zf2 zf3 zf4 zf5 zf6 zf7 zf8 zf9 zf10 zf11 zf12 zf13;clear ho hds hn8;obtain⟨a0,a1,a2,a3,a4,a5,a6,a7,a8,a9,a10,a11,a12,a13⟩:=HPB.out.cells;have af9:=HPB.out.free 9;obtain⟨z0,z1,z2,z3,z4,z5,z6,z7,z8,z9,z10,z11,z12,z13⟩:=HZ8.out.cells;have zf0:=HZ8.out.free 0;have zf1:=HZ8.out.free 1;have zf2:=HZ8.out.free 2;have zf3:=HZ8.out.free 3;have zf4:=HZ8.out.free 4;have zf5:=HZ8.out.free 5;have zf6:=HZ8.out.free 6;have zf7:=HZ8.out.free 7;have zf8:=HZ8.out.free 8;have zf9:=HZ8.out.free 9;have zf10:=HZ8.out.free 10;have zf11:=HZ8.out.free 11;have zf12:=HZ8.out.free 12;have zf13:=HZ8.out.free 13;go_wp2
      refine Zac (rb:=w.heap.size+1) Tryz.results228 rfl rfl (RecB.put (HZ8.out.far (by omega) 9 _) _ _ _ _ _ _ _ _ _ _ _ _ _ _) rfl ⟨⟨{ rp with so:=ao,sn:=n,sc:=cap },ds,(by rw[HE.out];first|done|rfl),?_,by omega⟩,(Zd (Below.setCell HN8.out (by show w.heap.size≤w7.heap.size;omega) _) (by omega) _ _ _ _ _ _ _ _ _ _ _ _ _ _)⟩
      exact { eq:=by rw[HE.out,←HP.out.eq];simp only[Rc.u];rw[HDS.out]
              seg:=HO.out.ks (Ks.then (Ks.then Ks.rfl (ZW HPB.out.ty (by decide) 9 _)) (Zm (HZ8.out.ty.set w7.heap.size 9 _) (by decide) _ _ _ _ _ _ _ _ _ _ _ _ _ _))
              lsch:=HP.out.lsch
              lnam:=HP.out.lnam
              lpw:=HP.out.lpw
              lhost:=HP.out.lhost
              lport:=HP.out.lport
              lopath:=HP.out.lopath
              lsegs:=by omega
              lseg:=HSH.out
              lq:=HP.out.lq
              lfr:=HP.out.lfr }
     ·go_wp2_with fail
      refine(Zao be ru.sch _ (by omega)).mono ?_
      rintro e w8 ⟨v8,ds,rfl,ho,hds,hdl,hn8⟩;obtain⟨ao,n,cap,rfl⟩:=ZF ho;have HO:=Za (Zp ho);have HDS:=Za hds
      have HSH:=Za (Zax hds (Z1 (by rw[tl_length];exact hbl)))
      have HPB:=Za ((Za5 w7 rp).on hn8);have HZ8:=Za ((HZ7.out.on (Nx.rfl.alloc _)).on hn8);have HN8:=Za ((HN7.out.alloc _).then hn8);clear a0 a1 a2 a3 a4 a5 a6 a7 a8 a9 a10 a11 a12 a13 z0 z1 z2 z3 z4 z5 z6 z7 z8 z9 z10 z11 z12 z13 zf0 zf1 zf2 zf3 zf4 zf5 zf6 zf7 zf8 zf9 zf10 zf11 zf12 zf13;clear ho hds hn8;obtain⟨a0,a1,a2,a3,a4,a5,a6,a7,a8,a9,a10,a11,a12,a13⟩:=HPB.out.cells;have af9:=HPB.out.free 9;obtain⟨z0,z1,z2,z3,z4,z5,z6,z7,z8,z9,z10,z11,z12,z13⟩:=HZ8.out.cells;have zf0:=HZ8.out.free 0;have zf1:=HZ8.out.free 1;have zf2:=HZ8.out.free 2;have zf3:=HZ8.out.free 3;have zf4:=HZ8.out.free 4;have zf5:=HZ8.out.free 5;have zf6:=HZ8.out.free 6;have zf7:=HZ8.out.free 7;have zf8:=HZ8.out.free 8;have zf9:=HZ8.out.free 9;have zf10:=HZ8.out.free 10;have zf11:=HZ8.out.free 11;have zf12:=HZ8.out.free 12;have zf13:=HZ8.out.free 13;go_wp2
      refine Zac (rb:=w.heap.size+1) Tryz.results228 rfl rfl (RecB.put (HZ8.out.far (by omega) 9 _) _ _ _ _ _ _ _ _ _ _ _ _ _ _) rfl ⟨⟨{ rp with so:=ao,sn:=n,sc:=cap },ds,(by rw[HE.out];first|done|rfl),?_,by omega⟩,(Zd (Below.setCell HN8.out (by show w.heap.size≤w7.heap.size;omega) _) (by omega) _ _ _ _ _ _ _ _ _ _ _ _ _ _)⟩
      exact { eq:=by rw[HE.out,←HP.out.eq];simp only[Rc.u];rw[HDS.out]
              seg:=HO.out.ks (Ks.then (Ks.then Ks.rfl (ZW HPB.out.ty (by decide) 9 _)) (Zm (HZ8.out.ty.set w7.heap.size 9 _) (by decide) _ _ _ _ _ _ _ _ _ _ _ _ _ _))
              lsch:=HP.out.lsch
              lnam:=HP.out.lnam
              lpw:=HP.out.lpw
              lhost:=HP.out.lhost
              lport:=HP.out.lport
              lopath:=HP.out.lopath
              lsegs:=by omega
              lseg:=HSH.out
              lq:=HP.out.lq
              lfr:=HP.out.lfr }
    ·have HE:=Za (HD3.out.trans (if_neg hsl))
     clear HD3
     obtain⟨rfl,rfl⟩:sp=false∧sl=false:=by cases sp<;>cases sl<;>simp_all
     clear hsl;go_wp2
     exact Zac (rb:=w.heap.size+1) Tryz.results228 rfl rfl ((RecB.put HZ7.out _ _ _ _ _ _ _ _ _ _ _ _ _ _).on (Nx.rfl.alloc _)) rfl ⟨⟨rp,ps,(by rw[HE.out];first|done|rfl),(by rw[HE.out];exact HP.out.ks (Ks.then (Zm HZ7.out.ty (by decide) _ _ _ _ _ _ _ _ _ _ _ _ _ _) (Nx.ks (Nx.rfl.alloc _)))),by omega⟩,Nx.alloc (Zd HN7.out (by omega) _ _ _ _ _ _ _ _ _ _ _ _ _ _) _⟩
   ·have HE:=Za (HD2.out.trans (HPD.out.trans (if_pos he)))
    have he':(err != 0)=true:=ZhB (beq_eq_false_iff_ne.2 he);clear HD2 HPD he;go_wp2
    exact Zac (rb:=w.heap.size+1) Tryz.results228 rfl rfl ((RecB.put HZ7.out _ _ _ _ _ _ _ _ _ _ _ _ _ _).on (Nx.rfl.alloc _)) rfl ⟨⟨rz,[],(by rw[HE.out];first|done|rfl),(by rw[HE.out];exact ZeC _),by simp⟩,Nx.alloc (Zd HN7.out (by omega) _ _ _ _ _ _ _ _ _ _ _ _ _ _) _⟩
end Go.Proofs.YtchkhibgbnhjpabGreatDoor
