import Derived.Test.YtchkhibgbnhjpabGreatDoorV12
open Nat renaming le_refl→Xa
namespace Go.Proofs.YtchkhibgbnhjpabGreatDoor
open Go.RowKit
set_option maxHeartbeats 16000000
def ZaD(l:List UInt8):Int×Bool:=if(Zv l 10 65535).2=false∨65535<(Zv l 10 65535).1 then(0,false)else((Zv l 10 65535).1,true)
theorem Zdi(l:LB):0≤(ZaD l).1∧(ZaD l).1≤65535:=by
 have h:=Zby l 10 65535 (by decide) (by decide)
 unfold ZaD
 split
 ·exact⟨by decide,by decide⟩
 ·next hn=>exact⟨h.1,Int.not_lt.1 (fun hh=>hn (Or.inr hh))⟩
theorem Zck(s:BA)(w:World)(hs:s.size≤1000000):Calls Tryz.prog 278 #[.string s] w fun e w'=>e=.returned (.tuple #[.int .i64 (ZaD (tl s)).1,.bool (ZaD (tl s)).2])∧w=w':=by
 have HD:=Za (show ZaD (tl s)=if(Zv (tl s) 10 65535).2=false∨65535<(Zv (tl s) 10 65535).1 then(0,false)else((Zv (tl s) 10 65535).1,true)from rfl)
 have hrg:=Zby (tl s) 10 65535 (by decide) (by decide)
 generalize hq:Zv (tl s) 10 65535=nq at *;have HQ:=Za hq;clear hq;obtain⟨nv,nok⟩:=nq;simp only at HD hrg
 by_cases hnb:nok=false∨65535<nv
 ·have HE:=Za (HD.out.trans (if_pos hnb))
  clear HD
  cases nok
  ·clear hnb
   go_enter Tryz.func278,Tryz.ntmps278
   go_wp2_with (go_at_call 301;refine(Z0 _ _ _ hs (by decide) (by decide)).mono ?_;rintro e w' ⟨rfl,rfl⟩;rw[HQ.out])
   go_ret2
   exact⟨by rw[HE.out];rfl,rfl⟩
  ·have hnv:65535<nv:=by rcases hnb with h|h;cases h;exact h
   clear hnb
   go_enter Tryz.func278,Tryz.ntmps278
   go_wp2_with (go_at_call 301;refine(Z0 _ _ _ hs (by decide) (by decide)).mono ?_;rintro e w' ⟨rfl,rfl⟩;rw[HQ.out])
   go_ret2
   exact⟨by rw[HE.out];rfl,rfl⟩
 ·have hok:nok=true:=by cases nok;exact absurd (Or.inl rfl) hnb;rfl
  subst hok
  have hnv:nv≤65535:=Int.not_lt.1 (fun h=>hnb (Or.inr h))
  have HE:=Za (HD.out.trans (if_neg hnb));clear HD hnb
  go_enter Tryz.func278,Tryz.ntmps278
  go_wp2_with (go_at_call 301;refine(Z0 _ _ _ hs (by decide) (by decide)).mono ?_;rintro e w' ⟨rfl,rfl⟩;rw[HQ.out])
  go_ret2
  exact⟨by rw[HE.out];rfl,rfl⟩
def Rc.noPort(r:Rc):Rc:={ r with hp:=false,port:=0 }
theorem ZfT(ru:Rc)(w:World):Calls Tryz.prog 282 #[.agg #[.string ru.sch,.string ru.nam,.string ru.pw,.bool ru.hh,.string ru.host,.bool ru.hp,.int .i64 (ru.port:Int),.bool ru.op,.string ru.opath,.slice ru.so ru.sn ru.sc,.bool ru.hq,.string ru.q,.bool ru.hf,.string ru.fr]] w fun e w'=>∃r:Rc,e=.returned (.agg #[.string r.sch,.string r.nam,.string r.pw,.bool r.hh,.string r.host,.bool r.hp,.int .i64 (r.port:Int),.bool r.op,.string r.opath,.slice r.so r.sn r.sc,.bool r.hq,.string r.q,.bool r.hf,.string r.fr])∧r=ru.noPort∧Nx w w':=by
 go_enter Tryz.func282,Tryz.ntmps282
 go_upto_region 1 with fail;obtain⟨g1,g2,g3⟩:=Zcb (w:=w) (ru:=ru) Nx.rfl;have HUB:=Za g1;have HZ:=Za g2;have HN:=Za g3;clear g1 g2 g3;generalize ((w.alloc (Obj.cells #[.string ru.sch,.string ru.nam,.string ru.pw,.bool ru.hh,.string ru.host,.bool ru.hp,.int .i64 (ru.port:Int),.bool ru.op,.string ru.opath,.slice ru.so ru.sn ru.sc,.bool ru.hq,.string ru.q,.bool ru.hf,.string ru.fr] 101)).alloc (Obj.cells #[.string ⟨#[]⟩,.string ⟨#[]⟩,.string ⟨#[]⟩,.bool false,.string ⟨#[]⟩,.bool false,.int .i64 0,.bool false,.string ⟨#[]⟩,.slice none 0 0,.bool false,.string ⟨#[]⟩,.bool false,.string ⟨#[]⟩] 101))=w1 at *;obtain⟨a0,a1,a2,a3,a4,a5,a6,a7,a8,a9,a10,a11,a12,a13⟩:=HUB.out.cells;have af5:=HUB.out.free 5;have af6:=HUB.out.free 6;obtain⟨z0,z1,z2,z3,z4,z5,z6,z7,z8,z9,z10,z11,z12,z13⟩:=HZ.out.cells;have zf0:=HZ.out.free 0;have zf1:=HZ.out.free 1;have zf2:=HZ.out.free 2;have zf3:=HZ.out.free 3;have zf4:=HZ.out.free 4;have zf5:=HZ.out.free 5;have zf6:=HZ.out.free 6;have zf7:=HZ.out.free 7;have zf8:=HZ.out.free 8;have zf9:=HZ.out.free 9;have zf10:=HZ.out.free 10;have zf11:=HZ.out.free 11;have zf12:=HZ.out.free 12;have zf13:=HZ.out.free 13;go_wp2
 refine Zc4 (rb:=w.heap.size+1) Tryz.results282 rfl (RecB.put ((HZ.out.far (by omega) 5 _).far (by omega) 6 _) _ _ _ _ _ _ _ _ _ _ _ _ _ _) rfl ⟨ru.noPort,rfl,rfl,(Zd (Below.setCell (Below.setCell HN.out (Xa _) _) (Xa _) _) (by omega) _ _ _ _ _ _ _ _ _ _ _ _ _ _)⟩
def Rc.atPort(r:Rc)(p:Nat):Rc:=if(ZM (tl r.sch)).2=true∧(p:Int)=(ZM (tl r.sch)).1 then r.noPort else { r with hp:=true,port:=p }
def ZaW(u:U)(p:Int):U:=if(ZM u.sch).2=true∧p=(ZM u.sch).1 then { u with hp:=false,port:=0 }else { u with hp:=true,port:=p.toNat }
theorem ZgZ(ru:Rc)(p:Nat)(w:World):Calls Tryz.prog 279 #[.agg #[.string ru.sch,.string ru.nam,.string ru.pw,.bool ru.hh,.string ru.host,.bool ru.hp,.int .i64 (ru.port:Int),.bool ru.op,.string ru.opath,.slice ru.so ru.sn ru.sc,.bool ru.hq,.string ru.q,.bool ru.hf,.string ru.fr],.int .i64 (p:Int)] w fun e w'=>∃r:Rc,e=.returned (.agg #[.string r.sch,.string r.nam,.string r.pw,.bool r.hh,.string r.host,.bool r.hp,.int .i64 (r.port:Int),.bool r.op,.string r.opath,.slice r.so r.sn r.sc,.bool r.hq,.string r.q,.bool r.hf,.string r.fr])∧r=ru.atPort p∧Nx w w':=by
 have HD:=Za (show ru.atPort p=if(ZM (tl ru.sch)).2=true∧(p:Int)=(ZM (tl ru.sch)).1 then ru.noPort else { ru with hp:=true,port:=p }from rfl)
 generalize ho:ZM (tl ru.sch)=op at *;have HOP:=Za ho;clear ho;obtain⟨ov,ook⟩:=op;simp only at HD
 go_enter Tryz.func279,Tryz.ntmps279
 go_upto_region 1 with fail;obtain⟨g1,g2,g3⟩:=Zcb (w:=w) (ru:=ru) Nx.rfl;have HUB:=Za g1;have HZ:=Za g2;have HN:=Za g3;clear g1 g2 g3;generalize ((w.alloc (Obj.cells #[.string ru.sch,.string ru.nam,.string ru.pw,.bool ru.hh,.string ru.host,.bool ru.hp,.int .i64 (ru.port:Int),.bool ru.op,.string ru.opath,.slice ru.so ru.sn ru.sc,.bool ru.hq,.string ru.q,.bool ru.hf,.string ru.fr] 101)).alloc (Obj.cells #[.string ⟨#[]⟩,.string ⟨#[]⟩,.string ⟨#[]⟩,.bool false,.string ⟨#[]⟩,.bool false,.int .i64 0,.bool false,.string ⟨#[]⟩,.slice none 0 0,.bool false,.string ⟨#[]⟩,.bool false,.string ⟨#[]⟩] 101))=w1 at *;obtain⟨a0,a1,a2,a3,a4,a5,a6,a7,a8,a9,a10,a11,a12,a13⟩:=HUB.out.cells;have af5:=HUB.out.free 5;have af6:=HUB.out.free 6;obtain⟨z0,z1,z2,z3,z4,z5,z6,z7,z8,z9,z10,z11,z12,z13⟩:=HZ.out.cells;have zf0:=HZ.out.free 0;have zf1:=HZ.out.free 1;have zf2:=HZ.out.free 2;have zf3:=HZ.out.free 3;have zf4:=HZ.out.free 4;have zf5:=HZ.out.free 5;have zf6:=HZ.out.free 6;have zf7:=HZ.out.free 7;have zf8:=HZ.out.free 8;have zf9:=HZ.out.free 9;have zf10:=HZ.out.free 10;have zf11:=HZ.out.free 11;have zf12:=HZ.out.free 12;have zf13:=HZ.out.free 13
 cases ook
 ·have HE:=Za (HD.out.trans (if_neg (by rintro⟨h,-⟩;cases h)))
  clear HD
  go_wp2_with (go_at_call 223;refine(Zb5 _ _).mono ?_;rintro e w' ⟨rfl,rfl⟩;rw[HOP.out])
  refine Zc4 (rb:=w.heap.size+1) Tryz.results279 rfl (RecB.put ((HZ.out.far (by omega) 5 _).far (by omega) 6 _) _ _ _ _ _ _ _ _ _ _ _ _ _ _) rfl ⟨{ ru with hp:=true,port:=p },rfl,HE.out.symm,(Zd (Below.setCell (Below.setCell HN.out (Xa _) _) (Xa _) _) (by omega) _ _ _ _ _ _ _ _ _ _ _ _ _ _)⟩
 ·by_cases hov:(p:Int)=ov
  ·have HE:=Za (HD.out.trans (if_pos ⟨rfl,hov⟩))
   have hov':((p:Int)==ov)=true:=by rw[hov];simp
   clear HD hov
   go_wp2_with (first|(go_at_call 223;refine(Zb5 _ _).mono ?_;rintro e w' ⟨rfl,rfl⟩;rw[HOP.out])|fail)
   refine(ZfT ru _).mono ?_
   rintro e w2 ⟨r,rfl,hr,hn⟩;have HR:=Za hr;have HZ2:=Za (HZ.out.on hn);have HN2:=Za (HN.out.then hn);clear hr hn z0 z1 z2 z3 z4 z5 z6 z7 z8 z9 z10 z11 z12 z13 zf0 zf1 zf2 zf3 zf4 zf5 zf6 zf7 zf8 zf9 zf10 zf11 zf12 zf13;obtain⟨z0,z1,z2,z3,z4,z5,z6,z7,z8,z9,z10,z11,z12,z13⟩:=HZ2.out.cells;have zf0:=HZ2.out.free 0;have zf1:=HZ2.out.free 1;have zf2:=HZ2.out.free 2;have zf3:=HZ2.out.free 3;have zf4:=HZ2.out.free 4;have zf5:=HZ2.out.free 5;have zf6:=HZ2.out.free 6;have zf7:=HZ2.out.free 7;have zf8:=HZ2.out.free 8;have zf9:=HZ2.out.free 9;have zf10:=HZ2.out.free 10;have zf11:=HZ2.out.free 11;have zf12:=HZ2.out.free 12;have zf13:=HZ2.out.free 13;go_wp2
   exact Zc4 (rb:=w.heap.size+1) Tryz.results279 rfl (RecB.put HZ2.out _ _ _ _ _ _ _ _ _ _ _ _ _ _) rfl ⟨r,rfl,by rw[HE.out];exact HR.out,(Zd HN2.out (by omega) _ _ _ _ _ _ _ _ _ _ _ _ _ _)⟩
  ·have HE:=Za (HD.out.trans (if_neg (by rintro⟨-,h⟩;exact hov h)))
   have hov':((p:Int)==ov)=false:=beq_eq_false_iff_ne.2 hov;clear HD hov
   go_wp2_with (go_at_call 223;refine(Zb5 _ _).mono ?_;rintro e w' ⟨rfl,rfl⟩;rw[HOP.out])
   refine Zc4 (rb:=w.heap.size+1) Tryz.results279 rfl (RecB.put ((HZ.out.far (by omega) 5 _).far (by omega) 6 _) _ _ _ _ _ _ _ _ _ _ _ _ _ _) rfl ⟨{ ru with hp:=true,port:=p },rfl,HE.out.symm,(Zd (Below.setCell (Below.setCell HN.out (Xa _) _) (Xa _) _) (by omega) _ _ _ _ _ _ _ _ _ _ _ _ _ _)⟩
theorem RcIs.atPort{w:World}{r:Rc}{u:U}{bs:LA}{p:Nat}(h:RcIs w r u bs)(hp:p≤65535):RcIs w (r.atPort p) (ZaW u p) bs:=by
 have e:ZaW u p=if(ZM (tl r.sch)).2=true∧(p:Int)=(ZM (tl r.sch)).1 then { u with hp:=false,port:=0 }else { u with hp:=true,port:=p }:=by rw[h.usch];rfl
 rw[e];unfold Rc.atPort
 split
 ·exact { h with eq:=by rw[←h.eq];rfl,lport:=Nat.zero_le _ }
 ·exact { h with eq:=by rw[←h.eq];rfl,lport:=hp }
def ZdO(u:U)(port:List UInt8):U×Int:=if(ZaD port).2=false then(zeroU,2)else(ZaW u (ZaD port).1,0)
def ZP(u:U)(place:List UInt8):U×Int:=
 if(Zu place).1=[]∧(Zb u.sch=true∨(Zu place).2.2=true)then(zeroU,2)
 else if(ZI (Zu place).1 (Zb u.sch)).2≠0 then(zeroU,(ZI (Zu place).1 (Zb u.sch)).2)
 else if(Zu place).2.1=[]then({ u with hh:=true,host:=(ZI (Zu place).1 (Zb u.sch)).1 },0)
 else ZdO { u with hh:=true,host:=(ZI (Zu place).1 (Zb u.sch)).1 } (Zu place).2.1
theorem ZhK(l:LB):∀inb q,cutPortGo inb l=some q→q.1.length≤l.length∧q.2.length≤l.length:=by
 induction l with
 | nil=>intro inb q h;cases h
 | cons c r ih=>
  intro inb q h;rw[cutPortGo]at h
  have key:∀b,(cutPortGo b r).map (fun q=>(c::q.1,q.2))=some q→q.1.length≤(c::r).length∧q.2.length≤(c::r).length:=by
   intro b hb
   cases hq:cutPortGo b r with
   | none=>rw[hq]at hb;cases hb
   | some x=>
    rw[hq]at hb;simp only[Option.map_some,Option.some.injEq]at hb;subst hb;have:=ih b x hq;simp only[List.length_cons]
    omega
  split at h
  ·exact key _ h
  ·split at h
   ·exact key _ h
   ·split at h
    ·cases h
     simp
    ·exact key _ h
theorem ZfU(l:LB):(Zu l).1.length≤l.length∧(Zu l).2.1.length≤l.length:=by
 unfold Zu
 cases h:cutPortGo false l with
 | none=>simp
 | some q=>exact ZhK l false q h
theorem Zg0(ru:Rc)(u:U)(bs:LA)(p:BA)(w:World)(h1:RcIs w ru u bs)(ht:Tb w)(hl:p.size≤30000):Calls Tryz.prog 262 #[.agg #[.string ru.sch,.string ru.nam,.string ru.pw,.bool ru.hh,.string ru.host,.bool ru.hp,.int .i64 (ru.port:Int),.bool ru.op,.string ru.opath,.slice ru.so ru.sn ru.sc,.bool ru.hq,.string ru.q,.bool ru.hf,.string ru.fr],.string p] w fun e w'=>Zfc e w' (ZP u (tl p)) bs.length∧Nx w w':=by
 have HU:=Za h1;have HTB:=Za ht;have hcl:=ZfU (tl p)
 have HD:=Za (show ZP u (tl p)=if(Zu (tl p)).1=[]∧(Zb (tl ru.sch)=true∨(Zu (tl p)).2.2=true)then(zeroU,2)
  else if(ZI (Zu (tl p)).1 (Zb (tl ru.sch))).2≠0 then(zeroU,(ZI (Zu (tl p)).1 (Zb (tl ru.sch))).2)
  else if(Zu (tl p)).2.1=[]then({ u with hh:=true,host:=(ZI (Zu (tl p)).1 (Zb (tl ru.sch))).1 },0)
  else ZdO { u with hh:=true,host:=(ZI (Zu (tl p)).1 (Zb (tl ru.sch))).1 } (Zu (tl p)).2.1 by rw[h1.usch];rfl)
 clear h1 ht;generalize hsp:Zb (tl ru.sch)=sp at *;have HSP:=Za hsp;clear hsp
 go_enter Tryz.func262,Tryz.ntmps262
 go_wp2_with (first|(go_at_call 189;refine(Z6 _ _).mono ?_;rintro e w' ⟨rfl,rfl⟩;rw[HSP.out])|fail)
 refine(ZjZ p _ (by omega)).mono ?_
 rintro e w1 ⟨⟨x,y,rfl,hx,hy⟩,hn1⟩;rw[←hx,←hy]at HD hcl;rw[tl_length,tl_length,tl_length]at hcl
 have hxl:x.size≤30000:=by omega
 have hyl:y.size≤30000:=by omega
 obtain⟨g1,g2,g3⟩:=Zcb hn1;have HUB:=Za g1;have HZ:=Za g2;have HN:=Za g3;clear hx hy hn1 g1 g2 g3 hcl;generalize (Zu (tl p)).2.2=col at *
 by_cases hbad:x.size=0∧(sp=true∨col=true)
 ·have HE:=Za (HD.out.trans (if_pos ⟨Zz hbad.1,hbad.2⟩))
  obtain⟨hx0,hsc⟩:=hbad;have hx0':=Zf hx0;clear HD hx0;obtain⟨z0,z1,z2,z3,z4,z5,z6,z7,z8,z9,z10,z11,z12,z13⟩:=HZ.out.cells;have zf0:=HZ.out.free 0;have zf1:=HZ.out.free 1;have zf2:=HZ.out.free 2;have zf3:=HZ.out.free 3;have zf4:=HZ.out.free 4;have zf5:=HZ.out.free 5;have zf6:=HZ.out.free 6;have zf7:=HZ.out.free 7;have zf8:=HZ.out.free 8;have zf9:=HZ.out.free 9;have zf10:=HZ.out.free 10;have zf11:=HZ.out.free 11;have zf12:=HZ.out.free 12;have zf13:=HZ.out.free 13
  cases sp
  ·have hcol:col=true:=by rcases hsc with h|h;cases h;exact h
   subst hcol;clear hsc;go_wp2
   refine Z9 (rb:=w.heap.size+1) Tryz.results262 rfl rfl (RecB.put HZ.out _ _ _ _ _ _ _ _ _ _ _ _ _ _) rfl ⟨⟨rz,[],(by rw[HE.out];first|done|rfl),(by rw[HE.out];exact Zc6 _),by simp⟩,(Zd HN.out (by omega) _ _ _ _ _ _ _ _ _ _ _ _ _ _)⟩
  ·clear hsc
   go_wp2
   refine Z9 (rb:=w.heap.size+1) Tryz.results262 rfl rfl (RecB.put HZ.out _ _ _ _ _ _ _ _ _ _ _ _ _ _) rfl ⟨⟨rz,[],(by rw[HE.out];first|done|rfl),(by rw[HE.out];exact Zc6 _),by simp⟩,(Zd HN.out (by omega) _ _ _ _ _ _ _ _ _ _ _ _ _ _)⟩
 ·have HD2:=Za (HD.out.trans (if_neg (fun h=>hbad ⟨by have:=congrArg List.length h.1;rw[tl_length]at this;simpa using this,h.2⟩)))
  have HHL:=Za (ZfS (l:=tl x) (sp:=sp) (by rw[tl_length];exact hxl))
  clear HD
  have step:(x.toList.isEmpty=false)∨(x.toList.isEmpty=true∧sp=false∧col=false):=by
   by_cases hx0:x.size=0
   ·refine Or.inr ⟨Zf hx0,?_,?_⟩
    ·cases sp
     ·rfl
     ·exact absurd ⟨hx0,Or.inl rfl⟩ hbad
    ·cases col
     ·rfl
     ·exact absurd ⟨hx0,Or.inr rfl⟩ hbad
   ·exact Or.inl (Ze hx0)
  have STEP:=Za step;clear step hbad
  have main:Hid (∀(K:Ending→World→Prop),(∀(fh:BA) (w2:World),fh.size≤300000→tl fh=(ZI (tl x) sp).1→Nx w1 w2→K (.returned (.tuple #[.string fh,.int .i64 (ZI (tl x) sp).2])) w2)→Calls Tryz.prog 277 #[.string x,.bool sp] w1 K):=Za (fun K hK=>(Ziz x sp w1 (by omega) (HTB.out.on HN.out)).mono (by
   rintro e w2 ⟨r,rfl,hr,hn⟩
   exact hK r w2 (by rw[←tl_length,hr];exact HHL.out) hr hn))
  rcases STEP.out with hxe|⟨hxe,rfl,rfl⟩
  ·go_wp2_with fail
   refine main.out _ ?_
   intro fh w2 hfs hfh hn2;rw[←hfh]at HD2;have HUB2:=Za (HUB.out.on hn2);have HZ2:=Za (HZ.out.on hn2);have HN2:=Za (HN.out.then hn2);have HU2:=Za (HU.out.on HN2.out);clear hfh hn2 main HHL HUB HZ HN;generalize (ZI (tl x) sp).2=err at *
   by_cases he:err=0
   ·subst he
    have HD3:=Za (HD2.out.trans (if_neg (by decide)))
    clear HD2;obtain⟨a0,a1,a2,a3,a4,a5,a6,a7,a8,a9,a10,a11,a12,a13⟩:=HUB2.out.cells;have af3:=HUB2.out.free 3;have af4:=HUB2.out.free 4;have af5:=HUB2.out.free 5;have af6:=HUB2.out.free 6;obtain⟨z0,z1,z2,z3,z4,z5,z6,z7,z8,z9,z10,z11,z12,z13⟩:=HZ2.out.cells;have zf0:=HZ2.out.free 0;have zf1:=HZ2.out.free 1;have zf2:=HZ2.out.free 2;have zf3:=HZ2.out.free 3;have zf4:=HZ2.out.free 4;have zf5:=HZ2.out.free 5;have zf6:=HZ2.out.free 6;have zf7:=HZ2.out.free 7;have zf8:=HZ2.out.free 8;have zf9:=HZ2.out.free 9;have zf10:=HZ2.out.free 10;have zf11:=HZ2.out.free 11;have zf12:=HZ2.out.free 12;have zf13:=HZ2.out.free 13
    by_cases hy0:y.size=0
    ·have HE:=Za (HD3.out.trans (if_pos (Zz hy0)))
     have hy0':=Zf hy0;clear HD3 hy0;go_wp2
     refine Z9 (rb:=w.heap.size+1) Tryz.results262 rfl rfl (RecB.put ((HZ2.out.far (by omega) 3 _).far (by omega) 4 _) _ _ _ _ _ _ _ _ _ _ _ _ _ _) rfl ⟨⟨{ ru with hh:=true,host:=fh },bs,(by rw[HE.out];first|done|rfl),?_,Xa _⟩,(Zd (Below.setCell (Below.setCell HN2.out (Xa _) _) (Xa _) _) (by omega) _ _ _ _ _ _ _ _ _ _ _ _ _ _)⟩
     exact { eq:=by rw[HE.out,←HU.out.eq];rfl
             seg:=HU2.out.seg.ks (Ks.then (Ks.then (Ks.then Ks.rfl (ZW HUB2.out.ty (by decide) 3 _)) (ZW (HUB2.out.ty.set w.heap.size 3 _) (by decide) 4 _)) (Zq ((HZ2.out.ty.set w.heap.size 3 _).set w.heap.size 4 _) (by decide) _ _ _ _ _ _ _ _ _ _ _ _ _ _))
             lsch:=HU2.out.lsch
             lnam:=HU2.out.lnam
             lpw:=HU2.out.lpw
             lhost:=hfs
             lport:=HU2.out.lport
             lopath:=HU2.out.lopath
             lsegs:=HU2.out.lsegs
             lseg:=HU2.out.lseg
             lq:=HU2.out.lq
             lfr:=HU2.out.lfr }
    ·have HD4:=Za (HD3.out.trans (if_neg (ZcC hy0)))
     have hy0':=Ze hy0;clear HD3 hy0
     have HPD:=Za (show ZdO { u with hh:=true,host:=tl fh } (tl y)=if(ZaD (tl y)).2=false then(zeroU,2)else(ZaW { u with hh:=true,host:=tl fh } (ZaD (tl y)).1,0)from rfl)
     have hrg:=Zdi (tl y);generalize hq:ZaD (tl y)=nq at *;have HQ:=Za hq;clear hq;obtain⟨nv,nok⟩:=nq;simp only at HPD hrg
     cases nok
     ·have HE:=Za (HD4.out.trans (HPD.out.trans (if_pos rfl)))
      clear HD4 HPD
      go_wp2_with (go_at_call 278;refine(Zck _ _ (by omega)).mono ?_;rintro e w' ⟨rfl,rfl⟩;rw[HQ.out])
      refine Z9 (rb:=w.heap.size+1) Tryz.results262 rfl rfl (RecB.put ((HZ2.out.far (by omega) 3 _).far (by omega) 4 _) _ _ _ _ _ _ _ _ _ _ _ _ _ _) rfl ⟨⟨rz,[],(by rw[HE.out];first|done|rfl),by rw[HE.out];exact Zc6 _,by simp⟩,(Zd (Below.setCell (Below.setCell HN2.out (Xa _) _) (Xa _) _) (by omega) _ _ _ _ _ _ _ _ _ _ _ _ _ _)⟩
     ·have HE:=Za (HD4.out.trans (HPD.out.trans (if_neg (by decide))))
      clear HD4 HPD
      obtain⟨pn,rfl⟩:∃pn:Nat,nv=(pn:Int):=⟨nv.toNat,by omega⟩
      have hpn:pn≤65535:=by omega
      go_wp2_with (first|(go_at_call 278;refine(Zck _ _ (by omega)).mono ?_;rintro e w' ⟨rfl,rfl⟩;rw[HQ.out])|fail)
      refine(ZgZ { ru with hh:=true,host:=fh } pn _).mono ?_
      rintro e w3 ⟨r3,rfl,hr3,hn3⟩
      have HR3:=Za ((((show RcIs w2 { ru with hh:=true,host:=fh } { u with hh:=true,host:=tl fh } bs from { HU2.out with eq:=by rw[←HU2.out.eq];rfl,lhost:=hfs }).ks (Ks.then (Ks.then Ks.rfl (ZW HUB2.out.ty (by decide) 3 (.bool true))) (ZW (HUB2.out.ty.set w.heap.size 3 (.bool true)) (by decide) 4 (.string fh)))).on hn3).atPort hpn)
      rw[←hr3]at HR3
      have HZ3:=Za ((HZ2.out.far (q:=w.heap.size) (by omega) 3 (.bool true)).far (q:=w.heap.size) (by omega) 4 (.string fh) |>.on hn3)
      have HN3:=Za ((Below.setCell (p:=⟨w.heap.size,4,none⟩) (Below.setCell (p:=⟨w.heap.size,3,none⟩) HN2.out (Xa _) (.bool true)) (Xa _) (.string fh) |> fun h=>Nx.then h hn3):Nx w w3)
      clear hr3 hn3;clear a0 a1 a2 a3 a4 a5 a6 a7 a8 a9 a10 a11 a12 a13 z0 z1 z2 z3 z4 z5 z6 z7 z8 z9 z10 z11 z12 z13 zf0 zf1 zf2 zf3 zf4 zf5 zf6 zf7 zf8 zf9 zf10 zf11 zf12 zf13 af3 af4 af5 af6;obtain⟨z0,z1,z2,z3,z4,z5,z6,z7,z8,z9,z10,z11,z12,z13⟩:=HZ3.out.cells;have zf0:=HZ3.out.free 0;have zf1:=HZ3.out.free 1;have zf2:=HZ3.out.free 2;have zf3:=HZ3.out.free 3;have zf4:=HZ3.out.free 4;have zf5:=HZ3.out.free 5;have zf6:=HZ3.out.free 6;have zf7:=HZ3.out.free 7;have zf8:=HZ3.out.free 8;have zf9:=HZ3.out.free 9;have zf10:=HZ3.out.free 10;have zf11:=HZ3.out.free 11;have zf12:=HZ3.out.free 12;have zf13:=HZ3.out.free 13;go_wp2
      exact Z9 (rb:=w.heap.size+1) Tryz.results262 rfl rfl (RecB.put HZ3.out _ _ _ _ _ _ _ _ _ _ _ _ _ _) rfl ⟨⟨r3,bs,(by rw[HE.out];first|done|rfl),(by rw[HE.out];exact HR3.out.ks (Ks.then Ks.rfl (Zq HZ3.out.ty (by decide) _ _ _ _ _ _ _ _ _ _ _ _ _ _))),Xa _⟩,(Zd HN3.out (by omega) _ _ _ _ _ _ _ _ _ _ _ _ _ _)⟩
   ·have HE:=Za (HD2.out.trans (if_pos he))
    have he':(err != 0)=true:=Zd9 (beq_eq_false_iff_ne.2 he);clear HD2 he;obtain⟨z0,z1,z2,z3,z4,z5,z6,z7,z8,z9,z10,z11,z12,z13⟩:=HZ2.out.cells;have zf0:=HZ2.out.free 0;have zf1:=HZ2.out.free 1;have zf2:=HZ2.out.free 2;have zf3:=HZ2.out.free 3;have zf4:=HZ2.out.free 4;have zf5:=HZ2.out.free 5;have zf6:=HZ2.out.free 6;have zf7:=HZ2.out.free 7;have zf8:=HZ2.out.free 8;have zf9:=HZ2.out.free 9;have zf10:=HZ2.out.free 10;have zf11:=HZ2.out.free 11;have zf12:=HZ2.out.free 12;have zf13:=HZ2.out.free 13;go_wp2
    refine Z9 (rb:=w.heap.size+1) Tryz.results262 rfl rfl (RecB.put HZ2.out _ _ _ _ _ _ _ _ _ _ _ _ _ _) rfl ⟨⟨rz,[],(by rw[HE.out];first|done|rfl),(by rw[HE.out];exact Zc6 _),by simp⟩,(Zd HN2.out (by omega) _ _ _ _ _ _ _ _ _ _ _ _ _ _)⟩
  ·go_wp2_with fail
   refine main.out _ ?_
   intro fh w2 hfs hfh hn2;rw[←hfh]at HD2;have HUB2:=Za (HUB.out.on hn2);have HZ2:=Za (HZ.out.on hn2);have HN2:=Za (HN.out.then hn2);have HU2:=Za (HU.out.on HN2.out);clear hfh hn2 main HHL HUB HZ HN;generalize (ZI (tl x) false).2=err at *
   by_cases he:err=0
   ·subst he
    have HD3:=Za (HD2.out.trans (if_neg (by decide)))
    clear HD2;obtain⟨a0,a1,a2,a3,a4,a5,a6,a7,a8,a9,a10,a11,a12,a13⟩:=HUB2.out.cells;have af3:=HUB2.out.free 3;have af4:=HUB2.out.free 4;have af5:=HUB2.out.free 5;have af6:=HUB2.out.free 6;obtain⟨z0,z1,z2,z3,z4,z5,z6,z7,z8,z9,z10,z11,z12,z13⟩:=HZ2.out.cells;have zf0:=HZ2.out.free 0;have zf1:=HZ2.out.free 1;have zf2:=HZ2.out.free 2;have zf3:=HZ2.out.free 3;have zf4:=HZ2.out.free 4;have zf5:=HZ2.out.free 5;have zf6:=HZ2.out.free 6;have zf7:=HZ2.out.free 7;have zf8:=HZ2.out.free 8;have zf9:=HZ2.out.free 9;have zf10:=HZ2.out.free 10;have zf11:=HZ2.out.free 11;have zf12:=HZ2.out.free 12;have zf13:=HZ2.out.free 13
    by_cases hy0:y.size=0
    ·have HE:=Za (HD3.out.trans (if_pos (Zz hy0)))
     have hy0':=Zf hy0;clear HD3 hy0;go_wp2
     refine Z9 (rb:=w.heap.size+1) Tryz.results262 rfl rfl (RecB.put ((HZ2.out.far (by omega) 3 _).far (by omega) 4 _) _ _ _ _ _ _ _ _ _ _ _ _ _ _) rfl ⟨⟨{ ru with hh:=true,host:=fh },bs,(by rw[HE.out];first|done|rfl),?_,Xa _⟩,(Zd (Below.setCell (Below.setCell HN2.out (Xa _) _) (Xa _) _) (by omega) _ _ _ _ _ _ _ _ _ _ _ _ _ _)⟩
     exact { eq:=by rw[HE.out,←HU.out.eq];rfl
             seg:=HU2.out.seg.ks (Ks.then (Ks.then (Ks.then Ks.rfl (ZW HUB2.out.ty (by decide) 3 _)) (ZW (HUB2.out.ty.set w.heap.size 3 _) (by decide) 4 _)) (Zq ((HZ2.out.ty.set w.heap.size 3 _).set w.heap.size 4 _) (by decide) _ _ _ _ _ _ _ _ _ _ _ _ _ _))
             lsch:=HU2.out.lsch
             lnam:=HU2.out.lnam
             lpw:=HU2.out.lpw
             lhost:=hfs
             lport:=HU2.out.lport
             lopath:=HU2.out.lopath
             lsegs:=HU2.out.lsegs
             lseg:=HU2.out.lseg
             lq:=HU2.out.lq
             lfr:=HU2.out.lfr }
    ·have HD4:=Za (HD3.out.trans (if_neg (ZcC hy0)))
     have hy0':=Ze hy0;clear HD3 hy0
     have HPD:=Za (show ZdO { u with hh:=true,host:=tl fh } (tl y)=if(ZaD (tl y)).2=false then(zeroU,2)else(ZaW { u with hh:=true,host:=tl fh } (ZaD (tl y)).1,0)from rfl)
     have hrg:=Zdi (tl y);generalize hq:ZaD (tl y)=nq at *;have HQ:=Za hq;clear hq;obtain⟨nv,nok⟩:=nq;simp only at HPD hrg
     cases nok
     ·have HE:=Za (HD4.out.trans (HPD.out.trans (if_pos rfl)))
      clear HD4 HPD
      go_wp2_with (go_at_call 278;refine(Zck _ _ (by omega)).mono ?_;rintro e w' ⟨rfl,rfl⟩;rw[HQ.out])
      refine Z9 (rb:=w.heap.size+1) Tryz.results262 rfl rfl (RecB.put ((HZ2.out.far (by omega) 3 _).far (by omega) 4 _) _ _ _ _ _ _ _ _ _ _ _ _ _ _) rfl ⟨⟨rz,[],(by rw[HE.out];first|done|rfl),by rw[HE.out];exact Zc6 _,by simp⟩,(Zd (Below.setCell (Below.setCell HN2.out (Xa _) _) (Xa _) _) (by omega) _ _ _ _ _ _ _ _ _ _ _ _ _ _)⟩
     ·have HE:=Za (HD4.out.trans (HPD.out.trans (if_neg (by decide))))
      clear HD4 HPD
      obtain⟨pn,rfl⟩:∃pn:Nat,nv=(pn:Int):=⟨nv.toNat,by omega⟩
      have hpn:pn≤65535:=by omega
      go_wp2_with (first|(go_at_call 278;refine(Zck _ _ (by omega)).mono ?_;rintro e w' ⟨rfl,rfl⟩;rw[HQ.out])|fail)
      refine(ZgZ { ru with hh:=true,host:=fh } pn _).mono ?_
      rintro e w3 ⟨r3,rfl,hr3,hn3⟩
      have HR3:=Za ((((show RcIs w2 { ru with hh:=true,host:=fh } { u with hh:=true,host:=tl fh } bs from { HU2.out with eq:=by rw[←HU2.out.eq];rfl,lhost:=hfs }).ks (Ks.then (Ks.then Ks.rfl (ZW HUB2.out.ty (by decide) 3 (.bool true))) (ZW (HUB2.out.ty.set w.heap.size 3 (.bool true)) (by decide) 4 (.string fh)))).on hn3).atPort hpn)
      rw[←hr3]at HR3
      have HZ3:=Za ((HZ2.out.far (q:=w.heap.size) (by omega) 3 (.bool true)).far (q:=w.heap.size) (by omega) 4 (.string fh) |>.on hn3)
      have HN3:=Za ((Below.setCell (p:=⟨w.heap.size,4,none⟩) (Below.setCell (p:=⟨w.heap.size,3,none⟩) HN2.out (Xa _) (.bool true)) (Xa _) (.string fh) |> fun h=>Nx.then h hn3):Nx w w3)
      clear hr3 hn3;clear a0 a1 a2 a3 a4 a5 a6 a7 a8 a9 a10 a11 a12 a13 z0 z1 z2 z3 z4 z5 z6 z7 z8 z9 z10 z11 z12 z13 zf0 zf1 zf2 zf3 zf4 zf5 zf6 zf7 zf8 zf9 zf10 zf11 zf12 zf13 af3 af4 af5 af6;obtain⟨z0,z1,z2,z3,z4,z5,z6,z7,z8,z9,z10,z11,z12,z13⟩:=HZ3.out.cells;have zf0:=HZ3.out.free 0;have zf1:=HZ3.out.free 1;have zf2:=HZ3.out.free 2;have zf3:=HZ3.out.free 3;have zf4:=HZ3.out.free 4;have zf5:=HZ3.out.free 5;have zf6:=HZ3.out.free 6;have zf7:=HZ3.out.free 7;have zf8:=HZ3.out.free 8;have zf9:=HZ3.out.free 9;have zf10:=HZ3.out.free 10;have zf11:=HZ3.out.free 11;have zf12:=HZ3.out.free 12;have zf13:=HZ3.out.free 13;go_wp2
      exact Z9 (rb:=w.heap.size+1) Tryz.results262 rfl rfl (RecB.put HZ3.out _ _ _ _ _ _ _ _ _ _ _ _ _ _) rfl ⟨⟨r3,bs,(by rw[HE.out];first|done|rfl),(by rw[HE.out];exact HR3.out.ks (Ks.then Ks.rfl (Zq HZ3.out.ty (by decide) _ _ _ _ _ _ _ _ _ _ _ _ _ _))),Xa _⟩,(Zd HN3.out (by omega) _ _ _ _ _ _ _ _ _ _ _ _ _ _)⟩
   ·have HE:=Za (HD2.out.trans (if_pos he))
    have he':(err != 0)=true:=Zd9 (beq_eq_false_iff_ne.2 he);clear HD2 he;obtain⟨z0,z1,z2,z3,z4,z5,z6,z7,z8,z9,z10,z11,z12,z13⟩:=HZ2.out.cells;have zf0:=HZ2.out.free 0;have zf1:=HZ2.out.free 1;have zf2:=HZ2.out.free 2;have zf3:=HZ2.out.free 3;have zf4:=HZ2.out.free 4;have zf5:=HZ2.out.free 5;have zf6:=HZ2.out.free 6;have zf7:=HZ2.out.free 7;have zf8:=HZ2.out.free 8;have zf9:=HZ2.out.free 9;have zf10:=HZ2.out.free 10;have zf11:=HZ2.out.free 11;have zf12:=HZ2.out.free 12;have zf13:=HZ2.out.free 13;go_wp2
    refine Z9 (rb:=w.heap.size+1) Tryz.results262 rfl rfl (RecB.put HZ2.out _ _ _ _ _ _ _ _ _ _ _ _ _ _) rfl ⟨⟨rz,[],(by rw[HE.out];first|done|rfl),(by rw[HE.out];exact Zc6 _),by simp⟩,(Zd HN2.out (by omega) _ _ _ _ _ _ _ _ _ _ _ _ _ _)⟩
end Go.Proofs.YtchkhibgbnhjpabGreatDoor
