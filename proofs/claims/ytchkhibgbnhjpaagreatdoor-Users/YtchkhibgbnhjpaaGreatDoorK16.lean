import Derived.Test.YtchkhibgbnhjpaaGreatDoorK15
import Derived.Deep.Cut
namespace Go.Proofs.YtchkhibgbnhjpaaGreatDoor
open Go.RowKit
def ZaK (l:List UInt8):Int × Bool:=if (Zn l 10 65535).2=false∨65535 < (Zn l 10 65535).1 then (0,false) else ((Zn l 10 65535).1,true)
theorem Zek (l:List UInt8):0≤(ZaK l).1∧(ZaK l).1≤65535:=by
 have h:=Zb0 l 10 65535 (by decide) (by decide)
 unfold ZaK
 split
 ·exact ⟨by decide,by decide⟩
 ·next hn=>exact ⟨h.1,Int.not_lt.1 (fun hh=>hn (Or.inr hh))⟩
set_option maxHeartbeats 2000000 in
theorem Zc7 (s:ByteArray) (w:World) (hs:s.size≤1000000):
  Calls Tryz.prog 208 #[.string s] w fun e w'=>e=.returned (.tuple #[.int .i64 (ZaK (tl s)).1,.bool (ZaK (tl s)).2])∧w=w':=by
 have HD:=Za (show ZaK (tl s)=if (Zn (tl s) 10 65535).2=false∨65535 < (Zn (tl s) 10 65535).1 then (0,false) else ((Zn (tl s) 10 65535).1,true) from rfl)
 have hrg:=Zb0 (tl s) 10 65535 (by decide) (by decide)
 generalize hq:Zn (tl s) 10 65535=nq at *
 have HQ:=Za hq
 clear hq
 obtain ⟨nv,nok⟩:=nq
 simp only at HD hrg
 by_cases hnb:nok=false∨65535 < nv
 ·have HE:=Za (HD.out.trans (if_pos hnb))
  clear HD
  cases nok
  ·clear hnb
   go_enter Tryz.func208,Tryz.ntmps208
   go_wp2_with (go_at_call 233;refine (Z4 _ _ _ hs (by decide) (by decide)).mono ?_;rintro e w' ⟨rfl,rfl⟩;rw [HQ.out])
   go_ret2
   exact ⟨by rw [HE.out];rfl,rfl⟩
  ·have hnv:65535 < nv:=by rcases hnb with h | h;cases h;exact h
   clear hnb
   go_enter Tryz.func208,Tryz.ntmps208
   go_wp2_with (go_at_call 233;refine (Z4 _ _ _ hs (by decide) (by decide)).mono ?_;rintro e w' ⟨rfl,rfl⟩;rw [HQ.out])
   go_ret2
   exact ⟨by rw [HE.out];rfl,rfl⟩
 ·have hok:nok=true:=by cases nok;exact absurd (Or.inl rfl) hnb;rfl
  subst hok
  have hnv:nv≤65535:=Int.not_lt.1 (fun h=>hnb (Or.inr h))
  have HE:=Za (HD.out.trans (if_neg hnb))
  clear HD hnb
  go_enter Tryz.func208,Tryz.ntmps208
  go_wp2_with (go_at_call 233;refine (Z4 _ _ _ hs (by decide) (by decide)).mono ?_;rintro e w' ⟨rfl,rfl⟩;rw [HQ.out])
  go_ret2
  exact ⟨by rw [HE.out];rfl,rfl⟩
def Rc.noPort (r:Rc):Rc:={ r with hp:=false,port:=0 }
set_option maxHeartbeats 4000000 in
theorem ZhG (ru:Rc) (w:World):
  Calls Tryz.prog 212 #[.agg #[.string ru.sch,.string ru.nam,.string ru.pw,.bool ru.hh,.string ru.host,.bool ru.hp,.int .i64 (ru.port:Int),.bool ru.op,.string ru.opath,.slice ru.so ru.sn ru.sc,.bool ru.hq,.string ru.q,.bool ru.hf,.string ru.fr]] w fun e w'=>∃ r:Rc,e=.returned (.agg #[.string r.sch,.string r.nam,.string r.pw,.bool r.hh,.string r.host,.bool r.hp,.int .i64 (r.port:Int),.bool r.op,.string r.opath,.slice r.so r.sn r.sc,.bool r.hq,.string r.q,.bool r.hf,.string r.fr])∧r=ru.noPort∧Nx w w':=by
 go_enter Tryz.func212,Tryz.ntmps212
 go_upto_region 1 with fail
 obtain ⟨g1,g2,g3⟩:=Zfk (w:=w) (ru:=ru) Nx.rfl
 have HUB:=Za g1
 have HZ:=Za g2
 have HN:=Za g3
 clear g1 g2 g3
 generalize ((w.alloc (Obj.cells #[.string ru.sch,.string ru.nam,.string ru.pw,.bool ru.hh,.string ru.host,.bool ru.hp,.int .i64 (ru.port:Int),.bool ru.op,.string ru.opath,.slice ru.so ru.sn ru.sc,.bool ru.hq,.string ru.q,.bool ru.hf,.string ru.fr] 54)).alloc (Obj.cells #[.string ⟨#[]⟩,.string ⟨#[]⟩,.string ⟨#[]⟩,.bool false,.string ⟨#[]⟩,.bool false,.int .i64 0,.bool false,.string ⟨#[]⟩,.slice none 0 0,.bool false,.string ⟨#[]⟩,.bool false,.string ⟨#[]⟩] 54))=w1 at *
 obtain ⟨a0,a1,a2,a3,a4,a5,a6,a7,a8,a9,a10,a11,a12,a13⟩:=HUB.out.cells
 have af5:=HUB.out.free 5
 have af6:=HUB.out.free 6
 obtain ⟨z0,z1,z2,z3,z4,z5,z6,z7,z8,z9,z10,z11,z12,z13⟩:=HZ.out.cells
 have zf0:=HZ.out.free 0
 have zf1:=HZ.out.free 1
 have zf2:=HZ.out.free 2
 have zf3:=HZ.out.free 3
 have zf4:=HZ.out.free 4
 have zf5:=HZ.out.free 5
 have zf6:=HZ.out.free 6
 have zf7:=HZ.out.free 7
 have zf8:=HZ.out.free 8
 have zf9:=HZ.out.free 9
 have zf10:=HZ.out.free 10
 have zf11:=HZ.out.free 11
 have zf12:=HZ.out.free 12
 have zf13:=HZ.out.free 13
 go_wp2
 refine ZhD (rb:=w.heap.size + 1) Tryz.results212 rfl (RecB.put ((HZ.out.far (by omega) 5 _).far (by omega) 6 _) _ _ _ _ _ _ _ _ _ _ _ _ _ _) rfl ⟨ru.noPort,rfl,rfl,(Zf (Below.setCell (Below.setCell HN.out (Nat.le_refl _) _) (Nat.le_refl _) _) (by omega) _ _ _ _ _ _ _ _ _ _ _ _ _ _)⟩
def Rc.atPort (r:Rc) (p:Nat):Rc:=if (ZF (tl r.sch)).2=true∧(p:Int)=(ZF (tl r.sch)).1 then r.noPort else { r with hp:=true,port:=p }
def Zba (u:U) (p:Int):U:=if (ZF u.sch).2=true∧p=(ZF u.sch).1 then { u with hp:=false,port:=0 } else { u with hp:=true,port:=p.toNat }
set_option maxHeartbeats 8000000 in
theorem ZiI (ru:Rc) (p:Nat) (w:World):
  Calls Tryz.prog 209 #[.agg #[.string ru.sch,.string ru.nam,.string ru.pw,.bool ru.hh,.string ru.host,.bool ru.hp,.int .i64 (ru.port:Int),.bool ru.op,.string ru.opath,.slice ru.so ru.sn ru.sc,.bool ru.hq,.string ru.q,.bool ru.hf,.string ru.fr],.int .i64 (p:Int)] w fun e w'=>∃ r:Rc,e=.returned (.agg #[.string r.sch,.string r.nam,.string r.pw,.bool r.hh,.string r.host,.bool r.hp,.int .i64 (r.port:Int),.bool r.op,.string r.opath,.slice r.so r.sn r.sc,.bool r.hq,.string r.q,.bool r.hf,.string r.fr])∧r=ru.atPort p∧Nx w w':=by
 have HD:=Za (show ru.atPort p=if (ZF (tl ru.sch)).2=true∧(p:Int)=(ZF (tl ru.sch)).1 then ru.noPort else { ru with hp:=true,port:=p } from rfl)
 generalize ho:ZF (tl ru.sch)=op at *
 have HOP:=Za ho
 clear ho
 obtain ⟨ov,ook⟩:=op
 simp only at HD
 go_enter Tryz.func209,Tryz.ntmps209
 go_upto_region 1 with fail
 obtain ⟨g1,g2,g3⟩:=Zfk (w:=w) (ru:=ru) Nx.rfl
 have HUB:=Za g1
 have HZ:=Za g2
 have HN:=Za g3
 clear g1 g2 g3
 generalize ((w.alloc (Obj.cells #[.string ru.sch,.string ru.nam,.string ru.pw,.bool ru.hh,.string ru.host,.bool ru.hp,.int .i64 (ru.port:Int),.bool ru.op,.string ru.opath,.slice ru.so ru.sn ru.sc,.bool ru.hq,.string ru.q,.bool ru.hf,.string ru.fr] 54)).alloc (Obj.cells #[.string ⟨#[]⟩,.string ⟨#[]⟩,.string ⟨#[]⟩,.bool false,.string ⟨#[]⟩,.bool false,.int .i64 0,.bool false,.string ⟨#[]⟩,.slice none 0 0,.bool false,.string ⟨#[]⟩,.bool false,.string ⟨#[]⟩] 54))=w1 at *
 obtain ⟨a0,a1,a2,a3,a4,a5,a6,a7,a8,a9,a10,a11,a12,a13⟩:=HUB.out.cells
 have af5:=HUB.out.free 5
 have af6:=HUB.out.free 6
 obtain ⟨z0,z1,z2,z3,z4,z5,z6,z7,z8,z9,z10,z11,z12,z13⟩:=HZ.out.cells
 have zf0:=HZ.out.free 0
 have zf1:=HZ.out.free 1
 have zf2:=HZ.out.free 2
 have zf3:=HZ.out.free 3
 have zf4:=HZ.out.free 4
 have zf5:=HZ.out.free 5
 have zf6:=HZ.out.free 6
 have zf7:=HZ.out.free 7
 have zf8:=HZ.out.free 8
 have zf9:=HZ.out.free 9
 have zf10:=HZ.out.free 10
 have zf11:=HZ.out.free 11
 have zf12:=HZ.out.free 12
 have zf13:=HZ.out.free 13
 cases ook
 ·have HE:=Za (HD.out.trans (if_neg (by rintro ⟨h,-⟩;cases h)))
  clear HD
  go_wp2_with (go_at_call 151;refine (ZcN _ _).mono ?_;rintro e w' ⟨rfl,rfl⟩;rw [HOP.out])
  refine ZhD (rb:=w.heap.size + 1) Tryz.results209 rfl (RecB.put ((HZ.out.far (by omega) 5 _).far (by omega) 6 _) _ _ _ _ _ _ _ _ _ _ _ _ _ _) rfl ⟨{ ru with hp:=true,port:=p },rfl,HE.out.symm,(Zf (Below.setCell (Below.setCell HN.out (Nat.le_refl _) _) (Nat.le_refl _) _) (by omega) _ _ _ _ _ _ _ _ _ _ _ _ _ _)⟩
 ·by_cases hov:(p:Int)=ov
  ·have HE:=Za (HD.out.trans (if_pos ⟨rfl,hov⟩))
   have hov':((p:Int) == ov)=true:=by rw [hov];simp
   clear HD hov
   go_wp2_with (first | (go_at_call 151;refine (ZcN _ _).mono ?_;rintro e w' ⟨rfl,rfl⟩;rw [HOP.out]) | fail)
   refine (ZhG ru _).mono ?_
   rintro e w2 ⟨r,rfl,hr,hn⟩
   have HR:=Za hr
   have HZ2:=Za (HZ.out.on hn)
   have HN2:=Za (HN.out.then hn)
   clear hr hn z0 z1 z2 z3 z4 z5 z6 z7 z8 z9 z10 z11 z12 z13 zf0 zf1 zf2 zf3 zf4 zf5 zf6 zf7 zf8 zf9 zf10 zf11 zf12 zf13
   obtain ⟨z0,z1,z2,z3,z4,z5,z6,z7,z8,z9,z10,z11,z12,z13⟩:=HZ2.out.cells
   have zf0:=HZ2.out.free 0
   have zf1:=HZ2.out.free 1
   have zf2:=HZ2.out.free 2
   have zf3:=HZ2.out.free 3
   have zf4:=HZ2.out.free 4
   have zf5:=HZ2.out.free 5
   have zf6:=HZ2.out.free 6
   have zf7:=HZ2.out.free 7
   have zf8:=HZ2.out.free 8
   have zf9:=HZ2.out.free 9
   have zf10:=HZ2.out.free 10
   have zf11:=HZ2.out.free 11
   have zf12:=HZ2.out.free 12
   have zf13:=HZ2.out.free 13
   go_wp2
   exact ZhD (rb:=w.heap.size + 1) Tryz.results209 rfl (RecB.put HZ2.out _ _ _ _ _ _ _ _ _ _ _ _ _ _) rfl ⟨r,rfl,by rw [HE.out];exact HR.out,(Zf HN2.out (by omega) _ _ _ _ _ _ _ _ _ _ _ _ _ _)⟩
  ·have HE:=Za (HD.out.trans (if_neg (by rintro ⟨-,h⟩;exact hov h)))
   have hov':((p:Int) == ov)=false:=beq_eq_false_iff_ne.2 hov
   clear HD hov
   go_wp2_with (go_at_call 151;refine (ZcN _ _).mono ?_;rintro e w' ⟨rfl,rfl⟩;rw [HOP.out])
   refine ZhD (rb:=w.heap.size + 1) Tryz.results209 rfl (RecB.put ((HZ.out.far (by omega) 5 _).far (by omega) 6 _) _ _ _ _ _ _ _ _ _ _ _ _ _ _) rfl ⟨{ ru with hp:=true,port:=p },rfl,HE.out.symm,(Zf (Below.setCell (Below.setCell HN.out (Nat.le_refl _) _) (Nat.le_refl _) _) (by omega) _ _ _ _ _ _ _ _ _ _ _ _ _ _)⟩
theorem RcIs.atPort {w:World} {r:Rc} {u:U} {bs:List ByteArray} {p:Nat} (h:RcIs w r u bs) (hp:p≤65535):RcIs w (r.atPort p) (Zba u p) bs:=by
 have e:Zba u p=if (ZF (tl r.sch)).2=true∧(p:Int)=(ZF (tl r.sch)).1 then { u with hp:=false,port:=0 } else { u with hp:=true,port:=p }:=by rw [h.usch];rfl
 rw [e]
 unfold Rc.atPort
 split
 ·exact { h with eq:=by rw [← h.eq];rfl,lport:=Nat.zero_le _ }
 ·exact { h with eq:=by rw [← h.eq];rfl,lport:=hp }
def ZfK (u:U) (port:List UInt8):U × Int:=if (ZaK port).2=false then (zeroU,2) else (Zba u (ZaK port).1,0)
def ZZ (u:U) (place:List UInt8):U × Int:=
 if (Zz place).1=[]∧(Zc u.sch=true∨(Zz place).2.2=true) then (zeroU,2)
 else if (ZR (Zz place).1 (Zc u.sch)).2≠0 then (zeroU,(ZR (Zz place).1 (Zc u.sch)).2)
 else if (Zz place).2.1=[] then ({ u with hh:=true,host:=(ZR (Zz place).1 (Zc u.sch)).1 },0)
 else ZfK { u with hh:=true,host:=(ZR (Zz place).1 (Zc u.sch)).1 } (Zz place).2.1
theorem Zjy (l:List UInt8):∀ inb q,cutPortGo inb l=some q→q.1.length≤l.length∧q.2.length≤l.length:=by
 induction l with
 | nil=>intro inb q h;cases h
 | cons c r ih=>
  intro inb q h
  rw [cutPortGo] at h
  have key:∀ b,(cutPortGo b r).map (fun q=>(c :: q.1,q.2))=some q→q.1.length≤(c :: r).length∧q.2.length≤(c :: r).length:=by
   intro b hb
   cases hq:cutPortGo b r with
   | none=>rw [hq] at hb;cases hb
   | some x=>
    rw [hq] at hb
    simp only [Option.map_some,Option.some.injEq] at hb
    subst hb
    have:=ih b x hq
    simp only [List.length_cons]
    omega
  split at h
  ·exact key _ h
  ·split at h
   ·exact key _ h
   ·split at h
    ·cases h
     simp
    ·exact key _ h
theorem ZhH (l:List UInt8):(Zz l).1.length≤l.length∧(Zz l).2.1.length≤l.length:=by
 unfold Zz
 cases h:cutPortGo false l with
 | none=>simp
 | some q=>exact Zjy l false q h
set_option maxHeartbeats 16000000 in
theorem ZiJ (ru:Rc) (u:U) (bs:List ByteArray) (p:ByteArray) (w:World) (h1:RcIs w ru u bs) (ht:Tb w) (hl:p.size≤30000):
  Calls Tryz.prog 193 #[.agg #[.string ru.sch,.string ru.nam,.string ru.pw,.bool ru.hh,.string ru.host,.bool ru.hp,.int .i64 (ru.port:Int),.bool ru.op,.string ru.opath,.slice ru.so ru.sn ru.sc,.bool ru.hq,.string ru.q,.bool ru.hf,.string ru.fr],.string p] w fun e w'=>ZgW e w' (ZZ u (tl p)) bs.length∧Nx w w':=by
 have HU:=Za h1
 have HTB:=Za ht
 have hcl:=ZhH (tl p)
 have HD:=Za (show ZZ u (tl p)=if (Zz (tl p)).1=[]∧(Zc (tl ru.sch)=true∨(Zz (tl p)).2.2=true) then (zeroU,2)
  else if (ZR (Zz (tl p)).1 (Zc (tl ru.sch))).2≠0 then (zeroU,(ZR (Zz (tl p)).1 (Zc (tl ru.sch))).2)
  else if (Zz (tl p)).2.1=[] then ({ u with hh:=true,host:=(ZR (Zz (tl p)).1 (Zc (tl ru.sch))).1 },0)
  else ZfK { u with hh:=true,host:=(ZR (Zz (tl p)).1 (Zc (tl ru.sch))).1 } (Zz (tl p)).2.1 by rw [h1.usch];rfl)
 clear h1 ht
 generalize hsp:Zc (tl ru.sch)=sp at *
 have HSP:=Za hsp
 clear hsp
 go_enter Tryz.func193,Tryz.ntmps193
 go_wp2_with (first | (go_at_call 112;refine (Zac _ _).mono ?_;rintro e w' ⟨rfl,rfl⟩;rw [HSP.out]) | fail)
 refine (Zl2 p _ (by omega)).mono ?_
 rintro e w1 ⟨⟨x,y,rfl,hx,hy⟩,hn1⟩
 rw [← hx,← hy] at HD hcl
 rw [tl_length,tl_length,tl_length] at hcl
 have hxl:x.size≤30000:=by omega
 have hyl:y.size≤30000:=by omega
 obtain ⟨g1,g2,g3⟩:=Zfk hn1
 have HUB:=Za g1
 have HZ:=Za g2
 have HN:=Za g3
 clear hx hy hn1 g1 g2 g3 hcl
 generalize (Zz (tl p)).2.2=col at *
 by_cases hbad:x.size=0∧(sp=true∨col=true)
 ·have HE:=Za (HD.out.trans (if_pos ⟨ZB hbad.1,hbad.2⟩))
  obtain ⟨hx0,hsc⟩:=hbad
  have hx0':=Zo hx0
  clear HD hx0
  obtain ⟨z0,z1,z2,z3,z4,z5,z6,z7,z8,z9,z10,z11,z12,z13⟩:=HZ.out.cells
  have zf0:=HZ.out.free 0
  have zf1:=HZ.out.free 1
  have zf2:=HZ.out.free 2
  have zf3:=HZ.out.free 3
  have zf4:=HZ.out.free 4
  have zf5:=HZ.out.free 5
  have zf6:=HZ.out.free 6
  have zf7:=HZ.out.free 7
  have zf8:=HZ.out.free 8
  have zf9:=HZ.out.free 9
  have zf10:=HZ.out.free 10
  have zf11:=HZ.out.free 11
  have zf12:=HZ.out.free 12
  have zf13:=HZ.out.free 13
  cases sp
  ·have hcol:col=true:=by rcases hsc with h | h;cases h;exact h
   subst hcol
   clear hsc
   go_wp2
   refine Zag (rb:=w.heap.size + 1) Tryz.results193 rfl rfl (RecB.put HZ.out _ _ _ _ _ _ _ _ _ _ _ _ _ _) rfl ⟨⟨rz,[],(by rw [HE.out];first | done | rfl),(by rw [HE.out];exact Zd3 _),by simp⟩,(Zf HN.out (by omega) _ _ _ _ _ _ _ _ _ _ _ _ _ _)⟩
  ·clear hsc
   go_wp2
   refine Zag (rb:=w.heap.size + 1) Tryz.results193 rfl rfl (RecB.put HZ.out _ _ _ _ _ _ _ _ _ _ _ _ _ _) rfl ⟨⟨rz,[],(by rw [HE.out];first | done | rfl),(by rw [HE.out];exact Zd3 _),by simp⟩,(Zf HN.out (by omega) _ _ _ _ _ _ _ _ _ _ _ _ _ _)⟩
 ·have HD2:=Za (HD.out.trans (if_neg (fun h=>hbad ⟨by have:=congrArg List.length h.1;rw [tl_length] at this;simpa using this,h.2⟩)))
  have HHL:=Za (ZhF (l:=tl x) (sp:=sp) (by rw [tl_length];exact hxl))
  clear HD
  have step:(x.toList.isEmpty=false)∨(x.toList.isEmpty=true∧sp=false∧col=false):=by
   by_cases hx0:x.size=0
   ·refine Or.inr ⟨Zo hx0,?_,?_⟩
    ·cases sp
     ·rfl
     ·exact absurd ⟨hx0,Or.inl rfl⟩ hbad
    ·cases col
     ·rfl
     ·exact absurd ⟨hx0,Or.inr rfl⟩ hbad
   ·exact Or.inl (Zi hx0)
  have STEP:=Za step
  clear step hbad
  have main:Hid (∀ (K:Ending→World→Prop),(∀ (fh:ByteArray) (w2:World),fh.size≤300000→tl fh=(ZR (tl x) sp).1→Nx w1 w2→K (.returned (.tuple #[.string fh,.int .i64 (ZR (tl x) sp).2])) w2)→Calls Tryz.prog 207 #[.string x,.bool sp] w1 K):=Za (fun K hK=>(Zkr x sp w1 (by omega) (HTB.out.on HN.out)).mono (by
   rintro e w2 ⟨r,rfl,hr,hn⟩
   exact hK r w2 (by rw [← tl_length,hr];exact HHL.out) hr hn))
  rcases STEP.out with hxe | ⟨hxe,rfl,rfl⟩
  ·go_wp2_with fail
   refine main.out _ ?_
   intro fh w2 hfs hfh hn2
   rw [← hfh] at HD2
   have HUB2:=Za (HUB.out.on hn2)
   have HZ2:=Za (HZ.out.on hn2)
   have HN2:=Za (HN.out.then hn2)
   have HU2:=Za (HU.out.on HN2.out)
   clear hfh hn2 main HHL HUB HZ HN
   generalize (ZR (tl x) sp).2=err at *
   by_cases he:err=0
   ·subst he
    have HD3:=Za (HD2.out.trans (if_neg (by decide)))
    clear HD2
    obtain ⟨a0,a1,a2,a3,a4,a5,a6,a7,a8,a9,a10,a11,a12,a13⟩:=HUB2.out.cells
    have af3:=HUB2.out.free 3
    have af4:=HUB2.out.free 4
    have af5:=HUB2.out.free 5
    have af6:=HUB2.out.free 6
    obtain ⟨z0,z1,z2,z3,z4,z5,z6,z7,z8,z9,z10,z11,z12,z13⟩:=HZ2.out.cells
    have zf0:=HZ2.out.free 0
    have zf1:=HZ2.out.free 1
    have zf2:=HZ2.out.free 2
    have zf3:=HZ2.out.free 3
    have zf4:=HZ2.out.free 4
    have zf5:=HZ2.out.free 5
    have zf6:=HZ2.out.free 6
    have zf7:=HZ2.out.free 7
    have zf8:=HZ2.out.free 8
    have zf9:=HZ2.out.free 9
    have zf10:=HZ2.out.free 10
    have zf11:=HZ2.out.free 11
    have zf12:=HZ2.out.free 12
    have zf13:=HZ2.out.free 13
    by_cases hy0:y.size=0
    ·have HE:=Za (HD3.out.trans (if_pos (ZB hy0)))
     have hy0':=Zo hy0
     clear HD3 hy0
     go_wp2
     refine Zag (rb:=w.heap.size + 1) Tryz.results193 rfl rfl (RecB.put ((HZ2.out.far (by omega) 3 _).far (by omega) 4 _) _ _ _ _ _ _ _ _ _ _ _ _ _ _) rfl ⟨⟨{ ru with hh:=true,host:=fh },bs,(by rw [HE.out];first | done | rfl),?_,Nat.le_refl _⟩,(Zf (Below.setCell (Below.setCell HN2.out (Nat.le_refl _) _) (Nat.le_refl _) _) (by omega) _ _ _ _ _ _ _ _ _ _ _ _ _ _)⟩
     exact { eq:=by rw [HE.out,← HU.out.eq];rfl
             seg:=HU2.out.seg.ks (Ks.then (Ks.then (Ks.then Ks.rfl (ZY HUB2.out.ty (by decide) 3 _)) (ZY (HUB2.out.ty.set w.heap.size 3 _) (by decide) 4 _)) (Zq ((HZ2.out.ty.set w.heap.size 3 _).set w.heap.size 4 _) (by decide) _ _ _ _ _ _ _ _ _ _ _ _ _ _))
             lsch:=HU2.out.lsch
             lnam:=HU2.out.lnam
             lpw:=HU2.out.lpw
             lhost:=hfs
             lport:=HU2.out.lport
             lopath:=HU2.out.lopath
             lsegs:=HU2.out.lsegs
             lseg:=HU2.out.lseg
             lq:=HU2.out.lq
             lfr:=HU2.out.lfr }
    ·have HD4:=Za (HD3.out.trans (if_neg (Zdf hy0)))
     have hy0':=Zi hy0
     clear HD3 hy0
     have HPD:=Za (show ZfK { u with hh:=true,host:=tl fh } (tl y)=if (ZaK (tl y)).2=false then (zeroU,2) else (Zba { u with hh:=true,host:=tl fh } (ZaK (tl y)).1,0) from rfl)
     have hrg:=Zek (tl y)
     generalize hq:ZaK (tl y)=nq at *
     have HQ:=Za hq
     clear hq
     obtain ⟨nv,nok⟩:=nq
     simp only at HPD hrg
     cases nok
     ·have HE:=Za (HD4.out.trans (HPD.out.trans (if_pos rfl)))
      clear HD4 HPD
      go_wp2_with (go_at_call 208;refine (Zc7 _ _ (by omega)).mono ?_;rintro e w' ⟨rfl,rfl⟩;rw [HQ.out])
      refine Zag (rb:=w.heap.size + 1) Tryz.results193 rfl rfl (RecB.put ((HZ2.out.far (by omega) 3 _).far (by omega) 4 _) _ _ _ _ _ _ _ _ _ _ _ _ _ _) rfl ⟨⟨rz,[],(by rw [HE.out];first | done | rfl),by rw [HE.out];exact Zd3 _,by simp⟩,(Zf (Below.setCell (Below.setCell HN2.out (Nat.le_refl _) _) (Nat.le_refl _) _) (by omega) _ _ _ _ _ _ _ _ _ _ _ _ _ _)⟩
     ·have HE:=Za (HD4.out.trans (HPD.out.trans (if_neg (by decide))))
      clear HD4 HPD
      obtain ⟨pn,rfl⟩:∃ pn:Nat,nv=(pn:Int):=⟨nv.toNat,by omega⟩
      have hpn:pn≤65535:=by omega
      go_wp2_with (first | (go_at_call 208;refine (Zc7 _ _ (by omega)).mono ?_;rintro e w' ⟨rfl,rfl⟩;rw [HQ.out]) | fail)
      refine (ZiI { ru with hh:=true,host:=fh } pn _).mono ?_
      rintro e w3 ⟨r3,rfl,hr3,hn3⟩
      have HR3:=Za ((((show RcIs w2 { ru with hh:=true,host:=fh } { u with hh:=true,host:=tl fh } bs from { HU2.out with eq:=by rw [← HU2.out.eq];rfl,lhost:=hfs }).ks (Ks.then (Ks.then Ks.rfl (ZY HUB2.out.ty (by decide) 3 (.bool true))) (ZY (HUB2.out.ty.set w.heap.size 3 (.bool true)) (by decide) 4 (.string fh)))).on hn3).atPort hpn)
      rw [← hr3] at HR3
      have HZ3:=Za ((HZ2.out.far (q:=w.heap.size) (by omega) 3 (.bool true)).far (q:=w.heap.size) (by omega) 4 (.string fh) |>.on hn3)
      have HN3:=Za ((Below.setCell (p:=⟨w.heap.size,4,none⟩) (Below.setCell (p:=⟨w.heap.size,3,none⟩) HN2.out (Nat.le_refl _) (.bool true)) (Nat.le_refl _) (.string fh) |> fun h=>Nx.then h hn3):Nx w w3)
      clear hr3 hn3
      clear a0 a1 a2 a3 a4 a5 a6 a7 a8 a9 a10 a11 a12 a13 z0 z1 z2 z3 z4 z5 z6 z7 z8 z9 z10 z11 z12 z13 zf0 zf1 zf2 zf3 zf4 zf5 zf6 zf7 zf8 zf9 zf10 zf11 zf12 zf13 af3 af4 af5 af6
      obtain ⟨z0,z1,z2,z3,z4,z5,z6,z7,z8,z9,z10,z11,z12,z13⟩:=HZ3.out.cells
      have zf0:=HZ3.out.free 0
      have zf1:=HZ3.out.free 1
      have zf2:=HZ3.out.free 2
      have zf3:=HZ3.out.free 3
      have zf4:=HZ3.out.free 4
      have zf5:=HZ3.out.free 5
      have zf6:=HZ3.out.free 6
      have zf7:=HZ3.out.free 7
      have zf8:=HZ3.out.free 8
      have zf9:=HZ3.out.free 9
      have zf10:=HZ3.out.free 10
      have zf11:=HZ3.out.free 11
      have zf12:=HZ3.out.free 12
      have zf13:=HZ3.out.free 13
      go_wp2
      exact Zag (rb:=w.heap.size + 1) Tryz.results193 rfl rfl (RecB.put HZ3.out _ _ _ _ _ _ _ _ _ _ _ _ _ _) rfl ⟨⟨r3,bs,(by rw [HE.out];first | done | rfl),(by rw [HE.out];exact HR3.out.ks (Ks.then Ks.rfl (Zq HZ3.out.ty (by decide) _ _ _ _ _ _ _ _ _ _ _ _ _ _))),Nat.le_refl _⟩,(Zf HN3.out (by omega) _ _ _ _ _ _ _ _ _ _ _ _ _ _)⟩
   ·have HE:=Za (HD2.out.trans (if_pos he))
    have he':(err != 0)=true:=Zg3 (beq_eq_false_iff_ne.2 he)
    clear HD2 he
    obtain ⟨z0,z1,z2,z3,z4,z5,z6,z7,z8,z9,z10,z11,z12,z13⟩:=HZ2.out.cells
    have zf0:=HZ2.out.free 0
    have zf1:=HZ2.out.free 1
    have zf2:=HZ2.out.free 2
    have zf3:=HZ2.out.free 3
    have zf4:=HZ2.out.free 4
    have zf5:=HZ2.out.free 5
    have zf6:=HZ2.out.free 6
    have zf7:=HZ2.out.free 7
    have zf8:=HZ2.out.free 8
    have zf9:=HZ2.out.free 9
    have zf10:=HZ2.out.free 10
    have zf11:=HZ2.out.free 11
    have zf12:=HZ2.out.free 12
    have zf13:=HZ2.out.free 13
    go_wp2
    refine Zag (rb:=w.heap.size + 1) Tryz.results193 rfl rfl (RecB.put HZ2.out _ _ _ _ _ _ _ _ _ _ _ _ _ _) rfl ⟨⟨rz,[],(by rw [HE.out];first | done | rfl),(by rw [HE.out];exact Zd3 _),by simp⟩,(Zf HN2.out (by omega) _ _ _ _ _ _ _ _ _ _ _ _ _ _)⟩
  ·go_wp2_with fail
   refine main.out _ ?_
   intro fh w2 hfs hfh hn2
   rw [← hfh] at HD2
   have HUB2:=Za (HUB.out.on hn2)
   have HZ2:=Za (HZ.out.on hn2)
   have HN2:=Za (HN.out.then hn2)
   have HU2:=Za (HU.out.on HN2.out)
   clear hfh hn2 main HHL HUB HZ HN
   generalize (ZR (tl x) false).2=err at *
   by_cases he:err=0
   ·subst he
    have HD3:=Za (HD2.out.trans (if_neg (by decide)))
    clear HD2
    obtain ⟨a0,a1,a2,a3,a4,a5,a6,a7,a8,a9,a10,a11,a12,a13⟩:=HUB2.out.cells
    have af3:=HUB2.out.free 3
    have af4:=HUB2.out.free 4
    have af5:=HUB2.out.free 5
    have af6:=HUB2.out.free 6
    obtain ⟨z0,z1,z2,z3,z4,z5,z6,z7,z8,z9,z10,z11,z12,z13⟩:=HZ2.out.cells
    have zf0:=HZ2.out.free 0
    have zf1:=HZ2.out.free 1
    have zf2:=HZ2.out.free 2
    have zf3:=HZ2.out.free 3
    have zf4:=HZ2.out.free 4
    have zf5:=HZ2.out.free 5
    have zf6:=HZ2.out.free 6
    have zf7:=HZ2.out.free 7
    have zf8:=HZ2.out.free 8
    have zf9:=HZ2.out.free 9
    have zf10:=HZ2.out.free 10
    have zf11:=HZ2.out.free 11
    have zf12:=HZ2.out.free 12
    have zf13:=HZ2.out.free 13
    by_cases hy0:y.size=0
    ·have HE:=Za (HD3.out.trans (if_pos (ZB hy0)))
     have hy0':=Zo hy0
     clear HD3 hy0
     go_wp2
     refine Zag (rb:=w.heap.size + 1) Tryz.results193 rfl rfl (RecB.put ((HZ2.out.far (by omega) 3 _).far (by omega) 4 _) _ _ _ _ _ _ _ _ _ _ _ _ _ _) rfl ⟨⟨{ ru with hh:=true,host:=fh },bs,(by rw [HE.out];first | done | rfl),?_,Nat.le_refl _⟩,(Zf (Below.setCell (Below.setCell HN2.out (Nat.le_refl _) _) (Nat.le_refl _) _) (by omega) _ _ _ _ _ _ _ _ _ _ _ _ _ _)⟩
     exact { eq:=by rw [HE.out,← HU.out.eq];rfl
             seg:=HU2.out.seg.ks (Ks.then (Ks.then (Ks.then Ks.rfl (ZY HUB2.out.ty (by decide) 3 _)) (ZY (HUB2.out.ty.set w.heap.size 3 _) (by decide) 4 _)) (Zq ((HZ2.out.ty.set w.heap.size 3 _).set w.heap.size 4 _) (by decide) _ _ _ _ _ _ _ _ _ _ _ _ _ _))
             lsch:=HU2.out.lsch
             lnam:=HU2.out.lnam
             lpw:=HU2.out.lpw
             lhost:=hfs
             lport:=HU2.out.lport
             lopath:=HU2.out.lopath
             lsegs:=HU2.out.lsegs
             lseg:=HU2.out.lseg
             lq:=HU2.out.lq
             lfr:=HU2.out.lfr }
    ·have HD4:=Za (HD3.out.trans (if_neg (Zdf hy0)))
     have hy0':=Zi hy0
     clear HD3 hy0
     have HPD:=Za (show ZfK { u with hh:=true,host:=tl fh } (tl y)=if (ZaK (tl y)).2=false then (zeroU,2) else (Zba { u with hh:=true,host:=tl fh } (ZaK (tl y)).1,0) from rfl)
     have hrg:=Zek (tl y)
     generalize hq:ZaK (tl y)=nq at *
     have HQ:=Za hq
     clear hq
     obtain ⟨nv,nok⟩:=nq
     simp only at HPD hrg
     cases nok
     ·have HE:=Za (HD4.out.trans (HPD.out.trans (if_pos rfl)))
      clear HD4 HPD
      go_wp2_with (go_at_call 208;refine (Zc7 _ _ (by omega)).mono ?_;rintro e w' ⟨rfl,rfl⟩;rw [HQ.out])
      refine Zag (rb:=w.heap.size + 1) Tryz.results193 rfl rfl (RecB.put ((HZ2.out.far (by omega) 3 _).far (by omega) 4 _) _ _ _ _ _ _ _ _ _ _ _ _ _ _) rfl ⟨⟨rz,[],(by rw [HE.out];first | done | rfl),by rw [HE.out];exact Zd3 _,by simp⟩,(Zf (Below.setCell (Below.setCell HN2.out (Nat.le_refl _) _) (Nat.le_refl _) _) (by omega) _ _ _ _ _ _ _ _ _ _ _ _ _ _)⟩
     ·have HE:=Za (HD4.out.trans (HPD.out.trans (if_neg (by decide))))
      clear HD4 HPD
      obtain ⟨pn,rfl⟩:∃ pn:Nat,nv=(pn:Int):=⟨nv.toNat,by omega⟩
      have hpn:pn≤65535:=by omega
      go_wp2_with (first | (go_at_call 208;refine (Zc7 _ _ (by omega)).mono ?_;rintro e w' ⟨rfl,rfl⟩;rw [HQ.out]) | fail)
      refine (ZiI { ru with hh:=true,host:=fh } pn _).mono ?_
      rintro e w3 ⟨r3,rfl,hr3,hn3⟩
      have HR3:=Za ((((show RcIs w2 { ru with hh:=true,host:=fh } { u with hh:=true,host:=tl fh } bs from { HU2.out with eq:=by rw [← HU2.out.eq];rfl,lhost:=hfs }).ks (Ks.then (Ks.then Ks.rfl (ZY HUB2.out.ty (by decide) 3 (.bool true))) (ZY (HUB2.out.ty.set w.heap.size 3 (.bool true)) (by decide) 4 (.string fh)))).on hn3).atPort hpn)
      rw [← hr3] at HR3
      have HZ3:=Za ((HZ2.out.far (q:=w.heap.size) (by omega) 3 (.bool true)).far (q:=w.heap.size) (by omega) 4 (.string fh) |>.on hn3)
      have HN3:=Za ((Below.setCell (p:=⟨w.heap.size,4,none⟩) (Below.setCell (p:=⟨w.heap.size,3,none⟩) HN2.out (Nat.le_refl _) (.bool true)) (Nat.le_refl _) (.string fh) |> fun h=>Nx.then h hn3):Nx w w3)
      clear hr3 hn3
      clear a0 a1 a2 a3 a4 a5 a6 a7 a8 a9 a10 a11 a12 a13 z0 z1 z2 z3 z4 z5 z6 z7 z8 z9 z10 z11 z12 z13 zf0 zf1 zf2 zf3 zf4 zf5 zf6 zf7 zf8 zf9 zf10 zf11 zf12 zf13 af3 af4 af5 af6
      obtain ⟨z0,z1,z2,z3,z4,z5,z6,z7,z8,z9,z10,z11,z12,z13⟩:=HZ3.out.cells
      have zf0:=HZ3.out.free 0
      have zf1:=HZ3.out.free 1
      have zf2:=HZ3.out.free 2
      have zf3:=HZ3.out.free 3
      have zf4:=HZ3.out.free 4
      have zf5:=HZ3.out.free 5
      have zf6:=HZ3.out.free 6
      have zf7:=HZ3.out.free 7
      have zf8:=HZ3.out.free 8
      have zf9:=HZ3.out.free 9
      have zf10:=HZ3.out.free 10
      have zf11:=HZ3.out.free 11
      have zf12:=HZ3.out.free 12
      have zf13:=HZ3.out.free 13
      go_wp2
      exact Zag (rb:=w.heap.size + 1) Tryz.results193 rfl rfl (RecB.put HZ3.out _ _ _ _ _ _ _ _ _ _ _ _ _ _) rfl ⟨⟨r3,bs,(by rw [HE.out];first | done | rfl),(by rw [HE.out];exact HR3.out.ks (Ks.then Ks.rfl (Zq HZ3.out.ty (by decide) _ _ _ _ _ _ _ _ _ _ _ _ _ _))),Nat.le_refl _⟩,(Zf HN3.out (by omega) _ _ _ _ _ _ _ _ _ _ _ _ _ _)⟩
   ·have HE:=Za (HD2.out.trans (if_pos he))
    have he':(err != 0)=true:=Zg3 (beq_eq_false_iff_ne.2 he)
    clear HD2 he
    obtain ⟨z0,z1,z2,z3,z4,z5,z6,z7,z8,z9,z10,z11,z12,z13⟩:=HZ2.out.cells
    have zf0:=HZ2.out.free 0
    have zf1:=HZ2.out.free 1
    have zf2:=HZ2.out.free 2
    have zf3:=HZ2.out.free 3
    have zf4:=HZ2.out.free 4
    have zf5:=HZ2.out.free 5
    have zf6:=HZ2.out.free 6
    have zf7:=HZ2.out.free 7
    have zf8:=HZ2.out.free 8
    have zf9:=HZ2.out.free 9
    have zf10:=HZ2.out.free 10
    have zf11:=HZ2.out.free 11
    have zf12:=HZ2.out.free 12
    have zf13:=HZ2.out.free 13
    go_wp2
    refine Zag (rb:=w.heap.size + 1) Tryz.results193 rfl rfl (RecB.put HZ2.out _ _ _ _ _ _ _ _ _ _ _ _ _ _) rfl ⟨⟨rz,[],(by rw [HE.out];first | done | rfl),(by rw [HE.out];exact Zd3 _),by simp⟩,(Zf HN2.out (by omega) _ _ _ _ _ _ _ _ _ _ _ _ _ _)⟩
end Go.Proofs.YtchkhibgbnhjpaaGreatDoor
