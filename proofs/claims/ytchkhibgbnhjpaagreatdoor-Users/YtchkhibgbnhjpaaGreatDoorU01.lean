import Derived.Test.YtchkhibgbnhjpaaGreatDoorU00
import Derived.Deep.Cut
namespace Go.Proofs.YtchkhibgbnhjpaaGreatDoor
open Go.RowKit
def ZwX (n:Int) (l:List UInt8):List UInt8:=if l≠[]∧((l.getD 0 0).toNat:Int)=n then l.drop 1 else l
def Zxz (l:List UInt8):List UInt8:=encB (tl (ZaG 1)) (clean (noBreaks (ZwX 35 l)))
def ZwL (u:U):Bool:=!(u.nam.isEmpty && u.pw.isEmpty)
theorem ZwO (s:ByteArray):(tl s).isEmpty=decide (s.size=0):=by
 by_cases h:s.size=0
 ·rw [decide_eq_true h,ZB h];rfl
 ·rw [decide_eq_false h]
  cases hh:tl s with
  | nil=>exact absurd hh (Zdf h)
  | cons c r=>rfl
def Zwf (u:U):Bool:=!u.host.isEmpty && u.sch != Zs
set_option maxHeartbeats 4000000 in
theorem ZwD (ru:Rc) (bs:List ByteArray) (w:World):
  Calls Tryz.prog 211 #[.agg #[.string ru.sch,.string ru.nam,.string ru.pw,.bool ru.hh,.string ru.host,.bool ru.hp,.int .i64 (ru.port:Int),.bool ru.op,.string ru.opath,.slice ru.so ru.sn ru.sc,.bool ru.hq,.string ru.q,.bool ru.hf,.string ru.fr]] w fun e w'=>e=.returned (.bool (Zwf (ru.u bs)))∧Nx w w':=by
 have HD:=Za (show Zwf (ru.u bs)=(!(tl ru.host).isEmpty && tl ru.sch != Zs) from rfl)
 rw [ZwO] at HD
 by_cases h1:ru.host.size=0
 ·have h1':=Zo h1
  have HE:=Za (show Zwf (ru.u bs)=false by rw [HD.out,decide_eq_true h1];rfl)
  clear HD h1
  go_enter Tryz.func211,Tryz.ntmps211
  go_wp2
  go_ret
  exact ⟨Zk HE.out.symm,Nx.rfl.alloc _⟩
 ·have h1':=Zi h1
  by_cases hf:tl ru.sch=Zs
  ·have hf1:=eqB hf
   unfold Zs at hf1
   have hf2:(ru.sch.toList != [102,105,108,101])=false:=by simp only [bne,hf1];rfl
   have HE:=Za (show Zwf (ru.u bs)=false by rw [HD.out,decide_eq_false h1,hf];decide)
   clear HD h1 hf
   go_enter Tryz.func211,Tryz.ntmps211
   go_wp2
   go_ret
   exact ⟨Zk HE.out.symm,Nx.rfl.alloc _⟩
  ·have hf1:=neB hf
   unfold Zs at hf1
   have hf2:(ru.sch.toList != [102,105,108,101])=true:=by simp only [bne,hf1];rfl
   have HE:=Za (show Zwf (ru.u bs)=true by rw [HD.out,decide_eq_false h1];simp only [bne,beq_eq_false_iff_ne.2 hf];rfl)
   clear HD h1 hf
   go_enter Tryz.func211,Tryz.ntmps211
   go_wp2
   go_ret
   exact ⟨Zk HE.out.symm,Nx.rfl.alloc _⟩
def Zxu (l:List UInt8):List UInt8:=(l.reverse.dropWhile fun b=>(b.toNat:Int) == 32).reverse
def Zwx (u:U):U:=if u.hq=true∨u.hf=true then u else { u with opath:=Zxu u.opath }
def Zw5 (u:U):U:=Zwx { u with hq:=false,q:=[] }
def Zxm (u:U):U:=Zwx { u with hf:=false,fr:=[] }
def Zw6 (u:U) (l:List UInt8):U:=if l=[] then Zxm u else { u with hf:=true,fr:=Zxz l }
def Zwe (u:U) (k:Int) (l:List UInt8):U:=if Zwf u=false then u else if k=2 then { u with nam:=Zfs l } else { u with pw:=Zfs l }
set_option maxHeartbeats 4000000 in
theorem Zwl (ru:Rc) (bs:List ByteArray) (k:Int) (s:ByteArray) (w:World) (hn0:ru.nam.size≤300000) (hp0:ru.pw.size≤300000) (hs:s.size≤30000):
  Calls Tryz.prog 167 #[.agg #[.string ru.sch,.string ru.nam,.string ru.pw,.bool ru.hh,.string ru.host,.bool ru.hp,.int .i64 (ru.port:Int),.bool ru.op,.string ru.opath,.slice ru.so ru.sn ru.sc,.bool ru.hq,.string ru.q,.bool ru.hf,.string ru.fr],.int .i64 k,.string s] w fun e w'=>∃ r:Rc,e=.returned (.agg #[.string r.sch,.string r.nam,.string r.pw,.bool r.hh,.string r.host,.bool r.hp,.int .i64 (r.port:Int),.bool r.op,.string r.opath,.slice r.so r.sn r.sc,.bool r.hq,.string r.q,.bool r.hf,.string r.fr])∧(∃ (x p:ByteArray),r={ ru with nam:=x,pw:=p }∧x.size≤300000∧p.size≤300000∧(r.u bs)=Zwe (ru.u bs) k (tl s))∧Nx w w':=by
 have HD:=Za (show Zwe (ru.u bs) k (tl s)=if Zwf (ru.u bs)=false then ru.u bs else if k=2 then { ru.u bs with nam:=Zfs (tl s) } else { ru.u bs with pw:=Zfs (tl s) } from rfl)
 have HMP:=Za (ZwD ru bs)
 generalize Zwf (ru.u bs)=b at *
 go_enter Tryz.func167,Tryz.ntmps167
 go_upto_region 1 with fail
 obtain ⟨g1,g2,g3⟩:=Zfk (w:=w) (ru:=ru) Nx.rfl
 have HUB:=Za g1
 have HZ:=Za g2
 have HN:=Za g3
 clear g1 g2 g3
 generalize ((w.alloc (Obj.cells #[.string ru.sch,.string ru.nam,.string ru.pw,.bool ru.hh,.string ru.host,.bool ru.hp,.int .i64 (ru.port:Int),.bool ru.op,.string ru.opath,.slice ru.so ru.sn ru.sc,.bool ru.hq,.string ru.q,.bool ru.hf,.string ru.fr] 54)).alloc (Obj.cells #[.string ⟨#[]⟩,.string ⟨#[]⟩,.string ⟨#[]⟩,.bool false,.string ⟨#[]⟩,.bool false,.int .i64 0,.bool false,.string ⟨#[]⟩,.slice none 0 0,.bool false,.string ⟨#[]⟩,.bool false,.string ⟨#[]⟩] 54))=w1 at *
 obtain ⟨a0,a1,a2,a3,a4,a5,a6,a7,a8,a9,a10,a11,a12,a13⟩:=HUB.out.cells
 go_wp2_with fail
 refine (HMP.out _).mono ?_
 rintro e w2 ⟨rfl,hn2⟩
 have HUB2:=Za (HUB.out.on hn2)
 have HZ2:=Za (HZ.out.on hn2)
 have HN2:=Za (HN.out.then hn2)
 clear hn2 HUB HZ HN HMP
 clear a0 a1 a2 a3 a4 a5 a6 a7 a8 a9 a10 a11 a12 a13
 obtain ⟨a0,a1,a2,a3,a4,a5,a6,a7,a8,a9,a10,a11,a12,a13⟩:=HUB2.out.cells
 have af1:=HUB2.out.free 1
 have af2:=HUB2.out.free 2
 obtain ⟨z0,z1,z2,z3,z4,z5,z6,z7,z8,z9,z10,z11,z12,z13⟩:=HZ2.out.cells
 have zf0:=HZ2.out.free 0
 have zf1:=HZ2.out.free 1
 have zf2:=HZ2.out.free 2
 have zf3:=HZ2.out.free 3
 have zf4:=HZ2.out.free 4
 have zf5:=HZ2.out.free 5
 have zf6:=HZ2.out.free 6
 have zf7:=HZ2.out.free 7
 have zf8:=HZ2.out.free 8
 have zf9:=HZ2.out.free 9
 have zf10:=HZ2.out.free 10
 have zf11:=HZ2.out.free 11
 have zf12:=HZ2.out.free 12
 have zf13:=HZ2.out.free 13
 cases b
 ·have HE:=Za (HD.out.trans (if_pos rfl))
  clear HD
  go_wp2
  exact ZhD (rb:=w.heap.size + 1) Tryz.results167 rfl (RecB.put HZ2.out _ _ _ _ _ _ _ _ _ _ _ _ _ _) rfl ⟨ru,rfl,⟨ru.nam,ru.pw,rfl,hn0,hp0,HE.out.symm⟩,(Zf HN2.out (by omega) _ _ _ _ _ _ _ _ _ _ _ _ _ _)⟩
 ·have HE:=Za (HD.out.trans (if_neg (by decide)))
  clear HD
  go_wp2_with fail
  refine (ZaW s 5 _ (by omega)).mono ?_
  rintro e w3 ⟨en,rfl,hen,hn3⟩
  have hel:en.size≤300000:=by rw [← tl_length,hen];exact Zbu _ _ (by rw [tl_length];exact hs)
  have HEN:=Za (show tl en=Zfs (tl s) from hen)
  have HUB3:=Za (HUB2.out.on hn3)
  have HZ3:=Za (HZ2.out.on hn3)
  have HN3:=Za (HN2.out.then hn3)
  clear hen hn3 HUB2 HZ2 HN2
  clear a0 a1 a2 a3 a4 a5 a6 a7 a8 a9 a10 a11 a12 a13 af1 af2 z0 z1 z2 z3 z4 z5 z6 z7 z8 z9 z10 z11 z12 z13 zf0 zf1 zf2 zf3 zf4 zf5 zf6 zf7 zf8 zf9 zf10 zf11 zf12 zf13
  obtain ⟨a0,a1,a2,a3,a4,a5,a6,a7,a8,a9,a10,a11,a12,a13⟩:=HUB3.out.cells
  have af1:=HUB3.out.free 1
  have af2:=HUB3.out.free 2
  obtain ⟨z0,z1,z2,z3,z4,z5,z6,z7,z8,z9,z10,z11,z12,z13⟩:=HZ3.out.cells
  have zf0:=HZ3.out.free 0
  have zf1:=HZ3.out.free 1
  have zf2:=HZ3.out.free 2
  have zf3:=HZ3.out.free 3
  have zf4:=HZ3.out.free 4
  have zf5:=HZ3.out.free 5
  have zf6:=HZ3.out.free 6
  have zf7:=HZ3.out.free 7
  have zf8:=HZ3.out.free 8
  have zf9:=HZ3.out.free 9
  have zf10:=HZ3.out.free 10
  have zf11:=HZ3.out.free 11
  have zf12:=HZ3.out.free 12
  have zf13:=HZ3.out.free 13
  by_cases hk:k=2
  ·have HE2:=Za (HE.out.trans (if_pos hk))
   have hkb:(k == 2)=true:=by rw [hk];rfl
   clear hk HE
   go_wp2
   exact ZhD (rb:=w.heap.size + 1) Tryz.results167 rfl (RecB.put (HZ3.out.far (by omega) 1 _) _ _ _ _ _ _ _ _ _ _ _ _ _ _) rfl ⟨{ ru with nam:=en },rfl,⟨en,ru.pw,rfl,hel,hp0,by rw [HE2.out,← HEN.out];rfl⟩,(Zf (Below.setCell HN3.out (Nat.le_refl _) _) (by omega) _ _ _ _ _ _ _ _ _ _ _ _ _ _)⟩
  ·have HE2:=Za (HE.out.trans (if_neg hk))
   have hkb:(k == 2)=false:=beq_eq_false_iff_ne.2 hk
   clear hk HE
   go_wp2
   exact ZhD (rb:=w.heap.size + 1) Tryz.results167 rfl (RecB.put (HZ3.out.far (by omega) 2 _) _ _ _ _ _ _ _ _ _ _ _ _ _ _) rfl ⟨{ ru with pw:=en },rfl,⟨ru.nam,en,rfl,hn0,hel,by rw [HE2.out,← HEN.out];rfl⟩,(Zf (Below.setCell HN3.out (Nat.le_refl _) _) (by omega) _ _ _ _ _ _ _ _ _ _ _ _ _ _)⟩
def Zxn (sch l:List UInt8):List UInt8:=encB (tl (ZaG (Za1 sch))) (clean (noBreaks (ZwX 63 l)))
def ZwP (u:U) (l:List UInt8):U:=if l=[] then Zw5 u else { u with hq:=true,q:=Zxn u.sch l }
def ZxD (b:UInt8):Bool:=decide (48≤(b.toNat:Int)∧(b.toNat:Int)≤57)
def Zwy (u:U) (l:List UInt8):U:=if (ZaK (l.takeWhile ZxD)).2=false then u else Zba u (ZaK (l.takeWhile ZxD)).1
def Zw7 (u:U) (l:List UInt8):U:=if Zwf u=false then u else if l=[] then { u with hp:=false,port:=0 } else Zwy u (noBreaks l)
def Zw8 (sp:Bool) (l:List UInt8):List UInt8:=match l with | []=>[] | c :: r=>if slB sp c=true then r else c :: r
def Zw9 (u:U) (l:List UInt8):U:=
 if u.op=true then u else if noBreaks l=[]∧Zc u.sch=false∧u.hh=true then { u with segs:=[] } else { u with segs:=ZbG (Zw8 (Zc u.sch) (noBreaks l)) u.sch }
def ZwQ (u:U) (s:List UInt8):Bool:=(Zc u.sch == Zc s) && !(s == Zs && (ZwL u || u.hp)) && (u.sch != Zs || !u.host.isEmpty)
def ZwY (u:U) (l:List UInt8):U:=
 if (ZaD (noBreaks l++[58])).2.2=false∨ZwQ u (ZaD (noBreaks l++[58])).1=false then u
 else if u.hp=true then Zba { u with sch:=(ZaD (noBreaks l++[58])).1 } u.port else { u with sch:=(ZaD (noBreaks l++[58])).1 }
def Zwg (sp:Bool) (l:List UInt8):List UInt8:=(bcut (isB 35) (bcut (isB 63) (bcut (slB sp) (noBreaks l)).1).1).1
def Zwi (u:U) (l:List UInt8) (ported:Bool):List UInt8 × List UInt8 × Int:=
 if u.sch=Zs then ((ZM (Zwg (Zc u.sch) l)).1,[],(ZM (Zwg (Zc u.sch) l)).2)
 else if (Zz (Zwg (Zc u.sch) l)).2.2=true∧ported=false then ([],[],2)
 else if (Zz (Zwg (Zc u.sch) l)).1=[]∧((Zz (Zwg (Zc u.sch) l)).2.2=true∨Zc u.sch=true∨ZwL u=true∨u.hp=true) then ([],[],2)
 else if (ZR (Zz (Zwg (Zc u.sch) l)).1 (Zc u.sch)).2≠0 then ([],[],(ZR (Zz (Zwg (Zc u.sch) l)).1 (Zc u.sch)).2)
 else ((ZR (Zz (Zwg (Zc u.sch) l)).1 (Zc u.sch)).1,(Zz (Zwg (Zc u.sch) l)).2.1,0)
def ZwM (u:U) (l:List UInt8) (ported:Bool):U × Int:=
 if u.op=true then (u,0) else if (Zwi u l ported).2.2=2 then (u,0) else if (Zwi u l ported).2.2≠0 then (zeroU,(Zwi u l ported).2.2)
 else (Zwy { u with hh:=true,host:=(Zwi u l ported).1 } (Zwi u l ported).2.1,0)
def ZwR (e:Ending) (w w':World) (x:U):Prop:=∃ (r:Rc) (ds:List ByteArray),e=.returned (.agg #[.string r.sch,.string r.nam,.string r.pw,.bool r.hh,.string r.host,.bool r.hp,.int .i64 (r.port:Int),.bool r.op,.string r.opath,.slice r.so r.sn r.sc,.bool r.hq,.string r.q,.bool r.hf,.string r.fr])∧RcIs w' r x ds∧ds.length≤30002∧Nx w w'
def ZwZ (u:U) (k:Int) (l:List UInt8):U:=
 if k=1 then ZwY u l else if k=2 then Zwe u 2 l else if k=3 then Zwe u 3 l else if k=6 then Zw7 u l else if k=7 then Zw9 u l else if k=8 then ZwP u l else Zw6 u l
set_option maxHeartbeats 8000000 in
theorem Zws (ru:Rc) (u:U) (bs:List ByteArray) (s:ByteArray) (w:World) (h:RcIs w ru u bs) (hb:bs.length≤30001) (hs:s.size≤29000):
  Calls Tryz.prog 123 #[.agg #[.string ru.sch,.string ru.nam,.string ru.pw,.bool ru.hh,.string ru.host,.bool ru.hp,.int .i64 (ru.port:Int),.bool ru.op,.string ru.opath,.slice ru.so ru.sn ru.sc,.bool ru.hq,.string ru.q,.bool ru.hf,.string ru.fr],.int .i64 2,.string s] w fun e w'=>ZwR e w w' (Zwe u 2 (tl s)):=by
 have HP:Hid (∀ w',Nx w w'→Calls Tryz.prog 167 #[.agg #[.string ru.sch,.string ru.nam,.string ru.pw,.bool ru.hh,.string ru.host,.bool ru.hp,.int .i64 (ru.port:Int),.bool ru.op,.string ru.opath,.slice ru.so ru.sn ru.sc,.bool ru.hq,.string ru.q,.bool ru.hf,.string ru.fr],.int .i64 2,.string s] w' fun e w''=>ZwR e w' w'' (Zwe u 2 (tl s))):=Za (fun w' hn=>(Zwl ru bs 2 s w' h.lnam h.lpw (by omega)).mono (by rintro e w2 ⟨r,he,⟨x,p,hr,hx,hp,hq⟩,hn2⟩;exact ⟨r,bs,he,by subst hr;exact { h.on (hn.then hn2) with eq:=by rw [hq,h.eq],lnam:=hx,lpw:=hp },by omega,hn2⟩))
 clear h
 go_enter Tryz.func123,Tryz.ntmps123
 go_upto_region 1 with fail
 obtain ⟨g1,g2,g3⟩:=Zfk (w:=w) (ru:=ru) Nx.rfl
 have HUB:=Za g1
 have HZ:=Za g2
 have HN:=Za g3
 clear g1 g2 g3
 generalize ((w.alloc (Obj.cells #[.string ru.sch,.string ru.nam,.string ru.pw,.bool ru.hh,.string ru.host,.bool ru.hp,.int .i64 (ru.port:Int),.bool ru.op,.string ru.opath,.slice ru.so ru.sn ru.sc,.bool ru.hq,.string ru.q,.bool ru.hf,.string ru.fr] 54)).alloc (Obj.cells #[.string ⟨#[]⟩,.string ⟨#[]⟩,.string ⟨#[]⟩,.bool false,.string ⟨#[]⟩,.bool false,.int .i64 0,.bool false,.string ⟨#[]⟩,.slice none 0 0,.bool false,.string ⟨#[]⟩,.bool false,.string ⟨#[]⟩] 54))=w1 at *
 obtain ⟨a0,a1,a2,a3,a4,a5,a6,a7,a8,a9,a10,a11,a12,a13⟩:=HUB.out.cells
 go_wp2_with fail
 refine (HP.out _ HN.out).mono ?_
 rintro e w2 ⟨r,ds,rfl,hr,hdl,hn2⟩
 have HR:=Za hr
 have HZ2:=Za (HZ.out.on hn2)
 have HN2:=Za (HN.out.then hn2)
 clear hr hn2 HZ HN
 clear a0 a1 a2 a3 a4 a5 a6 a7 a8 a9 a10 a11 a12 a13
 obtain ⟨z0,z1,z2,z3,z4,z5,z6,z7,z8,z9,z10,z11,z12,z13⟩:=HZ2.out.cells
 have zf0:=HZ2.out.free 0
 have zf1:=HZ2.out.free 1
 have zf2:=HZ2.out.free 2
 have zf3:=HZ2.out.free 3
 have zf4:=HZ2.out.free 4
 have zf5:=HZ2.out.free 5
 have zf6:=HZ2.out.free 6
 have zf7:=HZ2.out.free 7
 have zf8:=HZ2.out.free 8
 have zf9:=HZ2.out.free 9
 have zf10:=HZ2.out.free 10
 have zf11:=HZ2.out.free 11
 have zf12:=HZ2.out.free 12
 have zf13:=HZ2.out.free 13
 go_wp2
 exact ZhD (rb:=w.heap.size + 1) Tryz.results123 rfl (RecB.put HZ2.out _ _ _ _ _ _ _ _ _ _ _ _ _ _) rfl ⟨r,ds,rfl,HR.out.ks (Zq HZ2.out.ty (by decide) _ _ _ _ _ _ _ _ _ _ _ _ _ _),hdl,(Zf HN2.out (by omega) _ _ _ _ _ _ _ _ _ _ _ _ _ _)⟩
set_option maxHeartbeats 8000000 in
theorem Zwt (ru:Rc) (u:U) (bs:List ByteArray) (s:ByteArray) (w:World) (h:RcIs w ru u bs) (hb:bs.length≤30001) (hs:s.size≤29000):
  Calls Tryz.prog 123 #[.agg #[.string ru.sch,.string ru.nam,.string ru.pw,.bool ru.hh,.string ru.host,.bool ru.hp,.int .i64 (ru.port:Int),.bool ru.op,.string ru.opath,.slice ru.so ru.sn ru.sc,.bool ru.hq,.string ru.q,.bool ru.hf,.string ru.fr],.int .i64 3,.string s] w fun e w'=>ZwR e w w' (Zwe u 3 (tl s)):=by
 have HP:Hid (∀ w',Nx w w'→Calls Tryz.prog 167 #[.agg #[.string ru.sch,.string ru.nam,.string ru.pw,.bool ru.hh,.string ru.host,.bool ru.hp,.int .i64 (ru.port:Int),.bool ru.op,.string ru.opath,.slice ru.so ru.sn ru.sc,.bool ru.hq,.string ru.q,.bool ru.hf,.string ru.fr],.int .i64 3,.string s] w' fun e w''=>ZwR e w' w'' (Zwe u 3 (tl s))):=Za (fun w' hn=>(Zwl ru bs 3 s w' h.lnam h.lpw (by omega)).mono (by rintro e w2 ⟨r,he,⟨x,p,hr,hx,hp,hq⟩,hn2⟩;exact ⟨r,bs,he,by subst hr;exact { h.on (hn.then hn2) with eq:=by rw [hq,h.eq],lnam:=hx,lpw:=hp },by omega,hn2⟩))
 clear h
 go_enter Tryz.func123,Tryz.ntmps123
 go_upto_region 1 with fail
 obtain ⟨g1,g2,g3⟩:=Zfk (w:=w) (ru:=ru) Nx.rfl
 have HUB:=Za g1
 have HZ:=Za g2
 have HN:=Za g3
 clear g1 g2 g3
 generalize ((w.alloc (Obj.cells #[.string ru.sch,.string ru.nam,.string ru.pw,.bool ru.hh,.string ru.host,.bool ru.hp,.int .i64 (ru.port:Int),.bool ru.op,.string ru.opath,.slice ru.so ru.sn ru.sc,.bool ru.hq,.string ru.q,.bool ru.hf,.string ru.fr] 54)).alloc (Obj.cells #[.string ⟨#[]⟩,.string ⟨#[]⟩,.string ⟨#[]⟩,.bool false,.string ⟨#[]⟩,.bool false,.int .i64 0,.bool false,.string ⟨#[]⟩,.slice none 0 0,.bool false,.string ⟨#[]⟩,.bool false,.string ⟨#[]⟩] 54))=w1 at *
 obtain ⟨a0,a1,a2,a3,a4,a5,a6,a7,a8,a9,a10,a11,a12,a13⟩:=HUB.out.cells
 go_wp2_with fail
 refine (HP.out _ HN.out).mono ?_
 rintro e w2 ⟨r,ds,rfl,hr,hdl,hn2⟩
 have HR:=Za hr
 have HZ2:=Za (HZ.out.on hn2)
 have HN2:=Za (HN.out.then hn2)
 clear hr hn2 HZ HN
 clear a0 a1 a2 a3 a4 a5 a6 a7 a8 a9 a10 a11 a12 a13
 obtain ⟨z0,z1,z2,z3,z4,z5,z6,z7,z8,z9,z10,z11,z12,z13⟩:=HZ2.out.cells
 have zf0:=HZ2.out.free 0
 have zf1:=HZ2.out.free 1
 have zf2:=HZ2.out.free 2
 have zf3:=HZ2.out.free 3
 have zf4:=HZ2.out.free 4
 have zf5:=HZ2.out.free 5
 have zf6:=HZ2.out.free 6
 have zf7:=HZ2.out.free 7
 have zf8:=HZ2.out.free 8
 have zf9:=HZ2.out.free 9
 have zf10:=HZ2.out.free 10
 have zf11:=HZ2.out.free 11
 have zf12:=HZ2.out.free 12
 have zf13:=HZ2.out.free 13
 go_wp2
 exact ZhD (rb:=w.heap.size + 1) Tryz.results123 rfl (RecB.put HZ2.out _ _ _ _ _ _ _ _ _ _ _ _ _ _) rfl ⟨r,ds,rfl,HR.out.ks (Zq HZ2.out.ty (by decide) _ _ _ _ _ _ _ _ _ _ _ _ _ _),hdl,(Zf HN2.out (by omega) _ _ _ _ _ _ _ _ _ _ _ _ _ _)⟩
def Zw0 (u:U) (k:Int) (l:List UInt8):U × Int:=
 if k=0 then ZbA (clean l) else if k=4 then ZwM u (clean l) true else if k=5 then ZwM u (clean l) false else (ZwZ u k (clean l),0)
set_option maxHeartbeats 8000000 in
theorem Zxa (ru:Rc) (u:U) (bs:List ByteArray) (s:ByteArray) (w:World) (h:RcIs w ru u bs) (_ht:Tb w) (hb:bs.length≤30001) (hs:s.size≤3000):
  Calls Tryz.prog 91 #[.agg #[.string ru.sch,.string ru.nam,.string ru.pw,.bool ru.hh,.string ru.host,.bool ru.hp,.int .i64 (ru.port:Int),.bool ru.op,.string ru.opath,.slice ru.so ru.sn ru.sc,.bool ru.hq,.string ru.q,.bool ru.hf,.string ru.fr],.int .i64 2,.string s] w fun e w'=>ZgW e w' ((Zwe u 2 (clean (tl s)),0)) 30002∧Nx w w':=by
 go_enter Tryz.func91,Tryz.ntmps91
 go_upto_region 1 with fail
 obtain ⟨g1,g2,g3⟩:=Zfk (w:=w) (ru:=ru) Nx.rfl
 have HUB:=Za g1
 have HZ:=Za g2
 have HN:=Za g3
 clear g1 g2 g3
 generalize ((w.alloc (Obj.cells #[.string ru.sch,.string ru.nam,.string ru.pw,.bool ru.hh,.string ru.host,.bool ru.hp,.int .i64 (ru.port:Int),.bool ru.op,.string ru.opath,.slice ru.so ru.sn ru.sc,.bool ru.hq,.string ru.q,.bool ru.hf,.string ru.fr] 54)).alloc (Obj.cells #[.string ⟨#[]⟩,.string ⟨#[]⟩,.string ⟨#[]⟩,.bool false,.string ⟨#[]⟩,.bool false,.int .i64 0,.bool false,.string ⟨#[]⟩,.slice none 0 0,.bool false,.string ⟨#[]⟩,.bool false,.string ⟨#[]⟩] 54))=w1 at *
 go_wp2_with fail
 refine (Zj6 s _ (by omega)).mono ?_
 rintro e w2 ⟨x,rfl,hx,hn2⟩
 have hxl:x.size≤9000:=by have:=Zea (tl s);rw [← hx,tl_length,tl_length] at this;omega
 have HP:Hid (∀ w',Nx w w'→Calls Tryz.prog 123 #[.agg #[.string ru.sch,.string ru.nam,.string ru.pw,.bool ru.hh,.string ru.host,.bool ru.hp,.int .i64 (ru.port:Int),.bool ru.op,.string ru.opath,.slice ru.so ru.sn ru.sc,.bool ru.hq,.string ru.q,.bool ru.hf,.string ru.fr],.int .i64 2,.string x] w' fun e w''=>ZwR e w' w'' (Zwe u 2 (tl x))):=Za (fun w' hn=>Zws ru u bs x w' (h.on hn) hb (by omega))
 rw [hx] at HP
 have HUB2:=Za (HUB.out.on hn2)
 have HZ2:=Za (HZ.out.on hn2)
 have HN2:=Za (HN.out.then hn2)
 clear hx hn2 HUB HZ HN h _ht hb
 obtain ⟨a0,a1,a2,a3,a4,a5,a6,a7,a8,a9,a10,a11,a12,a13⟩:=HUB2.out.cells
 go_wp2_with fail
 refine (HP.out _ HN2.out).mono ?_
 rintro e w3 ⟨r,ds,rfl,hr,hdl,hn3⟩
 have HR:=Za hr
 have HZ3:=Za (HZ2.out.on hn3)
 have HN3:=Za (HN2.out.then hn3)
 clear hr hn3 HZ2 HN2 HUB2
 clear a0 a1 a2 a3 a4 a5 a6 a7 a8 a9 a10 a11 a12 a13
 obtain ⟨z0,z1,z2,z3,z4,z5,z6,z7,z8,z9,z10,z11,z12,z13⟩:=HZ3.out.cells
 have zf0:=HZ3.out.free 0
 have zf1:=HZ3.out.free 1
 have zf2:=HZ3.out.free 2
 have zf3:=HZ3.out.free 3
 have zf4:=HZ3.out.free 4
 have zf5:=HZ3.out.free 5
 have zf6:=HZ3.out.free 6
 have zf7:=HZ3.out.free 7
 have zf8:=HZ3.out.free 8
 have zf9:=HZ3.out.free 9
 have zf10:=HZ3.out.free 10
 have zf11:=HZ3.out.free 11
 have zf12:=HZ3.out.free 12
 have zf13:=HZ3.out.free 13
 go_wp2
 exact Zag (rb:=w.heap.size + 1) Tryz.results91 rfl rfl (RecB.put HZ3.out _ _ _ _ _ _ _ _ _ _ _ _ _ _) rfl ⟨⟨r,ds,rfl,HR.out.ks (Zq HZ3.out.ty (by decide) _ _ _ _ _ _ _ _ _ _ _ _ _ _),hdl⟩,(Zf HN3.out (by omega) _ _ _ _ _ _ _ _ _ _ _ _ _ _)⟩
set_option maxHeartbeats 8000000 in
theorem Zxb (ru:Rc) (u:U) (bs:List ByteArray) (s:ByteArray) (w:World) (h:RcIs w ru u bs) (_ht:Tb w) (hb:bs.length≤30001) (hs:s.size≤3000):
  Calls Tryz.prog 91 #[.agg #[.string ru.sch,.string ru.nam,.string ru.pw,.bool ru.hh,.string ru.host,.bool ru.hp,.int .i64 (ru.port:Int),.bool ru.op,.string ru.opath,.slice ru.so ru.sn ru.sc,.bool ru.hq,.string ru.q,.bool ru.hf,.string ru.fr],.int .i64 3,.string s] w fun e w'=>ZgW e w' ((Zwe u 3 (clean (tl s)),0)) 30002∧Nx w w':=by
 go_enter Tryz.func91,Tryz.ntmps91
 go_upto_region 1 with fail
 obtain ⟨g1,g2,g3⟩:=Zfk (w:=w) (ru:=ru) Nx.rfl
 have HUB:=Za g1
 have HZ:=Za g2
 have HN:=Za g3
 clear g1 g2 g3
 generalize ((w.alloc (Obj.cells #[.string ru.sch,.string ru.nam,.string ru.pw,.bool ru.hh,.string ru.host,.bool ru.hp,.int .i64 (ru.port:Int),.bool ru.op,.string ru.opath,.slice ru.so ru.sn ru.sc,.bool ru.hq,.string ru.q,.bool ru.hf,.string ru.fr] 54)).alloc (Obj.cells #[.string ⟨#[]⟩,.string ⟨#[]⟩,.string ⟨#[]⟩,.bool false,.string ⟨#[]⟩,.bool false,.int .i64 0,.bool false,.string ⟨#[]⟩,.slice none 0 0,.bool false,.string ⟨#[]⟩,.bool false,.string ⟨#[]⟩] 54))=w1 at *
 go_wp2_with fail
 refine (Zj6 s _ (by omega)).mono ?_
 rintro e w2 ⟨x,rfl,hx,hn2⟩
 have hxl:x.size≤9000:=by have:=Zea (tl s);rw [← hx,tl_length,tl_length] at this;omega
 have HP:Hid (∀ w',Nx w w'→Calls Tryz.prog 123 #[.agg #[.string ru.sch,.string ru.nam,.string ru.pw,.bool ru.hh,.string ru.host,.bool ru.hp,.int .i64 (ru.port:Int),.bool ru.op,.string ru.opath,.slice ru.so ru.sn ru.sc,.bool ru.hq,.string ru.q,.bool ru.hf,.string ru.fr],.int .i64 3,.string x] w' fun e w''=>ZwR e w' w'' (Zwe u 3 (tl x))):=Za (fun w' hn=>Zwt ru u bs x w' (h.on hn) hb (by omega))
 rw [hx] at HP
 have HUB2:=Za (HUB.out.on hn2)
 have HZ2:=Za (HZ.out.on hn2)
 have HN2:=Za (HN.out.then hn2)
 clear hx hn2 HUB HZ HN h _ht hb
 obtain ⟨a0,a1,a2,a3,a4,a5,a6,a7,a8,a9,a10,a11,a12,a13⟩:=HUB2.out.cells
 go_wp2_with fail
 refine (HP.out _ HN2.out).mono ?_
 rintro e w3 ⟨r,ds,rfl,hr,hdl,hn3⟩
 have HR:=Za hr
 have HZ3:=Za (HZ2.out.on hn3)
 have HN3:=Za (HN2.out.then hn3)
 clear hr hn3 HZ2 HN2 HUB2
 clear a0 a1 a2 a3 a4 a5 a6 a7 a8 a9 a10 a11 a12 a13
 obtain ⟨z0,z1,z2,z3,z4,z5,z6,z7,z8,z9,z10,z11,z12,z13⟩:=HZ3.out.cells
 have zf0:=HZ3.out.free 0
 have zf1:=HZ3.out.free 1
 have zf2:=HZ3.out.free 2
 have zf3:=HZ3.out.free 3
 have zf4:=HZ3.out.free 4
 have zf5:=HZ3.out.free 5
 have zf6:=HZ3.out.free 6
 have zf7:=HZ3.out.free 7
 have zf8:=HZ3.out.free 8
 have zf9:=HZ3.out.free 9
 have zf10:=HZ3.out.free 10
 have zf11:=HZ3.out.free 11
 have zf12:=HZ3.out.free 12
 have zf13:=HZ3.out.free 13
 go_wp2
 exact Zag (rb:=w.heap.size + 1) Tryz.results91 rfl rfl (RecB.put HZ3.out _ _ _ _ _ _ _ _ _ _ _ _ _ _) rfl ⟨⟨r,ds,rfl,HR.out.ks (Zq HZ3.out.ty (by decide) _ _ _ _ _ _ _ _ _ _ _ _ _ _),hdl⟩,(Zf HN3.out (by omega) _ _ _ _ _ _ _ _ _ _ _ _ _ _)⟩
theorem UrlB.ty {w:World} {b:Nat} {r:Rc} (h:UrlB w b r):TyB w b 56:=⟨_,_,h⟩
theorem UrlB.free {w:World} {b:Nat} {r:Rc} (h:UrlB w b r) (i:Nat):w.frozen? ⟨b,i,none⟩=false:=by
 unfold UrlB at h
 simp [World.frozen?,h]
theorem UrlB.put {w:World} {b:Nat} {q:Rc} (h:UrlB w b q) (r:Rc):UrlB ((((((((((((((w.setCell ⟨b,0,none⟩ (.string r.sch)).setCell ⟨b,1,none⟩ (.string r.nam)).setCell ⟨b,2,none⟩ (.string r.pw)).setCell ⟨b,3,none⟩ (.bool r.hh)).setCell ⟨b,4,none⟩ (.string r.host)).setCell ⟨b,5,none⟩ (.bool r.hp)).setCell ⟨b,6,none⟩ (.int .i64 (r.port:Int))).setCell ⟨b,7,none⟩ (.bool r.op)).setCell ⟨b,8,none⟩ (.string r.opath)).setCell ⟨b,9,none⟩ (.slice r.so r.sn r.sc)).setCell ⟨b,10,none⟩ (.bool r.hq)).setCell ⟨b,11,none⟩ (.string r.q)).setCell ⟨b,12,none⟩ (.bool r.hf)).setCell ⟨b,13,none⟩ (.string r.fr)) b r:=by
 unfold UrlB at *
 simp [World.setCell,Array.getElem?_modify,h]
theorem ZxA {b:Nat} {a w:World} (h:But b a w) (v0 v1 v2 v3 v4 v5 v6 v7 v8 v9 v10 v11 v12 v13:Value):But b a ((((((((((((((w.setCell ⟨b,0,none⟩ v0).setCell ⟨b,1,none⟩ v1).setCell ⟨b,2,none⟩ v2).setCell ⟨b,3,none⟩ v3).setCell ⟨b,4,none⟩ v4).setCell ⟨b,5,none⟩ v5).setCell ⟨b,6,none⟩ v6).setCell ⟨b,7,none⟩ v7).setCell ⟨b,8,none⟩ v8).setCell ⟨b,9,none⟩ v9).setCell ⟨b,10,none⟩ v10).setCell ⟨b,11,none⟩ v11).setCell ⟨b,12,none⟩ v12).setCell ⟨b,13,none⟩ v13):=
 (But.set (But.set (But.set (But.set (But.set (But.set (But.set (But.set (But.set (But.set (But.set (But.set (But.set (But.set h 0 _) 1 _) 2 _) 3 _) 4 _) 5 _) 6 _) 7 _) 8 _) 9 _) 10 _) 11 _) 12 _) 13 _)
def Zxc (e:Ending) (w w':World) (pb:Nat) (long:Bool) (x:U × Int):Prop:=
 (long=true∧e=.returned (.int .i64 1)∧Nx w w')∨(long=false∧x.2≠0∧e=.returned (.int .i64 x.2)∧Nx w w')∨(long=false∧x.2=0∧e=.returned (.int .i64 0)∧(∃ (r:Rc) (ds:List ByteArray),UrlB w' pb r∧RcIs w' r x.1 ds∧ds.length≤30002)∧But pb w w')
set_option maxRecDepth 8000 in
set_option maxHeartbeats 8000000 in
theorem Zwo (k:Nat) (pb:Nat) (r:Rc) (u:U) (bs:List ByteArray) (s:ByteArray) (w:World) (hu:UrlB w pb r) (hr:RcIs w r u bs) (hput:s.size≤160→Calls Tryz.prog 91 #[.agg #[.string r.sch,.string r.nam,.string r.pw,.bool r.hh,.string r.host,.bool r.hp,.int .i64 (r.port:Int),.bool r.op,.string r.opath,.slice r.so r.sn r.sc,.bool r.hq,.string r.q,.bool r.hf,.string r.fr],.int .i64 (k:Int),.string s] w fun e w'=>ZgW e w' (Zw0 u k (tl s)) 30002∧Nx w w'):
  Calls Tryz.prog 62 #[.pointer (some ⟨pb,0,none⟩),.int .i64 (k:Int),.string s] w fun e w'=>Zxc e w w' pb (decide (160 < s.size)) (Zw0 u k (tl s)):=by
 by_cases hs:160 < s.size
 ·rw [decide_eq_true hs]
  clear hu hr hput
  go_enter Tryz.func62,Tryz.ntmps62
  go_wp2
  go_ret
  exact Or.inl ⟨rfl,rfl,Nx.rfl⟩
 rw [decide_eq_false hs]
 have HU:=Za hu
 have HR:=Za hr
 have HP:=Za (hput (by omega))
 obtain ⟨x,hx⟩:∃ x,Zw0 u k (tl s)=x:=⟨_,rfl⟩
 rw [hx] at HP ⊢
 clear hx
 obtain ⟨y,err⟩:=x
 obtain ⟨u0,u1,u2,u3,u4,u5,u6,u7,u8,u9,u10,u11,u12,u13⟩:=hu.cells
 have hs':s.size≤160:=by omega
 clear hu hr hput hs
 go_enter Tryz.func62,Tryz.ntmps62
 go_wp2_with fail
 refine HP.out.mono ?_
 rintro e w1 ⟨⟨r1,ds,rfl,hr1,hdl⟩,hn⟩
 clear HP
 simp only at hr1
 have HU1:=Za (HU.out.on hn)
 have HR1:=Za hr1
 have HN:=Za hn
 have hlb:pb < w1.heap.size:=(Array.getElem?_eq_some_iff.1 HU1.out).1
 clear hn hr1 u0 u1 u2 u3 u4 u5 u6 u7 u8 u9 u10 u11 u12 u13
 by_cases he:err=0
 ·subst he
  go_upto_region 6 with fail
  have HU2:=Za (HU1.out.on (Nx.rfl.alloc (Obj.cells #[.string r1.sch,.string r1.nam,.string r1.pw,.bool r1.hh,.string r1.host,.bool r1.hp,.int .i64 (r1.port:Int),.bool r1.op,.string r1.opath,.slice r1.so r1.sn r1.sc,.bool r1.hq,.string r1.q,.bool r1.hf,.string r1.fr] 54)))
  have HR2:=Za (HR1.out.on (Nx.rfl.alloc (Obj.cells #[.string r1.sch,.string r1.nam,.string r1.pw,.bool r1.hh,.string r1.host,.bool r1.hp,.int .i64 (r1.port:Int),.bool r1.op,.string r1.opath,.slice r1.so r1.sn r1.sc,.bool r1.hq,.string r1.q,.bool r1.hf,.string r1.fr] 54)))
  have HV2:=Za (Za0 w1 r1)
  have HN2:=Za (HN.out.alloc (Obj.cells #[.string r1.sch,.string r1.nam,.string r1.pw,.bool r1.hh,.string r1.host,.bool r1.hp,.int .i64 (r1.port:Int),.bool r1.op,.string r1.opath,.slice r1.so r1.sn r1.sc,.bool r1.hq,.string r1.q,.bool r1.hf,.string r1.fr] 54))
  clear HU1 HR1 HN
  generalize (w1.alloc (Obj.cells #[.string r1.sch,.string r1.nam,.string r1.pw,.bool r1.hh,.string r1.host,.bool r1.hp,.int .i64 (r1.port:Int),.bool r1.op,.string r1.opath,.slice r1.so r1.sn r1.sc,.bool r1.hq,.string r1.q,.bool r1.hf,.string r1.fr] 54))=w2 at *
  obtain ⟨u0,u1,u2,u3,u4,u5,u6,u7,u8,u9,u10,u11,u12,u13⟩:=HU2.out.cells
  obtain ⟨x0,x1,x2,x3,x4,x5,x6,x7,x8,x9,x10,x11,x12,x13⟩:=HV2.out.cells
  have uf0:=HU2.out.free 0
  have uf1:=HU2.out.free 1
  have uf2:=HU2.out.free 2
  have uf3:=HU2.out.free 3
  have uf4:=HU2.out.free 4
  have uf5:=HU2.out.free 5
  have uf6:=HU2.out.free 6
  have uf7:=HU2.out.free 7
  have uf8:=HU2.out.free 8
  have uf9:=HU2.out.free 9
  have uf10:=HU2.out.free 10
  have uf11:=HU2.out.free 11
  have uf12:=HU2.out.free 12
  have uf13:=HU2.out.free 13
  go_wp2
  go_ret
  refine Or.inr (Or.inr ⟨rfl,rfl,rfl,⟨r1,ds,UrlB.put HU2.out r1,?_,hdl⟩,ZxA (But.nx HN2.out) _ _ _ _ _ _ _ _ _ _ _ _ _ _⟩)
  exact RcIs.ks HR2.out (Zq HU2.out.ty (by decide) _ _ _ _ _ _ _ _ _ _ _ _ _ _)
 ·have he1:(err == 0)=false:=beq_eq_false_iff_ne.2 he
  have he2:(err != 0)=true:=bne_iff_ne.2 he
  have HE:=Za he
  clear he
  go_wp2
  go_ret
  exact Or.inr (Or.inl ⟨rfl,HE.out,rfl,HN.out.alloc _⟩)
set_option maxHeartbeats 4000000 in
theorem Zwm (pb:Nat) (r:Rc) (u:U) (bs:List ByteArray) (s:ByteArray) (w:World) (hu:UrlB w pb r) (hr:RcIs w r u bs) (ht:Tb w) (hb:bs.length≤30001):
  Calls Tryz.prog 65 #[.pointer (some ⟨pb,0,none⟩),.string s] w fun e w'=>Zxc e w w' pb (decide (160 < s.size)) (Zw0 u 2 (tl s)):=by
 have HP:=Za (Zwo 2 pb r u bs s w hu hr (fun hs=>Zxa r u bs s w hr ht hb (by omega)))
 clear hu hr ht hb
 go_enter Tryz.func65,Tryz.ntmps65
 go_wp2_with fail
 refine HP.out.mono ?_
 intro e w1 h
 rcases h with ⟨h1,rfl,hn⟩ | ⟨h1,h2,rfl,hn⟩ | ⟨h1,h2,rfl,hx,hbu⟩
 ·have H1:=Za h1
  have HN:=Za hn
  clear h1 hn
  go_wp2
  go_ret
  exact Or.inl ⟨H1.out,rfl,HN.out⟩
 ·have H1:=Za h1
  have H2:=Za h2
  have HN:=Za hn
  clear h1 h2 hn
  go_wp2
  go_ret
  exact Or.inr (Or.inl ⟨H1.out,H2.out,rfl,HN.out⟩)
 ·have H1:=Za h1
  have H2:=Za h2
  have HX:=Za hx
  have HB:=Za hbu
  clear h1 h2 hx hbu
  go_wp2
  go_ret
  exact Or.inr (Or.inr ⟨H1.out,H2.out,rfl,HX.out,HB.out⟩)
set_option maxHeartbeats 4000000 in
theorem Zwn (pb:Nat) (r:Rc) (u:U) (bs:List ByteArray) (s:ByteArray) (w:World) (hu:UrlB w pb r) (hr:RcIs w r u bs) (ht:Tb w) (hb:bs.length≤30001):
  Calls Tryz.prog 66 #[.pointer (some ⟨pb,0,none⟩),.string s] w fun e w'=>Zxc e w w' pb (decide (160 < s.size)) (Zw0 u 3 (tl s)):=by
 have HP:=Za (Zwo 3 pb r u bs s w hu hr (fun hs=>Zxb r u bs s w hr ht hb (by omega)))
 clear hu hr ht hb
 go_enter Tryz.func66,Tryz.ntmps66
 go_wp2_with fail
 refine HP.out.mono ?_
 intro e w1 h
 rcases h with ⟨h1,rfl,hn⟩ | ⟨h1,h2,rfl,hn⟩ | ⟨h1,h2,rfl,hx,hbu⟩
 ·have H1:=Za h1
  have HN:=Za hn
  clear h1 hn
  go_wp2
  go_ret
  exact Or.inl ⟨H1.out,rfl,HN.out⟩
 ·have H1:=Za h1
  have H2:=Za h2
  have HN:=Za hn
  clear h1 h2 hn
  go_wp2
  go_ret
  exact Or.inr (Or.inl ⟨H1.out,H2.out,rfl,HN.out⟩)
 ·have H1:=Za h1
  have H2:=Za h2
  have HX:=Za hx
  have HB:=Za hbu
  clear h1 h2 hx hbu
  go_wp2
  go_ret
  exact Or.inr (Or.inr ⟨H1.out,H2.out,rfl,HX.out,HB.out⟩)
end Go.Proofs.YtchkhibgbnhjpaaGreatDoor
