import Derived.Test.YtchkhibgbnhjpabGreatDoorB39
namespace Go.Proofs.YtchkhibgbnhjpabGreatDoor
open Go.RowKit
set_option maxHeartbeats 16000000
def Ztk(n:Nat)(e:Ending)(w':World)(x:U×Int):Prop:=
 (x.2≠0∧e=.returned (.tuple #[.pointer none,.int .i64 x.2]))∨(x.2=0∧∃(pb:Nat) (r:Rc) (bs:List ByteArray),e=.returned (.tuple #[.pointer (some ⟨pb,0,none⟩),.int .i64 0])∧UrlB w' pb r∧RcIs w' r x.1 bs∧n≤pb)
theorem ZqH(s base:BA)(based:Bool)(w:World)(hs:s.size≤maxLen)(hb:base.size≤maxLen)(ht:Tb w):Calls Tryz.prog 28 #[.string s,.string base,.bool based] w fun e w'=>Ztk w.heap.size e w' (Zci (tl s) (tl base) based)∧Nx w w':=by
 have HTB:=Za ht;clear ht;unfold maxLen at hs hb
 have HD:=Za (show Zci (tl s) (tl base) based=if 160<s.size∨(based=true∧160<base.size)then(zeroU,1)
  else if(Zc0 (tl base) based).2≠0 then(zeroU,(Zc0 (tl base) based).2)else Zae (tl s) (Zc0 (tl base) based).1 by rw[←tl_length s,←tl_length base];rfl)
 by_cases h1:160<s.size
 ·have HE:=Za (HD.out.trans (if_pos (Or.inl h1)))
  clear HD
  go_enter Tryz.func28,Tryz.ntmps28
  go_wp2;go_ret2
  exact⟨Or.inl ⟨by rw[HE.out];decide,by rw[HE.out];rfl⟩,Nx.rfl⟩
 by_cases h2:based=true∧160<base.size
 ·have HE:=Za (HD.out.trans (if_pos (Or.inr h2)))
  obtain⟨rfl,h3⟩:=h2;clear HD
  go_enter Tryz.func28,Tryz.ntmps28
  go_wp2;go_ret2
  exact⟨Or.inl ⟨by rw[HE.out];decide,by rw[HE.out];rfl⟩,Nx.rfl⟩
 have HD2:=Za (HD.out.trans (if_neg (by rintro(h|h);exact h1 h;exact h2 h)))
 clear HD
 have HBC:=Za (fun w1 (hn:Nx w w1)=>Zsy base based w1 (fun hb=>by have:¬160<base.size:=fun h=>h2 ⟨hb,h⟩;omega) (HTB.out.on hn))
 have two:based=false∨(based=true∧¬160<base.size):=by
  cases based
  ·exact Or.inl rfl
  ·exact Or.inr ⟨rfl,fun h=>h2 ⟨rfl,h⟩⟩
 clear h2;rcases two with rfl|⟨rfl,h3⟩
 ·go_enter Tryz.func28,Tryz.ntmps28
  go_wp2_with fail
  refine(HBC.out _ Nx.rfl).mono ?_
  rintro e w1 ⟨⟨r,ds,rfl,hr,hdl⟩,hn1⟩;have HR:=Za hr;have HN1:=Za hn1;clear hr hn1;generalize Zc0 (tl base) false=q at *;obtain⟨qu,err⟩:=q;simp only at HR HD2
  by_cases he:err=0
  ·subst he
   have HE:=Za (HD2.out.trans (if_neg (by decide)))
   clear HD2;go_wp2_with fail
   refine(ZeU s r qu ds _ (HR.out.on (Nx.rfl.alloc _)) (by omega) (by omega) (HTB.out.on (HN1.out.alloc _))).mono ?_
   rintro e w2 ⟨⟨r2,ds2,rfl,hr2,hdl2⟩,hn2⟩;have HR2:=Za hr2;have HN2:=Za ((HN1.out.alloc _).then hn2);clear hr2 hn2;generalize Zae (tl s) qu=q2 at *;obtain⟨qu2,err2⟩:=q2;simp only at HR2
   by_cases he2:err2=0
   ·subst he2
    go_wp2;go_ret2
    refine⟨Or.inr ⟨by rw[HE.out],w2.heap.size+1,r2,ds2,rfl,?_,by rw[HE.out];exact HR2.out.on ((Nx.rfl.alloc _).alloc _),Nat.le_trans HN2.out.size (Nat.le_succ _)⟩,(HN2.out.alloc _).alloc _⟩
    have h:=ZoZ (w2.alloc (Obj.cells #[.string r2.sch,.string r2.nam,.string r2.pw,.bool r2.hh,.string r2.host,.bool r2.hp,.int .i64 (r2.port:Int),.bool r2.op,.string r2.opath,.slice r2.so r2.sn r2.sc,.bool r2.hq,.string r2.q,.bool r2.hf,.string r2.fr] 101)) r2
    rw[show(w2.alloc (Obj.cells #[.string r2.sch,.string r2.nam,.string r2.pw,.bool r2.hh,.string r2.host,.bool r2.hp,.int .i64 (r2.port:Int),.bool r2.op,.string r2.opath,.slice r2.so r2.sn r2.sc,.bool r2.hq,.string r2.q,.bool r2.hf,.string r2.fr] 101)).heap.size=w2.heap.size+1 by simp]at h
    exact h
   ·have he':(err2 != 0)=true:=ZhB (beq_eq_false_iff_ne.2 he2)
    have HE2:=Za he2;clear he2;go_wp2;go_ret2
    exact⟨Or.inl ⟨by rw[HE.out];exact HE2.out,by rw[HE.out];rfl⟩,HN2.out.alloc _⟩
  ·have HE:=Za (HD2.out.trans (if_pos he))
   have he':(err != 0)=true:=ZhB (beq_eq_false_iff_ne.2 he);have HE2:=Za he;clear HD2 he;go_wp2;go_ret2
   exact⟨Or.inl ⟨by rw[HE.out];exact HE2.out,by rw[HE.out];rfl⟩,HN1.out.alloc _⟩
 ·go_enter Tryz.func28,Tryz.ntmps28
  go_wp2_with fail
  refine(HBC.out _ Nx.rfl).mono ?_
  rintro e w1 ⟨⟨r,ds,rfl,hr,hdl⟩,hn1⟩;have HR:=Za hr;have HN1:=Za hn1;clear hr hn1;generalize Zc0 (tl base) true=q at *;obtain⟨qu,err⟩:=q;simp only at HR HD2
  by_cases he:err=0
  ·subst he
   have HE:=Za (HD2.out.trans (if_neg (by decide)))
   clear HD2;go_wp2_with fail
   refine(ZeU s r qu ds _ (HR.out.on (Nx.rfl.alloc _)) (by omega) (by omega) (HTB.out.on (HN1.out.alloc _))).mono ?_
   rintro e w2 ⟨⟨r2,ds2,rfl,hr2,hdl2⟩,hn2⟩;have HR2:=Za hr2;have HN2:=Za ((HN1.out.alloc _).then hn2);clear hr2 hn2;generalize Zae (tl s) qu=q2 at *;obtain⟨qu2,err2⟩:=q2;simp only at HR2
   by_cases he2:err2=0
   ·subst he2
    go_wp2;go_ret2
    refine⟨Or.inr ⟨by rw[HE.out],w2.heap.size+1,r2,ds2,rfl,?_,by rw[HE.out];exact HR2.out.on ((Nx.rfl.alloc _).alloc _),Nat.le_trans HN2.out.size (Nat.le_succ _)⟩,(HN2.out.alloc _).alloc _⟩
    have h:=ZoZ (w2.alloc (Obj.cells #[.string r2.sch,.string r2.nam,.string r2.pw,.bool r2.hh,.string r2.host,.bool r2.hp,.int .i64 (r2.port:Int),.bool r2.op,.string r2.opath,.slice r2.so r2.sn r2.sc,.bool r2.hq,.string r2.q,.bool r2.hf,.string r2.fr] 101)) r2
    rw[show(w2.alloc (Obj.cells #[.string r2.sch,.string r2.nam,.string r2.pw,.bool r2.hh,.string r2.host,.bool r2.hp,.int .i64 (r2.port:Int),.bool r2.op,.string r2.opath,.slice r2.so r2.sn r2.sc,.bool r2.hq,.string r2.q,.bool r2.hf,.string r2.fr] 101)).heap.size=w2.heap.size+1 by simp]at h
    exact h
   ·have he':(err2 != 0)=true:=ZhB (beq_eq_false_iff_ne.2 he2)
    have HE2:=Za he2;clear he2;go_wp2;go_ret2
    exact⟨Or.inl ⟨by rw[HE.out];exact HE2.out,by rw[HE.out];rfl⟩,HN2.out.alloc _⟩
  ·have HE:=Za (HD2.out.trans (if_pos he))
   have he':(err != 0)=true:=ZhB (beq_eq_false_iff_ne.2 he);have HE2:=Za he;clear HD2 he;go_wp2;go_ret2
   exact⟨Or.inl ⟨by rw[HE.out];exact HE2.out,by rw[HE.out];rfl⟩,HN1.out.alloc _⟩
def Zbs(n:Int)(l:List UInt8):List UInt8:=if l≠[]∧((l.getD 0 0).toNat:Int)=n then l.drop 1 else l
def Ztp(l:List UInt8):List UInt8:=encB (tl (ZaJ 1)) (clean (noBreaks (Zbs 35 l)))
def Zph(u:U):Bool:=!(u.nam.isEmpty&&u.pw.isEmpty)
def Zpi(u:U):Bool:=!u.host.isEmpty&&u.sch != Zv
def ZbX(l:List UInt8):List UInt8:=(l.reverse.dropWhile fun b=>(b.toNat:Int)==32).reverse
def ZaZ(u:U):U:=if u.hq=true∨u.hf=true then u else { u with opath:=ZbX u.opath }
def ZkQ(u:U):U:=ZaZ { u with hq:=false,q:=[] }
def ZnP(u:U):U:=ZaZ { u with hf:=false,fr:=[] }
def Zbb(u:U)(l:List UInt8):U:=if l=[]then ZnP u else { u with hf:=true,fr:=Ztp l }
def Zpj(u:U)(k:Int)(l:List UInt8):U:=if Zpi u=false then u else if k=2 then { u with nam:=ZfA l }else { u with pw:=ZfA l }
def Zg0(sch l:List UInt8):List UInt8:=encB (tl (ZaJ (ZaQ sch))) (clean (noBreaks (Zbs 63 l)))
def ZaE(u:U)(l:List UInt8):U:=if l=[]then ZkQ u else { u with hq:=true,q:=Zg0 u.sch l }
def Zx4(b:UInt8):Bool:=decide (48≤(b.toNat:Int)∧(b.toNat:Int)≤57)
def Zmo(u:U)(l:List UInt8):U:=if(ZaI (l.takeWhile Zx4)).2=false then u else Za6 u (ZaI (l.takeWhile Zx4)).1
def Zvn(u:U)(l:List UInt8):U:=if Zpi u=false then u else if l=[]then { u with hp:=false,port:=0 }else Zmo u (noBreaks l)
def ZbC(sp:Bool)(l:List UInt8):List UInt8:=match l with | []=>[]|c::r=>if slB sp c=true then r else c::r
def ZbD(u:U)(l:List UInt8):U:=
 if u.op=true then u else if noBreaks l=[]∧Zc u.sch=false∧u.hh=true then { u with segs:=[] }else { u with segs:=Zbe (ZbC (Zc u.sch) (noBreaks l)) u.sch }
def ZqK(u:U)(s:List UInt8):Bool:=(Zc u.sch==Zc s) && !(s==Zv&&(Zph u||u.hp))&&(u.sch != Zv || !u.host.isEmpty)
def Ztr(u:U)(l:List UInt8):U:=
 if(Zaw (noBreaks l++[58])).2.2=false∨ZqK u (Zaw (noBreaks l++[58])).1=false then u
 else if u.hp=true then Za6 { u with sch:=(Zaw (noBreaks l++[58])).1 } u.port else { u with sch:=(Zaw (noBreaks l++[58])).1 }
def ZbE(sp:Bool)(l:List UInt8):List UInt8:=(bcut (isB 35) (bcut (isB 63) (bcut (slB sp) (noBreaks l)).1).1).1
def Zd8(u:U)(l:List UInt8)(ported:Bool):List UInt8×List UInt8×Int:=
 if u.sch=Zv then((ZH (ZbE (Zc u.sch) l)).1,[],(ZH (ZbE (Zc u.sch) l)).2)
 else if(Zu (ZbE (Zc u.sch) l)).2.2=true∧ported=false then([],[],2)
 else if(Zu (ZbE (Zc u.sch) l)).1=[]∧((Zu (ZbE (Zc u.sch) l)).2.2=true∨Zc u.sch=true∨Zph u=true∨u.hp=true)then([],[],2)
 else if(ZT (Zu (ZbE (Zc u.sch) l)).1 (Zc u.sch)).2≠0 then([],[],(ZT (Zu (ZbE (Zc u.sch) l)).1 (Zc u.sch)).2)
 else((ZT (Zu (ZbE (Zc u.sch) l)).1 (Zc u.sch)).1,(Zu (ZbE (Zc u.sch) l)).2.1,0)
def Zpk(u:U)(l:List UInt8)(ported:Bool):U×Int:=
 if u.op=true then(u,0)else if(Zd8 u l ported).2.2=2 then(u,0)else if(Zd8 u l ported).2.2≠0 then(zeroU,(Zd8 u l ported).2.2)
 else(Zmo { u with hh:=true,host:=(Zd8 u l ported).1 } (Zd8 u l ported).2.1,0)
def ZkS(e:Ending)(w w':World)(x:U):Prop:=∃(r:Rc) (ds:List ByteArray),e=.returned (.agg #[.string r.sch,.string r.nam,.string r.pw,.bool r.hh,.string r.host,.bool r.hp,.int .i64 (r.port:Int),.bool r.op,.string r.opath,.slice r.so r.sn r.sc,.bool r.hq,.string r.q,.bool r.hf,.string r.fr])∧RcIs w' r x ds∧ds.length≤30002∧Nx w w'
def Zts(u:U)(k:Int)(l:List UInt8):U:=
 if k=1 then Ztr u l else if k=2 then Zpj u 2 l else if k=3 then Zpj u 3 l else if k=6 then Zvn u l else if k=7 then ZbD u l else if k=8 then ZaE u l else Zbb u l
def ZnS(u:U)(k:Int)(l:List UInt8):U×Int:=
 if k=0 then ZbL (clean l)else if k=4 then Zpk u (clean l) true else if k=5 then Zpk u (clean l) false else(Zts u k (clean l),0)
theorem UrlB.ty{w:World}{b:Nat}{r:Rc}(h:UrlB w b r):TyB w b 106:=⟨_,_,h⟩
theorem UrlB.free{w:World}{b:Nat}{r:Rc}(h:UrlB w b r)(i:Nat):w.frozen? ⟨b,i,none⟩=false:=by
 unfold UrlB at h
 simp[World.frozen?,h]
theorem UrlB.put{w:World}{b:Nat}{q:Rc}(h:UrlB w b q)(r:Rc):UrlB ((((((((((((((w.setCell ⟨b,0,none⟩ (.string r.sch)).setCell ⟨b,1,none⟩ (.string r.nam)).setCell ⟨b,2,none⟩ (.string r.pw)).setCell ⟨b,3,none⟩ (.bool r.hh)).setCell ⟨b,4,none⟩ (.string r.host)).setCell ⟨b,5,none⟩ (.bool r.hp)).setCell ⟨b,6,none⟩ (.int .i64 (r.port:Int))).setCell ⟨b,7,none⟩ (.bool r.op)).setCell ⟨b,8,none⟩ (.string r.opath)).setCell ⟨b,9,none⟩ (.slice r.so r.sn r.sc)).setCell ⟨b,10,none⟩ (.bool r.hq)).setCell ⟨b,11,none⟩ (.string r.q)).setCell ⟨b,12,none⟩ (.bool r.hf)).setCell ⟨b,13,none⟩ (.string r.fr)) b r:=by
 unfold UrlB at *
 simp[World.setCell,Array.getElem?_modify,h]
theorem ZxW{b:Nat}{a w:World}(h:But b a w)(v0 v1 v2 v3 v4 v5 v6 v7 v8 v9 v10 v11 v12 v13:Value):But b a ((((((((((((((w.setCell ⟨b,0,none⟩ v0).setCell ⟨b,1,none⟩ v1).setCell ⟨b,2,none⟩ v2).setCell ⟨b,3,none⟩ v3).setCell ⟨b,4,none⟩ v4).setCell ⟨b,5,none⟩ v5).setCell ⟨b,6,none⟩ v6).setCell ⟨b,7,none⟩ v7).setCell ⟨b,8,none⟩ v8).setCell ⟨b,9,none⟩ v9).setCell ⟨b,10,none⟩ v10).setCell ⟨b,11,none⟩ v11).setCell ⟨b,12,none⟩ v12).setCell ⟨b,13,none⟩ v13):=
 (But.set (But.set (But.set (But.set (But.set (But.set (But.set (But.set (But.set (But.set (But.set (But.set (But.set (But.set h 0 _) 1 _) 2 _) 3 _) 4 _) 5 _) 6 _) 7 _) 8 _) 9 _) 10 _) 11 _) 12 _) 13 _)
end Go.Proofs.YtchkhibgbnhjpabGreatDoor
