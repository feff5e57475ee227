import Derived.Test.YtchkhibgbnhjpaaGreatDoorP39
namespace Go.Proofs.YtchkhibgbnhjpaaGreatDoor
open Go.RowKit
set_option maxHeartbeats 16000000
def Ztu(n:Nat)(e:Ending)(w':World)(x:U×Int):Prop:=
 (x.2≠0∧e=.returned (.tuple #[.pointer none,.int .i64 x.2]))∨(x.2=0∧∃(pb:Nat) (r:Rc) (bs:List ByteArray),e=.returned (.tuple #[.pointer (some ⟨pb,0,none⟩),.int .i64 0])∧UrlB w' pb r∧RcIs w' r x.1 bs∧n≤pb)
theorem ZqQ(s base:BA)(based:Bool)(w:World)(hs:s.size≤maxLen)(hb:base.size≤maxLen)(ht:Tb w):Calls Tryz.prog 30 #[.string s,.string base,.bool based] w fun e w'=>Ztu w.heap.size e w' (Zcp (tl s) (tl base) based)∧Nx w w':=by
 have HTB:=Za ht;clear ht;unfold maxLen at hs hb
 have HD:=Za (show Zcp (tl s) (tl base) based=if 160<s.size∨(based=true∧160<base.size)then(zeroU,1)
  else if(Zc8 (tl base) based).2≠0 then(zeroU,(Zc8 (tl base) based).2)else Zan (tl s) (Zc8 (tl base) based).1 by rw[←tl_length s,←tl_length base];rfl)
 by_cases h1:160<s.size
 ·have HE:=Za (HD.out.trans (if_pos (Or.inl h1)))
  clear HD
  go_enter Tryz.func30,Tryz.ntmps30
  go_wp2;go_ret2
  exact⟨Or.inl ⟨by rw[HE.out];decide,by rw[HE.out];rfl⟩,Nx.rfl⟩
 by_cases h2:based=true∧160<base.size
 ·have HE:=Za (HD.out.trans (if_pos (Or.inr h2)))
  obtain⟨rfl,h3⟩:=h2;clear HD
  go_enter Tryz.func30,Tryz.ntmps30
  go_wp2;go_ret2
  exact⟨Or.inl ⟨by rw[HE.out];decide,by rw[HE.out];rfl⟩,Nx.rfl⟩
 have HD2:=Za (HD.out.trans (if_neg (by rintro(h|h);exact h1 h;exact h2 h)))
 clear HD
 have HBC:=Za (fun w1 (hn:Nx w w1)=>ZsG base based w1 (fun hb=>by have:¬160<base.size:=fun h=>h2 ⟨hb,h⟩;omega) (HTB.out.on hn))
 have two:based=false∨(based=true∧¬160<base.size):=by
  cases based
  ·exact Or.inl rfl
  ·exact Or.inr ⟨rfl,fun h=>h2 ⟨rfl,h⟩⟩
 clear h2;rcases two with rfl|⟨rfl,h3⟩
 ·go_enter Tryz.func30,Tryz.ntmps30
  go_wp2_with fail
  refine(HBC.out _ Nx.rfl).mono ?_
  rintro e w1 ⟨⟨r,ds,rfl,hr,hdl⟩,hn1⟩;have HR:=Za hr;have HN1:=Za hn1;clear hr hn1;generalize Zc8 (tl base) false=q at *;obtain⟨qu,err⟩:=q;simp only at HR HD2
  by_cases he:err=0
  ·subst he
   have HE:=Za (HD2.out.trans (if_neg (by decide)))
   clear HD2;go_wp2_with fail
   refine(ZeY s r qu ds _ (HR.out.on (Nx.rfl.alloc _)) (by omega) (by omega) (HTB.out.on (HN1.out.alloc _))).mono ?_
   rintro e w2 ⟨⟨r2,ds2,rfl,hr2,hdl2⟩,hn2⟩;have HR2:=Za hr2;have HN2:=Za ((HN1.out.alloc _).then hn2);clear hr2 hn2;generalize Zan (tl s) qu=q2 at *;obtain⟨qu2,err2⟩:=q2;simp only at HR2
   by_cases he2:err2=0
   ·subst he2
    go_wp2;go_ret2
    refine⟨Or.inr ⟨by rw[HE.out],w2.heap.size+1,r2,ds2,rfl,?_,by rw[HE.out];exact HR2.out.on ((Nx.rfl.alloc _).alloc _),Nat.le_trans HN2.out.size (Nat.le_succ _)⟩,(HN2.out.alloc _).alloc _⟩
    have h:=Zo9 (w2.alloc (Obj.cells #[.string r2.sch,.string r2.nam,.string r2.pw,.bool r2.hh,.string r2.host,.bool r2.hp,.int .i64 (r2.port:Int),.bool r2.op,.string r2.opath,.slice r2.so r2.sn r2.sc,.bool r2.hq,.string r2.q,.bool r2.hf,.string r2.fr] 54)) r2
    rw[show(w2.alloc (Obj.cells #[.string r2.sch,.string r2.nam,.string r2.pw,.bool r2.hh,.string r2.host,.bool r2.hp,.int .i64 (r2.port:Int),.bool r2.op,.string r2.opath,.slice r2.so r2.sn r2.sc,.bool r2.hq,.string r2.q,.bool r2.hf,.string r2.fr] 54)).heap.size=w2.heap.size+1 by simp]at h
    exact h
   ·have he':(err2 != 0)=true:=ZgP (beq_eq_false_iff_ne.2 he2)
    have HE2:=Za he2;clear he2;go_wp2;go_ret2
    exact⟨Or.inl ⟨by rw[HE.out];exact HE2.out,by rw[HE.out];rfl⟩,HN2.out.alloc _⟩
  ·have HE:=Za (HD2.out.trans (if_pos he))
   have he':(err != 0)=true:=ZgP (beq_eq_false_iff_ne.2 he);have HE2:=Za he;clear HD2 he;go_wp2;go_ret2
   exact⟨Or.inl ⟨by rw[HE.out];exact HE2.out,by rw[HE.out];rfl⟩,HN1.out.alloc _⟩
 ·go_enter Tryz.func30,Tryz.ntmps30
  go_wp2_with fail
  refine(HBC.out _ Nx.rfl).mono ?_
  rintro e w1 ⟨⟨r,ds,rfl,hr,hdl⟩,hn1⟩;have HR:=Za hr;have HN1:=Za hn1;clear hr hn1;generalize Zc8 (tl base) true=q at *;obtain⟨qu,err⟩:=q;simp only at HR HD2
  by_cases he:err=0
  ·subst he
   have HE:=Za (HD2.out.trans (if_neg (by decide)))
   clear HD2;go_wp2_with fail
   refine(ZeY s r qu ds _ (HR.out.on (Nx.rfl.alloc _)) (by omega) (by omega) (HTB.out.on (HN1.out.alloc _))).mono ?_
   rintro e w2 ⟨⟨r2,ds2,rfl,hr2,hdl2⟩,hn2⟩;have HR2:=Za hr2;have HN2:=Za ((HN1.out.alloc _).then hn2);clear hr2 hn2;generalize Zan (tl s) qu=q2 at *;obtain⟨qu2,err2⟩:=q2;simp only at HR2
   by_cases he2:err2=0
   ·subst he2
    go_wp2;go_ret2
    refine⟨Or.inr ⟨by rw[HE.out],w2.heap.size+1,r2,ds2,rfl,?_,by rw[HE.out];exact HR2.out.on ((Nx.rfl.alloc _).alloc _),Nat.le_trans HN2.out.size (Nat.le_succ _)⟩,(HN2.out.alloc _).alloc _⟩
    have h:=Zo9 (w2.alloc (Obj.cells #[.string r2.sch,.string r2.nam,.string r2.pw,.bool r2.hh,.string r2.host,.bool r2.hp,.int .i64 (r2.port:Int),.bool r2.op,.string r2.opath,.slice r2.so r2.sn r2.sc,.bool r2.hq,.string r2.q,.bool r2.hf,.string r2.fr] 54)) r2
    rw[show(w2.alloc (Obj.cells #[.string r2.sch,.string r2.nam,.string r2.pw,.bool r2.hh,.string r2.host,.bool r2.hp,.int .i64 (r2.port:Int),.bool r2.op,.string r2.opath,.slice r2.so r2.sn r2.sc,.bool r2.hq,.string r2.q,.bool r2.hf,.string r2.fr] 54)).heap.size=w2.heap.size+1 by simp]at h
    exact h
   ·have he':(err2 != 0)=true:=ZgP (beq_eq_false_iff_ne.2 he2)
    have HE2:=Za he2;clear he2;go_wp2;go_ret2
    exact⟨Or.inl ⟨by rw[HE.out];exact HE2.out,by rw[HE.out];rfl⟩,HN2.out.alloc _⟩
  ·have HE:=Za (HD2.out.trans (if_pos he))
   have he':(err != 0)=true:=ZgP (beq_eq_false_iff_ne.2 he);have HE2:=Za he;clear HD2 he;go_wp2;go_ret2
   exact⟨Or.inl ⟨by rw[HE.out];exact HE2.out,by rw[HE.out];rfl⟩,HN1.out.alloc _⟩
def Ztz(n:Int)(l:List UInt8):List UInt8:=if l≠[]∧((l.getD 0 0).toNat:Int)=n then l.drop 1 else l
def Zyj(l:List UInt8):List UInt8:=encB (tl (ZaO 1)) (clean (noBreaks (Ztz 35 l)))
def Za2(u:U):Bool:=!(u.nam.isEmpty&&u.pw.isEmpty)
theorem tl_isEmpty(s:BA):(tl s).isEmpty=decide (s.size=0):=by
 by_cases h:s.size=0
 ·rw[decide_eq_true h,ZA h];rfl
 ·rw[decide_eq_false h]
  cases hh:tl s with
  | nil=>exact absurd hh (ZcX h)
  | cons c r=>rfl
theorem Zi6(ru:Rc)(bs:LA)(w:World):Calls Tryz.prog 206 #[.agg #[.string ru.sch,.string ru.nam,.string ru.pw,.bool ru.hh,.string ru.host,.bool ru.hp,.int .i64 (ru.port:Int),.bool ru.op,.string ru.opath,.slice ru.so ru.sn ru.sc,.bool ru.hq,.string ru.q,.bool ru.hf,.string ru.fr]] w fun e w'=>e=.returned (.bool (Za2 (ru.u bs)))∧Nx w w':=by
 have HD:=Za (show Za2 (ru.u bs)=!((tl ru.nam).isEmpty&&(tl ru.pw).isEmpty)from rfl);rw[tl_isEmpty,tl_isEmpty]at HD
 by_cases h1:ru.nam.size=0
 ·have h1':=Zl h1
  by_cases h2:ru.pw.size=0
  ·have h2':=Zl h2
   have HE:=Za (show Za2 (ru.u bs)=false by rw[HD.out,decide_eq_true h1,decide_eq_true h2];rfl)
   clear HD h1 h2
   go_enter Tryz.func206,Tryz.ntmps206
   go_wp2;go_ret;exact⟨Zj HE.out.symm,Nx.rfl.alloc _⟩
  ·have h2':=Zh h2
   have HE:=Za (show Za2 (ru.u bs)=true by rw[HD.out,decide_eq_true h1,decide_eq_false h2];rfl)
   clear HD h1 h2
   go_enter Tryz.func206,Tryz.ntmps206
   go_wp2;go_ret;exact⟨Zj HE.out.symm,Nx.rfl.alloc _⟩
 ·have h1':=Zh h1
  have HE:=Za (show Za2 (ru.u bs)=true by rw[HD.out,decide_eq_false h1];rfl)
  clear HD h1
  go_enter Tryz.func206,Tryz.ntmps206
  go_wp2;go_ret;exact⟨Zj HE.out.symm,Nx.rfl.alloc _⟩
def ZbV(u:U):Bool:=!u.host.isEmpty&&u.sch != Zo
def ZxN(l:List UInt8):List UInt8:=(l.reverse.dropWhile fun b=>(b.toNat:Int)==32).reverse
def Zmx(u:U):U:=if u.hq=true∨u.hf=true then u else { u with opath:=ZxN u.opath }
def Zvv(u:U):U:=Zmx { u with hq:=false,q:=[] }
def Zw9(u:U):U:=Zmx { u with hf:=false,fr:=[] }
def Zvw(u:U)(l:List UInt8):U:=if l=[]then Zw9 u else { u with hf:=true,fr:=Zyj l }
def Zpr(u:U)(k:Int)(l:List UInt8):U:=if ZbV u=false then u else if k=2 then { u with nam:=ZfF l }else { u with pw:=ZfF l }
def Zxa(sch l:List UInt8):List UInt8:=encB (tl (ZaO (Zbd sch))) (clean (noBreaks (Ztz 63 l)))
def ZqS(u:U)(l:List UInt8):U:=if l=[]then Zvv u else { u with hq:=true,q:=Zxa u.sch l }
def ZvZ(b:UInt8):Bool:=decide (48≤(b.toNat:Int)∧(b.toNat:Int)≤57)
def ZaF(u:U)(l:List UInt8):U:=if(Zas (l.takeWhile ZvZ)).2=false then u else Zal u (Zas (l.takeWhile ZvZ)).1
def ZbI(u:U)(l:List UInt8):U:=if ZbV u=false then u else if l=[]then { u with hp:=false,port:=0 }else ZaF u (noBreaks l)
def Zvx(sp:Bool)(l:List UInt8):List UInt8:=match l with | []=>[]|c::r=>if slB sp c=true then r else c::r
def Zvy(u:U)(l:List UInt8):U:=
 if u.op=true then u else if noBreaks l=[]∧Zb u.sch=false∧u.hh=true then { u with segs:=[] }else { u with segs:=ZbY (Zvx (Zb u.sch) (noBreaks l)) u.sch }
def Zx(u:U)(s:List UInt8):Bool:=(Zb u.sch==Zb s) && !(s==Zo&&(Za2 u||u.hp))&&(u.sch != Zo || !u.host.isEmpty)
def Za7(u:U)(l:List UInt8):U:=
 if(ZW (noBreaks l++[58])).2.2=false∨Zx u (ZW (noBreaks l++[58])).1=false then u
 else if u.hp=true then Zal { u with sch:=(ZW (noBreaks l++[58])).1 } u.port else { u with sch:=(ZW (noBreaks l++[58])).1 }
def ZL(sp:Bool)(l:List UInt8):List UInt8:=(bcut (isB 35) (bcut (isB 63) (bcut (slB sp) (noBreaks l)).1).1).1
def Z6(u:U)(l:List UInt8)(ported:Bool):List UInt8×List UInt8×Int:=
 if u.sch=Zo then((Zz (ZL (Zb u.sch) l)).1,[],(Zz (ZL (Zb u.sch) l)).2)
 else if(Zr (ZL (Zb u.sch) l)).2.2=true∧ported=false then([],[],2)
 else if(Zr (ZL (Zb u.sch) l)).1=[]∧((Zr (ZL (Zb u.sch) l)).2.2=true∨Zb u.sch=true∨Za2 u=true∨u.hp=true)then([],[],2)
 else if(ZO (Zr (ZL (Zb u.sch) l)).1 (Zb u.sch)).2≠0 then([],[],(ZO (Zr (ZL (Zb u.sch) l)).1 (Zb u.sch)).2)
 else((ZO (Zr (ZL (Zb u.sch) l)).1 (Zb u.sch)).1,(Zr (ZL (Zb u.sch) l)).2.1,0)
def ZaW(u:U)(l:List UInt8)(ported:Bool):U×Int:=
 if u.op=true then(u,0)else if(Z6 u l ported).2.2=2 then(u,0)else if(Z6 u l ported).2.2≠0 then(zeroU,(Z6 u l ported).2.2)
 else(ZaF { u with hh:=true,host:=(Z6 u l ported).1 } (Z6 u l ported).2.1,0)
def ZqT(e:Ending)(w w':World)(x:U):Prop:=∃(r:Rc) (ds:List ByteArray),e=.returned (.agg #[.string r.sch,.string r.nam,.string r.pw,.bool r.hh,.string r.host,.bool r.hp,.int .i64 (r.port:Int),.bool r.op,.string r.opath,.slice r.so r.sn r.sc,.bool r.hq,.string r.q,.bool r.hf,.string r.fr])∧RcIs w' r x ds∧ds.length≤30002∧Nx w w'
def ZtA(u:U)(k:Int)(l:List UInt8):U:=
 if k=1 then Za7 u l else if k=2 then Zpr u 2 l else if k=3 then Zpr u 3 l else if k=6 then ZbI u l else if k=7 then Zvy u l else if k=8 then ZqS u l else Zvw u l
def Zk9(u:U)(k:Int)(l:List UInt8):U×Int:=
 if k=0 then ZbQ (clean l)else if k=4 then ZaW u (clean l) true else if k=5 then ZaW u (clean l) false else(ZtA u k (clean l),0)
theorem UrlB.ty{w:World}{b:Nat}{r:Rc}(h:UrlB w b r):TyB w b 56:=⟨_,_,h⟩
theorem UrlB.free{w:World}{b:Nat}{r:Rc}(h:UrlB w b r)(i:Nat):w.frozen? ⟨b,i,none⟩=false:=by
 unfold UrlB at h
 simp[World.frozen?,h]
theorem UrlB.put{w:World}{b:Nat}{q:Rc}(h:UrlB w b q)(r:Rc):UrlB ((((((((((((((w.setCell ⟨b,0,none⟩ (.string r.sch)).setCell ⟨b,1,none⟩ (.string r.nam)).setCell ⟨b,2,none⟩ (.string r.pw)).setCell ⟨b,3,none⟩ (.bool r.hh)).setCell ⟨b,4,none⟩ (.string r.host)).setCell ⟨b,5,none⟩ (.bool r.hp)).setCell ⟨b,6,none⟩ (.int .i64 (r.port:Int))).setCell ⟨b,7,none⟩ (.bool r.op)).setCell ⟨b,8,none⟩ (.string r.opath)).setCell ⟨b,9,none⟩ (.slice r.so r.sn r.sc)).setCell ⟨b,10,none⟩ (.bool r.hq)).setCell ⟨b,11,none⟩ (.string r.q)).setCell ⟨b,12,none⟩ (.bool r.hf)).setCell ⟨b,13,none⟩ (.string r.fr)) b r:=by
 unfold UrlB at *
 simp[World.setCell,Array.getElem?_modify,h]
theorem Zyk{b:Nat}{a w:World}(h:But b a w)(v0 v1 v2 v3 v4 v5 v6 v7 v8 v9 v10 v11 v12 v13:Value):But b a ((((((((((((((w.setCell ⟨b,0,none⟩ v0).setCell ⟨b,1,none⟩ v1).setCell ⟨b,2,none⟩ v2).setCell ⟨b,3,none⟩ v3).setCell ⟨b,4,none⟩ v4).setCell ⟨b,5,none⟩ v5).setCell ⟨b,6,none⟩ v6).setCell ⟨b,7,none⟩ v7).setCell ⟨b,8,none⟩ v8).setCell ⟨b,9,none⟩ v9).setCell ⟨b,10,none⟩ v10).setCell ⟨b,11,none⟩ v11).setCell ⟨b,12,none⟩ v12).setCell ⟨b,13,none⟩ v13):=
 (But.set (But.set (But.set (But.set (But.set (But.set (But.set (But.set (But.set (But.set (But.set (But.set (But.set (But.set h 0 _) 1 _) 2 _) 3 _) 4 _) 5 _) 6 _) 7 _) 8 _) 9 _) 10 _) 11 _) 12 _) 13 _)
end Go.Proofs.YtchkhibgbnhjpaaGreatDoor
