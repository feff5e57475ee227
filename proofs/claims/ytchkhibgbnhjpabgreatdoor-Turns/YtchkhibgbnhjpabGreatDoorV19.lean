import Derived.Test.YtchkhibgbnhjpabGreatDoorV18
open Array renaming getElem?_eq_some_iff→Xb
open Nat renaming le_refl→Xa
namespace Go.Proofs.YtchkhibgbnhjpabGreatDoor
open Go.RowKit
set_option maxHeartbeats 16000000
def ZbS(l:List UInt8)(based:Bool):U×Int:=if based=false then(zeroU,0)else if(ZbK l).2=2 then(zeroU,4)else ZbK l
theorem ZiV(s:BA)(based:Bool)(w:World)(hl:based=true→s.size≤9000)(ht:Tb w):Calls Tryz.prog 78 #[.string s,.bool based] w fun e w'=>Zfc e w' (ZbS (tl s) based) 30002∧Nx w w':=by
 have HTB:=Za ht;clear ht
 cases based
 ·have HE:=Za (show ZbS (tl s) false=(zeroU,0)from if_pos rfl)
  clear hl
  go_enter Tryz.func78,Tryz.ntmps78
  go_wp2
  exact Z9 (rb:=w.heap.size) Tryz.results78 rfl rfl (Zd5 w) rfl ⟨⟨rz,[],(by rw[HE.out];first|done|rfl),(by rw[HE.out];exact Zc6 _),by simp⟩,Nx.rfl.alloc _⟩
 ·have HD:=Za (show ZbS (tl s) true=if(ZbK (tl s)).2=2 then(zeroU,4)else ZbK (tl s)from if_neg (by decide))
  have hs:=hl rfl;clear hl
  go_enter Tryz.func78,Tryz.ntmps78
  go_wp2_with fail
  refine(ZiK s _ hs (HTB.out.on (Nx.rfl.alloc _))).mono ?_
  rintro e w1 ⟨⟨r,ds,rfl,hr,hdl⟩,hn⟩;have HR:=Za hr;have HZ:=Za ((Zd5 w).on hn);have HN:=Za (show Nx w w1 from(Nx.rfl.alloc _).then hn);clear hr hn;have hlz:w.heap.size<w1.heap.size:=(Xb.1 HZ.out).1;obtain⟨z0,z1,z2,z3,z4,z5,z6,z7,z8,z9,z10,z11,z12,z13⟩:=HZ.out.cells;have zf0:=HZ.out.free 0;have zf1:=HZ.out.free 1;have zf2:=HZ.out.free 2;have zf3:=HZ.out.free 3;have zf4:=HZ.out.free 4;have zf5:=HZ.out.free 5;have zf6:=HZ.out.free 6;have zf7:=HZ.out.free 7;have zf8:=HZ.out.free 8;have zf9:=HZ.out.free 9;have zf10:=HZ.out.free 10;have zf11:=HZ.out.free 11;have zf12:=HZ.out.free 12;have zf13:=HZ.out.free 13;generalize ZbK (tl s)=q at *;obtain⟨qu,err⟩:=q;simp only at HR HD
  by_cases he:err=2
  ·have HE:=Za (HD.out.trans (if_pos he))
   have he':(err==2)=true:=by rw[he];rfl
   clear HD he;go_wp2
   exact Z9 (rb:=w.heap.size) Tryz.results78 rfl rfl ((RecB.put HZ.out _ _ _ _ _ _ _ _ _ _ _ _ _ _).on (Nx.rfl.alloc _)) rfl ⟨⟨rz,[],(by rw[HE.out];first|done|rfl),(by rw[HE.out];exact Zc6 _),by simp⟩,Nx.alloc (Zd HN.out (Xa _) _ _ _ _ _ _ _ _ _ _ _ _ _ _) _⟩
  ·have HE:=Za (HD.out.trans (if_neg he))
   have he':(err==2)=false:=beq_eq_false_iff_ne.2 he;clear HD he;go_wp2
   exact Z9 (rb:=w.heap.size) Tryz.results78 rfl rfl ((RecB.put HZ.out _ _ _ _ _ _ _ _ _ _ _ _ _ _).on (Nx.rfl.alloc _)) rfl ⟨⟨r,ds,(by rw[HE.out];first|done|rfl),(by rw[HE.out];exact HR.out.ks (Ks.then (Zq HZ.out.ty (by decide) _ _ _ _ _ _ _ _ _ _ _ _ _ _) (Nx.ks (Nx.rfl.alloc _)))),hdl⟩,Nx.alloc (Zd HN.out (Xa _) _ _ _ _ _ _ _ _ _ _ _ _ _ _) _⟩
def UrlB(w:World)(b:Nat)(r:Rc):Prop:=w.heap[b]?=some (Obj.cells #[.string r.sch,.string r.nam,.string r.pw,.bool r.hh,.string r.host,.bool r.hp,.int .i64 (r.port:Int),.bool r.op,.string r.opath,.slice r.so r.sn r.sc,.bool r.hq,.string r.q,.bool r.hf,.string r.fr] 106 (0,0))
theorem UrlB.on{w w':World}{b:Nat}{r:Rc}(h:UrlB w b r)(hb:Nx w w'):UrlB w' b r:=(hb.block b (Xb.1 h).1).trans h
theorem Zfp(w:World)(r:Rc):UrlB (w.alloc (Obj.cells #[.string r.sch,.string r.nam,.string r.pw,.bool r.hh,.string r.host,.bool r.hp,.int .i64 (r.port:Int),.bool r.op,.string r.opath,.slice r.so r.sn r.sc,.bool r.hq,.string r.q,.bool r.hf,.string r.fr] 106)) w.heap.size r:=heap_alloc_new w _
theorem UrlB.cells{w:World}{b:Nat}{r:Rc}(h:UrlB w b r):w.cell? ⟨b,0,none⟩=some (.string r.sch)∧w.cell? ⟨b,1,none⟩=some (.string r.nam)∧w.cell? ⟨b,2,none⟩=some (.string r.pw)∧w.cell? ⟨b,3,none⟩=some (.bool r.hh)∧w.cell? ⟨b,4,none⟩=some (.string r.host)∧w.cell? ⟨b,5,none⟩=some (.bool r.hp)∧w.cell? ⟨b,6,none⟩=some (.int .i64 (r.port:Int))∧w.cell? ⟨b,7,none⟩=some (.bool r.op)∧w.cell? ⟨b,8,none⟩=some (.string r.opath)∧w.cell? ⟨b,9,none⟩=some (.slice r.so r.sn r.sc)∧w.cell? ⟨b,10,none⟩=some (.bool r.hq)∧w.cell? ⟨b,11,none⟩=some (.string r.q)∧w.cell? ⟨b,12,none⟩=some (.bool r.hf)∧w.cell? ⟨b,13,none⟩=some (.string r.fr):=by
 unfold UrlB at h
 refine⟨?_,?_,?_,?_,?_,?_,?_,?_,?_,?_,?_,?_,?_,?_⟩<;>simp[World.cell?,h]
def Zat(l base:List UInt8)(based:Bool):U×Int:=
 if 160<l.length∨(based=true∧160<base.length)then(zeroU,1)
 else if(ZbS base based).2≠0 then(zeroU,(ZbS base based).2)else ZD l (ZbS base based).1
def Zli(e:Ending)(w':World)(x:U×Int):Prop:=
 (x.2≠0∧e=.returned (.tuple #[.pointer none,.int .i64 x.2]))∨(x.2=0∧∃(pb:Nat) (r:Rc) (bs:List ByteArray),e=.returned (.tuple #[.pointer (some ⟨pb,0,none⟩),.int .i64 0])∧UrlB w' pb r∧RcIs w' r x.1 bs)
theorem ZeD(s base:BA)(based:Bool)(w:World)(hs:s.size≤maxLen)(hb:base.size≤maxLen)(ht:Tb w):Calls Tryz.prog 28 #[.string s,.string base,.bool based] w fun e w'=>Zli e w' (Zat (tl s) (tl base) based)∧Nx w w':=by
 have HTB:=Za ht;clear ht;unfold maxLen at hs hb
 have HD:=Za (show Zat (tl s) (tl base) based=if 160<s.size∨(based=true∧160<base.size)then(zeroU,1)
  else if(ZbS (tl base) based).2≠0 then(zeroU,(ZbS (tl base) based).2)else ZD (tl s) (ZbS (tl base) based).1 by rw[←tl_length s,←tl_length base];rfl)
 by_cases h1:160<s.size
 ·have HE:=Za (HD.out.trans (if_pos (Or.inl h1)))
  clear HD
  go_enter Tryz.func28,Tryz.ntmps28
  go_wp2;go_ret2
  exact⟨Or.inl ⟨by rw[HE.out];decide,by rw[HE.out];rfl⟩,Nx.rfl⟩
 by_cases h2:based=true∧160<base.size
 ·have HE:=Za (HD.out.trans (if_pos (Or.inr h2)))
  obtain⟨rfl,h3⟩:=h2;clear HD
  go_enter Tryz.func28,Tryz.ntmps28
  go_wp2;go_ret2
  exact⟨Or.inl ⟨by rw[HE.out];decide,by rw[HE.out];rfl⟩,Nx.rfl⟩
 have HD2:=Za (HD.out.trans (if_neg (by rintro(h|h);exact h1 h;exact h2 h)))
 clear HD
 have HBC:=Za (fun w1 (hn:Nx w w1)=>ZiV base based w1 (fun hb=>by have:¬160<base.size:=fun h=>h2 ⟨hb,h⟩;omega) (HTB.out.on hn))
 have two:based=false∨(based=true∧¬160<base.size):=by
  cases based
  ·exact Or.inl rfl
  ·exact Or.inr ⟨rfl,fun h=>h2 ⟨rfl,h⟩⟩
 clear h2;rcases two with rfl|⟨rfl,h3⟩
 ·go_enter Tryz.func28,Tryz.ntmps28
  go_wp2_with fail
  refine(HBC.out _ Nx.rfl).mono ?_
  rintro e w1 ⟨⟨r,ds,rfl,hr,hdl⟩,hn1⟩;have HR:=Za hr;have HN1:=Za hn1;clear hr hn1;generalize ZbS (tl base) false=q at *;obtain⟨qu,err⟩:=q;simp only at HR HD2
  by_cases he:err=0
  ·subst he
   have HE:=Za (HD2.out.trans (if_neg (by decide)))
   clear HD2;go_wp2_with fail
   refine(ZbJ s r qu ds _ (HR.out.on (Nx.rfl.alloc _)) (by omega) (by omega) (HTB.out.on (HN1.out.alloc _))).mono ?_
   rintro e w2 ⟨⟨r2,ds2,rfl,hr2,hdl2⟩,hn2⟩;have HR2:=Za hr2;have HN2:=Za ((HN1.out.alloc _).then hn2);clear hr2 hn2;generalize ZD (tl s) qu=q2 at *;obtain⟨qu2,err2⟩:=q2;simp only at HR2
   by_cases he2:err2=0
   ·subst he2
    go_wp2;go_ret2
    refine⟨Or.inr ⟨by rw[HE.out],w2.heap.size+1,r2,ds2,rfl,?_,by rw[HE.out];exact HR2.out.on ((Nx.rfl.alloc _).alloc _)⟩,(HN2.out.alloc _).alloc _⟩
    have h:=Zfp (w2.alloc (Obj.cells #[.string r2.sch,.string r2.nam,.string r2.pw,.bool r2.hh,.string r2.host,.bool r2.hp,.int .i64 (r2.port:Int),.bool r2.op,.string r2.opath,.slice r2.so r2.sn r2.sc,.bool r2.hq,.string r2.q,.bool r2.hf,.string r2.fr] 101)) r2
    rw[show(w2.alloc (Obj.cells #[.string r2.sch,.string r2.nam,.string r2.pw,.bool r2.hh,.string r2.host,.bool r2.hp,.int .i64 (r2.port:Int),.bool r2.op,.string r2.opath,.slice r2.so r2.sn r2.sc,.bool r2.hq,.string r2.q,.bool r2.hf,.string r2.fr] 101)).heap.size=w2.heap.size+1 by simp]at h
    exact h
   ·have he':(err2 != 0)=true:=Zd9 (beq_eq_false_iff_ne.2 he2)
    have HE2:=Za he2;clear he2;go_wp2;go_ret2
    exact⟨Or.inl ⟨by rw[HE.out];exact HE2.out,by rw[HE.out];rfl⟩,HN2.out.alloc _⟩
  ·have HE:=Za (HD2.out.trans (if_pos he))
   have he':(err != 0)=true:=Zd9 (beq_eq_false_iff_ne.2 he);have HE2:=Za he;clear HD2 he;go_wp2;go_ret2
   exact⟨Or.inl ⟨by rw[HE.out];exact HE2.out,by rw[HE.out];rfl⟩,HN1.out.alloc _⟩
 ·go_enter Tryz.func28,Tryz.ntmps28
  go_wp2_with fail
  refine(HBC.out _ Nx.rfl).mono ?_
  rintro e w1 ⟨⟨r,ds,rfl,hr,hdl⟩,hn1⟩;have HR:=Za hr;have HN1:=Za hn1;clear hr hn1;generalize ZbS (tl base) true=q at *;obtain⟨qu,err⟩:=q;simp only at HR HD2
  by_cases he:err=0
  ·subst he
   have HE:=Za (HD2.out.trans (if_neg (by decide)))
   clear HD2;go_wp2_with fail
   refine(ZbJ s r qu ds _ (HR.out.on (Nx.rfl.alloc _)) (by omega) (by omega) (HTB.out.on (HN1.out.alloc _))).mono ?_
   rintro e w2 ⟨⟨r2,ds2,rfl,hr2,hdl2⟩,hn2⟩;have HR2:=Za hr2;have HN2:=Za ((HN1.out.alloc _).then hn2);clear hr2 hn2;generalize ZD (tl s) qu=q2 at *;obtain⟨qu2,err2⟩:=q2;simp only at HR2
   by_cases he2:err2=0
   ·subst he2
    go_wp2;go_ret2
    refine⟨Or.inr ⟨by rw[HE.out],w2.heap.size+1,r2,ds2,rfl,?_,by rw[HE.out];exact HR2.out.on ((Nx.rfl.alloc _).alloc _)⟩,(HN2.out.alloc _).alloc _⟩
    have h:=Zfp (w2.alloc (Obj.cells #[.string r2.sch,.string r2.nam,.string r2.pw,.bool r2.hh,.string r2.host,.bool r2.hp,.int .i64 (r2.port:Int),.bool r2.op,.string r2.opath,.slice r2.so r2.sn r2.sc,.bool r2.hq,.string r2.q,.bool r2.hf,.string r2.fr] 101)) r2
    rw[show(w2.alloc (Obj.cells #[.string r2.sch,.string r2.nam,.string r2.pw,.bool r2.hh,.string r2.host,.bool r2.hp,.int .i64 (r2.port:Int),.bool r2.op,.string r2.opath,.slice r2.so r2.sn r2.sc,.bool r2.hq,.string r2.q,.bool r2.hf,.string r2.fr] 101)).heap.size=w2.heap.size+1 by simp]at h
    exact h
   ·have he':(err2 != 0)=true:=Zd9 (beq_eq_false_iff_ne.2 he2)
    have HE2:=Za he2;clear he2;go_wp2;go_ret2
    exact⟨Or.inl ⟨by rw[HE.out];exact HE2.out,by rw[HE.out];rfl⟩,HN2.out.alloc _⟩
  ·have HE:=Za (HD2.out.trans (if_pos he))
   have he':(err != 0)=true:=Zd9 (beq_eq_false_iff_ne.2 he);have HE2:=Za he;clear HD2 he;go_wp2;go_ret2
   exact⟨Or.inl ⟨by rw[HE.out];exact HE2.out,by rw[HE.out];rfl⟩,HN1.out.alloc _⟩
theorem Zj7(pb:Nat)(r:Rc)(u:U)(bs:LA)(w:World)(h0:UrlB w pb r)(h:RcIs w r u bs)(ht:Tb w):Calls Tryz.prog 53 #[.pointer (some ⟨pb,0,none⟩)] w fun e w'=>∃t:BA,e=.returned (.string t)∧tl t=Zdg u∧Nx w w':=by
 have HRC:=Za h;have HTB:=Za ht;obtain⟨a0,a1,a2,a3,a4,a5,a6,a7,a8,a9,a10,a11,a12,a13⟩:=h0.cells;clear h ht h0
 go_enter Tryz.func53,Tryz.ntmps53
 go_wp2_with fail
 refine(Zk5 r u bs _ HRC.out HTB.out).mono ?_
 rintro e w1 ⟨t,rfl,ht,hn⟩;have HT:=Za ht;have HN:=Za hn;clear ht hn a0 a1 a2 a3 a4 a5 a6 a7 a8 a9 a10 a11 a12 a13;go_wp2;go_ret;exact⟨t,rfl,HT.out,HN.out⟩
def Zo(u:U):List UInt8:=u.sch++[58,47,47]++Zl u
theorem Zau(r:Rc)(u:U)(bs:LA)(w:World)(h:RcIs w r u bs)(ht:Tb w):Calls Tryz.prog 145 #[.agg #[.string r.sch,.string r.nam,.string r.pw,.bool r.hh,.string r.host,.bool r.hp,.int .i64 (r.port:Int),.bool r.op,.string r.opath,.slice r.so r.sn r.sc,.bool r.hq,.string r.q,.bool r.hf,.string r.fr]] w fun e w'=>∃t:BA,e=.returned (.string t)∧tl t=Zo u∧t.size≤1000000∧Nx w w':=by
 have hs:=h.lsch
 have HE:=Za (show Zo u=tl r.sch++[58,47,47]++Zl u by rw[←h.eq];rfl)
 have HTB:=Za ht;have HRC:=Za h;have HB:=Za (ZaS w r)
 have HPT:=Za (fun w1 (hn:Nx w w1)=>Zde r u bs w1 (HRC.out.on hn) (HTB.out.on hn))
 clear h ht
 go_enter Tryz.func145,Tryz.ntmps145
 go_wp2
 go_region_with (go_at_call 84;refine(HPT.out _ ((Nx.rfl.alloc _).drew)).mono ?_;rintro e w1 ⟨x,rfl,hx,hxs,hn⟩;obtain⟨hc0,-⟩:=(RecB.on (RecB.on HB.out Nx.rfl.drew) hn).cells;have HX:=Za hx;have HN:=Za (show Nx w w1 from((Nx.rfl.alloc _).drew).then hn);clear hx hn)
 all_goals go_wp2
 all_goals go_ret
 all_goals exact⟨r.sch++(⟨#[58,47,47]⟩:BA)++x,rfl,by rw[HE.out,Zc,Zc,HX.out];rfl,by rw[Zm,Zm];show r.sch.size+3+x.size≤_;omega,HN.out⟩
def ZcX:List UInt8:=[110,117,108,108]
def Zbz(u:U):List UInt8:=
 if(ZbK (pathU u)).2≠0 then ZcX
 else if(ZbK (pathU u)).1.sch≠[104,116,116,112]∧(ZbK (pathU u)).1.sch≠[104,116,116,112,115]then ZcX else Zo (ZbK (pathU u)).1
theorem Zgz(r:Rc)(u:U)(bs:LA)(w:World)(h:RcIs w r u bs)(ht:Tb w)(hpl:(pathU u).length≤9000):Calls Tryz.prog 146 #[.agg #[.string r.sch,.string r.nam,.string r.pw,.bool r.hh,.string r.host,.bool r.hp,.int .i64 (r.port:Int),.bool r.op,.string r.opath,.slice r.so r.sn r.sc,.bool r.hq,.string r.q,.bool r.hf,.string r.fr]] w fun e w'=>∃t:BA,e=.returned (.string t)∧tl t=Zbz u∧t.size≤1000000∧Nx w w':=by
 have HTB:=Za ht;have HRC:=Za h;have HPL:=Za hpl
 have HD:=Za (show Zbz u=if(ZbK (pathU u)).2≠0 then ZcX else if(ZbK (pathU u)).1.sch≠[104,116,116,112]∧(ZbK (pathU u)).1.sch≠[104,116,116,112,115]then ZcX else Zo (ZbK (pathU u)).1 from rfl)
 clear h ht hpl
 go_enter Tryz.func146,Tryz.ntmps146
 go_wp2_with fail
 refine(Zdf r u bs _ (HRC.out.on (Nx.rfl.alloc _))).mono ?_
 rintro e w1 ⟨x,rfl,hx,hxs,hn⟩
 have hxl:x.size≤9000:=by rw[←tl_length,hx];exact HPL.out
 have HN:=Za (show Nx w w1 from(Nx.rfl.alloc _).then hn);rw[←hx]at HD;clear hx hn hxs HPL;go_wp2_with fail
 refine(ZiK x _ hxl (HTB.out.on HN.out)).mono ?_
 rintro e w2 ⟨⟨r2,ds,rfl,hr,hdl⟩,hn⟩;have HR:=Za hr;have HN2:=Za (show Nx w w2 from HN.out.then hn);clear hr hn HN;generalize ZbK (tl x)=q at *;obtain⟨qu,err⟩:=q;simp only at HR HD
 by_cases he:err=0
 ·subst he
  have HD2:=Za (HD.out.trans (if_neg (by decide)))
  clear HD
  have HS:=Za (show tl r2.sch=qu.sch from by rw[HR.out.usch])
  by_cases h1:tl r2.sch=[104,116,116,112]
  ·have HE:=Za (HD2.out.trans (if_neg (fun k=>k.1 (HS.out.symm.trans h1))))
   have h1':=eqB h1;clear HD2 h1;go_wp2_with fail
   refine(Zau r2 qu ds _ (HR.out.on (Nx.rfl.alloc _)) (HTB.out.on (HN2.out.alloc _))).mono ?_
   rintro e w3 ⟨t,rfl,ht,hts,hn⟩;have HT:=Za ht;have HN3:=Za (show Nx w w3 from(HN2.out.alloc _).then hn);clear ht hn;go_wp2;go_ret
   exact⟨t,rfl,by rw[HE.out,HT.out],hts,HN3.out⟩
  ·have h1':=neB h1
   by_cases h2:tl r2.sch=[104,116,116,112,115]
   ·have HE:=Za (HD2.out.trans (if_neg (fun k=>k.2 (HS.out.symm.trans h2))))
    have h2':=eqB h2;clear HD2 h1 h2;go_wp2_with fail
    refine(Zau r2 qu ds _ (HR.out.on (Nx.rfl.alloc _)) (HTB.out.on (HN2.out.alloc _))).mono ?_
    rintro e w3 ⟨t,rfl,ht,hts,hn⟩;have HT:=Za ht;have HN3:=Za (show Nx w w3 from(HN2.out.alloc _).then hn);clear ht hn;go_wp2;go_ret
    exact⟨t,rfl,by rw[HE.out,HT.out],hts,HN3.out⟩
   ·have HE:=Za (HD2.out.trans (if_pos ⟨fun k=>h1 (HS.out.trans k),fun k=>h2 (HS.out.trans k)⟩))
    have h2':=neB h2;clear HD2 h1 h2;go_wp2;go_ret
    exact⟨⟨#[110,117,108,108]⟩,rfl,HE.out.symm,by decide,HN2.out.alloc _⟩
 ·have HE:=Za (HD.out.trans (if_pos he))
  have he':(err != 0)=true:=Zd9 (beq_eq_false_iff_ne.2 he);clear HD he;go_wp2;go_ret
  exact⟨⟨#[110,117,108,108]⟩,rfl,HE.out.symm,by decide,HN2.out.alloc _⟩
def ZbA(s:List UInt8):Bool:=s == [104,116,116,112]||s == [104,116,116,112,115]||s == [119,115]||s == [119,115,115]||s == [102,116,112]
def ZZ(u:U):List UInt8:=if ZbA u.sch=true then Zo u else if u.sch=[98,108,111,98]then Zbz u else ZcX
theorem Zmr(r:Rc)(u:U)(bs:LA)(w:World)(h:RcIs w r u bs)(ht:Tb w)(hpl:u.sch=[98,108,111,98]→(pathU u).length≤9000):Calls Tryz.prog 82 #[.agg #[.string r.sch,.string r.nam,.string r.pw,.bool r.hh,.string r.host,.bool r.hp,.int .i64 (r.port:Int),.bool r.op,.string r.opath,.slice r.so r.sn r.sc,.bool r.hq,.string r.q,.bool r.hf,.string r.fr]] w fun e w'=>∃t:BA,e=.returned (.string t)∧tl t=ZZ u∧t.size≤1000000∧Nx w w':=by
 have HTB:=Za ht;have HRC:=Za h
 have HS:=Za (show tl r.sch=u.sch from by rw[h.usch])
 have HPL:=Za hpl;clear h ht hpl
 by_cases h0:tl r.sch=[104,116,116,112]
 ·have HE:=Za (show ZZ u=Zo u from if_pos (by unfold ZbA;rw[←HS.out,h0];decide))
  have h0':=eqB h0;clear HPL HS h0
  go_enter Tryz.func82,Tryz.ntmps82
  go_wp2_with fail
  refine(Zau r u bs _ (HRC.out.on (Nx.rfl.alloc _)) (HTB.out.on (Nx.rfl.alloc _))).mono ?_
  rintro e w1 ⟨t,rfl,ht,hts,hn⟩;have HT:=Za ht;have HN:=Za (show Nx w w1 from(Nx.rfl.alloc _).then hn);clear ht hn;go_wp2;go_ret
  exact⟨t,rfl,by rw[HE.out,HT.out],hts,HN.out⟩
 have h0':=neB h0
 by_cases h1:tl r.sch=[104,116,116,112,115]
 ·have HE:=Za (show ZZ u=Zo u from if_pos (by unfold ZbA;rw[←HS.out,h1];decide))
  have h1':=eqB h1;clear HPL HS h0 h1
  go_enter Tryz.func82,Tryz.ntmps82
  go_wp2_with fail
  refine(Zau r u bs _ (HRC.out.on (Nx.rfl.alloc _)) (HTB.out.on (Nx.rfl.alloc _))).mono ?_
  rintro e w1 ⟨t,rfl,ht,hts,hn⟩;have HT:=Za ht;have HN:=Za (show Nx w w1 from(Nx.rfl.alloc _).then hn);clear ht hn;go_wp2;go_ret
  exact⟨t,rfl,by rw[HE.out,HT.out],hts,HN.out⟩
 have h1':=neB h1
 by_cases h2:tl r.sch=[119,115]
 ·have HE:=Za (show ZZ u=Zo u from if_pos (by unfold ZbA;rw[←HS.out,h2];decide))
  have h2':=eqB h2;clear HPL HS h0 h1 h2
  go_enter Tryz.func82,Tryz.ntmps82
  go_wp2_with fail
  refine(Zau r u bs _ (HRC.out.on (Nx.rfl.alloc _)) (HTB.out.on (Nx.rfl.alloc _))).mono ?_
  rintro e w1 ⟨t,rfl,ht,hts,hn⟩;have HT:=Za ht;have HN:=Za (show Nx w w1 from(Nx.rfl.alloc _).then hn);clear ht hn;go_wp2;go_ret
  exact⟨t,rfl,by rw[HE.out,HT.out],hts,HN.out⟩
 have h2':=neB h2
 by_cases h3:tl r.sch=[119,115,115]
 ·have HE:=Za (show ZZ u=Zo u from if_pos (by unfold ZbA;rw[←HS.out,h3];decide))
  have h3':=eqB h3;clear HPL HS h0 h1 h2 h3
  go_enter Tryz.func82,Tryz.ntmps82
  go_wp2_with fail
  refine(Zau r u bs _ (HRC.out.on (Nx.rfl.alloc _)) (HTB.out.on (Nx.rfl.alloc _))).mono ?_
  rintro e w1 ⟨t,rfl,ht,hts,hn⟩;have HT:=Za ht;have HN:=Za (show Nx w w1 from(Nx.rfl.alloc _).then hn);clear ht hn;go_wp2;go_ret
  exact⟨t,rfl,by rw[HE.out,HT.out],hts,HN.out⟩
 have h3':=neB h3
 by_cases h4:tl r.sch=[102,116,112]
 ·have HE:=Za (show ZZ u=Zo u from if_pos (by unfold ZbA;rw[←HS.out,h4];decide))
  have h4':=eqB h4;clear HPL HS h0 h1 h2 h3 h4
  go_enter Tryz.func82,Tryz.ntmps82
  go_wp2_with fail
  refine(Zau r u bs _ (HRC.out.on (Nx.rfl.alloc _)) (HTB.out.on (Nx.rfl.alloc _))).mono ?_
  rintro e w1 ⟨t,rfl,ht,hts,hn⟩;have HT:=Za ht;have HN:=Za (show Nx w w1 from(Nx.rfl.alloc _).then hn);clear ht hn;go_wp2;go_ret
  exact⟨t,rfl,by rw[HE.out,HT.out],hts,HN.out⟩
 have h4':=neB h4
 have HNP:=Za (show ¬ZbA u.sch=true by unfold ZbA;rw[←HS.out];simp[h0,h1,h2,h3,h4])
 clear h0 h1 h2 h3 h4
 by_cases h5:tl r.sch=[98,108,111,98]
 ·have HE:=Za (show ZZ u=Zbz u from(if_neg HNP.out).trans (if_pos (HS.out.symm.trans h5)))
  have HL:=Za (HPL.out (HS.out.symm.trans h5));have h5':=eqB h5;clear HPL HS HNP h5
  go_enter Tryz.func82,Tryz.ntmps82
  go_wp2_with fail
  refine(Zgz r u bs _ (HRC.out.on (Nx.rfl.alloc _)) (HTB.out.on (Nx.rfl.alloc _)) HL.out).mono ?_
  rintro e w1 ⟨t,rfl,ht,hts,hn⟩;have HT:=Za ht;have HN:=Za (show Nx w w1 from(Nx.rfl.alloc _).then hn);clear ht hn;go_wp2;go_ret
  exact⟨t,rfl,by rw[HE.out,HT.out],hts,HN.out⟩
 have HE:=Za (show ZZ u=ZcX from(if_neg HNP.out).trans (if_neg (fun k=>h5 (HS.out.trans k))))
 have h5':=neB h5;clear HPL HS HNP h5
 go_enter Tryz.func82,Tryz.ntmps82
 go_wp2;go_ret
 exact⟨⟨#[110,117,108,108]⟩,rfl,HE.out.symm,by decide,Nx.rfl.alloc _⟩
def dropBl(l:List UInt8):List UInt8:=(l.reverse.dropWhile fun b=>(b.toNat:Int)==32).reverse
def Zbe(u:U):U:=if u.hq=true∨u.hf=true then u else { u with opath:=dropBl u.opath }
theorem Zms{l:LB}{c:UInt8}(h:(c.toNat:Int)=32):dropBl (l++[c])=dropBl l:=by
 unfold dropBl;rw[List.reverse_append]
 show(List.dropWhile _ (c::l.reverse)).reverse=_
 rw[List.dropWhile_cons_of_pos (by simpa using h)]
theorem Zkf{l:LB}{c:UInt8}(h:¬(c.toNat:Int)=32):dropBl (l++[c])=l++[c]:=by
 unfold dropBl;rw[List.reverse_append]
 show(List.dropWhile _ (c::l.reverse)).reverse=_
 rw[List.dropWhile_cons_of_neg (by simpa using h)]
 simp
theorem dropBl_nil:dropBl []=[]:=rfl
theorem Zi4(ru:Rc)(bs:LA)(w:World)(hl:ru.opath.size≤300000):Calls Tryz.prog 156 #[.agg #[.string ru.sch,.string ru.nam,.string ru.pw,.bool ru.hh,.string ru.host,.bool ru.hp,.int .i64 (ru.port:Int),.bool ru.op,.string ru.opath,.slice ru.so ru.sn ru.sc,.bool ru.hq,.string ru.q,.bool ru.hf,.string ru.fr]] w fun e w'=>∃r:Rc,e=.returned (.agg #[.string r.sch,.string r.nam,.string r.pw,.bool r.hh,.string r.host,.bool r.hp,.int .i64 (r.port:Int),.bool r.op,.string r.opath,.slice r.so r.sn r.sc,.bool r.hq,.string r.q,.bool r.hf,.string r.fr])∧(∃p:BA,r={ ru with opath:=p }∧p.size≤300000∧(r.u bs)=Zbe (ru.u bs))∧Nx w w':=by
 obtain⟨sch,nam,pw,hh,host,hp,port,op,opath,so,sn,sc,hq,q,hf,fr⟩:=ru;simp only at *
 cases hq
 ·cases hf
  ·go_enter Tryz.func156,Tryz.ntmps156
   go_upto_region 1 with fail;obtain⟨g1,g2,g3⟩:=Zcb (w:=w) (ru:=⟨sch,nam,pw,hh,host,hp,port,op,opath,so,sn,sc,false,q,false,fr⟩) Nx.rfl;have HUB:=Za g1;have HZ:=Za g2;have HN:=Za g3;clear g1 g2 g3;generalize ((w.alloc (Obj.cells #[.string sch,.string nam,.string pw,.bool hh,.string host,.bool hp,.int .i64 (port:Int),.bool op,.string opath,.slice so sn sc,.bool false,.string q,.bool false,.string fr] 101)).alloc (Obj.cells #[.string ⟨#[]⟩,.string ⟨#[]⟩,.string ⟨#[]⟩,.bool false,.string ⟨#[]⟩,.bool false,.int .i64 0,.bool false,.string ⟨#[]⟩,.slice none 0 0,.bool false,.string ⟨#[]⟩,.bool false,.string ⟨#[]⟩] 101))=w1 at *;obtain⟨a0,a1,a2,a3,a4,a5,a6,a7,a8,a9,a10,a11,a12,a13⟩:=HUB.out.cells;have af8:=HUB.out.free 8;obtain⟨z0,z1,z2,z3,z4,z5,z6,z7,z8,z9,z10,z11,z12,z13⟩:=HZ.out.cells;have zf0:=HZ.out.free 0;have zf1:=HZ.out.free 1;have zf2:=HZ.out.free 2;have zf3:=HZ.out.free 3;have zf4:=HZ.out.free 4;have zf5:=HZ.out.free 5;have zf6:=HZ.out.free 6;have zf7:=HZ.out.free 7;have zf8:=HZ.out.free 8;have zf9:=HZ.out.free 9;have zf10:=HZ.out.free 10;have zf11:=HZ.out.free 11;have zf12:=HZ.out.free 12;have zf13:=HZ.out.free 13;simp only at a0 a1 a2 a3 a4 a5 a6 a7 a8 a9 a10 a11 a12 a13;go_wp2
   go_loop [4] (fun i=>∃k:Nat,k≤opath.size∧i=.int .i64 k∧dropBl (tl opath)=dropBl ((tl opath).take k)) (fun i=>(intOf i).toNat)
   case atStart=>exact⟨opath.size,Xa _,rfl,by rw[Zah _ _ (Xa _)]⟩
   case round=>
    obtain⟨k,hk,rfl,hE⟩:=hrel;have HK:=Za hE;clear hE
    by_cases h0:0<k
    ·have hk1:k-1<opath.size:=by omega
     have HT:=Za (show(tl opath).take k=(tl opath).take (k-1)++[opath[k-1]'hk1]by
      have:=ZG opath (k-1) hk1
      rw[show k-1+1=k by omega]at this
      exact this)
     have hb1:=bb (opath[k-1]'hk1)
     cases hc:(((opath[k-1]'hk1).toNat:Int)==32)
     ·have HF:=Za (show tl (opath.extract 0 k)=dropBl (tl opath)by rw[HK.out,HT.out,Zkf (by simpa using hc),←HT.out,tl_extract];rfl)
      go_wp2;have hez:=ZdC opath 0 k
      exact Zc4 (rb:=w.heap.size+1) Tryz.results156 rfl (RecB.put (HZ.out.far (by omega) 8 _) _ _ _ _ _ _ _ _ _ _ _ _ _ _) rfl ⟨⟨sch,nam,pw,hh,host,hp,port,op,opath.extract 0 k,so,sn,sc,false,q,false,fr⟩,rfl,⟨_,rfl,by show(opath.extract 0 k).size≤_;omega,by show _=Zbe _;unfold Zbe;rw[if_neg (by rintro(x|x)<;>cases x)];show _=({ (Rc.u ⟨sch,nam,pw,hh,host,hp,port,op,opath,so,sn,sc,false,q,false,fr⟩ bs)with opath:=dropBl (tl opath) }:U);rw[←HF.out];rfl⟩,(Zd (Below.setCell HN.out (Xa _) _) (by omega) _ _ _ _ _ _ _ _ _ _ _ _ _ _)⟩
     ·have HN2:=Za (show dropBl (tl opath)=dropBl ((tl opath).take (k-1))by rw[HK.out,HT.out,Zms (by simpa using hc)])
      go_wp2
      go_round
      case rel=>exact⟨k-1,by omega,by rw[show((k-1:Nat):Int)=(k:Int)-1 by omega],HN2.out⟩
      case measure=>simp[intOf];omega
    ·have HF:=Za (show tl (opath.extract 0 k)=dropBl (tl opath)by
      have hk0:k=0:=by omega
      subst hk0;rw[HK.out,List.take_zero,dropBl_nil,tl_extract]
      rfl)
     go_wp2;have hez:=ZdC opath 0 k
     exact Zc4 (rb:=w.heap.size+1) Tryz.results156 rfl (RecB.put (HZ.out.far (by omega) 8 _) _ _ _ _ _ _ _ _ _ _ _ _ _ _) rfl ⟨⟨sch,nam,pw,hh,host,hp,port,op,opath.extract 0 k,so,sn,sc,false,q,false,fr⟩,rfl,⟨_,rfl,by show(opath.extract 0 k).size≤_;omega,by show _=Zbe _;unfold Zbe;rw[if_neg (by rintro(x|x)<;>cases x)];show _=({ (Rc.u ⟨sch,nam,pw,hh,host,hp,port,op,opath,so,sn,sc,false,q,false,fr⟩ bs)with opath:=dropBl (tl opath) }:U);rw[←HF.out];rfl⟩,(Zd (Below.setCell HN.out (Xa _) _) (by omega) _ _ _ _ _ _ _ _ _ _ _ _ _ _)⟩
  ·go_enter Tryz.func156,Tryz.ntmps156
   go_upto_region 1 with fail;obtain⟨g1,g2,g3⟩:=Zcb (w:=w) (ru:=⟨sch,nam,pw,hh,host,hp,port,op,opath,so,sn,sc,false,q,true,fr⟩) Nx.rfl;have HUB:=Za g1;have HZ:=Za g2;have HN:=Za g3;clear g1 g2 g3;generalize ((w.alloc (Obj.cells #[.string sch,.string nam,.string pw,.bool hh,.string host,.bool hp,.int .i64 (port:Int),.bool op,.string opath,.slice so sn sc,.bool false,.string q,.bool true,.string fr] 101)).alloc (Obj.cells #[.string ⟨#[]⟩,.string ⟨#[]⟩,.string ⟨#[]⟩,.bool false,.string ⟨#[]⟩,.bool false,.int .i64 0,.bool false,.string ⟨#[]⟩,.slice none 0 0,.bool false,.string ⟨#[]⟩,.bool false,.string ⟨#[]⟩] 101))=w1 at *;obtain⟨a0,a1,a2,a3,a4,a5,a6,a7,a8,a9,a10,a11,a12,a13⟩:=HUB.out.cells;have af8:=HUB.out.free 8;obtain⟨z0,z1,z2,z3,z4,z5,z6,z7,z8,z9,z10,z11,z12,z13⟩:=HZ.out.cells;have zf0:=HZ.out.free 0;have zf1:=HZ.out.free 1;have zf2:=HZ.out.free 2;have zf3:=HZ.out.free 3;have zf4:=HZ.out.free 4;have zf5:=HZ.out.free 5;have zf6:=HZ.out.free 6;have zf7:=HZ.out.free 7;have zf8:=HZ.out.free 8;have zf9:=HZ.out.free 9;have zf10:=HZ.out.free 10;have zf11:=HZ.out.free 11;have zf12:=HZ.out.free 12;have zf13:=HZ.out.free 13;simp only at a0 a1 a2 a3 a4 a5 a6 a7 a8 a9 a10 a11 a12 a13;go_wp2
   exact Zc4 (rb:=w.heap.size+1) Tryz.results156 rfl (RecB.put HZ.out _ _ _ _ _ _ _ _ _ _ _ _ _ _) rfl ⟨⟨sch,nam,pw,hh,host,hp,port,op,opath,so,sn,sc,false,q,true,fr⟩,rfl,⟨opath,rfl,hl,(if_pos (Or.inr rfl)).symm⟩,(Zd HN.out (by omega) _ _ _ _ _ _ _ _ _ _ _ _ _ _)⟩
 ·go_enter Tryz.func156,Tryz.ntmps156
  go_upto_region 1 with fail;obtain⟨g1,g2,g3⟩:=Zcb (w:=w) (ru:=⟨sch,nam,pw,hh,host,hp,port,op,opath,so,sn,sc,true,q,hf,fr⟩) Nx.rfl;have HUB:=Za g1;have HZ:=Za g2;have HN:=Za g3;clear g1 g2 g3;generalize ((w.alloc (Obj.cells #[.string sch,.string nam,.string pw,.bool hh,.string host,.bool hp,.int .i64 (port:Int),.bool op,.string opath,.slice so sn sc,.bool true,.string q,.bool hf,.string fr] 101)).alloc (Obj.cells #[.string ⟨#[]⟩,.string ⟨#[]⟩,.string ⟨#[]⟩,.bool false,.string ⟨#[]⟩,.bool false,.int .i64 0,.bool false,.string ⟨#[]⟩,.slice none 0 0,.bool false,.string ⟨#[]⟩,.bool false,.string ⟨#[]⟩] 101))=w1 at *;obtain⟨a0,a1,a2,a3,a4,a5,a6,a7,a8,a9,a10,a11,a12,a13⟩:=HUB.out.cells;have af8:=HUB.out.free 8;obtain⟨z0,z1,z2,z3,z4,z5,z6,z7,z8,z9,z10,z11,z12,z13⟩:=HZ.out.cells;have zf0:=HZ.out.free 0;have zf1:=HZ.out.free 1;have zf2:=HZ.out.free 2;have zf3:=HZ.out.free 3;have zf4:=HZ.out.free 4;have zf5:=HZ.out.free 5;have zf6:=HZ.out.free 6;have zf7:=HZ.out.free 7;have zf8:=HZ.out.free 8;have zf9:=HZ.out.free 9;have zf10:=HZ.out.free 10;have zf11:=HZ.out.free 11;have zf12:=HZ.out.free 12;have zf13:=HZ.out.free 13;simp only at a0 a1 a2 a3 a4 a5 a6 a7 a8 a9 a10 a11 a12 a13;go_wp2
  exact Zc4 (rb:=w.heap.size+1) Tryz.results156 rfl (RecB.put HZ.out _ _ _ _ _ _ _ _ _ _ _ _ _ _) rfl ⟨⟨sch,nam,pw,hh,host,hp,port,op,opath,so,sn,sc,true,q,hf,fr⟩,rfl,⟨opath,rfl,hl,(if_pos (Or.inl rfl)).symm⟩,(Zd HN.out (by omega) _ _ _ _ _ _ _ _ _ _ _ _ _ _)⟩
def ZbZ(u:U):U:=Zbe { u with hq:=false,q:=[] }
theorem Zkg(ru:Rc)(bs:LA)(w:World)(hl:ru.opath.size≤300000):Calls Tryz.prog 107 #[.agg #[.string ru.sch,.string ru.nam,.string ru.pw,.bool ru.hh,.string ru.host,.bool ru.hp,.int .i64 (ru.port:Int),.bool ru.op,.string ru.opath,.slice ru.so ru.sn ru.sc,.bool ru.hq,.string ru.q,.bool ru.hf,.string ru.fr]] w fun e w'=>∃r:Rc,e=.returned (.agg #[.string r.sch,.string r.nam,.string r.pw,.bool r.hh,.string r.host,.bool r.hp,.int .i64 (r.port:Int),.bool r.op,.string r.opath,.slice r.so r.sn r.sc,.bool r.hq,.string r.q,.bool r.hf,.string r.fr])∧(∃p:BA,r={ ru with hq:=false,q:=⟨#[]⟩,opath:=p }∧p.size≤300000∧(r.u bs)=ZbZ (ru.u bs))∧Nx w w':=by
 have HB:=Za (fun w'=>Zi4 { ru with hq:=false,q:=⟨#[]⟩ } bs w' hl)
 go_enter Tryz.func107,Tryz.ntmps107
 go_upto_region 1 with fail;obtain⟨g1,g2,g3⟩:=Zcb (w:=w) (ru:=ru) Nx.rfl;have HUB:=Za g1;have HZ:=Za g2;have HN:=Za g3;clear g1 g2 g3;generalize ((w.alloc (Obj.cells #[.string ru.sch,.string ru.nam,.string ru.pw,.bool ru.hh,.string ru.host,.bool ru.hp,.int .i64 (ru.port:Int),.bool ru.op,.string ru.opath,.slice ru.so ru.sn ru.sc,.bool ru.hq,.string ru.q,.bool ru.hf,.string ru.fr] 101)).alloc (Obj.cells #[.string ⟨#[]⟩,.string ⟨#[]⟩,.string ⟨#[]⟩,.bool false,.string ⟨#[]⟩,.bool false,.int .i64 0,.bool false,.string ⟨#[]⟩,.slice none 0 0,.bool false,.string ⟨#[]⟩,.bool false,.string ⟨#[]⟩] 101))=w1 at *;obtain⟨a0,a1,a2,a3,a4,a5,a6,a7,a8,a9,a10,a11,a12,a13⟩:=HUB.out.cells;have af10:=HUB.out.free 10;have af11:=HUB.out.free 11;go_wp2_with fail
 refine(HB.out _).mono ?_
 rintro e w2 ⟨r,rfl,⟨p,hp1,hp2,hp3⟩,hn2⟩;have HP1:=Za hp1;have HP3:=Za hp3
 have HZ2:=Za (RecB.on ((HZ.out.far (by omega) 10 _).far (by omega) 11 _) hn2)
 have HN2:=Za (show Nx w w2 from Nx.then (show Nx w _ from(Below.setCell (p:=⟨w.heap.size,11,none⟩) (Below.setCell (p:=⟨w.heap.size,10,none⟩) HN.out (Xa _) _) (Xa _) _)) hn2);clear hp1 hp3 hn2;clear a0 a1 a2 a3 a4 a5 a6 a7 a8 a9 a10 a11 a12 a13 af10 af11;obtain⟨z0,z1,z2,z3,z4,z5,z6,z7,z8,z9,z10,z11,z12,z13⟩:=HZ2.out.cells;have zf0:=HZ2.out.free 0;have zf1:=HZ2.out.free 1;have zf2:=HZ2.out.free 2;have zf3:=HZ2.out.free 3;have zf4:=HZ2.out.free 4;have zf5:=HZ2.out.free 5;have zf6:=HZ2.out.free 6;have zf7:=HZ2.out.free 7;have zf8:=HZ2.out.free 8;have zf9:=HZ2.out.free 9;have zf10:=HZ2.out.free 10;have zf11:=HZ2.out.free 11;have zf12:=HZ2.out.free 12;have zf13:=HZ2.out.free 13;go_wp2
 exact Zc4 (rb:=w.heap.size+1) Tryz.results107 rfl (RecB.put HZ2.out _ _ _ _ _ _ _ _ _ _ _ _ _ _) rfl ⟨r,rfl,⟨p,HP1.out,hp2,HP3.out⟩,(Zd HN2.out (by omega) _ _ _ _ _ _ _ _ _ _ _ _ _ _)⟩
theorem UrlB.ty{w:World}{b:Nat}{r:Rc}(h:UrlB w b r):TyB w b 106:=⟨_,_,h⟩
theorem UrlB.free{w:World}{b:Nat}{r:Rc}(h:UrlB w b r)(i:Nat):w.frozen? ⟨b,i,none⟩=false:=by
 unfold UrlB at h
 simp[World.frozen?,h]
theorem UrlB.put{w:World}{b:Nat}{q:Rc}(h:UrlB w b q)(r:Rc):UrlB ((((((((((((((w.setCell ⟨b,0,none⟩ (.string r.sch)).setCell ⟨b,1,none⟩ (.string r.nam)).setCell ⟨b,2,none⟩ (.string r.pw)).setCell ⟨b,3,none⟩ (.bool r.hh)).setCell ⟨b,4,none⟩ (.string r.host)).setCell ⟨b,5,none⟩ (.bool r.hp)).setCell ⟨b,6,none⟩ (.int .i64 (r.port:Int))).setCell ⟨b,7,none⟩ (.bool r.op)).setCell ⟨b,8,none⟩ (.string r.opath)).setCell ⟨b,9,none⟩ (.slice r.so r.sn r.sc)).setCell ⟨b,10,none⟩ (.bool r.hq)).setCell ⟨b,11,none⟩ (.string r.q)).setCell ⟨b,12,none⟩ (.bool r.hf)).setCell ⟨b,13,none⟩ (.string r.fr)) b r:=by
 unfold UrlB at *
 simp[World.setCell,Array.getElem?_modify,h]
theorem Zud{b:Nat}{a w:World}(h:But b a w)(v0 v1 v2 v3 v4 v5 v6 v7 v8 v9 v10 v11 v12 v13:Value):But b a ((((((((((((((w.setCell ⟨b,0,none⟩ v0).setCell ⟨b,1,none⟩ v1).setCell ⟨b,2,none⟩ v2).setCell ⟨b,3,none⟩ v3).setCell ⟨b,4,none⟩ v4).setCell ⟨b,5,none⟩ v5).setCell ⟨b,6,none⟩ v6).setCell ⟨b,7,none⟩ v7).setCell ⟨b,8,none⟩ v8).setCell ⟨b,9,none⟩ v9).setCell ⟨b,10,none⟩ v10).setCell ⟨b,11,none⟩ v11).setCell ⟨b,12,none⟩ v12).setCell ⟨b,13,none⟩ v13):=
 (But.set (But.set (But.set (But.set (But.set (But.set (But.set (But.set (But.set (But.set (But.set (But.set (But.set (But.set h 0 _) 1 _) 2 _) 3 _) 4 _) 5 _) 6 _) 7 _) 8 _) 9 _) 10 _) 11 _) 12 _) 13 _)
def ZE(n p:List UInt8):List UInt8:=if n=[]∧p=[]then []else if p=[]then n++[64]else n++([58]++p)++[64]
theorem Zaa{a b:BA}(h:tl a=tl b):(a.toList==b.toList)=true:=by rw[ByteArray.toList_eq,ByteArray.toList_eq];show(tl a==tl b)=true;rw[h];simp
theorem Zab{a b:BA}(h:¬tl a=tl b):(a.toList==b.toList)=false:=by rw[ByteArray.toList_eq,ByteArray.toList_eq];show(tl a==tl b)=false;exact beq_eq_false_iff_ne.2 h
theorem Zk{a:BA}(h:tl a=[]):a.toList.isEmpty=true:=Zf (by rw[←tl_length,h];rfl)
theorem ZF{a:BA}(h:¬tl a=[]):a.toList.isEmpty=false:=Ze fun e=>h (Zz e)
theorem ZsK{a:BA}(h:a.size=0):tl a=[]:=Zz h
theorem tlSl:tl (⟨#[47,47]⟩:BA)=[47,47]:=rfl
theorem tlDot:tl (⟨#[47,46]⟩:BA)=[47,46]:=rfl
theorem tlQ:tl (⟨#[63]⟩:BA)=[63]:=rfl
theorem tlF:tl (⟨#[35]⟩:BA)=[35]:=rfl
theorem Zdt(p who ho pa se ha:BA)(k:Nat)(hm:k%3=0)(hq:¬(k/3%2=1∧tl se=[]))(hf:¬(k/6=1∧tl ha=[])):tl (p++(⟨#[47,47]⟩:BA)++who++ho++pa++se++ha)=Zt (tl p) (tl who) (tl ho) (tl pa) (tl se) (tl ha) k:=by unfold Zt;rw[if_neg hq,if_neg hf,hm,if_pos rfl];simp[Zc,tlSl]
theorem ZhZ(p who ho pa se ha:BA)(k:Nat)(hm:k%3=0)(hq:¬(k/3%2=1∧tl se=[]))(hf:(k/6=1∧tl ha=[])):tl (p++(⟨#[47,47]⟩:BA)++who++ho++pa++se++ha++(⟨#[35]⟩:BA))=Zt (tl p) (tl who) (tl ho) (tl pa) (tl se) (tl ha) k:=by unfold Zt;rw[if_neg hq,if_pos hf,hm,if_pos rfl];simp[Zc,tlSl,tlF]
theorem Zh0(p who ho pa se ha:BA)(k:Nat)(hm:k%3=0)(hq:(k/3%2=1∧tl se=[]))(hf:¬(k/6=1∧tl ha=[])):tl (p++(⟨#[47,47]⟩:BA)++who++ho++pa++se++(⟨#[63]⟩:BA)++ha)=Zt (tl p) (tl who) (tl ho) (tl pa) (tl se) (tl ha) k:=by unfold Zt;rw[if_pos hq,if_neg hf,hm,if_pos rfl];simp[Zc,tlSl,tlQ]
theorem Zo5(p who ho pa se ha:BA)(k:Nat)(hm:k%3=0)(hq:(k/3%2=1∧tl se=[]))(hf:(k/6=1∧tl ha=[])):tl (p++(⟨#[47,47]⟩:BA)++who++ho++pa++se++(⟨#[63]⟩:BA)++ha++(⟨#[35]⟩:BA))=Zt (tl p) (tl who) (tl ho) (tl pa) (tl se) (tl ha) k:=by unfold Zt;rw[if_pos hq,if_pos hf,hm,if_pos rfl];simp[Zc,tlSl,tlQ,tlF]
theorem Zdu(p who ho pa se ha:BA)(k:Nat)(hm:k%3=1)(hq:¬(k/3%2=1∧tl se=[]))(hf:¬(k/6=1∧tl ha=[])):tl (p++(⟨#[47,46]⟩:BA)++pa++se++ha)=Zt (tl p) (tl who) (tl ho) (tl pa) (tl se) (tl ha) k:=by unfold Zt;rw[if_neg hq,if_neg hf,hm,if_neg (by decide),if_pos rfl];simp[Zc,tlDot]
theorem Zh1(p who ho pa se ha:BA)(k:Nat)(hm:k%3=1)(hq:¬(k/3%2=1∧tl se=[]))(hf:(k/6=1∧tl ha=[])):tl (p++(⟨#[47,46]⟩:BA)++pa++se++ha++(⟨#[35]⟩:BA))=Zt (tl p) (tl who) (tl ho) (tl pa) (tl se) (tl ha) k:=by unfold Zt;rw[if_neg hq,if_pos hf,hm,if_neg (by decide),if_pos rfl];simp[Zc,tlDot,tlF]
theorem Zh2(p who ho pa se ha:BA)(k:Nat)(hm:k%3=1)(hq:(k/3%2=1∧tl se=[]))(hf:¬(k/6=1∧tl ha=[])):tl (p++(⟨#[47,46]⟩:BA)++pa++se++(⟨#[63]⟩:BA)++ha)=Zt (tl p) (tl who) (tl ho) (tl pa) (tl se) (tl ha) k:=by unfold Zt;rw[if_pos hq,if_neg hf,hm,if_neg (by decide),if_pos rfl];simp[Zc,tlDot,tlQ]
theorem Zo6(p who ho pa se ha:BA)(k:Nat)(hm:k%3=1)(hq:(k/3%2=1∧tl se=[]))(hf:(k/6=1∧tl ha=[])):tl (p++(⟨#[47,46]⟩:BA)++pa++se++(⟨#[63]⟩:BA)++ha++(⟨#[35]⟩:BA))=Zt (tl p) (tl who) (tl ho) (tl pa) (tl se) (tl ha) k:=by unfold Zt;rw[if_pos hq,if_pos hf,hm,if_neg (by decide),if_pos rfl];simp[Zc,tlDot,tlQ,tlF]
theorem Zdv(p who ho pa se ha:BA)(k:Nat)(hm:k%3=2)(hq:¬(k/3%2=1∧tl se=[]))(hf:¬(k/6=1∧tl ha=[])):tl (p++pa++se++ha)=Zt (tl p) (tl who) (tl ho) (tl pa) (tl se) (tl ha) k:=by unfold Zt;rw[if_neg hq,if_neg hf,hm,if_neg (by decide),if_neg (by decide)];simp[Zc]
theorem Zh3(p who ho pa se ha:BA)(k:Nat)(hm:k%3=2)(hq:¬(k/3%2=1∧tl se=[]))(hf:(k/6=1∧tl ha=[])):tl (p++pa++se++ha++(⟨#[35]⟩:BA))=Zt (tl p) (tl who) (tl ho) (tl pa) (tl se) (tl ha) k:=by unfold Zt;rw[if_neg hq,if_pos hf,hm,if_neg (by decide),if_neg (by decide)];simp[Zc,tlF]
theorem Zh4(p who ho pa se ha:BA)(k:Nat)(hm:k%3=2)(hq:(k/3%2=1∧tl se=[]))(hf:¬(k/6=1∧tl ha=[])):tl (p++pa++se++(⟨#[63]⟩:BA)++ha)=Zt (tl p) (tl who) (tl ho) (tl pa) (tl se) (tl ha) k:=by unfold Zt;rw[if_pos hq,if_neg hf,hm,if_neg (by decide),if_neg (by decide)];simp[Zc,tlQ]
theorem Zo7(p who ho pa se ha:BA)(k:Nat)(hm:k%3=2)(hq:(k/3%2=1∧tl se=[]))(hf:(k/6=1∧tl ha=[])):tl (p++pa++se++(⟨#[63]⟩:BA)++ha++(⟨#[35]⟩:BA))=Zt (tl p) (tl who) (tl ho) (tl pa) (tl se) (tl ha) k:=by unfold Zt;rw[if_pos hq,if_pos hf,hm,if_neg (by decide),if_neg (by decide)];simp[Zc,tlQ,tlF]
theorem Zj{P:Nat→Prop}{k:Nat}(h:∀j,j<k→P j)(hk:P k):∀j,j<k+1→P j:=fun j hj=>(Nat.lt_succ_iff_lt_or_eq.1 hj).elim (h j) (fun e=>e ▸ hk)
end Go.Proofs.YtchkhibgbnhjpabGreatDoor
