import Derived.Test.YtchkhibgbnhjpabGreatDoorB31
open Array renaming getElem?_eq_some_iff→Xa,getElem?_modify→Xb
open List renaming getElem?_cons_succ→Xc,set_cons_succ→Xd,length_cons→Xf
namespace Go.Proofs.YtchkhibgbnhjpabGreatDoor
open Go.RowKit
set_option maxHeartbeats 8000000
def Zc0(l:List UInt8)(based:Bool):U×Int:=if based=false then(zeroU,0)else if(ZbL l).2=2 then(zeroU,4)else ZbL l
theorem Zsy(s:BA)(based:Bool)(w:World)(hl:based=true→s.size≤9000)(ht:Tb w):Calls Tryz.prog 78 #[.string s,.bool based] w fun e w'=>Zfy e w' (Zc0 (tl s) based) 30002∧Nx w w':=by
 have HTB:=Za ht;clear ht
 cases based
 ·have HE:=Za (show Zc0 (tl s) false=(zeroU,0)from if_pos rfl)
  clear hl
  go_enter Tryz.func78,Tryz.ntmps78
  go_wp2
  exact Zac (rb:=w.heap.size) Tryz.results78 rfl rfl (ZfT w) rfl ⟨⟨rz,[],(by rw[HE.out];first|done|rfl),(by rw[HE.out];exact ZeC _),by simp⟩,Nx.rfl.alloc _⟩
 ·have HD:=Za (show Zc0 (tl s) true=if(ZbL (tl s)).2=2 then(zeroU,4)else ZbL (tl s)from if_neg (by decide))
  have hs:=hl rfl;clear hl
  go_enter Tryz.func78,Tryz.ntmps78
  go_wp2_with fail
  refine(Zlu s _ hs (HTB.out.on (Nx.rfl.alloc _))).mono ?_
  rintro e w1 ⟨⟨r,ds,rfl,hr,hdl⟩,hn⟩;have HR:=Za hr;have HZ:=Za ((ZfT w).on hn);have HN:=Za (show Nx w w1 from(Nx.rfl.alloc _).then hn);clear hr hn;have hlz:w.heap.size<w1.heap.size:=(Xa.1 HZ.out).1;obtain⟨z0,z1,z2,z3,z4,z5,z6,z7,z8,z9,z10,z11,z12,z13⟩:=HZ.out.cells;have zf0:=HZ.out.free 0;have zf1:=HZ.out.free 1;have zf2:=HZ.out.free 2;have zf3:=HZ.out.free 3;have zf4:=HZ.out.free 4;have zf5:=HZ.out.free 5;have zf6:=HZ.out.free 6;have zf7:=HZ.out.free 7;have zf8:=HZ.out.free 8;have zf9:=HZ.out.free 9;have zf10:=HZ.out.free 10;have zf11:=HZ.out.free 11;have zf12:=HZ.out.free 12;have zf13:=HZ.out.free 13;generalize ZbL (tl s)=q at *;obtain⟨qu,err⟩:=q;simp only at HR HD
  by_cases he:err=2
  ·have HE:=Za (HD.out.trans (if_pos he))
   have he':(err==2)=true:=by rw[he];rfl
   clear HD he;go_wp2
   exact Zac (rb:=w.heap.size) Tryz.results78 rfl rfl ((RecB.put HZ.out _ _ _ _ _ _ _ _ _ _ _ _ _ _).on (Nx.rfl.alloc _)) rfl ⟨⟨rz,[],(by rw[HE.out];first|done|rfl),(by rw[HE.out];exact ZeC _),by simp⟩,Nx.alloc (Zd HN.out (Nat.le_refl _) _ _ _ _ _ _ _ _ _ _ _ _ _ _) _⟩
  ·have HE:=Za (HD.out.trans (if_neg he))
   have he':(err==2)=false:=beq_eq_false_iff_ne.2 he;clear HD he;go_wp2
   exact Zac (rb:=w.heap.size) Tryz.results78 rfl rfl ((RecB.put HZ.out _ _ _ _ _ _ _ _ _ _ _ _ _ _).on (Nx.rfl.alloc _)) rfl ⟨⟨r,ds,(by rw[HE.out];first|done|rfl),(by rw[HE.out];exact HR.out.ks (Ks.then (Zm HZ.out.ty (by decide) _ _ _ _ _ _ _ _ _ _ _ _ _ _) (Nx.ks (Nx.rfl.alloc _)))),hdl⟩,Nx.alloc (Zd HN.out (Nat.le_refl _) _ _ _ _ _ _ _ _ _ _ _ _ _ _) _⟩
def UrlB(w:World)(b:Nat)(r:Rc):Prop:=w.heap[b]?=some (Obj.cells #[.string r.sch,.string r.nam,.string r.pw,.bool r.hh,.string r.host,.bool r.hp,.int .i64 (r.port:Int),.bool r.op,.string r.opath,.slice r.so r.sn r.sc,.bool r.hq,.string r.q,.bool r.hf,.string r.fr] 106 (0,0))
theorem UrlB.on{w w':World}{b:Nat}{r:Rc}(h:UrlB w b r)(hb:Nx w w'):UrlB w' b r:=(hb.block b (Xa.1 h).1).trans h
theorem ZoZ(w:World)(r:Rc):UrlB (w.alloc (Obj.cells #[.string r.sch,.string r.nam,.string r.pw,.bool r.hh,.string r.host,.bool r.hp,.int .i64 (r.port:Int),.bool r.op,.string r.opath,.slice r.so r.sn r.sc,.bool r.hq,.string r.q,.bool r.hf,.string r.fr] 106)) w.heap.size r:=heap_alloc_new w _
theorem UrlB.cells{w:World}{b:Nat}{r:Rc}(h:UrlB w b r):w.cell? ⟨b,0,none⟩=some (.string r.sch)∧w.cell? ⟨b,1,none⟩=some (.string r.nam)∧w.cell? ⟨b,2,none⟩=some (.string r.pw)∧w.cell? ⟨b,3,none⟩=some (.bool r.hh)∧w.cell? ⟨b,4,none⟩=some (.string r.host)∧w.cell? ⟨b,5,none⟩=some (.bool r.hp)∧w.cell? ⟨b,6,none⟩=some (.int .i64 (r.port:Int))∧w.cell? ⟨b,7,none⟩=some (.bool r.op)∧w.cell? ⟨b,8,none⟩=some (.string r.opath)∧w.cell? ⟨b,9,none⟩=some (.slice r.so r.sn r.sc)∧w.cell? ⟨b,10,none⟩=some (.bool r.hq)∧w.cell? ⟨b,11,none⟩=some (.string r.q)∧w.cell? ⟨b,12,none⟩=some (.bool r.hf)∧w.cell? ⟨b,13,none⟩=some (.string r.fr):=by
 unfold UrlB at h
 refine⟨?_,?_,?_,?_,?_,?_,?_,?_,?_,?_,?_,?_,?_,?_⟩<;>simp[World.cell?,h]
def Zci(l base:List UInt8)(based:Bool):U×Int:=
 if 160<l.length∨(based=true∧160<base.length)then(zeroU,1)
 else if(Zc0 base based).2≠0 then(zeroU,(Zc0 base based).2)else Zae l (Zc0 base based).1
theorem Znu(pb:Nat)(r:Rc)(u:U)(bs:LA)(w:World)(h0:UrlB w pb r)(h:RcIs w r u bs)(ht:Tb w):Calls Tryz.prog 53 #[.pointer (some ⟨pb,0,none⟩)] w fun e w'=>∃t:BA,e=.returned (.string t)∧tl t=Zm5 u∧Nx w w':=by
 have HRC:=Za h;have HTB:=Za ht;obtain⟨a0,a1,a2,a3,a4,a5,a6,a7,a8,a9,a10,a11,a12,a13⟩:=h0.cells;clear h ht h0
 go_enter Tryz.func53,Tryz.ntmps53
 go_wp2_with fail
 refine(Zot r u bs _ HRC.out HTB.out).mono ?_
 rintro e w1 ⟨t,rfl,ht,hn⟩;have HT:=Za ht;have HN:=Za hn;clear ht hn a0 a1 a2 a3 a4 a5 a6 a7 a8 a9 a10 a11 a12 a13;go_wp2;go_ret;exact⟨t,rfl,HT.out,HN.out⟩
def ZsR(c:UInt8):UInt8:=if c.toNat=43 then 32 else c
def ZwJ(l:List UInt8):List UInt8:=l.map ZsR
def Zo8(l:List UInt8):List UInt8:=clean (ZA (ZwJ l))
def PB(w:World)(b:Nat)(x y:Value):Prop:=w.heap[b]?=some (Obj.cells #[x,y] 113 (0,0))
theorem PB.on{w w':World}{b:Nat}{x y:Value}(h:PB w b x y)(hb:Nx w w'):PB w' b x y:=(hb.block b (Xa.1 h).1).trans h
theorem PB.s0{w:World}{b:Nat}{x y:Value}(h:PB w b x y)(u:Value):PB (w.setCell ⟨b,0,none⟩ u) b u y:=by
 unfold PB at *;simp only[World.setCell,Xb,if_pos,h]
 rfl
theorem PB.s1{w:World}{b:Nat}{x y:Value}(h:PB w b x y)(u:Value):PB (w.setCell ⟨b,1,none⟩ u) b x u:=by
 unfold PB at *;simp only[World.setCell,Xb,if_pos,h]
 rfl
theorem PB.far{w:World}{b q:Nat}{x y:Value}(h:PB w b x y)(hq:q≠b)(i:Nat)(u:Value):PB (w.setCell ⟨q,i,none⟩ u) b x y:=by unfold PB at *;simp only[World.setCell,Xb,if_neg hq,h]
def Zo9(l:List UInt8):List UInt8×List UInt8:=(Zo8 (bcut (isB 61) l).1,Zo8 (bcut (isB 61) l).2.1)
def Zxs(ps:List (List UInt8)):List (List UInt8):=ps.filter fun p=>!p.isEmpty
def ZsS(l:List UInt8):List (List UInt8):=Zxs (bsplit 38 l)
abbrev Pq:=ByteArray×ByteArray
def ZdE(ps:List Pq):List Value:=ps.flatMap fun p=>[Value.string p.1,Value.string p.2]
theorem ZgY(ps:List Pq):∀(k:Nat) (h:k<ps.length),(ZdE ps)[k*2]?=some (.string ps[k].1)∧(ZdE ps)[k*2+1]?=some (.string ps[k].2):=by
 induction ps with
 | nil=>intro k h;simp at h
 | cons p q ih=>
  intro k h
  cases k with
  | zero=>exact⟨rfl,rfl⟩
  | succ k=>
   have h':=ih k (by simp only[Xf]at h;omega)
   have e:(k+1)*2=k*2+1+1:=by omega
   rw[e]
   show(_::_::ZdE q)[k*2+1+1]?=_∧(_::_::ZdE q)[k*2+1+1+1]?=_
   rw[Xc,Xc,Xc,Xc];exact h'
theorem Zqm(ps:List Pq):∀(k:Nat) (n v:BA),k<ps.length→((ZdE ps).set (k*2) (.string n)).set (k*2+1) (.string v)=ZdE (ps.set k (n,v)):=by
 induction ps with
 | nil=>intro k n v h;simp at h
 | cons p q ih=>
  intro k n v h
  cases k with
  | zero=>rfl
  | succ k=>
   have h':=ih k n v (by simp only[Xf]at h;omega)
   have e:(k+1)*2=k*2+1+1:=by omega
   rw[e]
   show((_::_::ZdE q).set (k*2+1+1) _).set (k*2+1+1+1) _=_
   rw[Xd,Xd,Xd,Xd,h']
   rfl
def FullP(w:World)(nb:Nat)(ps:List Pq):Prop:=w.heap[nb]?=some (Obj.cells (ZdE ps).toArray 113 (0,0))
theorem FullP.on{w w':World}{nb:Nat}{ps:List Pq}(h:FullP w nb ps)(hb:Nx w w'):FullP w' nb ps:=(hb.block nb (Xa.1 h).1).trans h
theorem FullP.lt{w:World}{nb:Nat}{ps:List Pq}(h:FullP w nb ps):nb<w.heap.size:=(Xa.1 h).1
theorem FullP.cell{w:World}{nb:Nat}{ps:List Pq}(h:FullP w nb ps){k:Nat}(hk:k<ps.length):w.cell? ⟨nb,k*2,none⟩=some (.string ps[k].1)∧w.cell? ⟨nb,k*2+1,none⟩=some (.string ps[k].2):=by
 obtain⟨h1,h2⟩:=ZgY ps k hk;unfold FullP at h
 constructor<;>simp only[World.cell?,h]<;>simpa using by first|exact h1|exact h2
theorem FullP.free{w:World}{nb:Nat}{ps:List Pq}(h:FullP w nb ps)(i:Nat):w.frozen? ⟨nb,i,none⟩=false:=by
 unfold FullP at h
 simp[World.frozen?,h]
theorem FullP.set{w:World}{nb:Nat}{ps:List Pq}(h:FullP w nb ps){k:Nat}(hk:k<ps.length)(n v:BA):FullP ((w.setCell ⟨nb,k*2,none⟩ (.string n)).setCell ⟨nb,k*2+1,none⟩ (.string v)) nb (ps.set k (n,v)):=by
 unfold FullP at *
 have h1:(w.setCell ⟨nb,k*2,none⟩ (.string n)).heap[nb]?=some (Obj.cells ((ZdE ps).set (k*2) (.string n)).toArray 113 (0,0)):=by
  simp only[World.setCell,Xb,if_pos,h]
  simp
 rw[←Zqm ps k n v hk];generalize w.setCell ⟨nb,k*2,none⟩ (.string n)=w1 at *;simp only[World.setCell,Xb,if_pos,h1]
 simp
theorem Zu0:(Tryz.prog.info? 113).map (fun i=>(i.zero,i.size,i.bytes))=some (some (.agg #[.string ByteArray.empty,.string ByteArray.empty]),2,32):=by kernel_rfl
def Zba(l:List UInt8):List (List UInt8×List UInt8):=(ZsS l).map Zo9
def tl2(p:Pq):List UInt8×List UInt8:=(tl p.1,tl p.2)
def PrsIs(w:World)(base:Nat)(v:Value)(ps:List Pq):Prop:=(ps=[]∧v=.slice none 0 0)∨(0<ps.length∧∃nb,base≤nb∧v=.slice (some ⟨nb,0,none⟩) ps.length ps.length∧FullP w nb ps)
def Zaa(u:U):List UInt8:=u.sch++[58,47,47]++ZbJ u
theorem ZaH(r:Rc)(u:U)(bs:LA)(w:World)(h:RcIs w r u bs)(ht:Tb w):Calls Tryz.prog 145 #[.agg #[.string r.sch,.string r.nam,.string r.pw,.bool r.hh,.string r.host,.bool r.hp,.int .i64 (r.port:Int),.bool r.op,.string r.opath,.slice r.so r.sn r.sc,.bool r.hq,.string r.q,.bool r.hf,.string r.fr]] w fun e w'=>∃t:BA,e=.returned (.string t)∧tl t=Zaa u∧t.size≤1000000∧Nx w w':=by
 have hs:=h.lsch
 have HE:=Za (show Zaa u=tl r.sch++[58,47,47]++ZbJ u by rw[←h.eq];rfl)
 have HTB:=Za ht;have HRC:=Za h;have HB:=Za (Za5 w r)
 have HPT:=Za (fun w1 (hn:Nx w w1)=>ZeP r u bs w1 (HRC.out.on hn) (HTB.out.on hn))
 clear h ht
 go_enter Tryz.func145,Tryz.ntmps145
 go_wp2
 go_region_with (go_at_call 84;refine(HPT.out _ ((Nx.rfl.alloc _).drew)).mono ?_;rintro e w1 ⟨x,rfl,hx,hxs,hn⟩;obtain⟨hc0,-⟩:=(RecB.on (RecB.on HB.out Nx.rfl.drew) hn).cells;have HX:=Za hx;have HN:=Za (show Nx w w1 from((Nx.rfl.alloc _).drew).then hn);clear hx hn)
 all_goals go_wp2
 all_goals go_ret
 all_goals exact⟨r.sch++(⟨#[58,47,47]⟩:BA)++x,rfl,by rw[HE.out,Zg,Zg,HX.out];rfl,by rw[Zi,Zi];show r.sch.size+3+x.size≤_;omega,HN.out⟩
def Zqp:List UInt8:=[110,117,108,108]
def Zdo(u:U):List UInt8:=
 if(ZbL (ZaY u)).2≠0 then Zqp
 else if(ZbL (ZaY u)).1.sch≠[104,116,116,112]∧(ZbL (ZaY u)).1.sch≠[104,116,116,112,115]then Zqp else Zaa (ZbL (ZaY u)).1
theorem Zi2(r:Rc)(u:U)(bs:LA)(w:World)(h:RcIs w r u bs)(ht:Tb w)(hpl:(ZaY u).length≤9000):Calls Tryz.prog 146 #[.agg #[.string r.sch,.string r.nam,.string r.pw,.bool r.hh,.string r.host,.bool r.hp,.int .i64 (r.port:Int),.bool r.op,.string r.opath,.slice r.so r.sn r.sc,.bool r.hq,.string r.q,.bool r.hf,.string r.fr]] w fun e w'=>∃t:BA,e=.returned (.string t)∧tl t=Zdo u∧t.size≤1000000∧Nx w w':=by
 have HTB:=Za ht;have HRC:=Za h;have HPL:=Za hpl
 have HD:=Za (show Zdo u=if(ZbL (ZaY u)).2≠0 then Zqp else if(ZbL (ZaY u)).1.sch≠[104,116,116,112]∧(ZbL (ZaY u)).1.sch≠[104,116,116,112,115]then Zqp else Zaa (ZbL (ZaY u)).1 from rfl)
 clear h ht hpl
 go_enter Tryz.func146,Tryz.ntmps146
 go_wp2_with fail
 refine(ZeQ r u bs _ (HRC.out.on (Nx.rfl.alloc _))).mono ?_
 rintro e w1 ⟨x,rfl,hx,hxs,hn⟩
 have hxl:x.size≤9000:=by rw[←tl_length,hx];exact HPL.out
 have HN:=Za (show Nx w w1 from(Nx.rfl.alloc _).then hn);rw[←hx]at HD;clear hx hn hxs HPL;go_wp2_with fail
 refine(Zlu x _ hxl (HTB.out.on HN.out)).mono ?_
 rintro e w2 ⟨⟨r2,ds,rfl,hr,hdl⟩,hn⟩;have HR:=Za hr;have HN2:=Za (show Nx w w2 from HN.out.then hn);clear hr hn HN;generalize ZbL (tl x)=q at *;obtain⟨qu,err⟩:=q;simp only at HR HD
 by_cases he:err=0
 ·subst he
  have HD2:=Za (HD.out.trans (if_neg (by decide)))
  clear HD
  have HS:=Za (show tl r2.sch=qu.sch from by rw[HR.out.usch])
  by_cases h1:tl r2.sch=[104,116,116,112]
  ·have HE:=Za (HD2.out.trans (if_neg (fun k=>k.1 (HS.out.symm.trans h1))))
   have h1':=eqB h1;clear HD2 h1;go_wp2_with fail
   refine(ZaH r2 qu ds _ (HR.out.on (Nx.rfl.alloc _)) (HTB.out.on (HN2.out.alloc _))).mono ?_
   rintro e w3 ⟨t,rfl,ht,hts,hn⟩;have HT:=Za ht;have HN3:=Za (show Nx w w3 from(HN2.out.alloc _).then hn);clear ht hn;go_wp2;go_ret
   exact⟨t,rfl,by rw[HE.out,HT.out],hts,HN3.out⟩
  ·have h1':=neB h1
   by_cases h2:tl r2.sch=[104,116,116,112,115]
   ·have HE:=Za (HD2.out.trans (if_neg (fun k=>k.2 (HS.out.symm.trans h2))))
    have h2':=eqB h2;clear HD2 h1 h2;go_wp2_with fail
    refine(ZaH r2 qu ds _ (HR.out.on (Nx.rfl.alloc _)) (HTB.out.on (HN2.out.alloc _))).mono ?_
    rintro e w3 ⟨t,rfl,ht,hts,hn⟩;have HT:=Za ht;have HN3:=Za (show Nx w w3 from(HN2.out.alloc _).then hn);clear ht hn;go_wp2;go_ret
    exact⟨t,rfl,by rw[HE.out,HT.out],hts,HN3.out⟩
   ·have HE:=Za (HD2.out.trans (if_pos ⟨fun k=>h1 (HS.out.trans k),fun k=>h2 (HS.out.trans k)⟩))
    have h2':=neB h2;clear HD2 h1 h2;go_wp2;go_ret
    exact⟨⟨#[110,117,108,108]⟩,rfl,HE.out.symm,by decide,HN2.out.alloc _⟩
 ·have HE:=Za (HD.out.trans (if_pos he))
  have he':(err != 0)=true:=ZhB (beq_eq_false_iff_ne.2 he);clear HD he;go_wp2;go_ret
  exact⟨⟨#[110,117,108,108]⟩,rfl,HE.out.symm,by decide,HN2.out.alloc _⟩
def Zdp(s:List UInt8):Bool:=s == [104,116,116,112]||s == [104,116,116,112,115]||s == [119,115]||s == [119,115,115]||s == [102,116,112]
def Zcq(u:U):List UInt8:=if Zdp u.sch=true then Zaa u else if u.sch=[98,108,111,98]then Zdo u else Zqp
theorem ZjO(r:Rc)(u:U)(bs:LA)(w:World)(h:RcIs w r u bs)(ht:Tb w)(hpl:u.sch=[98,108,111,98]→(ZaY u).length≤9000):Calls Tryz.prog 82 #[.agg #[.string r.sch,.string r.nam,.string r.pw,.bool r.hh,.string r.host,.bool r.hp,.int .i64 (r.port:Int),.bool r.op,.string r.opath,.slice r.so r.sn r.sc,.bool r.hq,.string r.q,.bool r.hf,.string r.fr]] w fun e w'=>∃t:BA,e=.returned (.string t)∧tl t=Zcq u∧t.size≤1000000∧Nx w w':=by
 have HTB:=Za ht;have HRC:=Za h
 have HS:=Za (show tl r.sch=u.sch from by rw[h.usch])
 have HPL:=Za hpl;clear h ht hpl
 by_cases h0:tl r.sch=[104,116,116,112]
 ·have HE:=Za (show Zcq u=Zaa u from if_pos (by unfold Zdp;rw[←HS.out,h0];decide))
  have h0':=eqB h0;clear HPL HS h0
  go_enter Tryz.func82,Tryz.ntmps82
  go_wp2_with fail
  refine(ZaH r u bs _ (HRC.out.on (Nx.rfl.alloc _)) (HTB.out.on (Nx.rfl.alloc _))).mono ?_
  rintro e w1 ⟨t,rfl,ht,hts,hn⟩;have HT:=Za ht;have HN:=Za (show Nx w w1 from(Nx.rfl.alloc _).then hn);clear ht hn;go_wp2;go_ret
  exact⟨t,rfl,by rw[HE.out,HT.out],hts,HN.out⟩
 have h0':=neB h0
 by_cases h1:tl r.sch=[104,116,116,112,115]
 ·have HE:=Za (show Zcq u=Zaa u from if_pos (by unfold Zdp;rw[←HS.out,h1];decide))
  have h1':=eqB h1;clear HPL HS h0 h1
  go_enter Tryz.func82,Tryz.ntmps82
  go_wp2_with fail
  refine(ZaH r u bs _ (HRC.out.on (Nx.rfl.alloc _)) (HTB.out.on (Nx.rfl.alloc _))).mono ?_
  rintro e w1 ⟨t,rfl,ht,hts,hn⟩;have HT:=Za ht;have HN:=Za (show Nx w w1 from(Nx.rfl.alloc _).then hn);clear ht hn;go_wp2;go_ret
  exact⟨t,rfl,by rw[HE.out,HT.out],hts,HN.out⟩
 have h1':=neB h1
 by_cases h2:tl r.sch=[119,115]
 ·have HE:=Za (show Zcq u=Zaa u from if_pos (by unfold Zdp;rw[←HS.out,h2];decide))
  have h2':=eqB h2;clear HPL HS h0 h1 h2
  go_enter Tryz.func82,Tryz.ntmps82
  go_wp2_with fail
  refine(ZaH r u bs _ (HRC.out.on (Nx.rfl.alloc _)) (HTB.out.on (Nx.rfl.alloc _))).mono ?_
  rintro e w1 ⟨t,rfl,ht,hts,hn⟩;have HT:=Za ht;have HN:=Za (show Nx w w1 from(Nx.rfl.alloc _).then hn);clear ht hn;go_wp2;go_ret
  exact⟨t,rfl,by rw[HE.out,HT.out],hts,HN.out⟩
 have h2':=neB h2
 by_cases h3:tl r.sch=[119,115,115]
 ·have HE:=Za (show Zcq u=Zaa u from if_pos (by unfold Zdp;rw[←HS.out,h3];decide))
  have h3':=eqB h3;clear HPL HS h0 h1 h2 h3
  go_enter Tryz.func82,Tryz.ntmps82
  go_wp2_with fail
  refine(ZaH r u bs _ (HRC.out.on (Nx.rfl.alloc _)) (HTB.out.on (Nx.rfl.alloc _))).mono ?_
  rintro e w1 ⟨t,rfl,ht,hts,hn⟩;have HT:=Za ht;have HN:=Za (show Nx w w1 from(Nx.rfl.alloc _).then hn);clear ht hn;go_wp2;go_ret
  exact⟨t,rfl,by rw[HE.out,HT.out],hts,HN.out⟩
 have h3':=neB h3
 by_cases h4:tl r.sch=[102,116,112]
 ·have HE:=Za (show Zcq u=Zaa u from if_pos (by unfold Zdp;rw[←HS.out,h4];decide))
  have h4':=eqB h4;clear HPL HS h0 h1 h2 h3 h4
  go_enter Tryz.func82,Tryz.ntmps82
  go_wp2_with fail
  refine(ZaH r u bs _ (HRC.out.on (Nx.rfl.alloc _)) (HTB.out.on (Nx.rfl.alloc _))).mono ?_
  rintro e w1 ⟨t,rfl,ht,hts,hn⟩;have HT:=Za ht;have HN:=Za (show Nx w w1 from(Nx.rfl.alloc _).then hn);clear ht hn;go_wp2;go_ret
  exact⟨t,rfl,by rw[HE.out,HT.out],hts,HN.out⟩
 have h4':=neB h4
 have HNP:=Za (show ¬Zdp u.sch=true by unfold Zdp;rw[←HS.out];simp[h0,h1,h2,h3,h4])
 clear h0 h1 h2 h3 h4
 by_cases h5:tl r.sch=[98,108,111,98]
 ·have HE:=Za (show Zcq u=Zdo u from(if_neg HNP.out).trans (if_pos (HS.out.symm.trans h5)))
  have HL:=Za (HPL.out (HS.out.symm.trans h5));have h5':=eqB h5;clear HPL HS HNP h5
  go_enter Tryz.func82,Tryz.ntmps82
  go_wp2_with fail
  refine(Zi2 r u bs _ (HRC.out.on (Nx.rfl.alloc _)) (HTB.out.on (Nx.rfl.alloc _)) HL.out).mono ?_
  rintro e w1 ⟨t,rfl,ht,hts,hn⟩;have HT:=Za ht;have HN:=Za (show Nx w w1 from(Nx.rfl.alloc _).then hn);clear ht hn;go_wp2;go_ret
  exact⟨t,rfl,by rw[HE.out,HT.out],hts,HN.out⟩
 have HE:=Za (show Zcq u=Zqp from(if_neg HNP.out).trans (if_neg (fun k=>h5 (HS.out.trans k))))
 have h5':=neB h5;clear HPL HS HNP h5
 go_enter Tryz.func82,Tryz.ntmps82
 go_wp2;go_ret
 exact⟨⟨#[110,117,108,108]⟩,rfl,HE.out.symm,by decide,Nx.rfl.alloc _⟩
def RowP(w:World)(b off:Nat)(ps:List Pq):Prop:=∃(cs:Array Value) (fz:Nat×Nat),w.heap[b]?=some (Obj.cells cs 113 fz)∧∀i,(h:i<ps.length)→cs[off+i*2]?=some (.string ps[i].1)∧cs[off+i*2+1]?=some (.string ps[i].2)
def PlAt(w:World)(v:Value)(ps:List Pq):Prop:=∃ao cap,v=.slice ao ps.length cap∧ps.length≤cap∧cap≤maxLen∧(ao=none→ps=[]∧cap=0)∧∀a,ao=some a→∃b off,a=⟨b,off,none⟩∧RowP w b off ps
theorem RowP.cell{w:World}{b off:Nat}{ps:List Pq}(h:RowP w b off ps){i:Nat}(hi:i<ps.length):w.cell? ⟨b,off+i*2,none⟩=some (.string ps[i].1)∧w.cell? ⟨b,off+i*2+1,none⟩=some (.string ps[i].2):=by
 obtain⟨cs,fz,hh,hc⟩:=h;obtain⟨h1,h2⟩:=hc i hi
 constructor<;>simp only[World.cell?,hh]
 ·exact h1
 ·exact h2
theorem RowP.on{w w':World}{b off:Nat}{ps:List Pq}(h:RowP w b off ps)(hb:Nx w w'):RowP w' b off ps:=by obtain⟨cs,fz,hh,hc⟩:=h;exact⟨cs,fz,(hb.block b (Xa.1 hh).1).trans hh,hc⟩
theorem FullP.row{w:World}{nb:Nat}{ps:List Pq}(h:FullP w nb ps):RowP w nb 0 ps:=⟨_,_,h,fun i hi=>by rw[Nat.zero_add];simpa using ZgY ps i hi⟩
theorem PlAt.on{w w':World}{v:Value}{ps:List Pq}(h:PlAt w v ps)(hb:Nx w w'):PlAt w' v ps:=by
 obtain⟨ao,cap,rfl,hlc,hcap,hnone,hsome⟩:=h
 refine⟨ao,cap,rfl,hlc,hcap,hnone,fun a ha=>?_⟩
 obtain⟨b,off,rfl,hr⟩:=hsome a ha;exact⟨b,off,rfl,hr.on hb⟩
theorem PlAt.nil(w:World):PlAt w (.slice none 0 0) []:=⟨none,0,rfl,by simp,Nat.zero_le _,fun _=>⟨rfl,rfl⟩,nofun⟩
theorem PrsIs.on{w w':World}{base:Nat}{v:Value}{ps:List Pq}(h:PrsIs w base v ps)(hb:Nx w w'):PrsIs w' base v ps:=by
 rcases h with h|⟨h0,nb,h1,rfl,h2⟩
 ·exact Or.inl h
 ·exact Or.inr ⟨h0,nb,h1,rfl,h2.on hb⟩
theorem PrsIs.at{w:World}{base:Nat}{v:Value}{ps:List Pq}(h:PrsIs w base v ps)(hl:ps.length≤1000000):PlAt w v ps:=by
 rcases h with⟨rfl,rfl⟩|⟨h0,nb,h1,rfl,h2⟩
 ·exact PlAt.nil w
 ·exact⟨_,_,rfl,Nat.le_refl _,Zf hl,nofun,fun a ha=>⟨nb,0,(Option.some.inj ha).symm,h2.row⟩⟩
theorem Zi4{a:BA}(h:a.size=0):tl a=[]:=Zw h
end Go.Proofs.YtchkhibgbnhjpabGreatDoor
