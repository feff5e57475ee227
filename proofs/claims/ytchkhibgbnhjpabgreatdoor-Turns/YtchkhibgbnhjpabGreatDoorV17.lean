import Derived.Test.YtchkhibgbnhjpabGreatDoorV12
import Derived.Test.YtchkhibgbnhjpabGreatDoorV16
import Derived.Deep.AppendLies
import Derived.Laws.AppendOwnNone
import Derived.Deep.CutBlock
import Derived.Deep.CutRange
open Array renaming getElem?_eq_some_iff→Xa,getElem?_modify→Xb
open List renaming length_cons→Xc,mem_cons_of_mem→Xd,mem_cons→Xe,mem_cons_self→Xf
namespace Go.Proofs.YtchkhibgbnhjpabGreatDoor
open Go.RowKit
def Zr7(c:Int):Bool:=Zbv c||Znc c||Zx c [43,45,46]
def Zt0(a:List Int):Bool:=Zbv (a.headD 0) && !a.isEmpty&&a.all Zr7
def Zfm(l:List Int):List UInt8×List Int×Bool:=
 if(cut l [58]).2.2&&Zt0 (cut l [58]).1 then(Zae (Zn (cut l [58]).1),(cut l [58]).2.1,true)else([],l,false)
def Zfe:List UInt8:=[102,105,108,101]
def Zru(n:Nat):Nat→Int→List (List Int)→Int×Bool
 | _,sum,[]=>(sum,true)
 | i,sum,p::r=>
  if(Zhy p).2=false∨(if i+1=n then 256^(4-i)else 256)≤(Zhy p).1 then(0,false)
  else Zru n (i+1) (sum+(Zhy p).1*(if i+1=n then 1 else 256^(3-i))) r
def Zrv(ps:List (List Int)):Int×Bool:=if 4<ps.length then(0,false)else Zru ps.length 0 0 ps
def SchAt(w:World)(rb:Nat)(sch:ByteArray):Prop:=∃(cs:Array Value) (fz:Nat×Nat),w.heap[rb]?=some (Obj.cells cs 130 fz)∧cs[0]?=some (.string sch)
theorem SchAt.cell{w:World}{rb:Nat}{sch:BA}(h:SchAt w rb sch):w.cell? ⟨rb,0,none⟩=some (.string sch):=by
 obtain⟨cs,fz,hh,hc⟩:=h
 simpa [World.cell?,hh]using hc
theorem SchAt.on{w w':World}{rb:Nat}{sch:BA}(h:SchAt w rb sch)(hb:Nx w w'):SchAt w' rb sch:=by obtain⟨cs,fz,hh,hc⟩:=h;exact⟨cs,fz,(hb.block rb (Xa.1 hh).1).trans hh,hc⟩
theorem SchAt.kp{w w':World}{rb:Nat}{sch:BA}(h:SchAt w rb sch)(hb:Kp 9 w w'):SchAt w' rb sch:=by
 obtain⟨cs,fz,hh,hc⟩:=h
 exact⟨cs,fz,hb rb cs _ fz hh (by decide),hc⟩
def Zqh:List UInt8:=[32,34,35,60,62,63,94,96,123,125]
def Zfo(sch:List UInt8)(p:List (List UInt8)):List (List UInt8):=if p.length=1∧sch=Zfe∧Zs5 (p.headD [])=true then p else p.dropLast
def Zsp(sch:List UInt8)(p:List (List UInt8))(s:List Int)(last:Bool):List (List UInt8):=
 if dots (Zca s Zqh)=0 then p++[if ZkS s=true∧sch=Zfe∧p=[]then(Zca s Zqh).take 1++[58]else Zca s Zqh]
 else if dots (Zca s Zqh)=2 then(if last then Zfo sch p++[[]]else Zfo sch p)
 else(if last then p++[[]]else p)
def Zrw(sch:List UInt8):List (List UInt8)→List (List Int)→List (List UInt8)
 | p,[]=>p
 | p,s::r=>Zrw sch (Zsp sch p s r.isEmpty) r
def ZdS(sch:List UInt8)(p:List (List UInt8))(l:List Int):List (List UInt8):=Zrw sch p (parts l (tl (Zba sch)))
theorem Zok(l:LI)(t:LB):(parts l t).length≤l.length+1∧∀p∈parts l t,p.length≤l.length∧∀c∈p,c∈l:=by
 induction l with
 | nil=>
  refine⟨by simp[parts],fun p hp=>?_⟩
  simp only[parts,Xe,List.not_mem_nil,or_false]at hp;subst hp
  simp
 | cons c r ih=>
  obtain⟨ih1,ih2⟩:=ih;rw[parts]
  split
  ·refine⟨by simp only[Xc];omega,fun p hp=>?_⟩
   rcases Xe.1 hp with rfl|hp
   ·simp
   ·obtain⟨h1,h2⟩:=ih2 p hp
    exact⟨by simp only[Xc];omega,fun x hx=>Xd _ (h2 x hx)⟩
  ·obtain⟨a,q,hq⟩:=ZpJ r t
   rw[hq]at ih1 ih2 ⊢;simp only
   refine⟨by simp only[Xc]at *;omega,fun p hp=>?_⟩
   rcases Xe.1 hp with rfl|hp
   ·obtain⟨h1,h2⟩:=ih2 a (Xf ..)
    refine⟨by simp only[Xc];omega,fun x hx=>?_⟩
    rcases Xe.1 hx with rfl|hx
    ·exact Xf ..
    ·exact Xd _ (h2 x hx)
   ·obtain⟨h1,h2⟩:=ih2 p (Xd _ hp)
    exact⟨by simp only[Xc];omega,fun x hx=>Xd _ (h2 x hx)⟩
def dgo(n c:Int):Int:=10*n+c-48
def Zsq(p:List Int):Bool:=Znv p==false||decide (3<p.length)||(decide (1<p.length)&&p.headD 0==48)
def Zto(p:List Int):Option Int:=if Zsq p then none else if 255<p.foldl dgo 0 then none else some (p.foldl dgo 0)
def Zol:List (List Int)→Option (List Int)
 | []=>some []
 | p::r=>match Zto p with
  | none=>none
  | some b=>(Zol r).map (b :: ·)
def RowN(w:World)(nb:Nat)(ns:List Int):Prop:=w.heap[nb]?=some (Obj.cells (ns.map (Value.int .i64)).toArray 3 (0,0))
theorem RowN.cell{w:World}{nb:Nat}{ns:LI}(h:RowN w nb ns){i:Nat}(hi:i<ns.length):w.cell? ⟨nb,i,none⟩=some (.int .i64 ns[i]):=by
 unfold RowN at h
 simp[World.cell?,h,List.getElem?_eq_getElem hi]
theorem RowN.free{w:World}{nb:Nat}{ns:LI}(h:RowN w nb ns)(i:Nat):w.frozen? ⟨nb,i,none⟩=false:=by
 unfold RowN at h
 simp[World.frozen?,h]
theorem RowN.set{w:World}{nb:Nat}{ns:LI}(h:RowN w nb ns)(i:Nat)(x:Int):RowN (w.setCell ⟨nb,i,none⟩ (.int .i64 x)) nb (ns.set i x):=by
 unfold RowN at *;simp only[World.setCell,Xb,if_pos,h]
 simp[List.map_set]
def Zrx(l:List Int):List Int×Bool:=
 match Zol (parts l [46])with
 | some [a,b,c,d]=>([256*a+b,256*c+d],true)
 | _=>([],false)
def Ztp:Int→List Int→Option Int
 | v,[]=>some v
 | v,c::r=>if Zhr c<0 then none else Ztp (16*v+Zhr c) r
def Zqi(p:List Int):Option Int:=if p.length<1∨4<p.length then none else Ztp 0 p
def Zry(en:Bool):List (List Int)→Option (List Int)
 | []=>some []
 | p::r=>
  if(cut p [46]).2.2=true∧en=true∧r=[]then(if(Zrx p).2 then some (Zrx p).1 else none)
  else match Zqi p with
   | none=>none
   | some v=>(Zry en r).map (v :: ·)
def groups(l:List Int)(en:Bool):List Int×Bool:=
 if l=[]then([],true)else match Zry en (parts l [58])with|some q=>(q,true)|none=>([],false)
def Ztq(l:List Int)(i:Nat):List Int×Bool:=
 if(groups (l.take i) false).2=false∨(groups (l.drop (i+2)) true).2=false∨7<(groups (l.take i) false).1.length+(groups (l.drop (i+2)) true).1.length then([],false)
 else((groups (l.take i) false).1++List.replicate (8-((groups (l.take i) false).1.length+(groups (l.drop (i+2)) true).1.length)) 0++(groups (l.drop (i+2)) true).1,true)
def Zlg(l:List Int)(i:Nat):List Int×Bool:=
 if i+1<l.length then(if l.getD i 0=58∧l.getD (i+1) 0=58 then Ztq l i else Zlg l (i+1))
 else((groups l true).1,(groups l true).2&&(groups l true).1.length==8)
 termination_by l.length-i
 decreasing_by omega
def Zom(l:List Int):List Int×Bool:=Zlg l 0
def xnB:List UInt8:=[120,110,45,45]
def ZuC(p:List Int):Bool:=decide (4≤(Zae (Zn p)).length)&&(Zae (Zn p)).take 4==xnB
def Zon:List UInt8:=[0,9,10,13,32,35,47,58,60,62,63,64,91,92,93,94,124]
def Zt4(c:Int):Bool:=Zx c Zon||decide (c<32)||c==127||c==37
def Zqj(n:Nat):List UInt8:=dec (n/16777216)++[46]++dec (n/65536%256)++[46]++dec (n/256%256)++[46]++dec (n%256)
def Zoo(ps:List (List Int)):List Int:=ps.getD (ps.length-1) []
def Zsr(d:List Int)(qs:List (List Int)):Bool×List UInt8×Int:=
 if(Zhy (Zoo qs)).2=false∧Znv (Zoo qs)=false then(true,Zae (Zn d),0)
 else if(Zrv qs).2=true then(true,Zqj (Zrv qs).1.toNat,0)else(false,[],2)
def Zt5(d:List Int)(ps:List (List Int)):Bool×List UInt8×Int:=
 if ps.any ZuC=true∨(d.any fun c=>decide (127<c))=true then(false,[],3)
 else if((d.length:Int)==0||d.any Zt4)=true then(false,[],2)
 else Zsr d (if 1<ps.length∧(Zoo ps).length=0 then ps.take (ps.length-1)else ps)
def Zqk(l:List Int):Bool×List UInt8×Int:=Zt5 (Z1 (Zet (Zn l))) (parts (Z1 (Zet (Zn l))) [46])
theorem PartsAt.on{w w':World}{v:Value}{ps:List LI}(h:PartsAt w v ps)(hb:Nx w w'):PartsAt w' v ps:=by obtain⟨vs,h1,h2⟩:=h;exact⟨vs,h1.on hb,h2.on hb⟩
def Cell2(w:World)(rb:Nat):Prop:=∃(a b:Value),w.heap[rb]?=some (Obj.cells #[a,b] 128 (0,0))
theorem Cell2.on{w w':World}{rb:Nat}(h:Cell2 w rb)(hb:Nx w w'):Cell2 w' rb:=by obtain⟨a,b,hh⟩:=h;exact⟨a,b,(hb.block rb (Xa.1 hh).1).trans hh⟩
theorem Cell2.facts{w:World}{rb:Nat}(h:Cell2 w rb):∃a b,w.cell? ⟨rb,0,none⟩=some a∧w.cell? ⟨rb,1,none⟩=some b∧w.frozen? ⟨rb,0,none⟩=false∧w.frozen? ⟨rb,1,none⟩=false∧rb<w.heap.size:=by
 obtain⟨a,b,hh⟩:=h
 refine⟨a,b,by simp[World.cell?,hh],by simp[World.cell?,hh],by simp[World.frozen?,hh],by simp[World.frozen?,hh],(Xa.1 hh).1⟩
theorem Cell2.ret{w:World}{rb:Nat}(h:Cell2 w rb)(x y:Value):(w.setCell ⟨rb,0,none⟩ x).cell? ⟨rb,0,none⟩=some x∧((w.setCell ⟨rb,0,none⟩ x).setCell ⟨rb,1,none⟩ y).cell? ⟨rb,1,none⟩=some y:=by
 obtain⟨a,b,h0,h1,_⟩:=h.facts
 exact⟨World.cell?_setCell_same _ _ _ h0,World.cell?_setCell_same _ _ _ (by rw[World.cell?_setCell_other _ _ _ _ (by simp)];exact h1)⟩
def Zdn(l:List Int)(sp:Bool):Bool×List UInt8×Int:=
 if l.getD 0 0=91 then
  (if l.getD (l.length-1) 0≠93 then(false,[],2)
   else if(Zom ((l.take (l.length-1)).drop 1)).2=true then(true,[91]++ZtS (Zom ((l.take (l.length-1)).drop 1)).1++[93],0)else(false,[],2))
 else if sp=true then Zqk l
 else if(l.any fun c=>Zx c Zon)=true then(false,[],2)else(true,Zca l [],0)
structure RR where
 sch:ByteArray
 user:ByteArray
 pass:ByteArray
 his:Bool
 htx:ByteArray
 port:Int
 po:Option Addr
 pn:Nat
 pc:Nat
 op:Bool
 bl:ByteArray
 hq:Bool
 q:ByteArray
 hf:Bool
 fr:ByteArray
structure RU where
 sch:List UInt8
 user:List UInt8
 pass:List UInt8
 his:Bool
 htx:List UInt8
 port:Int
 path:List (List UInt8)
 op:Bool
 bl:List UInt8
 hq:Bool
 q:List UInt8
 hf:Bool
 fr:List UInt8
def RR.u(R:RR)(bs:List ByteArray):RU:=⟨tl R.sch,tl R.user,tl R.pass,R.his,tl R.htx,R.port,bs.map tl,R.op,tl R.bl,R.hq,tl R.q,R.hf,tl R.fr⟩
def RB(w:World)(b:Nat)(R:RR):Prop:=w.heap[b]?=some (Obj.cells #[.string R.sch,.string R.user,.string R.pass,.bool R.his,.string R.htx,.int .i64 R.port,.slice R.po R.pn R.pc,.bool R.op,.string R.bl,.bool R.hq,.string R.q,.bool R.hf,.string R.fr] 130 (0,0))
structure RIs (w:World) (R:RR) (u:RU) (bs:List ByteArray):Prop where
 eq:R.u bs=u
 seg:ZbU w (.slice R.po R.pn R.pc) bs
 lsch:R.sch.size≤1000000
 lsegs:bs.length≤100000
 lseg:∀b∈bs,b.size≤1000000
theorem RIs.on{w w':World}{R:RR}{u:RU}{bs:LA}(h:RIs w R u bs)(hb:Nx w w'):RIs w' R u bs:={ h with seg:=h.seg.on hb }
theorem RIs.kp{w w':World}{R:RR}{u:RU}{bs:LA}(h:RIs w R u bs)(hb:Kp 130 w w'):RIs w' R u bs:={ h with seg:=h.seg.kp hb (by decide) }
theorem RB.on{w w':World}{b:Nat}{R:RR}(h:RB w b R)(hb:Nx w w'):RB w' b R:=(hb.block b (Xa.1 h).1).trans h
theorem RB.but{w w':World}{b rb:Nat}{R:RR}(h:RB w b R)(hb:But rb w w')(hn:b≠rb):RB w' b R:=(hb.block b (Xa.1 h).1 hn).trans h
theorem RB.lt{w:World}{b:Nat}{R:RR}(h:RB w b R):b<w.heap.size:=(Xa.1 h).1
theorem RB.free{w:World}{b:Nat}{R:RR}(h:RB w b R)(i:Nat):w.frozen? ⟨b,i,none⟩=false:=by
 unfold RB at h
 simp[World.frozen?,h]
theorem RB.sch{w:World}{b:Nat}{R:RR}(h:RB w b R):SchAt w b R.sch:=⟨_,_,h,rfl⟩
theorem But.kp{w w':World}{rb:Nat}{R:RR}(hb:But rb w w')(h:RB w rb R):Kp 130 w w':=by
 intro k cs e fz hk he
 refine(hb.block k (Xa.1 hk).1 ?_).trans hk
 intro e';subst e';unfold RB at h;rw[hk]at h;simp only[Option.some.injEq,Obj.cells.injEq]at h;exact he h.2.1
theorem RB.cells{w:World}{b:Nat}{R:RR}(h:RB w b R):w.cell? ⟨b,0,none⟩=some (.string R.sch)∧w.cell? ⟨b,1,none⟩=some (.string R.user)∧w.cell? ⟨b,2,none⟩=some (.string R.pass)∧w.cell? ⟨b,3,none⟩=some (.bool R.his)∧w.cell? ⟨b,4,none⟩=some (.string R.htx)∧w.cell? ⟨b,5,none⟩=some (.int .i64 R.port)∧w.cell? ⟨b,6,none⟩=some (.slice R.po R.pn R.pc)∧w.cell? ⟨b,7,none⟩=some (.bool R.op)∧w.cell? ⟨b,8,none⟩=some (.string R.bl)∧w.cell? ⟨b,9,none⟩=some (.bool R.hq)∧w.cell? ⟨b,10,none⟩=some (.string R.q)∧w.cell? ⟨b,11,none⟩=some (.bool R.hf)∧w.cell? ⟨b,12,none⟩=some (.string R.fr):=by
 unfold RB at h
 refine⟨?_,?_,?_,?_,?_,?_,?_,?_,?_,?_,?_,?_,?_⟩<;>simp[World.cell?,h]
theorem RB.s0{w:World}{b:Nat}{R:RR}(h:RB w b R)(x:BA):RB (w.setCell ⟨b,0,none⟩ (.string x)) b { R with sch:=x }:=by
 unfold RB at *;simp only[World.setCell,Xb,if_pos,h]
 rfl
theorem RB.s1{w:World}{b:Nat}{R:RR}(h:RB w b R)(x:BA):RB (w.setCell ⟨b,1,none⟩ (.string x)) b { R with user:=x }:=by
 unfold RB at *;simp only[World.setCell,Xb,if_pos,h]
 rfl
theorem RB.s2{w:World}{b:Nat}{R:RR}(h:RB w b R)(x:BA):RB (w.setCell ⟨b,2,none⟩ (.string x)) b { R with pass:=x }:=by
 unfold RB at *;simp only[World.setCell,Xb,if_pos,h]
 rfl
theorem RB.s5{w:World}{b:Nat}{R:RR}(h:RB w b R)(x:Int):RB (w.setCell ⟨b,5,none⟩ (.int .i64 x)) b { R with port:=x }:=by
 unfold RB at *;simp only[World.setCell,Xb,if_pos,h]
 rfl
theorem RB.s8{w:World}{b:Nat}{R:RR}(h:RB w b R)(x:BA):RB (w.setCell ⟨b,8,none⟩ (.string x)) b { R with bl:=x }:=by
 unfold RB at *;simp only[World.setCell,Xb,if_pos,h]
 rfl
theorem RB.s10{w:World}{b:Nat}{R:RR}(h:RB w b R)(x:BA):RB (w.setCell ⟨b,10,none⟩ (.string x)) b { R with q:=x }:=by
 unfold RB at *;simp only[World.setCell,Xb,if_pos,h]
 rfl
theorem RB.s11{w:World}{b:Nat}{R:RR}(h:RB w b R)(x:Bool):RB (w.setCell ⟨b,11,none⟩ (.bool x)) b { R with hf:=x }:=by
 unfold RB at *;simp only[World.setCell,Xb,if_pos,h]
 rfl
def ZuD(sch:List UInt8)(n:Int):Int:=if n=(Znx sch).1 then -1 else n
def Ztr:List UInt8:=[108,111,99,97,108,104,111,115,116]
def ZhR(u:RU)(l:List Int):RU×Int:=
 if l=[]then({ u with his:=true,htx:=[] },0)else if(Zdn l true).2.2≠0 then({ u with his:=true,htx:=[] },(Zdn l true).2.2)
 else if(Zdn l true).2.1=Ztr then({ u with his:=true,htx:=[] },0)else({ u with his:=(Zdn l true).1,htx:=(Zdn l true).2.1 },0)
theorem RIs.usch{w:World}{R:RR}{u:RU}{bs:LA}(h:RIs w R u bs):tl R.sch=u.sch:=by rw[←h.eq];rfl
def Zrz(l:List Int):Bool:=if l.length<2 then false else ZkS (l.take 2)&&(decide (l.length=2)||Zdc l 2 Zfe)
def Zop(u:RU)(l:List Int):RU×Int:=
 if ZkS (cut l [47,92]).1=true then({ u with path:=ZdS u.sch [] l },0)
 else if(ZhR u (cut l [47,92]).1).2≠0 then ZhR u (cut l [47,92]).1
 else({ (ZhR u (cut l [47,92]).1).1 with path:=ZdS u.sch [] (cut l [47,92]).2.1 },0)
def ZhS(u:RU)(name:List Int):RU:={ u with his:=(Zdn name (Zan u.sch)).1,htx:=(Zdn name (Zan u.sch)).2.1 }
def Zoq(u:RU)(l:List Int):RU×Int:=
 if ZfH l=-1 then
  (if l=[]∧Zan u.sch=true then(u,2)else if(Zdn l (Zan u.sch)).2.2≠0 then(u,(Zdn l (Zan u.sch)).2.2)else(ZhS u l,0))
 else
  (if l.take (ZfH l).toNat=[]then(u,2)else if(Zdn (l.take (ZfH l).toNat) (Zan u.sch)).2.2≠0 then(u,(Zdn (l.take (ZfH l).toNat) (Zan u.sch)).2.2)
  else if l.drop ((ZfH l).toNat+1)=[]then(ZhS u (l.take (ZfH l).toNat),0)
  else if Znv (l.drop ((ZfH l).toNat+1))=false∨65535<value (l.drop ((ZfH l).toNat+1))then(ZhS u (l.take (ZfH l).toNat),2)
  else({ ZhS u (l.take (ZfH l).toNat)with port:=ZuD u.sch (value (l.drop ((ZfH l).toNat+1))) },0))
def HostC(w:World)(hb:Nat)(is:Bool)(t:ByteArray):Prop:=w.heap[hb]?=some (Obj.cells #[.bool is,.string t] 128 (0,0))
theorem HostC.cells{w:World}{hb:Nat}{is:Bool}{t:BA}(h:HostC w hb is t):w.cell? ⟨hb,0,none⟩=some (.bool is)∧w.cell? ⟨hb,1,none⟩=some (.string t):=by
 unfold HostC at h
 constructor<;>simp[World.cell?,h]
def Zts:List UInt8:=[32,34,35,60,62,63,94,96,123,125,47,58,59,61,64,91,92,93,124]
def Zj6(sch:List UInt8)(l:List Int):List Int:=if Zan sch=true then l.dropWhile (fun c=>Zx c (tl (Zba sch)))else l
def ZrA(l:List Int):Nat→Int
 | 0=>-1
 | k+1=>if l[k]?=some 64 then(k:Int)else ZrA l k
def Zmd(who:List Int):Int:=ZrA who who.length
def Zup(u:RU)(who:List Int):RU:=if Zmd who=-1 then u else { u with user:=Zca (cut (who.take (Zmd who).toNat) [58]).1 Zts,pass:=Zca (cut (who.take (Zmd who).toNat) [58]).2.1 Zts }
def Zor(who:List Int):List Int:=if Zmd who=-1 then who else who.drop ((Zmd who).toNat+1)
def Zql(q:RU×Int)(sch:List UInt8)(rest:List Int)(b:Bool):RU×Int:=if q.2≠0 then q else if b=true then({ q.1 with path:=ZdS sch [] rest },0)else(q.1,0)
def ZeC(u:RU)(l:List Int):RU×Int:=
 if Zmd (cut (Zj6 u.sch l) (tl (Zba u.sch))).1≠-1∧Zor (cut (Zj6 u.sch l) (tl (Zba u.sch))).1=[]then(Zup u (cut (Zj6 u.sch l) (tl (Zba u.sch))).1,2)
 else Zql (Zoq (Zup u (cut (Zj6 u.sch l) (tl (Zba u.sch))).1) (Zor (cut (Zj6 u.sch l) (tl (Zba u.sch))).1)) u.sch (cut (Zj6 u.sch l) (tl (Zba u.sch))).2.1 ((cut (Zj6 u.sch l) (tl (Zba u.sch))).2.2||Zan u.sch)
def Ztt(u base:RU):RU:={ u with path:=base.path,hq:=u.hq||base.hq,q:=if u.hq=true then u.q else base.q }
def ZrB(u:RU)(l:List Int)(base:Option RU):RU×Int:=
 if(Zdc l 0 Zfe&&Zdc l 1 Zfe)=true then Zop { u with his:=true,htx:=[] } (l.drop 2)
 else match base with
 | none=>if Zdc l 0 Zfe=true then({ u with his:=true,htx:=[],path:=ZdS u.sch [] (l.drop 1) },0)else({ u with his:=true,htx:=[],path:=ZdS u.sch [] l },0)
 | some b=>
  if Zdc l 0 Zfe=true then({ u with his:=b.his,htx:=b.htx,path:=ZdS u.sch (if Zrz (l.drop 1)=false∧b.path≠[]∧Zs5 (b.path.headD [])=true then [b.path.headD []]else []) (l.drop 1) },0)
  else if l=[]then(Ztt { u with his:=b.his,htx:=b.htx } b,0)
  else({ u with his:=b.his,htx:=b.htx,path:=ZdS u.sch (if Zrz l=true then []else Zfo u.sch b.path) l },0)
def BaseIs(w:World)(rb:Nat)(bv:Value)(ob:Option RU):Prop:=
 (ob=none∧bv=.pointer none)∨∃qb Q b cs,ob=some b∧bv=.pointer (some ⟨qb,0,none⟩)∧RB w qb Q∧RIs w Q b cs∧qb≠rb∧cs.length≤70000
def Ztu(ob:Option RU):Option RU:=match ob with|some b=>if b.sch=Zfe then some b else none|none=>none
def Zss(u b:RU):RU:={ u with user:=b.user,pass:=b.pass,his:=b.his,htx:=b.htx,port:=b.port }
def Zlh(u:RU)(l:List Int)(b:RU):RU×Int:=
 if(Zdc l 0 u.sch&&Zdc l 1 u.sch)=true then ZeC u (l.drop 2)
 else if Zdc l 0 u.sch=true then({ Zss u b with path:=ZdS u.sch [] (l.drop 1) },0)
 else if l=[]then(Ztt (Zss u b) b,0)else({ Zss u b with path:=ZdS u.sch (Zfo u.sch b.path) l },0)
theorem BaseIs.on{w w':World}{rb:Nat}{bv:Value}{ob:Option RU}(h:BaseIs w rb bv ob)(hn:Nx w w'):BaseIs w' rb bv ob:=by
 rcases h with h|⟨qb,Q,b,cs,h1,h2,h3,h4,h5,h6⟩
 ·exact Or.inl h
 ·exact Or.inr ⟨qb,Q,b,cs,h1,h2,h3.on hn,h4.on hn,h5,h6⟩
def Zuq(l:List Int):Bool:=decide (1<l.length)&&l.headD 0==47&&(l.drop 1).headD 0==47
def ZuE(l:List Int):Bool:=decide (0<l.length)&&l.headD 0==47
def Zt6(u:RU)(ob:Option RU):Option RU:=match ob with|some b=>if b.sch=u.sch then some b else none|none=>none
def Zos(u:RU)(l:List Int)(ob:Option RU):RU×Int:=
 if u.sch=Zfe then ZrB u l (Ztu ob)
 else if Zan u.sch=true then
  (match (if Zuq l=true then none else Zt6 u ob)with|some b=>Zlh u l b|none=>ZeC u l)
 else if Zuq l=true then ZeC u (l.drop 2)
 else if ZuE l=true then({ u with path:=ZdS u.sch [] (l.drop 1) },0)
 else({ u with op:=true,bl:=Zca l [] },0)
def zeroR:RU:=⟨[],[],[],false,[],-1,[],false,[],false,[],false,[]⟩
def Zst(l:List UInt8):List Int:=Zuh (ZrM (Z1 l))
def Zt7:List UInt8:=[32,34,60,62,96]
def Zot(x:RU×Int)(hq:Bool)(query:List Int):RU×Int:=if hq=true then({ x.1 with q:=Zca query (tl (Zuj (Zan x.1.sch))) },x.2)else x
def Zme(u:RU)(l:List Int)(b:RU):RU×Int:=if u.sch=Zfe then ZrB u l (Ztu (some b))else Zlh u l b
def ZrC(sch:List UInt8)(rest:List Int):RU:={ zeroR with hq:=(cut rest [63]).2.2,sch:=sch }
def Zt8(x:RU×Int)(hf:Bool)(frag:List Int):RU×Int:=if x.2≠0 then(zeroR,x.2)else({ x.1 with hf:=hf,fr:=if hf=true then Zca frag Zt7 else x.1.fr },0)
def Zt9(sch:List UInt8)(rest:List Int)(ob:Option RU):RU×Int:=Zot (Zos (ZrC sch rest) (cut rest [63]).1 ob) (cut rest [63]).2.2 (cut rest [63]).2.1
def Ztv(rest:List Int)(b:RU):RU×Int:=Zot (Zme (ZrC b.sch rest) (cut rest [63]).1 b) (cut rest [63]).2.2 (cut rest [63]).2.1
def Ztw(a:List Int)(frag:List Int)(hf:Bool)(ob:Option RU):RU×Int:=
 if(Zfm a).2.2=true then Zt8 (Zt9 (Zfm a).1 (Zfm a).2.1 ob) hf frag
 else match ob with
 | none=>(zeroR,2)
 | some b=>if b.op=true then(if a≠[]∨hf=false then(zeroR,2)else Zt8 ({ zeroR with sch:=b.sch,op:=true,bl:=b.bl,hq:=b.hq,q:=b.q },0) hf frag)else Zt8 (Ztv (Zfm a).2.1 b) hf frag
def ZrD(l:List UInt8)(ob:Option RU):RU×Int:=Ztw (cut (Zst l) [35]).1 (cut (Zst l) [35]).2.1 (cut (Zst l) [35]).2.2 ob
def BaseW(w:World)(bv:Value)(ob:Option RU):Prop:=(ob=none∧bv=.pointer none)∨∃qb Q b cs,ob=some b∧bv=.pointer (some ⟨qb,0,none⟩)∧RB w qb Q∧RIs w Q b cs∧cs.length≤70000
theorem BaseW.on{w w':World}{bv:Value}{ob:Option RU}(h:BaseW w bv ob)(hn:Nx w w'):BaseW w' bv ob:=by
 rcases h with h|⟨qb,Q,b,cs,h1,h2,h3,h4,h5⟩
 ·exact Or.inl h
 ·exact Or.inr ⟨qb,Q,b,cs,h1,h2,h3.on hn,h4.on hn,h5⟩
theorem BaseW.is{w w':World}{bv:Value}{ob:Option RU}{rb:Nat}{R:RR}(h:BaseW w bv ob)(hb:But rb w w')(hr:RB w rb R∨w.heap.size≤rb)(hlt:∀qb Q,bv=.pointer (some ⟨qb,0,none⟩)→RB w qb Q→qb≠rb):BaseIs w' rb bv ob:=by
 rcases h with h|⟨qb,Q,b,cs,h1,h2,h3,h4,h5⟩
 ·exact Or.inl h
 ·have hne:=hlt qb Q h2 h3
  refine Or.inr ⟨qb,Q,b,cs,h1,h2,h3.but hb hne,?_,hne,h5⟩
  rcases hr with hr|hr
  ·exact h4.kp (hb.kp hr)
  ·exact h4.on (hb.below hr (Nat.le_refl _))
def Zub(c:Int):Int:=if c=43 then 32 else c
def ZrH(l:List Int):List UInt8:=Zn (Z1 (Zet (Zn (l.map Zub))))
def Zuc(a:List Int):List UInt8×List UInt8:=(ZrH (cut a [61]).1,ZrH (cut a [61]).2.1)
def ZtA(q:List UInt8):List (List UInt8×List UInt8):=((parts (Z1 q) [38]).filter fun a=>!a.isEmpty).map Zuc
def ZtB(m:RU):List (List UInt8×List UInt8):=if m.hq=true then ZtA m.q else []
def ZsB(l:List UInt8):List UInt8:=(l.reverse.dropWhile fun b=>(b.toNat:Int)==32).reverse
def ZtC(m:RU):RU:=if m.op=true∧m.hq=false∧m.hf=false then { m with bl:=ZsB m.bl }else m
def ZuF(c:Int)(p:List Int):List Int:=if p.headD 0=c then p.drop 1 else p
def ZsC(m:RU)(p:List Int):RU:=
 if p=[]then ZtC { m with hq:=false,q:=[] }else { m with hq:=true,q:=Zca (Zuh (ZuF 63 p)) (tl (Zuj (Zan m.sch))) }
def ZsD(m:RU):Prop:=m.htx=[]∨m.sch=Zfe
instance (m:RU):Decidable (ZsD m):=by unfold ZsD;infer_instance
def putList(m:RU)(k:Int)(l:List UInt8)(ps:List (List UInt8×List UInt8)):List (List UInt8×List UInt8):=
 if k=1 then(if(ZrD l none).2≠0 then ps else ZtB (ZrD l none).1)else if k=9 then ZtB (ZsC m (Z1 l))else ps
end Go.Proofs.YtchkhibgbnhjpabGreatDoor
