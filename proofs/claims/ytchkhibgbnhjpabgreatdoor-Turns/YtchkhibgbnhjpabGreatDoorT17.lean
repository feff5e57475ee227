import Derived.Test.YtchkhibgbnhjpabGreatDoorT16
open List renaming mem_append→Xa,cons_append→Xb,mem_cons_of_mem→Xc,reverse_append→Xd,length_take→Xe,append_nil→Xf,reverse_reverse→Xg,dropWhile_cons→Xh,mem_singleton→Xi,all_eq_true→Xj,mem_reverse→Xk
namespace Go.Proofs.YtchkhibgbnhjpabGreatDoor
open Go.RowKit
set_option maxHeartbeats 8000000
set_option maxRecDepth 8000
abbrev ZyI(a0 a1 a2 a3 a4 a5 a6 a7 a8 a9 a10:ByteArray):Array Value:=#[.string a0,.string a1,.string a2,.string a3,.string a4,.string a5,.string a6,.string a7,.string a8,.string a9,.string a10]
theorem ZvX{c:LB}(hc:c≠[]){l:LB}(h:ZaL c l=[]):l=[]:=by
 unfold ZaL at h
 split at h
 ·next e=>exact e
 ·exact absurd (List.append_eq_nil_iff.1 h).1 hc
theorem ZyJ(pb:Nat)(r:Rc)(u:U)(bs:LA)(w:World)(hu:UrlB w pb r)(hr:RcIs w r u bs)(ht:Tb w)(hst:St u)(hpl:(pathU u).length≤9000):Calls Tryz.prog 14 #[.pointer (some ⟨pb,0,none⟩)] w fun e w'=>e=.returned (.bool true)∧Nx w w':=by
 have HU:=Za hu;have HR:=Za hr;have HTB:=Za ht;have HST:=Za hst;have HPL:=Za hpl;clear hu hr ht hst hpl
 go_enter Tryz.func14,Tryz.ntmps14
 go_wp2_with fail
 refine(ZeL pb r u bs _ HU.out HR.out HTB.out (fun _=>HPL.out)).mono ?_
 rintro e w1 ⟨ha,hn1⟩;have hz:=HR.out.five
 have hzh:u.host.length≤1000000:=by rw[←HR.out.eq];show(tl r.host).length≤_;rw[tl_length];have:=HR.out.lhost;omega
 have hzs:u.sch.length≤999999:=by rw[←HR.out.eq];show(tl r.sch).length≤_;rw[tl_length];have:=HR.out.lsch;omega
 obtain⟨v1,e1,hv1⟩:=ZwO u HST.out.st.sd hzs hz.2.1 hz.2.2.1 hz.2.2.2.1 hz.2.2.2.2 hzh e ha;obtain⟨v2,e2,hv2⟩:=Zwo u HST.out.st.wf hz.1 hz.2.1 hz.2.2.1 hz.2.2.2.1 hz.2.2.2.2 e ha;obtain⟨v3,e3,hv3⟩:=Zxv u HST.out hz.1 e ha;obtain⟨a0,a1,a2,a3,a4,a5,a6,a7,a8,a9,a10,rfl,g0,g1,g2,g3,g4,g5,g6,g7,g8,g9,g10,-,-⟩:=ha
 have H9:=Za (show a9.size=0→Zh u.q=[]from fun g=>by
  have h:Z4 u=[]:=by rw[←g9];exact Zz g
  rw[ZvX (by decide) h]
  decide +kernel)
 obtain rfl:=Ending.returned.inj e1;obtain rfl:=Ending.returned.inj e2;obtain rfl:=Ending.returned.inj e3;have HV1:=Za hv1;have HV2:=Za hv2;have HV3:=Za hv3;have HN1:=Za (hn1.alloc (Obj.cells (ZyI a0 a1 a2 a3 a4 a5 a6 a7 a8 a9 a10) 66));have HC:=Za (show C11 (w1.alloc (Obj.cells (ZyI a0 a1 a2 a3 a4 a5 a6 a7 a8 a9 a10) 66)) w1.heap.size (.string a0) (.string a1) (.string a2) (.string a3) (.string a4) (.string a5) (.string a6) (.string a7) (.string a8) (.string a9) (.string a10)from heap_alloc_new w1 _);clear g0 g1 g2 g3 g4 g5 g6 g7 g8 g9 g10 hn1 hz hzh hzs e1 e2 e3 hv1 hv2 hv3;unfold ZyI at *;go_upto_region 2 with fail;generalize w1.alloc (Obj.cells #[.string a0,.string a1,.string a2,.string a3,.string a4,.string a5,.string a6,.string a7,.string a8,.string a9,.string a10] 66)=w2 at *;obtain⟨c0,c1,c2,c3,c4,c5,c6,c7,c8,c9,c10⟩:=HC.out.cells;go_wp2_with fail
 refine(HV1.out _).mono ?_
 rintro e w3 ⟨rfl,hn3⟩;have HN3:=Za (HN1.out.then hn3);have HC3:=Za (HC.out.on hn3);clear hn3 c0 c1 c2 c3 c4 c5 c6 c7 c8 c9 c10;obtain⟨c0,c1,c2,c3,c4,c5,c6,c7,c8,c9,c10⟩:=HC3.out.cells;go_wp2_with fail
 refine(HV2.out _).mono ?_
 rintro e w4 ⟨rfl,hn4⟩;have HN4:=Za (HN3.out.then hn4);have HC4:=Za (HC3.out.on hn4);clear hn4 c0 c1 c2 c3 c4 c5 c6 c7 c8 c9 c10;obtain⟨c0,c1,c2,c3,c4,c5,c6,c7,c8,c9,c10⟩:=HC4.out.cells;go_wp2_with fail
 refine(HV3.out _ (HTB.out.on HN4.out)).mono ?_
 rintro e w5 ⟨rfl,hn5⟩;have HN5:=Za (HN4.out.then hn5);have HC5:=Za (HC4.out.on hn5);clear hn5 c0 c1 c2 c3 c4 c5 c6 c7 c8 c9 c10;obtain⟨c0,c1,c2,c3,c4,c5,c6,c7,c8,c9,c10⟩:=HC5.out.cells;go_wp2_with fail
 refine(ZvW pb r u bs a0 a1 a2 a3 a4 a5 a6 a7 a8 a9 a10 _ (HU.out.on HN5.out) (HR.out.on HN5.out) H9.out).mono ?_
 rintro e w6 ⟨rfl,hn6⟩;have HN6:=Za (HN5.out.then hn6);clear hn6;go_wp2;go_ret;exact⟨rfl,HN6.out⟩
theorem ZzB:∀n:Fin 256,((Zvf (UInt8.ofNat n.1)).all fun b=>decide (32≤b.toNat)&&decide (b.toNat≤126) && !Zx (b.toNat:Int) (tl (ZaN 2)) && !Zx (b.toNat:Int) (tl (ZaN 3)))=true:=by decide +kernel
theorem ZzC(sch:LB)(c:UInt8):Asis (SQ sch) (Zvf c):=by
 intro b hb;have h:=ZzB ⟨c.toNat,c.toNat_lt⟩;rw[show UInt8.ofNat (⟨c.toNat,c.toNat_lt⟩:Fin 256).1=c from UInt8.ofNat_toNat]at h;have h1:=Xj.1 h b hb;simp only[Bool.and_eq_true,decide_eq_true_eq,Bool.not_eq_true']at h1;obtain⟨⟨⟨h1,h2⟩,h3⟩,h4⟩:=h1
 refine⟨h1,h2,?_⟩
 unfold SQ Zbr
 split
 ·exact h4
 ·exact h3
theorem Zv4{set a b:LB}(ha:Asis set a)(hb:Asis set b):Asis set (a++b):=fun x hx=>(Xa.1 hx).elim (ha x) (hb x)
theorem ZzD(sch:LB){l:LB}(h:Cpt l):Asis (SQ sch) (Zvt l):=by rw[ZvN h];intro x hx;obtain⟨b,-,hb⟩:=List.mem_flatMap.1 hx;exact ZzC sch b x hb
theorem Zyj(sch:LB){c:UInt8}(h:c=38∨c=61):Asis (SQ sch) [c]:=by
 intro b hb;rw[Xi]at hb;subst hb;unfold SQ Zbr;rcases h with rfl|rfl
 ·split<;>exact⟨by decide,by decide,by decide⟩
 ·split<;>exact⟨by decide,by decide,by decide⟩
theorem ZzE(sch:LB):∀ {ls:List LB},(∀a∈ls,Asis (SQ sch) a)→Asis (SQ sch) (ZvD 38 ls):=by
 intro ls
 induction ls with
 | nil=>intro _;exact ZaM _
 | cons a r ih=>
  intro h
  show Asis (SQ sch) (if r=[]then a else a++38::ZvD 38 r)
  split
  ·exact h a (by simp)
  ·exact Zv4 (h a (by simp)) (Zv4 (a:=[38]) (Zyj sch (Or.inl rfl)) (ih (fun b hb=>h b (Xc _ hb))))
theorem ZAI(sch:LB){ps:Lp}(h:∀p∈ps,ZBc p):Asis (SQ sch) (Zvk ps):=by
 unfold Zvk
 refine ZzE sch (fun a ha=>?_)
 obtain⟨p,hp,rfl⟩:=List.mem_map.1 ha;exact Zv4 (ZzD sch (h p hp).1) (Zv4 (a:=[61]) (Zyj sch (Or.inr rfl)) (ZzD sch (h p hp).2))
theorem Zvl(l:LB):∃n,l=dropBl l++List.replicate n 32:=by
 unfold dropBl
 have h:=List.takeWhile_append_dropWhile (p:=fun b:UInt8=>(b.toNat:Int)==32) (l:=l.reverse)
 have h2:=congrArg List.reverse h;rw[Xd,Xg]at h2
 refine⟨(l.reverse.takeWhile fun b=>(b.toNat:Int)==32).length,?_⟩
 conv=>lhs;rw[←h2]
 congr 1
 refine List.eq_replicate_iff.2 ⟨by simp,fun b hb=>?_⟩
 have hall:=List.all_takeWhile (p:=fun b:UInt8=>(b.toNat:Int)==32) (l:=l.reverse)
 have h3:=Xj.1 hall b (Xk.1 hb)
 exact UInt8.toNat_inj.1 (by have:=beq_iff_eq.1 h3;show b.toNat=32;omega)
theorem Zvr{l:LB}{b:UInt8}(h:b∈dropBl l):b∈l:=by obtain⟨n,e⟩:=Zvl l;rw[e];exact Xa.2 (Or.inl h)
theorem ZvQ(l:LB):NoEnd (dropBl l):=by
 intro a h;unfold dropBl at h;have h1:=congrArg List.reverse h;rw[Xg,Xd]at h1
 have h2:(List.dropWhile (fun b:UInt8=>(b.toNat:Int)==32) l.reverse).head?=some 32:=by rw[h1];rfl
 have:=List.head?_dropWhile_not (fun b:UInt8=>(b.toNat:Int)==32) l.reverse
 rw[h2]at this
 simp at this
theorem ZvY{l:LB}(h:countSl false l=0):countSl false (dropBl l)=0:=by
 obtain⟨n,e⟩:=Zvl l
 cases hd:dropBl l with
 | nil=>rfl
 | cons c r=>
  rw[hd]at e;rw[e]at h
  show countSl false (c::r)=0
  cases hc:slB false c
  ·exact Zhb _ hc
  ·rw[Xb,countSl,if_pos hc]at h
   cases h
theorem ZyK{u:U}(h:St u){S:Lp}(hS:∀p∈S,ZBc p):St (Zu9 u S):=by
 unfold Zu9
 split
 ·unfold ZbZ Zbe
  split
  ·next hq=>
   exact⟨{ h.st with sd:={ h.st.sd with pq:=pr_nil },wf:=⟨h.st.wf.nh,fun _=>rfl,h.st.wf.nf⟩,aq:=ZaM _ },fun _ _ g=>absurd (show u.hf=true from hq.resolve_left (by intro x;cases x)) (by have g':u.hf=false:=g;rw[g'];decide)⟩
  ·refine⟨{ h.st with sd:={ h.st.sd with pq:=pr_nil,popath:=fun b hb=>h.st.sd.popath b (Zvr hb) },wf:=⟨h.st.wf.nh,fun _=>rfl,h.st.wf.nf⟩,aq:=ZaM _,opq:=fun g=>?_,zop:=fun g=>?_ },fun _ _ _=>ZvQ _⟩
   ·obtain⟨a,b,c,d⟩:=h.st.opq g
    exact⟨a,b,ZvY c,fun x hx=>d x (Zvr hx)⟩
   ·show dropBl u.opath=[]
    rw[h.st.zop g]
    rfl
 ·exact⟨{ h.st with sd:={ h.st.sd with pq:=ZxZ hS },wf:=⟨h.st.wf.nh,(fun g=>by cases g),h.st.wf.nf⟩,aq:=ZAI _ hS },(fun _ g=>by cases g)⟩
structure ZvR (u v:U):Prop where
 sch:v.sch=u.sch
 nam:v.nam=u.nam
 pw:v.pw=u.pw
 hh:v.hh=u.hh
 host:v.host=u.host
 hp:v.hp=u.hp
 port:v.port=u.port
 op:v.op=u.op
 segs:v.segs=u.segs
 hf:v.hf=u.hf
 fr:v.fr=u.fr
 opath:v.opath=u.opath∨v.opath=dropBl u.opath
theorem Zxw(u:U)(S:Lp):ZvR u (Zu9 u S):=by
 unfold Zu9
 split
 ·unfold ZbZ Zbe
  split
  ·exact⟨rfl,rfl,rfl,rfl,rfl,rfl,rfl,rfl,rfl,rfl,rfl,Or.inl rfl⟩
  ·exact⟨rfl,rfl,rfl,rfl,rfl,rfl,rfl,rfl,rfl,rfl,rfl,Or.inr rfl⟩
 ·exact⟨rfl,rfl,rfl,rfl,rfl,rfl,rfl,rfl,rfl,rfl,rfl,Or.inl rfl⟩
theorem Zx2(a:LB)(n:Nat):trimB (a++List.replicate n 32)=trimB a:=by
 have hb:∀x∈List.replicate n (32:UInt8),Z2 x=true:=fun x hx=>by rw[(List.mem_replicate.1 hx).2];decide
 unfold trimB
 have hd:∀(p s:LB),(∀x∈p,Z2 x=true)→List.dropWhile Z2 (p++s)=List.dropWhile Z2 s:=by
  intro p s hp
  induction p with
  | nil=>rfl
  | cons x r ih=>rw[Xb,List.dropWhile_cons_of_pos (hp x (by simp)),ih (fun y hy=>hp y (Xc _ hy))]
 by_cases ha:∀x∈a,Z2 x=true
 ·rw[hd a _ ha]
  have h1:=hd (List.replicate n 32) [] hb;rw[Xf]at h1;have h2:=hd a [] ha;rw[Xf]at h2;rw[h1,h2]
 ·have key:∀s,List.dropWhile Z2 (a++s)=List.dropWhile Z2 a++s:=by
   intro s;clear hd hb
   induction a with
   | nil=>exact absurd (fun x hx=>by cases hx) ha
   | cons x r ih=>
    rw[Xb,Xh,Xh]
    split
    ·next hx=>exact ih (fun g=>ha (fun y hy=>(List.mem_cons.1 hy).elim (fun e=>e ▸ hx) (g y)))
    ·rfl
  rw[key,Xd,hd _ _ (fun x hx=>hb x (Xk.1 hx))]
theorem Zx3{l:LB}(hp:Pr l):ZbK (dropBl l)=ZbK l:=by
 have e:wholeText (dropBl l)=wholeText l:=by
  unfold wholeText;obtain⟨n,h⟩:=Zvl l
  have h1:clean l=l:=Zcc (fun b hb=>by have:=hp b hb;omega)
  have h2:clean (dropBl l)=dropBl l:=Zcc (fun b hb=>by have:=hp b (Zvr hb);omega)
  rw[h1,h2]
  congr 1
  conv=>rhs;rw[h]
  exact(Zx2 _ _).symm
 unfold ZbK ZD;rw[e]
theorem Zwr{u v:U}(h:ZvR u v):pathU v=pathU u∨(u.op=true∧pathU v=dropBl (pathU u)):=by
 unfold pathU;rw[h.op,h.segs]
 cases u.op
 ·exact Or.inl rfl
 ·rcases h.opath with e|e
  ·exact Or.inl e
  ·exact Or.inr ⟨rfl,e⟩
theorem ZwP(c:Int):∀(l r:LB),(∀b∈l,(b.toNat:Int)≠c∧(b.toNat:Int)≠35)→signsB c (l++r)=signsB c r:=by
 intro l r
 induction l with
 | nil=>intro _;rfl
 | cons b l ih=>
  intro h
  obtain⟨h1,h2⟩:=h b (by simp)
  rw[Xb,signsB,if_neg (by simpa using h1),if_neg (by simpa using h2)]
  exact ih (fun x hx=>h x (Xc _ hx))
theorem ZyL{u:U}(h:St u)(hq:u.hq=false):signsB 63 (Zdg u)=false:=by
 have ne:∀ {b c:UInt8},b≠c→(b.toNat:Int)≠(c.toNat:Int):=fun hb e=>hb (UInt8.toNat_inj.1 (by omega))
 unfold Zdg Zad
 rw[hq,if_neg (by decide),Xf]
 rw[ZwP 63 (u.sch++[58]++Zbb u++pathU u) _ (by
  intro b hb;rcases Xa.1 hb with hb|hb
  ·have hc:b≠35∧b≠63:=by
    rcases Xa.1 hb with hb|hb
    ·rcases Xa.1 hb with hb|hb
     ·have:=ZrG h.st.sd.sc b hb;exact⟨this.1,this.2.1⟩
     ·rw[Xi]at hb;subst hb;exact⟨by decide,by decide⟩
    ·have:=ZqE h.st b hb;exact⟨this.1,this.2.1⟩
   exact⟨ne hc.2,ne hc.1⟩
  ·have:=ZsA h.st b hb
   exact⟨ne this.2,ne this.1⟩)]
 split
 ·rfl
 ·rfl
theorem PlAt.take{w:World}{a:Addr}{n cap:Nat}{qs:List Pq}(h:PlAt w (.slice (some a) qs.length cap) qs)(hn:n≤qs.length):PlAt w (.slice (some a) n cap) (qs.take n):=by
 obtain⟨ao,cap',he,hlc,hcap,hnone,hsome⟩:=h
 obtain⟨rfl,-,rfl⟩:=(by simpa using he:some a=ao∧True∧cap=cap')
 refine⟨some a,cap,by rw[Xe,Nat.min_eq_left hn],by rw[Xe];omega,hcap,(fun g=>by cases g),fun x hx=>?_⟩
 obtain⟨b,off,hb,cs,fz,hh,hc⟩:=hsome x hx
 refine⟨b,off,hb,cs,fz,hh,fun i hi=>?_⟩
 have hi':i<qs.length:=by rw[Xe]at hi;omega
 have:=hc i hi';rw[List.getElem_take];exact this
def AdjR{α:Type}(lt:α→α→Bool):List α→Prop
 | []=>True
 | [_]=>True
 | a::b::r=>lt b a=false∧AdjR lt (b::r)
theorem AdjR.tail{α:Type}{lt:α→α→Bool}{a:α}{r:List α}(h:AdjR lt (a::r)):AdjR lt r:=by
 cases r with
 | nil=>trivial
 | cons b r=>exact h.2
theorem AdjR.at{α:Type}{lt:α→α→Bool}:∀ {l:List α},AdjR lt l→∀i (h:i+1<l.length),lt l[i+1] l[i]=false:=by
 intro l
 induction l with
 | nil=>intro _ i h;simp at h
 | cons a r ih=>
  intro h i hi
  cases r with
  | nil=>simp at hi
  | cons b r=>
   cases i with
   | zero=>exact h.1
   | succ i=>exact ih h.2 i (by simpa using hi)
theorem ZyM(u:U):Z4 (Zu9 u [])=[]∧(Zu9 u []).hq=false:=by
 have e:Zu9 u []=ZbZ u:=if_pos rfl;rw[e];unfold ZbZ Zbe Z4 ZaL
 split<;>exact⟨rfl,rfl⟩
end Go.Proofs.YtchkhibgbnhjpabGreatDoor
