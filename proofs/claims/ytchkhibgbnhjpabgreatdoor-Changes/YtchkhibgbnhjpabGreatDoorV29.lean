import Derived.Test.YtchkhibgbnhjpabGreatDoorV28
import Derived.ArgAppend
import Derived.Deep.RegionHeld
open Array renaming getElem?_eq_some_iff→Xa
open List renaming length_cons→Xc,foldl_cons→Xe,length_map→Xf,mem_append→Xg,mem_cons_of_mem→Xh,mem_singleton→Xi,map_cons→Xk,take_of_length_le→Xl,length_append→Xm,mem_map→Xn
open Nat renaming le_trans→Xb,zero_le→Xd,le_refl→Xj
namespace Go.Proofs.YtchkhibgbnhjpabGreatDoor
open Go.RowKit
set_option maxHeartbeats 8000000
set_option maxRecDepth 8000
theorem OwnP.nx{w w':World}{base:Nat}{v:Value}{ps:List Pq}(h:OwnP w base v ps)(hb:Nx w w'):OwnP w' base v ps:=
 World.ownsRow.kept h (row:=none) ⟨hb.os,hb.tape,hb.output,hb.size,fun k hk _=>hb.block k hk⟩ (by cases hv:v.ownBlock<;>simp)
theorem RowP.lt{w:World}{b off:Nat}{ps:List Pq}(h:RowP w b off ps):b<w.heap.size:=by obtain⟨cs,fz,h1,-⟩:=h;exact(Xa.1 h1).1
theorem RowP.take{w:World}{b off:Nat}{ps:List Pq}(h:RowP w b off ps)(k:Nat):RowP w b off (ps.take k):=by
 obtain⟨cs,fz,h1,h2⟩:=h
 refine⟨cs,fz,h1,fun i hi=>?_⟩
 rw[List.length_take]at hi
 have:=h2 i (by omega)
 rw[List.getElem_take];exact this
theorem RowP.cellsP{w:World}{b off:Nat}{ps:List Pq}(h:RowP w b off ps):∀(j:Nat) (u:Value),(cellsP ps)[j]?=some u→w.cell? ((⟨b,off,none⟩:Addr).add j)=some u:=by
 intro j u hu
 have hj:j<2*ps.length:=by rw[←cellsP_len];exact(List.getElem?_eq_some_iff.1 hu).1
 obtain⟨c0,c1⟩:=h.cell (i:=j/2) (by omega)
 obtain⟨g0,g1⟩:=ZcD ps (j/2) (by omega)
 rw[Addr.add_lit]
 have hm:j=j/2*2∨j=j/2*2+1:=by omega
 rcases hm with hm|hm
 ·rw[hm,g0]at hu
  rw[←Option.some.inj hu,show off+j=off+j/2*2 by omega]
  exact c0
 ·rw[hm,g1]at hu
  rw[←Option.some.inj hu,show off+j=off+j/2*2+1 by omega]
  exact c1
def PairB(w:World)(pp pb ub:Nat):Prop:=w.heap[pp]?=some (Obj.cells #[.pointer (some ⟨pb,0,none⟩),.pointer (some ⟨ub,0,none⟩)] 49 (0,0))
theorem PairB.on{w w':World}{pp pb ub:Nat}(h:PairB w pp pb ub)(hb:Nx w w'):PairB w' pp pb ub:=(hb.block pp (Xa.1 h).1).trans h
theorem PairB.lt{w:World}{pp pb ub:Nat}(h:PairB w pp pb ub):pp<w.heap.size:=(Xa.1 h).1
theorem PairB.cells{w:World}{pp pb ub:Nat}(h:PairB w pp pb ub):w.cell? ⟨pp,0,none⟩=some (.pointer (some ⟨pb,0,none⟩))∧w.cell? ⟨pp,1,none⟩=some (.pointer (some ⟨ub,0,none⟩)):=by
 unfold PairB at h
 constructor<;>simp[World.cell?,h]
structure Both (w:World) (u:U) (pb ub rb:Nat) (r:Rc) (bs:List ByteArray) (R:RR) (rs:List ByteArray) (v:Value) (ps:List Pq):Prop where
 url:UrlB w pb r
 rc:RcIs w r u bs
 ref:URB w ub rb v
 rcd:RB w rb R
 ris:RIs w R (toR u) rs
 pl:PlAt w v ps
 list:ps.map tl2=Zh u.q
 wk:Wk u
theorem Both.on{w w':World}{u:U}{pb ub rb:Nat}{r:Rc}{bs:LA}{R:RR}{rs:LA}{v:Value}{ps:List Pq}(h:Both w u pb ub rb r bs R rs v ps)(hb:Nx w w'):Both w' u pb ub rb r bs R rs v ps:=
 { h with url:=h.url.on hb,rc:=h.rc.on hb,ref:=h.ref.on hb,rcd:=h.rcd.on hb,ris:=h.ris.on hb,pl:=h.pl.on hb }
theorem ZmK(ps:List LB):ps.length≤pl ps:=by
 induction ps with
 | nil=>exact Xd _
 | cons s r ih=>
  have h1:=Zln [s] r;have h2:=ZoQ s;rw[show [s]++r=s::r from rfl]at h1;rw[Xc]
  omega
theorem ZsN{u:U}(h:Wk u){n:Nat}(hl:(pathU u).length≤n):u.segs.length≤n:=by
 cases ho:u.op
 ·have h1:=ZmK u.segs
  unfold pathU at hl
  rw[ho,if_neg (by decide)]at hl
  unfold pl at h1
  omega
 ·rw[(h.opq ho).1];exact Xd _
theorem Both.len{w:World}{u:U}{pb ub rb:Nat}{r:Rc}{bs:LA}{R:RR}{rs:LA}{v:Value}{ps:List Pq}(h:Both w u pb ub rb r bs R rs v ps):bs.length≤9000:=by
 have h1:=ZsN h.wk h.wk.path
 have h2:u.segs.length=bs.length:=by rw[←h.rc.segs,Xf]
 omega
def WB(w:World)(wb:Nat)(q:Bool)(us ps ts:Value):Prop:=w.heap[wb]?=some (Obj.cells #[.bool q,us,ps,ts] 43 (0,0))
theorem WB.on{w w':World}{wb:Nat}{q:Bool}{us ps ts:Value}(h:WB w wb q us ps ts)(hb:Nx w w'):WB w' wb q us ps ts:=(hb.block wb (Xa.1 h).1).trans h
theorem WB.facts{w:World}{wb:Nat}{q:Bool}{us ps ts:Value}(h:WB w wb q us ps ts):w.cell? ⟨wb,0,none⟩=some (.bool q)∧w.cell? ⟨wb,1,none⟩=some us∧w.cell? ⟨wb,2,none⟩=some ps∧w.cell? ⟨wb,3,none⟩=some ts∧wb<w.heap.size:=by
 have hl:=(Xa.1 h).1;unfold WB at h
 refine⟨?_,?_,?_,?_,hl⟩<;>simp[World.cell?,h]
theorem WB.free{w:World}{wb:Nat}{q:Bool}{us ps ts:Value}(h:WB w wb q us ps ts)(i:Nat):w.frozen? ⟨wb,i,none⟩=false:=by
 unfold WB at h
 simp[World.frozen?,h]
theorem StrIs.at{w:World}{base:Nat}{v:Value}{ss:LA}(h:StrIs w base v ss)(hl:ss.length≤1000000):ZbU w v ss:=by
 rcases h with⟨rfl,rfl⟩|⟨-,nb,-,rfl,hf⟩
 ·exact SlAt.nil w
 ·refine⟨some ⟨nb,0,none⟩,ss.length,rfl,Xj _,by unfold maxLen;omega,(fun g=>by cases g),fun a ha=>⟨nb,0,(Option.some.inj ha).symm,_,_,hf,fun i hi=>?_⟩⟩
  simp[hi]
theorem StrIs.on{w w':World}{base:Nat}{v:Value}{ss:LA}(h:StrIs w base v ss)(hb:Nx w w'):StrIs w' base v ss:=by
 rcases h with g|⟨h1,nb,h2,h3,h4⟩
 ·exact Or.inl g
 ·exact Or.inr ⟨h1,nb,h2,h3,h4.on hb⟩
def OpB(w:World)(ob:Nat)(k a b c:Int)(s t:ByteArray):Prop:=w.heap[ob]?=some (Obj.cells #[.int .i64 k,.int .i64 a,.int .i64 b,.int .i64 c,.string s,.string t] 45 (0,0))
theorem OpB.on{w w':World}{ob:Nat}{k a b c:Int}{s t:BA}(h:OpB w ob k a b c s t)(hb:Nx w w'):OpB w' ob k a b c s t:=(hb.block ob (Xa.1 h).1).trans h
theorem OpB.cells{w:World}{ob:Nat}{k a b c:Int}{s t:BA}(h:OpB w ob k a b c s t):w.cell? ⟨ob,2,none⟩=some (.int .i64 b)∧w.cell? ⟨ob,4,none⟩=some (.string s)∧w.cell? ⟨ob,5,none⟩=some (.string t):=by
 unfold OpB at h
 refine⟨?_,?_,?_⟩<;>simp[World.cell?,h]
theorem StrIs.slice{w:World}{base:Nat}{v:Value}{ss:LA}(h:StrIs w base v ss):∃ao cap,v=.slice ao ss.length cap:=by
 rcases h with⟨rfl,rfl⟩|⟨-,nb,-,rfl,-⟩
 ·exact⟨none,0,rfl⟩
 ·exact⟨_,_,rfl⟩
theorem Zjp(b:UInt8):(formByte b).length≤3:=by
 unfold formByte
 split
 ·decide
 ·unfold ZN
  split<;>simp
theorem Ze8{l:LB}(h:Cpt l):(ZaG l).length≤3*l.length:=by
 rw[ZbC h];clear h
 induction l with
 | nil=>exact Xd _
 | cons b r ih=>
  rw[List.flatMap_cons,Xm,Xc];have:=Zjp b
  omega
theorem Zkq(b:UInt8):Pr (formByte b):=by
 unfold formByte
 split
 ·exact ZaX (by decide) (by decide)
 ·have h:=ZcS formB [b]
  rw[Zdk]at h
  exact fun x hx=>h x (Xg.2 (Or.inl hx))
theorem Zhl{l:LB}(h:Cpt l):Pr (ZaG l):=by rw[ZbC h];intro x hx;obtain⟨b,-,hb⟩:=List.mem_flatMap.1 hx;exact Zkq b x hb
theorem Zq1{c:UInt8}(hc1:32≤c.toNat)(hc2:c.toNat≤126):∀ {ls:List LB},(∀a∈ls,Pr a)→Pr (Zbt c ls):=by
 intro ls
 induction ls with
 | nil=>intro _;exact pr_nil
 | cons a r ih=>
  intro h
  show Pr (if r=[]then a else a++c::Zbt c r)
  split
  ·exact h a (by simp)
  ·exact Zar (h a (by simp)) (ZcR hc1 hc2 (ih (fun b hb=>h b (Xh _ hb))))
theorem Zkr{ps:List (LB×LB)}(h:∀p∈ps,Zjd p):Pr (ZR ps):=by
 unfold ZR
 refine Zq1 (by decide) (by decide) (fun a ha=>?_)
 obtain⟨p,hp,rfl⟩:=Xn.1 ha
 exact Zar (Zhl (h p hp).1) (ZcR (by decide) (by decide) (Zhl (h p hp).2))
def ZcA(ps:List (List UInt8×List UInt8)):Nat:=(ps.map fun p=>3*(p.1.length+p.2.length)+2).sum
theorem Zh9{ps:List (LB×LB)}(h:∀p∈ps,Zjd p):(ZR ps).length≤ZcA ps:=by
 unfold ZR
 refine Xb (ZdL _ _) ?_
 induction ps with
 | nil=>exact Xd _
 | cons p r ih=>
  rw[Xk,sumL_cons]
  have h1:=Ze8 (h p (by simp)).1
  have h2:=Ze8 (h p (by simp)).2
  have h3:=ih (fun q hq=>h q (Xh _ hq))
  have e:ZcA (p::r)=3*(p.1.length+p.2.length)+2+ZcA r:=by simp[ZcA]
  rw[e]
  have h4:(writePr p).length=(ZaG p.1).length+((ZaG p.2).length+1):=by unfold writePr;rw[Xm,Xc]
  omega
theorem wide_app(a b:List (LB×LB)):ZcA (a++b)=ZcA a+ZcA b:=by simp[ZcA]
theorem Zpg(lt:LB×LB→LB×LB→Bool)(S:List (LB×LB))(x:LB×LB):ZcA (Zfg lt S x)=ZcA S+ZcA [x]:=by
 unfold Zfg;have e:=congrArg List.reverse (List.takeWhile_append_dropWhile (p:=lt x) (l:=S.reverse));rw[List.reverse_append,List.reverse_reverse]at e
 conv=>rhs;rw[←e]
 rw[wide_app,show x::(S.reverse.takeWhile (lt x)).reverse=[x]++(S.reverse.takeWhile (lt x)).reverse from rfl,wide_app,wide_app]
 omega
theorem Zjq(lt:LB×LB→LB×LB→Bool)(l:List (LB×LB)):ZcA (Zav lt l)=ZcA l:=by
 have key:∀(l S:List (LB×LB)),ZcA (l.foldl (Zfg lt) S)=ZcA S+ZcA l:=by
  intro l
  induction l with
  | nil=>intro S;rfl
  | cons x r ih=>
   intro S;rw[Xe,ih,Zpg,show x::r=[x]++r from rfl,wide_app]
   omega
 have h:=key l [];rw[show ZcA ([]:List (LB×LB))=0 from rfl,Nat.zero_add]at h;exact h
theorem Zq2(n:Int)(l:LB):(bcut (isB n) l).1.length+(bcut (isB n) l).2.1.length≤l.length:=by
 induction l with
 | nil=>exact Xd _
 | cons c r ih=>
  unfold bcut
  split
  ·simp
  ·simp only[Xc]
   omega
theorem Zph:∀ls:List LB,ZcA ((Ze9 ls).map ZbV)+9*ls.length≤9*ZgA ls+2*ls.length:=by
 intro ls
 induction ls with
 | nil=>exact Xd _
 | cons a r ih=>
  rw[sumL_cons,Xc]
  cases a with
  | nil=>
   rw[show Ze9 ([]::r)=Ze9 r from rfl];simp only[List.length_nil]
   omega
  | cons c p=>
   rw[show(Ze9 ((c::p)::r)).map ZbV=[ZbV (c::p)]++(Ze9 r).map ZbV from rfl,wide_app];generalize c::p=a;have h1:=ZdD (bcut (isB 61) a).1;have h2:=ZdD (bcut (isB 61) a).2.1;have h3:=Zq2 61 a
   have e:ZcA [ZbV a]=3*((Zb8 (bcut (isB 61) a).1).length+(Zb8 (bcut (isB 61) a).2.1).length)+2:=by simp[ZcA,ZbV]
   omega
theorem Zjr(l:LB):ZcA (Zh l)≤11*l.length+2:=by
 unfold Zh ZdY;have h:=Zhh 38 l;have h2:=Zph (bsplit 38 l)
 have h3:1≤(bsplit 38 l).length:=by
  obtain⟨p,q,e⟩:=Zb7 38 l;rw[e]
  simp
 omega
theorem FullP.far{w:World}{nb q:Nat}{ps:List Pq}(h:FullP w nb ps)(hq:nb≠q)(i:Nat)(u:Value):FullP (w.setCell ⟨q,i,none⟩ u) nb ps:=(Below.heap_setCell _ _ _ _ hq).trans h
theorem FullP.own{w:World}{nb base:Nat}{ps:List Pq}(h:FullP w nb ps)(hb:base≤nb)(hl:ps.length≤1000000):OwnP w base (.slice (some ⟨nb,0,none⟩) ps.length ps.length) ps:=by
 have hlen:=cellsP_len ps
 refine⟨by omega,Or.inr ⟨nb,ps.length,(cellsP ps).toArray,rfl,hb,h,Xj _,by unfold maxLen;omega,by simp;omega,?_⟩⟩
 exact Xl (by show(cellsP ps).length≤_;omega)
theorem Zks(v:Value)(ps:List Pq)(n x:BA)(valued:Bool)(w:World)(hp:PlAt w v ps)(hl:ps.length≤1000000)(hn:n.size≤1000000)(hx:x.size≤1000000):Calls Tryz.prog 119 #[v,.string n,.string x,.bool valued] w fun e w'=>∃r os,e=.returned r∧PlAt w' r os∧os.map tl2=(ps.map tl2).filter (fun p=>!hitP (clean (tl n)) (clean (tl x)) valued p)∧os.length≤ps.length∧Nx w w':=by
 have HD:=Za (ZeN v ps n x valued w hp hl hn hx);obtain⟨ao,cap,hve,-⟩:=id hp;subst hve;clear hp
 go_enter Tryz.func119,Tryz.ntmps119
 go_wp2_with fail
 refine HD.out.mono ?_
 rintro e w1 ⟨a,b,fs,os,rfl,-,ho,-,-,hm,-,hlo,hn1⟩;have HO:=Za (OwnP.at ho);have HM:=Za hm;have HN:=Za hn1;obtain⟨ao2,cp2,hv2⟩:=Zb4 ho;subst hv2;clear ho hm hn1 HD;go_wp2;go_ret;exact⟨_,os,rfl,HO.out,HM.out,hlo,HN.out⟩
theorem Zgg(v:Value)(ps:List Pq)(n x:BA)(w:World)(hp:PlAt w v ps)(hl:ps.length≤1000000)(hn:n.size≤1000000)(hx:x.size≤1000000):Calls Tryz.prog 118 #[v,.string n,.string x] w fun e w'=>(16≤ps.length∧e=.returned (.tuple #[.slice none 0 0,.int .i64 5])∧Nx w w')∨(¬16≤ps.length∧∃r qs,e=.returned (.tuple #[r,.int .i64 0])∧PlAt w' r qs∧qs.map tl2=ps.map tl2++[(clean (tl n),clean (tl x))]∧Nx w w'):=by
 have HD:=Za (Zlv v ps · · hl);have HP:=Za hp;obtain⟨ao,cap,hve,-⟩:=id hp;subst hve;clear hp
 by_cases h16:16≤ps.length
 ·go_enter Tryz.func118,Tryz.ntmps118
  go_wp2;go_ret2;exact Or.inl ⟨h16,rfl,Nx.rfl⟩
 ·go_enter Tryz.func118,Tryz.ntmps118
  go_wp2_with fail
  refine(HD.out _ HP.out).mono ?_
  rintro e w1 ⟨nb,hnb,rfl,hf,hn1⟩;have HF:=Za hf;have HN1:=Za hn1;have hz1:=hn1.size;have hnl:=hf.lt;clear hf hn1 HD HP;have HPB:=Za (PB.of_alloc w1 (⟨#[]⟩,⟨#[]⟩));have HN2:=Za (HN1.out.then (show Nx w1 (w1.alloc (Obj.cells #[.string ⟨#[]⟩,.string ⟨#[]⟩] 113))from Nx.rfl.alloc _));have HF2:=Za (HF.out.on (show Nx w1 (w1.alloc (Obj.cells #[.string ⟨#[]⟩,.string ⟨#[]⟩] 113))from Nx.rfl.alloc _));go_upto_region 5 with fail;generalize w1.alloc (Obj.cells #[.string ⟨#[]⟩,.string ⟨#[]⟩] 113)=w2 at *;generalize w1.heap.size=pb at *;go_wp2_with fail
  refine(Zbo n _ hn).mono ?_
  rintro e w3 ⟨nm,rfl,hnm,hn3⟩;have HNM:=Za hnm;have HN3:=Za (HN2.out.then hn3);have HF3:=Za (HF2.out.on hn3);have HPB3:=Za (HPB.out.on hn3);clear hnm hn3;obtain⟨k0,k1,f0,f1,hpl⟩:=HPB3.out.facts;have HPB4:=Za (HPB3.out.s0 (.string nm))
  have HF4:=Za (HF3.out.far (q:=pb) (by omega) 0 (.string nm))
  have HN4:=Za (show Nx w (w3.setCell ⟨pb,0,none⟩ (.string nm))from Below.setCell (p:=⟨pb,0,none⟩) HN3.out (by show w.heap.size≤pb;omega) _)
  go_upto_region 6 with fail;generalize w3.setCell ⟨pb,0,none⟩ (.string nm)=w4 at *;clear k0 k1 f0 f1;go_wp2_with fail
  refine(Zbo x _ hx).mono ?_
  rintro e w5 ⟨vl,rfl,hvl,hn5⟩;have HVL:=Za hvl;have HN5:=Za (HN4.out.then hn5);have HF5:=Za (HF4.out.on hn5);have HPB5:=Za (HPB4.out.on hn5);clear hvl hn5;obtain⟨k0,k1,f0,f1,hpl5⟩:=HPB5.out.facts;have HPB6:=Za (HPB5.out.s1 (.string vl))
  have HF6:=Za (HF5.out.far (q:=pb) (by omega) 1 (.string vl))
  have HN6:=Za (show Nx w (w5.setCell ⟨pb,1,none⟩ (.string vl))from Below.setCell (p:=⟨pb,1,none⟩) HN5.out (by show w.heap.size≤pb;omega) _)
  go_upto_region 7 with fail;generalize w5.setCell ⟨pb,1,none⟩ (.string vl)=w6 at *;clear k0 k1 f0 f1;obtain⟨k0,k1,f0,f1,hpl6⟩:=HPB6.out.facts;have hz6:=HN6.out.size;have HO:=Za (HF6.out.own (base:=w.heap.size) hnb hl)
  go_wp2_with (at_builtin;go_must (refine ZcI w6 (nm,vl) rfl _ _ rfl w.heap.size _ ps rfl HO.out rfl (by omega) hz6 ?_;intro v' w7 ho7 hb7 _;have H7:=Za ho7;clear ho7))
  obtain⟨ao7,cp7,hv7⟩:=Zb4 H7.out;subst hv7;go_ret2
  exact Or.inr ⟨h16,_,ps++[(nm,vl)],rfl,OwnP.at H7.out,by rw[List.map_append,Xk,List.map_nil];show _=_++[(clean (tl n),clean (tl x))];rw[←HNM.out,←HVL.out];rfl,HN6.out.trans hb7⟩
def Zaj{α:Type}(hit:α→Bool)(x:α)(acc:List α×Bool)(p:α):List α×Bool:=if hit p=true then(if acc.2=true then acc else(acc.1++[x],true))else(acc.1++[p],acc.2)
def Zes{α:Type}(hit:α→Bool)(x:α)(l:List α):List α×Bool:=l.foldl (Zaj hit x) ([],false)
theorem Zpi{α:Type}(hit:α→Bool)(x:α)(l:List α)(k:Nat)(h:k<l.length):Zes hit x (l.take (k+1))=Zaj hit x (Zes hit x (l.take k)) l[k]:=by
 unfold Zes;rw[List.take_succ_eq_append_getElem h,List.foldl_append]
 rfl
theorem Zq3{α β:Type}(f:α→β)(hit:α→Bool)(hit':β→Bool)(h:∀p,hit p=hit' (f p))(x:α)(l:List α):((Zes hit x l).1.map f,(Zes hit x l).2)=Zes hit' (f x) (l.map f):=by
 have key:∀(l:List α) (acc:List α×Bool),((l.foldl (Zaj hit x) acc).1.map f,(l.foldl (Zaj hit x) acc).2)=(l.map f).foldl (Zaj hit' (f x)) (acc.1.map f,acc.2):=by
  intro l
  induction l with
  | nil=>intro acc;rfl
  | cons p r ih=>
   intro acc;rw[Xe,ih,Xk,Xe]
   congr 1
   unfold Zaj;rw[←h p]
   cases hit p
   ·simp
   ·obtain⟨g,b⟩:=acc
    cases b<;>simp
 exact key l ([],false)
theorem Zq4{α:Type}(hit:α→Bool)(x:α)(l:List α):(Zes hit x l).1.length≤l.length:=by
 have key:∀(l:List α) (acc:List α×Bool),(l.foldl (Zaj hit x) acc).1.length≤acc.1.length+l.length:=by
  intro l
  induction l with
  | nil=>intro acc;exact Xj _
  | cons p r ih=>
   intro acc;rw[Xe]
   refine Xb (ih _) ?_
   unfold Zaj
   split
   ·split
    ·simp
    ·simp;omega
   ·simp;omega
 have h:=key l ([],false)
 rw[show([]:List α).length+l.length=l.length by simp]at h
 exact h
theorem Zq5(v:Value)(ps:List Pq)(n x:BA)(w:World)(hp:PlAt w v ps)(hl:ps.length≤1000000)(hn:n.size≤1000000)(hx:x.size≤1000000):
  Calls Tryz.prog 120 #[v,.string n,.string x] w fun e w'=>
   ((Zes (fun p=>p.1==clean (tl n)) (clean (tl n),clean (tl x)) (ps.map tl2)).2=true∧∃r qs,e=.returned (.tuple #[r,.int .i64 0])∧PlAt w' r qs∧qs.map tl2=(Zes (fun p=>p.1==clean (tl n)) (clean (tl n),clean (tl x)) (ps.map tl2)).1∧Nx w w') ∨
   ((Zes (fun p=>p.1==clean (tl n)) (clean (tl n),clean (tl x)) (ps.map tl2)).2=false∧((16≤ps.length∧e=.returned (.tuple #[.slice none 0 0,.int .i64 5])∧Nx w w')∨(¬16≤ps.length∧∃r qs,e=.returned (.tuple #[r,.int .i64 0])∧PlAt w' r qs∧qs.map tl2=ps.map tl2++[(clean (tl n),clean (tl x))]∧Nx w w'))):=by
 have HAP:=Za (fun w' h=>Zgg v ps n x w' h hl hn hx)
 have HP:=Za hp;obtain⟨ao,cap,rfl,hlc,hcap,hnone,hsome⟩:=hp;unfold maxLen at hcap
 go_enter Tryz.func120,Tryz.ntmps120
 go_wp2_with fail
 refine(Zbo n _ hn).mono ?_
 rintro e w1 ⟨nm,rfl,hnm,hn1⟩;have HN1:=Za hn1;have HNM:=Za hnm;clear hn1 hnm;go_wp2_with fail
 refine(Zbo x _ hx).mono ?_
 rintro e w2 ⟨vl,rfl,hvl,hn2⟩;have HN2:=Za (HN1.out.then hn2);have HVL:=Za hvl;have hz2:=HN2.out.size
 have HG:=Za ((Zq3 tl2 (nameQ nm) (fun p=>p.1==clean (tl n)) (fun p=>by unfold nameQ tl2;rw[ByteArray.toList_eq,ByteArray.toList_eq,←HNM.out];rfl) (nm,vl) ps).trans (show Zes _ (tl2 (nm,vl)) _=Zes (fun p=>p.1==clean (tl n)) (clean (tl n),clean (tl x)) (ps.map tl2)by rw[show tl2 (nm,vl)=(clean (tl n),clean (tl x))by rw[←HNM.out,←hvl];rfl]))
 clear hn2 hvl HN1;go_wp2
 go_loopw [10,11,12] (fun o f i wr=>∃k:Nat,k≤ps.length∧i=.int .i64 k∧OwnP wr w.heap.size o (Zes (nameQ nm) (nm,vl) (ps.take k)).1∧f=.bool (Zes (nameQ nm) (nm,vl) (ps.take k)).2∧Nx w wr) (fun _ _ i _=>ps.length-(intOf i).toNat)
 case atStart=>exact⟨0,Xd _,rfl,ZeM w2 _ hz2,rfl,HN2.out.then (Nx.rfl.alloc _)⟩
 case round=>
  obtain⟨k,hk,rfl,hO1,rfl,hnx⟩:=hrel;have HO1:=Za hO1;have HN:=Za hnx;have hzr:=hnx.size;clear hO1
  by_cases hlt:k<ps.length
  ·obtain⟨a,ha⟩:=Za6 hlt hnone
   subst ha;obtain⟨b,off,rfl,hr⟩:=hsome a rfl;obtain⟨c0,c1⟩:=(hr.on hnx).cell hlt;have HS1:=Za (Zpi (nameQ nm) (nm,vl) ps k hlt)
   have hl1:(Zes (nameQ nm) (nm,vl) (ps.take k)).1.length<1000000000000:=by
    have h1:=Zq4 (nameQ nm) (nm,vl) (ps.take k);have h2:=List.length_take_le k ps
    omega
   clear hnone hsome hr hnx;generalize ps[k]=c at *;obtain⟨cn,cv⟩:=c;simp only at c0 c1;generalize Zes (nameQ nm) (nm,vl) (ps.take k)=G at *;obtain⟨gl,gf⟩:=G;simp only at HO1 hl1;have HQ:=Za (show nameQ nm (cn,cv)=(cn.toList==nm.toList)from rfl)
   cases hd1:(cn.toList==nm.toList)
   ·have hd1':(cn.toList != nm.toList)=true:=Zkp hd1
    have HM:=Za (show Zaj (nameQ nm) (nm,vl) (gl,gf) (cn,cv)=(gl++[(cn,cv)],gf)from if_neg (by rw[HQ.out,hd1];decide))
    clear HQ
    go_wp2_with (at_builtin;go_must (refine ZcI wr (cn,cv) rfl _ _ rfl w.heap.size _ _ rfl HO1.out rfl hl1 hzr ?_;intro v' w3 ho1 hb3 _;have HA:=Za ho1;clear ho1))
    go_roundw
    case rel=>exact⟨k+1,by omega,by go_num,by rw[HS1.out,HM.out];exact HA.out,by rw[HS1.out,HM.out],HN.out.trans hb3⟩
    case measure=>simp[intOf];omega
   ·have hd1':(cn.toList != nm.toList)=false:=ZgB hd1
    cases gf
    ·have HM:=Za (show Zaj (nameQ nm) (nm,vl) (gl,false) (cn,cv)=(gl++[(nm,vl)],true)by unfold Zaj;rw[if_pos (by rw[HQ.out,hd1]),if_neg (by intro x;cases x)])
     clear HQ
     go_wp2_with (at_builtin;go_must (refine ZcI wr (nm,vl) rfl _ _ rfl w.heap.size _ _ rfl HO1.out rfl hl1 hzr ?_;intro v' w3 ho1 hb3 _;have HA:=Za ho1;clear ho1))
     go_roundw
     case rel=>exact⟨k+1,by omega,by go_num,by rw[HS1.out,HM.out];exact HA.out,by rw[HS1.out,HM.out],HN.out.trans hb3⟩
     case measure=>simp[intOf];omega
    ·have HM:=Za (show Zaj (nameQ nm) (nm,vl) (gl,true) (cn,cv)=(gl,true)by unfold Zaj;rw[if_pos (by rw[HQ.out,hd1]),if_pos rfl])
     clear HQ;go_wp2
     go_roundw
     case rel=>exact⟨k+1,by omega,by go_num,by rw[HS1.out,HM.out];exact HO1.out,by rw[HS1.out,HM.out],HN.out⟩
     case measure=>simp[intOf];omega
  ·have e:ps.take k=ps:=Xl (by omega)
   rw[e]
   have HF1:=Za (show OwnP wr w.heap.size _ (Zes (nameQ nm) (nm,vl) ps).1 by have h:=HO1.out;rw[e]at h;exact h)
   clear hnone hsome hnx e HO1;generalize Zes (nameQ nm) (nm,vl) ps=G at *;obtain⟨gl,gf⟩:=G;simp only at HF1
   cases gf
   ·go_wp2_with fail
    refine(HAP.out _ (HP.out.on HN.out)).mono ?_
    rintro e w4 h4;rcases h4 with⟨h16,rfl,hn4⟩|⟨h16,r4,qs4,rfl,hp4,hq4,hn4⟩
    ·have HN4:=Za (HN.out.then hn4)
     clear hn4;go_wp2;go_ret2
     exact Or.inr ⟨by rw[←HG.out],Or.inl ⟨h16,rfl,HN4.out⟩⟩
    ·have HN4:=Za (HN.out.then hn4)
     have HP4:=Za hp4;have HQ4:=Za hq4;obtain⟨ao4,cp4,hv4,-⟩:=id hp4;subst hv4;clear hn4 hp4 hq4;go_wp2;go_ret2
     exact Or.inr ⟨by rw[←HG.out],Or.inr ⟨h16,_,qs4,rfl,HP4.out,HQ4.out,HN4.out⟩⟩
   ·obtain⟨ao4,cp4,hv4⟩:=Zb4 HF1.out
    subst hv4;go_wp2;go_ret2
    refine Or.inl ⟨?_,?_⟩
    ·rw[←HG.out]
    ·refine⟨_,rfl,gl,OwnP.at HF1.out,?_,HN.out⟩
     rw[←HG.out]
abbrev Lp:=List (List UInt8×List UInt8)
def Zpj(n v:List UInt8)(L:Lp):Except Int Lp:=if 160<n.length∨160<v.length then .error 1 else if 16≤L.length then .error 5 else .ok (L++[(clean n,clean v)])
def Zq6(n v:List UInt8)(valued:Bool)(L:Lp):Except Int Lp:=if 160<n.length∨160<v.length then .error 1 else .ok (L.filter (fun p=>!hitP (clean n) (clean v) valued p))
def Zna(n v:List UInt8)(L:Lp):Except Int Lp:=if 160<n.length∨160<v.length then .error 1 else if(Zes (fun p=>p.1==clean n) (clean n,clean v) L).2=true then .ok (Zes (fun p=>p.1==clean n) (clean n,clean v) L).1 else if 16≤L.length then .error 5 else .ok (L++[(clean n,clean v)])
def LstIs(e:Ending)(w w':World)(pb:Nat)(bs:List ByteArray)(u:U):Except Int Lp→Prop
 | .error k=>e=.returned (.int .i64 k)∧Nx w w'
 | .ok S=>e=.returned (.int .i64 0)∧(∃r',UrlB w' pb r'∧RcIs w' r' (ZS u S) bs)∧But pb w w'
structure FitL (S:Lp):Prop where
 cl:∀p∈S,Zjd p
 wd:ZcA S≤100000
theorem ZaY(p:LB×LB)(S:Lp):ZcA (p::S)=3*(p.1.length+p.2.length)+2+ZcA S:=by simp[ZcA]
theorem FitL.len{S:Lp}(h:FitL S):S.length≤1000000:=by
 have key:∀S:Lp,S.length≤ZcA S:=by
  intro S
  induction S with
  | nil=>exact Xd _
  | cons p r ih=>rw[ZaY,Xc];omega
 have:=key S;have:=h.wd
 omega
theorem FitL.each{S:Lp}(h:FitL S):∀p∈S,p.1.length≤1000000∧p.2.length≤1000000:=by
 have key:∀S:Lp,∀p∈S,3*(p.1.length+p.2.length)+2≤ZcA S:=by
  intro S
  induction S with
  | nil=>intro p hp;cases hp
  | cons q r ih=>
   intro p hp;rw[ZaY];rcases List.mem_cons.1 hp with rfl|hp
   ·omega
   ·have:=ih p hp;omega
 intro p hp;have:=key S p hp;have:=h.wd
 omega
theorem FitL.written{S:Lp}(h:FitL S):(ZR S).length≤300000:=by
 have:=Zh9 h.cl;have:=h.wd
 omega
theorem ZdM{l:LB}(h:l.length≤4320):FitL (Zh l)∧ZcA (Zh l)≤48000:=by
 have:=Zjr l
 exact⟨⟨ZeJ l,by omega⟩,by omega⟩
theorem Zgh(f:LB×LB→Bool)(S:Lp):ZcA (S.filter f)≤ZcA S:=by
 induction S with
 | nil=>exact Xj _
 | cons p r ih=>
  rw[List.filter_cons]
  split
  ·rw[ZaY,ZaY];omega
  ·rw[ZaY];omega
theorem Zkt{n v:LB}{L:Lp}(hn:n.length≤160)(hv:v.length≤160)(h:FitL L)(hw:ZcA L≤48000):FitL (L++[(clean n,clean v)]):=by
 have h1:=Za9 n;have h2:=Za9 v
 refine⟨fun p hp=>?_,?_⟩
 ·rcases Xg.1 hp with hp|hp
  ·exact h.cl p hp
  ·rw[Xi]at hp
   subst hp;exact⟨Zeo _,Zeo _⟩
 ·rw[wide_app,ZaY]
  have:ZcA ([]:Lp)=0:=rfl;simp only
  omega
theorem Zlw{hit:LB×LB→Bool}{n v:LB}{L:Lp}(hn:n.length≤160)(hv:v.length≤160)(h:FitL L)(hw:ZcA L≤48000):FitL (Zes hit (clean n,clean v) L).1:=by
 have h1:=Za9 n;have h2:=Za9 v
 have hx:ZcA [(clean n,clean v)]≤3*(480+480)+2:=by
  rw[ZaY];have:ZcA ([]:Lp)=0:=rfl;simp only
  omega
 have key:∀(L:Lp) (acc:Lp×Bool),(∀p∈acc.1,Zjd p)→(∀p∈L,Zjd p)→(∀p∈(L.foldl (Zaj hit (clean n,clean v)) acc).1,Zjd p)∧ZcA (L.foldl (Zaj hit (clean n,clean v)) acc).1≤ZcA acc.1+ZcA L+(if acc.2=true then 0 else ZcA [(clean n,clean v)]):=by
  intro L
  induction L with
  | nil=>intro acc ha _;exact⟨ha,by show ZcA acc.1≤_;omega⟩
  | cons p r ih=>
   intro acc ha hl;rw[Xe]
   have hr:∀q∈r,Zjd q:=fun q hq=>hl q (Xh _ hq)
   obtain⟨g,b⟩:=acc;simp only at ha;unfold Zaj
   split
   ·simp only
    split
    ·next hb=>
     have hb':b=true:=hb;subst hb';obtain⟨k1,k2⟩:=ih (g,true) ha hr
     refine⟨k1,Xb k2 ?_⟩
     rw[ZaY p r];simp only[if_pos]
     omega
    ·next hb=>
     obtain⟨k1,k2⟩:=ih (g++[(clean n,clean v)],true) (fun q hq=>by
      rcases Xg.1 hq with hq|hq
      ·exact ha q hq
      ·rw[Xi]at hq
       subst hq
       exact⟨Zeo _,Zeo _⟩) hr
     refine⟨k1,Xb k2 ?_⟩
     simp only[if_pos,wide_app];rw[ZaY p r]
     omega
   ·simp only
    obtain⟨k1,k2⟩:=ih (g++[p],b) (fun q hq=>by
      rcases Xg.1 hq with hq|hq
      ·exact ha q hq
      ·rw[Xi]at hq
       subst hq
       exact hl q (by simp)) hr
    refine⟨k1,Xb k2 ?_⟩
    simp only[wide_app];rw[ZaY p r,ZaY p []];have:ZcA ([]:Lp)=0:=rfl
    omega
 obtain⟨k1,k2⟩:=key L ([],false) (fun p hp=>by cases hp) h.cl
 refine⟨k1,Xb k2 ?_⟩
 have:ZcA ([]:Lp)=0:=rfl
 simp only[if_neg (show ¬false=true by decide)]
 omega
theorem ZcJ{qs:List Pq}{S:Lp}(h:FitL S)(e:qs.map tl2=S):qs.length≤1000000∧∀p∈qs,p.1.size≤1000000∧p.2.size≤1000000:=by
 refine⟨by rw[←Xf (f:=tl2),e];exact h.len,fun p hp=>?_⟩
 have:=h.each (tl2 p) (by rw[←e];exact Xn.2 ⟨p,hp,rfl⟩)
 rw[←tl_length,←tl_length];exact this
theorem Zku(pb:Nat)(r:Rc)(u:U)(bs:LA)(n x:BA)(w:World)(hu:UrlB w pb r)(hr:RcIs w r u bs)(hq:u.q.length≤4320)(hn:n.size≤maxLen)(hx:x.size≤maxLen):Calls Tryz.prog 60 #[.pointer (some ⟨pb,0,none⟩),.string n,.string x] w fun e w'=>LstIs e w w' pb bs u (Zpj (tl n) (tl x) (Zh u.q)):=by
 have HU:=Za hu;have HR:=Za hr;have HLQ:=Za (Zgd hr);obtain⟨hfit,hwd⟩:=ZdM hq;have HFT:=Za hfit;have HWD:=Za hwd
 have HL:=Za (fun w' h1 h2=>Zb0 pb r u bs w' h1 h2)
 clear hu hr hq hfit hwd
 go_enter Tryz.func60,Tryz.ntmps60
 go_wp2_with fail
 refine(Zce n x _ hn hx).mono ?_
 rintro e w' ⟨rfl,rfl⟩
 by_cases hlong:160<n.size∨160<x.size
 ·rw[decide_eq_true hlong]
  have HM:=Za (show Zpj (tl n) (tl x) (Zh u.q)=.error 1 from if_pos (by rw[tl_length,tl_length];exact hlong))
  clear hlong;go_wp2;go_ret;rw[HM.out];exact⟨rfl,Nx.rfl⟩
 ·rw[decide_eq_false hlong]
  have HNL:=Za (show n.size≤160∧x.size≤160 by omega)
  have HM:=Za (show Zpj (tl n) (tl x) (Zh u.q)=if 16≤(Zh u.q).length then .error 5 else .ok (Zh u.q++[(clean (tl n),clean (tl x))])from if_neg (by rw[tl_length,tl_length];exact hlong))
  clear hlong;go_wp2_with fail
  refine(HL.out _ HU.out HR.out).mono ?_
  rintro e w1 ⟨v,ps,rfl,h1,h2,h3⟩;have hc:=ZaB h2 HLQ.out;have HA:=Za (h1.at hc)
  have HLN:=Za (show(Zh u.q).length=ps.length by rw[←h2,Xf])
  have H2:=Za h2;have HN:=Za h3;obtain⟨ao,cap,rfl⟩:=h1.slice;clear h1 h2 h3;go_wp2_with fail
  refine(Zgg _ ps n x _ HA.out hc (Xb HNL.out.1 (by decide)) (Xb HNL.out.2 (by decide))).mono ?_
  rintro e w2 h4;rcases h4 with⟨h16,rfl,hn4⟩|⟨h16,r4,qs,rfl,hp4,hq4,hn4⟩
  ·have HM2:=Za (show Zpj (tl n) (tl x) (Zh u.q)=.error 5 by rw[HM.out,if_pos (by rw[HLN.out];exact h16)])
   have HN4:=Za (HN.out.then hn4);clear hn4 h16 HM;go_wp2;go_ret;rw[HM2.out];exact⟨rfl,HN4.out⟩
  ·have HM2:=Za (show Zpj (tl n) (tl x) (Zh u.q)=.ok (Zh u.q++[(clean (tl n),clean (tl x))])by rw[HM.out,if_neg (by rw[HLN.out];exact h16)])
   have HN4:=Za (HN.out.then hn4);have HP4:=Za hp4
   have HQ4:=Za (show qs.map tl2=Zh u.q++[(clean (tl n),clean (tl x))]by rw[hq4,H2.out])
   have HFA:=Za (Zkt (n:=tl n) (v:=tl x) (by rw[tl_length];exact HNL.out.1) (by rw[tl_length];exact HNL.out.2) HFT.out HWD.out)
   obtain⟨hql,hqz⟩:=ZcJ HFA.out HQ4.out;have HQZ:=Za hqz;obtain⟨ao4,cp4,hv4,-⟩:=id hp4;subst hv4;clear hn4 hp4 hq4 h16 HM hqz;go_wp2_with fail
   refine(Zcf pb r u bs _ qs _ (HU.out.on HN4.out) (HR.out.on HN4.out) HP4.out hql HQZ.out (by rw[HQ4.out];exact HFA.out.written)).mono ?_
   rintro e w3 ⟨rfl,hx3,hbt⟩;rw[HQ4.out]at hx3;have HX:=Za hx3;have HBT:=Za ((But.nx HN4.out).then hbt);clear hx3 hbt;go_wp2;go_ret;rw[HM2.out];exact⟨rfl,HX.out,HBT.out⟩
theorem Zkv(pb:Nat)(r:Rc)(u:U)(bs:LA)(n x:BA)(valued:Bool)(w:World)(hu:UrlB w pb r)(hr:RcIs w r u bs)(hq:u.q.length≤4320)(hn:n.size≤maxLen)(hx:x.size≤maxLen):Calls Tryz.prog 61 #[.pointer (some ⟨pb,0,none⟩),.string n,.string x,.bool valued] w fun e w'=>LstIs e w w' pb bs u (Zq6 (tl n) (tl x) valued (Zh u.q)):=by
 have HU:=Za hu;have HR:=Za hr;have HLQ:=Za (Zgd hr);obtain⟨hfit,hwd⟩:=ZdM hq;have HFT:=Za hfit;have HWD:=Za hwd
 have HL:=Za (fun w' h1 h2=>Zb0 pb r u bs w' h1 h2)
 clear hu hr hq hfit hwd
 go_enter Tryz.func61,Tryz.ntmps61
 go_wp2_with fail
 refine(Zce n x _ hn hx).mono ?_
 rintro e w' ⟨rfl,rfl⟩
 by_cases hlong:160<n.size∨160<x.size
 ·rw[decide_eq_true hlong]
  have HM:=Za (show Zq6 (tl n) (tl x) valued (Zh u.q)=.error 1 from if_pos (by rw[tl_length,tl_length];exact hlong))
  clear hlong;go_wp2;go_ret;rw[HM.out];exact⟨rfl,Nx.rfl⟩
 ·rw[decide_eq_false hlong]
  have HNL:=Za (show n.size≤160∧x.size≤160 by omega)
  have HM:=Za (show Zq6 (tl n) (tl x) valued (Zh u.q)=.ok ((Zh u.q).filter (fun p=>!hitP (clean (tl n)) (clean (tl x)) valued p))from if_neg (by rw[tl_length,tl_length];exact hlong))
  clear hlong;go_wp2_with fail
  refine(HL.out _ HU.out HR.out).mono ?_
  rintro e w1 ⟨v,ps,rfl,h1,h2,h3⟩;have hc:=ZaB h2 HLQ.out;have HA:=Za (h1.at hc);have H2:=Za h2;have HN:=Za h3;obtain⟨ao,cap,rfl⟩:=h1.slice;clear h1 h2 h3;go_wp2_with fail
  refine(Zks _ ps n x valued _ HA.out hc (Xb HNL.out.1 (by decide)) (Xb HNL.out.2 (by decide))).mono ?_
  rintro e w2 ⟨r4,qs,rfl,hp4,hq4,-,hn4⟩;have HN4:=Za (HN.out.then hn4);have HP4:=Za hp4
  have HQ4:=Za (show qs.map tl2=(Zh u.q).filter (fun p=>!hitP (clean (tl n)) (clean (tl x)) valued p)by rw[hq4,H2.out])
  have HFA:=Za (show FitL ((Zh u.q).filter (fun p=>!hitP (clean (tl n)) (clean (tl x)) valued p))from⟨fun p hp=>HFT.out.cl p ((List.mem_filter.1 hp).1),Xb (Zgh _ _) HFT.out.wd⟩)
  obtain⟨hql,hqz⟩:=ZcJ HFA.out HQ4.out;have HQZ:=Za hqz;obtain⟨ao4,cp4,hv4,-⟩:=id hp4;subst hv4;clear hn4 hp4 hq4 hqz;go_wp2_with fail
  refine(Zcf pb r u bs _ qs _ (HU.out.on HN4.out) (HR.out.on HN4.out) HP4.out hql HQZ.out (by rw[HQ4.out];exact HFA.out.written)).mono ?_
  rintro e w3 ⟨rfl,hx3,hbt⟩;rw[HQ4.out]at hx3;have HX:=Za hx3;have HBT:=Za ((But.nx HN4.out).then hbt);clear hx3 hbt;go_wp2;go_ret;rw[HM.out];exact⟨rfl,HX.out,HBT.out⟩
theorem Zq7(pb:Nat)(r:Rc)(u:U)(bs:LA)(n x:BA)(w:World)(hu:UrlB w pb r)(hr:RcIs w r u bs)(hq:u.q.length≤4320)(hn:n.size≤maxLen)(hx:x.size≤maxLen):Calls Tryz.prog 62 #[.pointer (some ⟨pb,0,none⟩),.string n,.string x] w fun e w'=>LstIs e w w' pb bs u (Zna (tl n) (tl x) (Zh u.q)):=by
 have HU:=Za hu;have HR:=Za hr;have HLQ:=Za (Zgd hr);obtain⟨hfit,hwd⟩:=ZdM hq;have HFT:=Za hfit;have HWD:=Za hwd
 have HL:=Za (fun w' h1 h2=>Zb0 pb r u bs w' h1 h2)
 clear hu hr hq hfit hwd
 go_enter Tryz.func62,Tryz.ntmps62
 go_wp2_with fail
 refine(Zce n x _ hn hx).mono ?_
 rintro e w' ⟨rfl,rfl⟩
 by_cases hlong:160<n.size∨160<x.size
 ·rw[decide_eq_true hlong]
  have HM:=Za (show Zna (tl n) (tl x) (Zh u.q)=.error 1 from if_pos (by rw[tl_length,tl_length];exact hlong))
  clear hlong;go_wp2;go_ret;rw[HM.out];exact⟨rfl,Nx.rfl⟩
 ·rw[decide_eq_false hlong]
  have HNL:=Za (show n.size≤160∧x.size≤160 by omega)
  have HM:=Za (show Zna (tl n) (tl x) (Zh u.q)=if(Zes (fun p=>p.1==clean (tl n)) (clean (tl n),clean (tl x)) (Zh u.q)).2=true then .ok (Zes (fun p=>p.1==clean (tl n)) (clean (tl n),clean (tl x)) (Zh u.q)).1 else if 16≤(Zh u.q).length then .error 5 else .ok (Zh u.q++[(clean (tl n),clean (tl x))])from if_neg (by rw[tl_length,tl_length];exact hlong))
  clear hlong;go_wp2_with fail
  refine(HL.out _ HU.out HR.out).mono ?_
  rintro e w1 ⟨v,ps,rfl,h1,h2,h3⟩;have hc:=ZaB h2 HLQ.out;have HA:=Za (h1.at hc)
  have HLN:=Za (show(Zh u.q).length=ps.length by rw[←h2,Xf])
  have H2:=Za h2;have HN:=Za h3;obtain⟨ao,cap,rfl⟩:=h1.slice;clear h1 h2 h3;go_wp2_with fail
  refine(Zq5 _ ps n x _ HA.out hc (Xb HNL.out.1 (by decide)) (Xb HNL.out.2 (by decide))).mono ?_
  rintro e w2 h4;rw[H2.out]at h4;rcases h4 with⟨hgf,r4,qs,rfl,hp4,hq4,hn4⟩|⟨hgf,⟨h16,rfl,hn4⟩|⟨h16,r4,qs,rfl,hp4,hq4,hn4⟩⟩
  ·have HM2:=Za (show Zna (tl n) (tl x) (Zh u.q)=.ok (Zes (fun p=>p.1==clean (tl n)) (clean (tl n),clean (tl x)) (Zh u.q)).1 by rw[HM.out,if_pos hgf])
   have HN4:=Za (HN.out.then hn4);have HP4:=Za hp4;have HQ4:=Za hq4
   have HFA:=Za (Zlw (hit:=fun p=>p.1==clean (tl n)) (n:=tl n) (v:=tl x) (by rw[tl_length];exact HNL.out.1) (by rw[tl_length];exact HNL.out.2) HFT.out HWD.out)
   obtain⟨hql,hqz⟩:=ZcJ HFA.out HQ4.out;have HQZ:=Za hqz;obtain⟨ao4,cp4,hv4,-⟩:=id hp4;subst hv4;clear hn4 hp4 hq4 HM hqz hgf;go_wp2_with fail
   refine(Zcf pb r u bs _ qs _ (HU.out.on HN4.out) (HR.out.on HN4.out) HP4.out hql HQZ.out (by rw[HQ4.out];exact HFA.out.written)).mono ?_
   rintro e w3 ⟨rfl,hx3,hbt⟩;rw[HQ4.out]at hx3;have HX:=Za hx3;have HBT:=Za ((But.nx HN4.out).then hbt);clear hx3 hbt;go_wp2;go_ret;rw[HM2.out];exact⟨rfl,HX.out,HBT.out⟩
  ·have HM2:=Za (show Zna (tl n) (tl x) (Zh u.q)=.error 5 by rw[HM.out,if_neg (by rw[hgf];decide),if_pos (by rw[HLN.out];exact h16)])
   have HN4:=Za (HN.out.then hn4);clear hn4 h16 HM hgf;go_wp2;go_ret;rw[HM2.out];exact⟨rfl,HN4.out⟩
  ·have HM2:=Za (show Zna (tl n) (tl x) (Zh u.q)=.ok (Zh u.q++[(clean (tl n),clean (tl x))])by rw[HM.out,if_neg (by rw[hgf];decide),if_neg (by rw[HLN.out];exact h16)])
   have HN4:=Za (HN.out.then hn4);have HP4:=Za hp4
   have HQ4:=Za (show qs.map tl2=Zh u.q++[(clean (tl n),clean (tl x))]by rw[hq4])
   have HFA:=Za (Zkt (n:=tl n) (v:=tl x) (by rw[tl_length];exact HNL.out.1) (by rw[tl_length];exact HNL.out.2) HFT.out HWD.out)
   obtain⟨hql,hqz⟩:=ZcJ HFA.out HQ4.out;have HQZ:=Za hqz;obtain⟨ao4,cp4,hv4,-⟩:=id hp4;subst hv4;clear hn4 hp4 hq4 h16 HM hqz hgf;go_wp2_with fail
   refine(Zcf pb r u bs _ qs _ (HU.out.on HN4.out) (HR.out.on HN4.out) HP4.out hql HQZ.out (by rw[HQ4.out];exact HFA.out.written)).mono ?_
   rintro e w3 ⟨rfl,hx3,hbt⟩;rw[HQ4.out]at hx3;have HX:=Za hx3;have HBT:=Za ((But.nx HN4.out).then hbt);clear hx3 hbt;go_wp2;go_ret;rw[HM2.out];exact⟨rfl,HX.out,HBT.out⟩
end Go.Proofs.YtchkhibgbnhjpabGreatDoor
