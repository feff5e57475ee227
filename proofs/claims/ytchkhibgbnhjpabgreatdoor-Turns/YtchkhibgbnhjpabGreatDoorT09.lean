import Derived.Test.YtchkhibgbnhjpabGreatDoorT08
import Derived.ArgAppend
import Derived.Deep.RegionHeld
open Array renaming getElem?_eq_some_iff→Xa
open List renaming length_cons→Xc,length_pos_of_mem→Xd,mem_cons_of_mem→Xe,length_append→Xf,getElem_mem→Xg,mem_filter→Xh,mem_map→Xi
open Nat renaming zero_le→Xb
namespace Go.Proofs.YtchkhibgbnhjpabGreatDoor
open Go.RowKit
set_option maxHeartbeats 8000000
set_option maxRecDepth 8000
theorem OwnP.nx{w w':World}{base:Nat}{v:Value}{ps:List Pq}(h:OwnP w base v ps)(hb:Nx w w'):OwnP w' base v ps:=
 World.ownsRow.kept h (row:=none) ⟨hb.os,hb.tape,hb.output,hb.size,fun k hk _=>hb.block k hk⟩ (by cases hv:v.ownBlock<;>simp)
theorem RowP.same{w w':World}{b off:Nat}{ps:List Pq}(h:RowP w b off ps)(hb:w'.heap[b]?=w.heap[b]?):RowP w' b off ps:=by obtain⟨cs,fz,h1,h2⟩:=h;exact⟨cs,fz,hb.trans h1,h2⟩
theorem RowP.lt{w:World}{b off:Nat}{ps:List Pq}(h:RowP w b off ps):b<w.heap.size:=by obtain⟨cs,fz,h1,-⟩:=h;exact(Xa.1 h1).1
theorem RowP.take{w:World}{b off:Nat}{ps:List Pq}(h:RowP w b off ps)(k:Nat):RowP w b off (ps.take k):=by
 obtain⟨cs,fz,h1,h2⟩:=h
 refine⟨cs,fz,h1,fun i hi=>?_⟩
 rw[List.length_take]at hi
 have:=h2 i (by omega)
 rw[List.getElem_take];exact this
theorem RowP.drop{w:World}{b off:Nat}{ps:List Pq}(h:RowP w b off ps)(k:Nat):RowP w b (off+k*2) (ps.drop k):=by
 obtain⟨cs,fz,h1,h2⟩:=h
 refine⟨cs,fz,h1,fun i hi=>?_⟩
 rw[List.length_drop]at hi
 have:=h2 (k+i) (by omega)
 rw[List.getElem_drop,show off+k*2+i*2=off+(k+i)*2 by omega]
 exact this
def PairB(w:World)(pp pb ub:Nat):Prop:=w.heap[pp]?=some (Obj.cells #[.pointer (some ⟨pb,0,none⟩),.pointer (some ⟨ub,0,none⟩)] 49 (0,0))
theorem PairB.on{w w':World}{pp pb ub:Nat}(h:PairB w pp pb ub)(hb:Nx w w'):PairB w' pp pb ub:=(hb.block pp (Xa.1 h).1).trans h
theorem PairB.lt{w:World}{pp pb ub:Nat}(h:PairB w pp pb ub):pp<w.heap.size:=(Xa.1 h).1
theorem PairB.cells{w:World}{pp pb ub:Nat}(h:PairB w pp pb ub):w.cell? ⟨pp,0,none⟩=some (.pointer (some ⟨pb,0,none⟩))∧w.cell? ⟨pp,1,none⟩=some (.pointer (some ⟨ub,0,none⟩)):=by
 unfold PairB at h
 constructor<;>simp[World.cell?,h]
structure Both (w:World) (u:U) (pb ub rb:Nat) (r:Rc) (bs:List ByteArray) (R:RR) (rs:List ByteArray) (v:Value) (ps:List Pq):Prop where
 url:UrlB w pb r
 rc:RcIs w r u bs
 ref:URB w ub rb v
 rcd:RB w rb R
 ris:RIs w R (toR u) rs
 pl:PlAt w v ps
 list:ps.map tl2=Zh u.q
 wk:Wk u
theorem Both.on{w w':World}{u:U}{pb ub rb:Nat}{r:Rc}{bs:LA}{R:RR}{rs:LA}{v:Value}{ps:List Pq}(h:Both w u pb ub rb r bs R rs v ps)(hb:Nx w w'):Both w' u pb ub rb r bs R rs v ps:=
 { h with url:=h.url.on hb,rc:=h.rc.on hb,ref:=h.ref.on hb,rcd:=h.rcd.on hb,ris:=h.ris.on hb,pl:=h.pl.on hb }
theorem Zyy(ps:List LB):ps.length≤pl ps:=by
 induction ps with
 | nil=>exact Xb _
 | cons s r ih=>
  have h1:=Zln [s] r;have h2:=ZoQ s;rw[show [s]++r=s::r from rfl]at h1;rw[Xc]
  omega
theorem ZxX{u:U}(h:Wk u){n:Nat}(hl:(pathU u).length≤n):u.segs.length≤n:=by
 cases ho:u.op
 ·have h1:=Zyy u.segs
  unfold pathU at hl
  rw[ho,if_neg (by decide)]at hl
  unfold pl at h1
  omega
 ·rw[(h.opq ho).1];exact Xb _
def WB(w:World)(wb:Nat)(q:Bool)(us ps ts:Value):Prop:=w.heap[wb]?=some (Obj.cells #[.bool q,us,ps,ts] 43 (0,0))
theorem WB.on{w w':World}{wb:Nat}{q:Bool}{us ps ts:Value}(h:WB w wb q us ps ts)(hb:Nx w w'):WB w' wb q us ps ts:=(hb.block wb (Xa.1 h).1).trans h
theorem WB.free{w:World}{wb:Nat}{q:Bool}{us ps ts:Value}(h:WB w wb q us ps ts)(i:Nat):w.frozen? ⟨wb,i,none⟩=false:=by
 unfold WB at h
 simp[World.frozen?,h]
theorem StrIs.at{w:World}{base:Nat}{v:Value}{ss:LA}(h:StrIs w base v ss)(hl:ss.length≤1000000):ZbU w v ss:=by
 rcases h with⟨rfl,rfl⟩|⟨-,nb,-,rfl,hf⟩
 ·exact SlAt.nil w
 ·refine⟨some ⟨nb,0,none⟩,ss.length,rfl,Nat.le_refl _,by unfold maxLen;omega,(fun g=>by cases g),fun a ha=>⟨nb,0,(Option.some.inj ha).symm,_,_,hf,fun i hi=>?_⟩⟩
  simp[hi]
theorem StrIs.on{w w':World}{base:Nat}{v:Value}{ss:LA}(h:StrIs w base v ss)(hb:Nx w w'):StrIs w' base v ss:=by
 rcases h with g|⟨h1,nb,h2,h3,h4⟩
 ·exact Or.inl g
 ·exact Or.inr ⟨h1,nb,h2,h3,h4.on hb⟩
def OpB(w:World)(ob:Nat)(k a b c:Int)(s t:ByteArray):Prop:=w.heap[ob]?=some (Obj.cells #[.int .i64 k,.int .i64 a,.int .i64 b,.int .i64 c,.string s,.string t] 45 (0,0))
theorem OpB.on{w w':World}{ob:Nat}{k a b c:Int}{s t:BA}(h:OpB w ob k a b c s t)(hb:Nx w w'):OpB w' ob k a b c s t:=(hb.block ob (Xa.1 h).1).trans h
theorem OpB.cells{w:World}{ob:Nat}{k a b c:Int}{s t:BA}(h:OpB w ob k a b c s t):w.cell? ⟨ob,2,none⟩=some (.int .i64 b)∧w.cell? ⟨ob,4,none⟩=some (.string s)∧w.cell? ⟨ob,5,none⟩=some (.string t):=by
 unfold OpB at h
 refine⟨?_,?_,?_⟩<;>simp[World.cell?,h]
theorem StrIs.slice{w:World}{base:Nat}{v:Value}{ss:LA}(h:StrIs w base v ss):∃ao cap,v=.slice ao ss.length cap:=by
 rcases h with⟨rfl,rfl⟩|⟨-,nb,-,rfl,-⟩
 ·exact⟨none,0,rfl⟩
 ·exact⟨_,_,rfl⟩
theorem Zxu(b:UInt8):(Zvf b).length≤3:=by
 unfold Zvf
 split
 ·decide
 ·unfold ZN
  split<;>simp
theorem ZvV{l:LB}(h:Cpt l):(Zvt l).length≤3*l.length:=by
 rw[ZvN h];clear h
 induction l with
 | nil=>exact Xb _
 | cons b r ih=>
  rw[List.flatMap_cons,Xf,Xc];have:=Zxu b
  omega
theorem ZxY(b:UInt8):Pr (Zvf b):=by
 unfold Zvf
 split
 ·exact ZaX (by decide) (by decide)
 ·have h:=ZcS formB [b]
  rw[Zdk]at h
  exact fun x hx=>h x (List.mem_append.2 (Or.inl hx))
theorem ZwM{l:LB}(h:Cpt l):Pr (Zvt l):=by rw[ZvN h];intro x hx;obtain⟨b,-,hb⟩:=List.mem_flatMap.1 hx;exact ZxY b x hb
theorem ZAB{c:UInt8}(hc1:32≤c.toNat)(hc2:c.toNat≤126):∀ {ls:List LB},(∀a∈ls,Pr a)→Pr (ZvD c ls):=by
 intro ls
 induction ls with
 | nil=>intro _;exact pr_nil
 | cons a r ih=>
  intro h
  show Pr (if r=[]then a else a++c::ZvD c r)
  split
  ·exact h a (by simp)
  ·exact Zar (h a (by simp)) (ZcR hc1 hc2 (ih (fun b hb=>h b (Xe _ hb))))
theorem ZxZ{ps:List (LB×LB)}(h:∀p∈ps,ZBc p):Pr (Zvk ps):=by
 unfold Zvk
 refine ZAB (by decide) (by decide) (fun a ha=>?_)
 obtain⟨p,hp,rfl⟩:=Xi.1 ha
 exact Zar (ZwM (h p hp).1) (ZcR (by decide) (by decide) (ZwM (h p hp).2))
def ZAC(ps:List (List UInt8×List UInt8)):Nat:=(ps.map fun p=>3*(p.1.length+p.2.length)+2).sum
theorem Zxc{ps:List (LB×LB)}(h:∀p∈ps,ZBc p):(Zvk ps).length≤ZAC ps:=by
 unfold Zvk
 refine Nat.le_trans (ZAy _ _) ?_
 induction ps with
 | nil=>exact Xb _
 | cons p r ih=>
  rw[List.map_cons,Zxs]
  have h1:=ZvV (h p (by simp)).1
  have h2:=ZvV (h p (by simp)).2
  have h3:=ih (fun q hq=>h q (Xe _ hq))
  have e:ZAC (p::r)=3*(p.1.length+p.2.length)+2+ZAC r:=by simp[ZAC]
  rw[e]
  have h4:(ZxS p).length=(Zvt p.1).length+((Zvt p.2).length+1):=by unfold ZxS;rw[Xf,Xc]
  omega
theorem FullP.far{w:World}{nb q:Nat}{ps:List Pq}(h:FullP w nb ps)(hq:nb≠q)(i:Nat)(u:Value):FullP (w.setCell ⟨q,i,none⟩ u) nb ps:=(Below.heap_setCell _ _ _ _ hq).trans h
abbrev Lp:=List (List UInt8×List UInt8)
structure FitL (S:Lp):Prop where
 cl:∀p∈S,ZBc p
 wd:ZAC S≤100000
theorem Zzr(p:LB×LB)(S:Lp):ZAC (p::S)=3*(p.1.length+p.2.length)+2+ZAC S:=by simp[ZAC]
theorem FitL.each{S:Lp}(h:FitL S):∀p∈S,p.1.length≤1000000∧p.2.length≤1000000:=by
 have key:∀S:Lp,∀p∈S,3*(p.1.length+p.2.length)+2≤ZAC S:=by
  intro S
  induction S with
  | nil=>intro p hp;cases hp
  | cons q r ih=>
   intro p hp;rw[Zzr];rcases List.mem_cons.1 hp with rfl|hp
   ·omega
   ·have:=ih p hp;omega
 intro p hp;have:=key S p hp;have:=h.wd
 omega
theorem FitL.written{S:Lp}(h:FitL S):(Zvk S).length≤300000:=by
 have:=Zxc h.cl;have:=h.wd
 omega
theorem Zyz(pb:Nat)(r:Rc)(u:U)(bs:LA)(n:BA)(w:World)(h0:UrlB w pb r)(h:RcIs w r u bs)(hn:n.size≤1000000):Calls Tryz.prog 41 #[.pointer (some ⟨pb,0,none⟩),.string n] w fun e w'=>∃(t:BA) (b:Bool),e=.returned (.tuple #[.string t,.bool b])∧(n.size≤160→b=decide (0<((Zh u.q).filter (hitP (clean (tl n)) [] false)).length)∧tl t=Zyi ((Zh u.q).filter (hitP (clean (tl n)) [] false)))∧Nx w w':=by
 by_cases hl:n.size≤160
 ·refine(Zyu pb r u bs n w h0 h hl).mono ?_
  rintro e w' ⟨t,rfl,ht,hn⟩
  exact⟨t,_,rfl,fun _=>⟨rfl,ht⟩,hn⟩
 ·go_enter Tryz.func41,Tryz.ntmps41
  go_wp2_with fail
  refine(ZvE n ⟨#[]⟩ _ (by unfold maxLen;omega) (Zg (by decide))).mono ?_
  rintro e w' ⟨rfl,rfl⟩
  rw[decide_eq_true (show 160<n.size∨160<(⟨#[]⟩:BA).size from Or.inl (by omega))]
  go_wp2;go_ret2
  exact⟨_,_,rfl,fun g=>absurd g hl,Nx.rfl⟩
theorem ZAD(pb:Nat)(r:Rc)(u:U)(bs:LA)(n x:BA)(valued:Bool)(w:World)(h0:UrlB w pb r)(h:RcIs w r u bs)(hn:n.size≤1000000)(hx:x.size≤1000000):Calls Tryz.prog 43 #[.pointer (some ⟨pb,0,none⟩),.string n,.string x,.bool valued] w fun e w'=>∃b:Bool,e=.returned (.bool b)∧(n.size≤160→x.size≤160→b=decide (0<((Zh u.q).filter (hitP (clean (tl n)) (clean (tl x)) valued)).length))∧Nx w w':=by
 by_cases hl:n.size≤160∧x.size≤160
 ·refine(ZAA pb r u bs n x valued w h0 h hl.1 hl.2).mono ?_
  rintro e w' ⟨rfl,hn⟩
  exact⟨_,rfl,fun _ _=>rfl,hn⟩
 ·go_enter Tryz.func43,Tryz.ntmps43
  go_wp2_with fail
  refine(ZvE n x _ (by unfold maxLen;omega) (by unfold maxLen;omega)).mono ?_
  rintro e w' ⟨rfl,rfl⟩
  rw[decide_eq_true (show 160<n.size∨160<x.size by omega)]
  go_wp2;go_ret
  exact⟨_,rfl,fun g1 g2=>absurd ⟨g1,g2⟩ hl,Nx.rfl⟩
theorem names_map(n:BA)(ps:List Pq):(ps.map tl2).filter (hitP (tl n) [] false)=(ps.filter (ZvF n)).map tl2:=by
 rw[List.filter_map]
 congr 1
 apply List.filter_congr
 intro p _
 show hitP (tl n) [] false (tl2 p)=ZvF n p
 unfold hitP ZvF tl2;rw[ByteArray.toList_eq,ByteArray.toList_eq];simp only[Bool.not_false,Bool.true_or,Bool.and_true]
 rfl
theorem Zzs(l:List Pq):Zyi (l.map tl2)=tl (Zwl l):=by cases l<;>rfl
theorem ZvW(pb:Nat)(r:Rc)(u:U)(bs:LA)(a0 a1 a2 a3 a4 a5 a6 a7 a8 a9 a10:BA)(w:World)(hu:UrlB w pb r)(hr:RcIs w r u bs)(h9:a9.size=0→Zh u.q=[]):Calls Tryz.prog 39 #[.pointer (some ⟨pb,0,none⟩),.agg #[.string a0,.string a1,.string a2,.string a3,.string a4,.string a5,.string a6,.string a7,.string a8,.string a9,.string a10]] w fun e w'=>e=.returned (.bool true)∧Nx w w':=by
 have HU:=Za hu;have HR:=Za hr;have H9:=Za h9;have HLQ:=Za (Zxb hr);clear hu hr h9
 go_enter Tryz.func39,Tryz.ntmps39
 have HC:=Za (show C11 (w.alloc (Obj.cells #[.string a0,.string a1,.string a2,.string a3,.string a4,.string a5,.string a6,.string a7,.string a8,.string a9,.string a10] 66)) w.heap.size (.string a0) (.string a1) (.string a2) (.string a3) (.string a4) (.string a5) (.string a6) (.string a7) (.string a8) (.string a9) (.string a10)from heap_alloc_new w _);have HN1:=Za (show Nx w (w.alloc (Obj.cells #[.string a0,.string a1,.string a2,.string a3,.string a4,.string a5,.string a6,.string a7,.string a8,.string a9,.string a10] 66))from Nx.rfl.alloc _);go_upto_region 1 with fail;generalize w.alloc (Obj.cells #[.string a0,.string a1,.string a2,.string a3,.string a4,.string a5,.string a6,.string a7,.string a8,.string a9,.string a10] 66)=w1 at *;go_wp2_with fail
 refine(Zzn pb r u bs _ (HU.out.on HN1.out) (HR.out.on HN1.out)).mono ?_
 rintro e w2 ⟨rfl,hn2⟩;have HN2:=Za (HN1.out.then hn2);have HC2:=Za (HC.out.on hn2);clear hn2 HC;go_wp2_with fail
 refine(Zu0 pb r u bs _ (HU.out.on HN2.out) (HR.out.on HN2.out)).mono ?_
 rintro e w3 ⟨l,ps,rfl,hl3,hm3,hn3⟩;have hc:=ZuZ hm3 HLQ.out;have HPL:=Za (hl3.at hc);have HSZ:=Za (ZxV hm3 HLQ.out);have HM:=Za hm3
 have hpl:(Zh u.q).length=ps.length:=by rw[←hm3,List.length_map]
 have HN3:=Za (HN2.out.then hn3);have HC3:=Za (HC2.out.on hn3);obtain⟨ao,cap,hve⟩:=hl3.slice;subst hve
 have H9':=Za (show a9.size=0→ps=[]from fun g=>List.map_eq_nil_iff.1 (hm3.trans (H9.out g)))
 clear hl3 hm3 hn3 HC2 H9;rw[hpl];clear hpl;obtain⟨-,-,-,-,-,-,-,-,-,c9,-⟩:=HC3.out.cells
 have hl':((ps.length:Int) != (ps.length:Int))=false:=by simp
 have hl'':((ps.length:Int)==(ps.length:Int))=true:=by simp
 go_upto_region 3 with fail
 go_cut [29]from 30 (fun x wx=>x=.bool false∧Nx w3 wx)
 case first=>
  by_cases hz:a9.size=0
  ·have h0:=H9'.out hz
   subst h0;have hs:=Zf hz;go_wp2
   go_meet
   case rel=>exact⟨rfl,Nx.rfl⟩
  ·have hs:=Ze hz
   go_wp2
   go_meet
   case rel=>exact⟨rfl,Nx.rfl⟩
 case rest=>
  obtain⟨rfl,hnn⟩:=hcut;obtain⟨w4,hwn⟩:∃wn,wn=wc:=⟨_,rfl⟩;subst hwn;have HN4:=Za (HN3.out.then hnn);have HPL4:=Za (HPL.out.on hnn);clear hnn c9 HPL HC3 H9';obtain⟨ao2,cap2,hse,hlc,hcap,hnone,hsome⟩:=id HPL4.out
  obtain⟨rfl,-,rfl⟩:=(by simpa using hse:ao=ao2∧True∧cap=cap2)
  unfold maxLen at hcap;go_wp2
  go_loopw [7] (fun i wr=>∃k:Nat,k≤ps.length∧i=.int .i64 k∧Nx w4 wr) (fun i _=>ps.length-(intOf i).toNat)
  case atStart=>exact⟨0,Xb _,rfl,Nx.rfl⟩
  case round=>
   obtain⟨k,hk,rfl,hnx⟩:=hrel;have HNR:=Za (HN4.out.then hnx)
   by_cases hlt:k<ps.length
   ·obtain⟨a,ha⟩:=Za6 hlt hnone
    subst ha;obtain⟨b,off,rfl,hrow⟩:=hsome a rfl;have HROW:=Za (hrow.on hnx);obtain⟨c0,c1⟩:=(hrow.on hnx).cell hlt;have HPR:=Za (HPL4.out.on hnx)
    have hmem:tl2 ps[k]∈Zh u.q:=by rw[←HM.out];exact Xi.2 ⟨_,Xg _,rfl⟩
    have HCL:=Za (Zyr _ _ hmem);obtain⟨hz1,hz2⟩:=HSZ.out ps[k] (Xg _)
    have HH:=Za (show 0<((Zh u.q).filter (hitP (tl ps[k].1) (tl ps[k].2) true)).length from Xd (Xh.2 ⟨hmem,by simp[hitP,tl2]⟩))
    have HV:=Za (show 0<((Zh u.q).filter (hitP (tl ps[k].1) [] false)).length from Xd (Xh.2 ⟨hmem,by simp[hitP,tl2]⟩))
    have HE1:=Za (show clean (tl ps[k].1)=tl ps[k].1 from HCL.out.1.clean);have HE2:=Za (show clean (tl ps[k].2)=tl ps[k].2 from HCL.out.2.clean);have HW4:=Za hnx
    have HCE:=Za (fun(w':World) (hw:Nx wr w')=>(HROW.out.on hw).cell hlt)
    clear hnone hsome hrow hnx hmem HCL;generalize ps[k]=d at *;obtain⟨cn,cv⟩:=d;simp only at c0 c1 hz1 hz2 HH HV HE1 HE2 HCE;obtain⟨w5,hw5⟩:∃w5,w5=wr:=⟨_,rfl⟩;subst hw5;go_wp2_with fail
    refine(Zyz pb r u bs cn _ (HU.out.on HNR.out) (HR.out.on HNR.out) hz1).mono ?_
    rintro e w6 ⟨tv,b1,rfl,hb1,hn6⟩;have HB1:=Za hb1;have HN6:=Za hn6;obtain⟨c0',c1'⟩:=HCE.out w6 hn6;clear hb1 hn6 c0 c1;go_upto_region 9 with fail
    go_cut [10]from 57 to 96 (fun x wx=>(∃b2:Bool,x=.bool b2∧(cn.size≤160→cv.size≤160→b2=true))∧Nx w6 wx)
    case first=>
     have HK:Hid (∀w',Nx w6 w'→w'.cell? ⟨b,off+k*2,none⟩=some (.string cn)∧w'.cell? ⟨b,off+k*2+1,none⟩=some (.string cv)):=Za (fun w' hx=>HCE.out w' (HN6.out.then hx))
     go_region_held (fun w'=>w'.cell? ⟨b,off+k*2,none⟩=some (.string cn)∧w'.cell? ⟨b,off+k*2+1,none⟩=some (.string cv)) (first|exact⟨c0',c1'⟩|exact HK.out _ HNZ.out) ((go_at_call 43;refine(ZAD pb r u bs cn cv true _ (HU.out.on (by first|exact(HNR.out.then HN6.out).then Nx.rfl.drew|exact HNR.out.then HN6.out)) (HR.out.on (by first|exact(HNR.out.then HN6.out).then Nx.rfl.drew|exact HNR.out.then HN6.out)) hz1 hz2).mono ?_;rintro e wz ⟨b2,rfl,hb2,hnz⟩;have HB2:=Za hb2;clear hb2;have HNZ:=Za (show Nx w6 wz from Nx.then (show Nx w6 _ by first|exact Nx.rfl.drew|exact Nx.rfl) hnz);clear hnz))
     all_goals go_wp2_with fail
     all_goals go_meet
     all_goals exact⟨⟨_,rfl,fun g1 g2=>(HB2.out g1 g2).trans (decide_eq_true (by rw[HE1.out,HE2.out];exact HH.out))⟩,HNZ.out⟩
    case rest=>
     obtain⟨⟨b2,rfl,hb2⟩,hnn⟩:=hcut;obtain⟨w7,hwn⟩:∃wn,wn=wc:=⟨_,rfl⟩;subst hwn;have HB2:=Za hb2;have HN7:=Za (HN6.out.then hnn)
     have HF:=Za (show ∀w',Nx w7 w'→Calls Tryz.prog 95 #[.slice (some ⟨b,off,none⟩) ps.length cap,.string cn] w' fun e w''=>e=.returned (.string (Zwl (ps.filter (ZvF cn))))∧w'=w'' from fun w' hw=>Zyw _ ps cn w' (HPR.out.on (HN7.out.then hw)))
     obtain⟨d0,d1⟩:=HCE.out w7 HN7.out;clear hb2 hnn c0' c1'
     by_cases hl1:160<cn.size
     ·clear HB1 HB2
      go_wp2_with fail
      refine(HF.out _ (by first|exact Nx.rfl.drew|exact Nx.rfl)).mono ?_
      rintro e w' ⟨rfl,rfl⟩;go_wp2
      go_roundw
      case rel=>exact⟨k+1,by omega,by go_num,HW4.out.then (by first|exact HN7.out|exact HN7.out.drew)⟩
      case measure=>simp[intOf];omega
     ·by_cases hl2:160<cv.size
      ·clear HB1 HB2
       go_wp2_with fail
       refine(HF.out _ (by first|exact Nx.rfl.drew|exact Nx.rfl)).mono ?_
       rintro e w' ⟨rfl,rfl⟩;go_wp2
       go_roundw
       case rel=>exact⟨k+1,by omega,by go_num,HW4.out.then (by first|exact HN7.out|exact HN7.out.drew)⟩
       case measure=>simp[intOf];omega
      ·have hb2:=HB2.out (by omega) (by omega)
       obtain⟨hb1,ht1⟩:=HB1.out (by omega)
       rw[HE1.out,decide_eq_true HV.out]at hb1;rw[HE1.out,←HM.out,names_map,Zzs]at ht1;subst hb1;subst hb2;have hts:(tv.toList==(Zwl (ps.filter (ZvF cn))).toList)=true:=Zvd ht1;have hts':(tv.toList != (Zwl (ps.filter (ZvF cn))).toList)=false:=Zyv hts;clear HB1 HB2 ht1;go_wp2_with fail
       refine(HF.out _ (by first|exact Nx.rfl.drew|exact Nx.rfl)).mono ?_
       rintro e w' ⟨rfl,rfl⟩;go_wp2
       go_roundw
       case rel=>exact⟨k+1,by omega,by go_num,HW4.out.then (by first|exact HN7.out|exact HN7.out.drew)⟩
       case measure=>simp[intOf];omega
   ·clear hnone hsome hnx
    go_wp2;go_ret;exact⟨rfl,HNR.out⟩
end Go.Proofs.YtchkhibgbnhjpabGreatDoor
