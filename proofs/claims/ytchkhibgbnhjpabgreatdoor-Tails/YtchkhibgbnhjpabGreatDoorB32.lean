import Derived.Test.YtchkhibgbnhjpabGreatDoorB26
import Derived.Test.YtchkhibgbnhjpabGreatDoorB30
open Bool renaming false_eq_true→Xb,and_eq_true→Xd,eq_iff_iff→Xo,or_false→Xr
open List renaming takeWhile_cons→Xa,mem_cons_of_mem→Xc,drop_succ_cons→Xe,mem_cons_self→Xf,getElem?_eq_getElem→Xg,mem_of_mem_take→Xh,mem_of_mem_drop→Xi,singleton_append→Xj,getElem_of_mem→Xk,any_eq_false→Xl,cons_append→Xm,length_cons→Xn,drop_nil→Xp,any_cons→Xq,any_nil→Xs
namespace Go.Proofs.YtchkhibgbnhjpabGreatDoor
open Go.RowKit
theorem ZgT{s:LB}(h:ZN s=true):∀b∈s,b.toNat<128:=by
 obtain⟨a,b,rfl,ha,hb⟩:=ZeW h;intro x hx;have h1:alpha (a.toNat:Int)=true:=ha;simp only[List.mem_cons,List.not_mem_nil,or_false]at hx;rcases hx with rfl|rfl
 ·rcases Nat.lt_or_ge x.toNat 128 with g|g
  ·exact g
  ·rw[ZdY.hi x g]at ha;cases ha
 ·rcases hb with rfl|rfl<;>decide
theorem Zns(s:LB):ZN (clean s)=ZN s:=by
 by_cases h:∀b∈s,b.toNat<128
 ·rw[Zdk h]
 ·have h1:ZN s=false:=by
   cases hd:ZN s with
   | false=>rfl
   | true=>exact absurd (ZgT hd) h
  have h2:ZN (clean s)=false:=by
   cases hd:ZN (clean s)with
   | false=>rfl
   | true=>exact absurd (Zhn s.length s (Nat.le_refl _) (ZgT hd)) h
  rw[h1,h2]
theorem ZoY(s:LB):drive s=Zar s:=by
 unfold drive Zar
 have hpt:∀c∈Zj s,Pt c:=fun c hc=>(ZaX s c hc).pt
 have hl:=ZcH (Zj s) hpt;rw[ZaU,Zns]at hl;rw[←hl]
 cases hd:ZN s
 ·rfl
 ·rw[hd]at hl
  have hb:=ZaU s;rw[Zdk (ZgT hd)]at hb
  match hp:Zj s,hl,hpt with
  | [x,y],hl,hpt=>
   rw[hp]at hb
   have hl':(alpha x&&(y==58||y==124))=true:=hl.symm;rw[Xd]at hl'
   have hx:x<128:=by
    rcases Int.lt_or_le x 128 with g|g
    ·exact g
    ·rw[ZdY.up x g]at hl';exact absurd hl'.1 (by decide)
   have hy:y=58∨y=124:=by simpa using hl'.2
   have hy1:y<128:=by omega
   have hs:s=[toB x,toB y]:=by
    rw[←hb,bytesOf_cons,bytesOf_cons,ZmN hx,ZmN hy1]
    rfl
   rw[hs]
   show(true&&y==58)=(true&&(((toB y).toNat:Int)==58))
   rw[Zbf (by omega) hy1]
theorem ZgU(sch:LB)(p:List LB):ZaR sch p=ZaK (sch==Zv) p:=by
 unfold ZaR ZaK
 have e:p.headD []=p.getD 0 []:=by cases p<;>rfl
 rw[ZoY,e]
 by_cases h:p.length=1∧sch=Zx∧Zar (p.getD 0 [])=true
 ·rw[if_pos h,if_pos ⟨by rw[h.2.1];rfl,h.1,h.2.2⟩]
 ·rw[if_neg h,if_neg (fun g=>h ⟨g.2.1,eq_of_beq g.1,g.2.2⟩),List.dropLast_eq_take]
theorem Zsv(s:LI)(hs:∀c∈s,Sc c)(h:letter s=true):(encoded s ZcS).take 1=(Zb s).take 1:=by
 have hd:=ZcH s (fun c hc=>(hs c hc).pt)
 rw[h]at hd;rw[←Zks s hs];obtain⟨a,b,e,ha,-⟩:=ZeW hd;have:=Zjy ha;rw[e,ZfU _ this.1 this.2.1 this.2.2]
 rfl
theorem Zqc(sch:LB)(p:List LB)(s:LI)(last:Bool)(hs:∀c∈s,Sc c):Zat sch p s last=ZdM (sch==Zv) p (Zb s) last:=by
 unfold Zat ZdM
 have hd:dots (encoded s ZcS)=(countDots (Zb s):Int):=by rw[Zwr,←Zks s hs,ZoC]
 rw[hd]
 by_cases h0:countDots (Zb s)=0
 ·rw[if_pos (by omega),if_pos h0]
  unfold joinL
  have hl:=ZcH s (fun c hc=>(hs c hc).pt)
  by_cases hc:letter s=true∧sch=Zx∧p=[]
  ·rw[if_pos hc,if_pos ⟨by rw[hc.2.1];rfl,hc.2.2,by rw[hl];exact hc.1⟩,Zsv s hs hc.1]
  ·rw[if_neg hc,if_neg (fun g=>hc ⟨by rw[←hl];exact g.2.2,eq_of_beq g.1,g.2.1⟩)]
   rw[show encB (tl (ZaJ 4)) (clean (Zb s))=encoded s ZcS from Zks s hs]
 ·rw[if_neg (by omega),if_neg h0,ZgU]
  by_cases h2:countDots (Zb s)=2
  ·rw[if_pos (by omega),if_pos h2]
  ·rw[if_neg (by omega),if_neg h2]
theorem Zsw(sch:LB):∀(ss:List LI) (p:List LB),(∀s∈ss,∀c∈s,Sc c)→Zd0 sch p ss=Zch (sch==Zv) p (ss.map Zb):=by
 intro ss
 induction ss with
 | nil=>intro p _;rfl
 | cons s r ih=>
  intro p hs
  rw[Zd0,Zqc sch p s _ (hs s (Xf ..)),ih _ (fun x hx=>hs x (Xc _ hx))]
  cases r with
  | nil=>rfl
  | cons x y=>rfl
theorem Ze1(sch:LB)(p:List LB)(l:LI)(hl:∀c∈l,Sc c):walked sch p l=Za4 (sch==Zv) (Zc sch) p (Zb l):=by
 unfold walked Za4
 rw[Znj sch l (fun c hc=>(hl c hc).pt),Zsw sch _ p (fun s hs c hc=>hl c (((ZbN l _).2 s hs).2 c hc))]
theorem Zau(sch:LB)(l:LI)(hl:∀c∈l,Sc c):walked sch [] l=Zbe (Zb l) sch:=Ze1 sch [] l hl
theorem ZvH{p:UInt8→Bool}{t:LB}(h:ZtB p t):Asc p (fun c=>among c t):=⟨h.low,h.high,h.none⟩
def slP(sp:Bool)(c:Int):Bool:=among c (if sp then [47,92]else [47])
theorem ZjH(sp:Bool):Asc (slB sp) (slP sp):=ZvH (Zfk sp)
theorem Zwz{sp:Bool}{c:Int}(h:slP sp c=true):0≤c∧c<128:=by
 unfold slP at h
 cases sp<;>simp[among]at h<;>omega
theorem slP_of(sch:LB)(c:Int):among c (tl (Zk sch))=slP (Zc sch) c:=by rw[ZgK,special_eq];rfl
theorem Zal(sp:Bool)(l:LI)(hl:∀c∈l,Pt c):countSl sp (Zb l)=(l.takeWhile (slP sp)).length:=by
 induction l with
 | nil=>rfl
 | cons c r ih=>
  have ih':=ih (fun x hx=>hl x (Xc _ hx))
  rw[bytesOf_cons,Xa];rcases Z7 (hl c (Xf ..))with⟨a,b,e⟩|⟨a,b,e⟩
  ·rw[e,Xj,countSl,(ZjH sp).lo c a b]
   split
   ·rw[ih'];rfl
   ·rfl
  ·rw[(ZjH sp).up c a]
   cases hx:(utf c).map toB with
   | nil=>exact absurd hx b
   | cons y q=>
    rw[Xm,countSl,(ZjH sp).hi y (e y (by rw[hx];simp))]
    rfl
theorem Zc5(sp:Bool)(l:LI):∀k,k≤(l.takeWhile (slP sp)).length→(Zb l).drop k=Zb (l.drop k):=by
 induction l with
 | nil=>intro k _;rw[Xp];rw[bytesOf_nil,Xp]
 | cons c r ih=>
  intro k hk
  cases k with
  | zero=>rfl
  | succ k=>
   rw[Xa]at hk
   cases hc:slP sp c
   ·rw[hc]at hk;simp at hk
   ·rw[hc]at hk
    simp only[if_true,Xn]at hk;rw[bytesOf_cons,ZmN (Zwz hc).2]
    show(toB c::Zb r).drop (k+1)=_
    rw[Xe,Xe]
    exact ih k (by omega)
theorem Znt(sp:Bool)(l:LI)(hl:∀c∈l,Pt c):(Zb l).drop (countSl sp (Zb l))=Zb (l.dropWhile (slP sp)):=by
 rw[Zal sp l hl,Zc5 sp l _ (Nat.le_refl _)]
 congr 1
 induction l with
 | nil=>rfl
 | cons c r ih=>
  rw[Xa,List.dropWhile_cons]
  split
  ·rw[Xn,Xe]
   exact ih (fun x hx=>hl x (Xc _ hx))
  ·rfl
theorem ZkD(sch:LB)(l:LI)(hl:∀c∈l,Pt c):Zn l 0 sch=decide (1≤countSl (Zc sch) (Zb l)):=by
 rw[Zal _ l hl];unfold Zn
 cases l with
 | nil=>rfl
 | cons c r=>
  show among c (tl (Zk sch))=_
  rw[slP_of,Xa]
  cases slP (Zc sch) c<;>simp
theorem Zl2(sch:LB)(l:LI)(hl:∀c∈l,Pt c):(Zn l 0 sch&&Zn l 1 sch)=decide (1<countSl (Zc sch) (Zb l)):=by
 rw[Zal _ l hl];unfold Zn
 match l with
 | []=>rfl
 | [c]=>
  show(among c (tl (Zk sch))&&false)=_
  rw[Xa]
  cases slP (Zc sch) c<;>simp
 | c::d::r=>
  show(among c (tl (Zk sch))&&among d (tl (Zk sch)))=_
  rw[slP_of,slP_of,Xa,Xa]
  cases slP (Zc sch) c<;>cases slP (Zc sch) d<;>simp
theorem ZkE(sch:LB)(l:LI)(hl:∀c∈l,Pt c):Zb (ZcZ sch l)=if Zc sch=true then(Zb l).drop (countSl true (Zb l))else Zb l:=by
 unfold ZcZ;rw[special_eq]
 by_cases h:Zc sch=true
 ·rw[if_pos h,if_pos h,Znt true l hl]
  congr 2
  funext c
  rw[slP_of,h]
 ·rw[if_neg h,if_neg h]
theorem ZwA(l:LI)(hl:∀c∈l,Pt c):ZhK l=decide (2≤countSl false (Zb l)):=by
 rw[Zal _ l hl]
 have h47:∀c:Int,slP false c=(c==47):=fun c=>by
  unfold slP among;simp only[Xb,if_false,Xq,Xs,Xr];rw[Xo,beq_iff_eq,beq_iff_eq];have:((47:UInt8).toNat:Int)=47:=rfl
  omega
 match l with
 | []=>rfl
 | [c]=>rw[Xa,h47];cases c==47<;>simp[ZhK]
 | c::d::r=>
  rw[Xa,Xa,h47,h47]
  show(decide (1<(c::d::r).length)&&c==47&&d==47)=_
  rw[decide_eq_true (by simp)]
  cases c==47<;>cases d==47<;>simp
theorem ZwB(l:LI)(hl:∀c∈l,Pt c):Zwy l=decide (1≤countSl false (Zb l)):=by
 rw[Zal _ l hl]
 have h47:∀c:Int,slP false c=(c==47):=fun c=>by
  unfold slP among;simp only[Xb,if_false,Xq,Xs,Xr];rw[Xo,beq_iff_eq,beq_iff_eq];have:((47:UInt8).toNat:Int)=47:=rfl
  omega
 match l with
 | []=>rfl
 | c::r=>
  rw[Xa,h47]
  show(decide (0<(c::r).length)&&c==47)=_
  rw[decide_eq_true (by simp)]
  cases c==47<;>simp
theorem ZkF(l:LI):∀(inb:Bool) (i:Nat),ZS inb i l=if ZS inb 0 l=-1 then -1 else ZS inb 0 l+i:=by
 induction l with
 | nil=>intro inb i;rfl
 | cons c r ih=>
  intro inb i;rw[ZS,ZS]
  have hge:∀b,-1≤ZS b 0 r:=fun b=>by
   rcases ZfX r b 0 with h|h
   ·omega
   ·omega
  by_cases h1:c=91
  ·rw[if_pos h1,if_pos h1,ih true (i+1),ih true (0+1)]
   have:=hge true
   by_cases h:ZS true 0 r=-1
   ·rw[if_pos h,if_pos h];rfl
   ·rw[if_neg h,if_neg h,if_neg (by omega)];omega
  ·rw[if_neg h1,if_neg h1]
   by_cases h2:c=93
   ·rw[if_pos h2,if_pos h2,ih false (i+1),ih false (0+1)]
    have:=hge false
    by_cases h:ZS false 0 r=-1
    ·rw[if_pos h,if_pos h];rfl
    ·rw[if_neg h,if_neg h,if_neg (by omega)];omega
   ·rw[if_neg h2,if_neg h2]
    by_cases h3:c=58∧inb=false
    ·rw[if_pos h3,if_pos h3];simp
    ·rw[if_neg h3,if_neg h3,ih inb (i+1),ih inb (0+1)]
     have:=hge inb
     by_cases h:ZS inb 0 r=-1
     ·rw[if_pos h,if_pos h];rfl
     ·rw[if_neg h,if_neg h,if_neg (by omega)];omega
theorem Zi0(q l:LB)(h:∀b∈q,128≤b.toNat)(inb:Bool):cutPortGo inb (q++l)=(cutPortGo inb l).map fun x=>(q++x.1,x.2):=by
 induction q with
 | nil=>cases hc:cutPortGo inb l<;>simp[hc]
 | cons b q ih=>
  have hb:=h b (Xf ..)
  rw[Xm,cutPortGo,if_neg (by omega),if_neg (by omega),if_neg (by omega),ih (fun x hx=>h x (Xc _ hx))]
  cases cutPortGo inb l<;>rfl
theorem ZiA(l:LI)(hl:∀c∈l,Pt c):∀inb:Bool,cutPortGo inb (Zb l)=if ZS inb 0 l=-1 then none else some (Zb (l.take (ZS inb 0 l).toNat),Zb (l.drop ((ZS inb 0 l).toNat+1))):=by
 induction l with
 | nil=>intro inb;rfl
 | cons c r ih=>
  intro inb
  have ih':=ih (fun x hx=>hl x (Xc _ hx))
  have hge:∀b,-1≤ZS b 0 r:=fun b=>by
   rcases ZfX r b 0 with h|h
   ·omega
   ·omega
  have key:∀(b':Bool) (pre:LB),pre=(utf c).map toB→(cutPortGo b' (Zb r)).map (fun x=>(pre++x.1,x.2))=if ZS b' (0+1) r=-1 then none else some (Zb ((c::r).take (ZS b' (0+1) r).toNat),Zb ((c::r).drop ((ZS b' (0+1) r).toNat+1))):=by
   intro b' pre hpre;rw[ih' b',ZkF r b' (0+1)];have:=hge b'
   by_cases h:ZS b' 0 r=-1
   ·rw[if_pos h,if_pos h];rfl
   ·rw[if_neg h,if_neg h]
    have e:(ZS b' 0 r+((0+1:Nat):Int)).toNat=(ZS b' 0 r).toNat+1:=by omega
    rw[if_neg (by omega),e,List.take_succ_cons,Xe,bytesOf_cons,hpre]
    rfl
  rw[ZS,bytesOf_cons];rcases Z7 (hl c (Xf ..))with⟨a,b,e⟩|⟨a,b,e⟩
  ·rw[e,Xj,cutPortGo,Zbf a b]
   by_cases h1:c=91
   ·rw[if_pos h1,if_pos h1]
    exact key true [toB c] e.symm
   ·rw[if_neg h1,if_neg h1]
    by_cases h2:c=93
    ·rw[if_pos h2,if_pos h2]
     exact key false [toB c] e.symm
    ·rw[if_neg h2,if_neg h2]
     by_cases h3:c=58∧inb=false
     ·rw[if_pos h3,if_pos h3]
      rfl
     ·rw[if_neg h3,if_neg h3]
      exact key inb [toB c] e.symm
  ·have n1:¬c=91:=by omega
   have n2:¬c=93:=by omega
   have n3:¬(c=58∧inb=false):=by omega
   rw[if_neg n1,if_neg n2,if_neg n3,Zi0 _ _ e];exact key inb _ rfl
theorem ZkG(l:LI)(hl:∀c∈l,Pt c):Zu (Zb l)=if colon l=-1 then(Zb l,[],false)else(Zb (l.take (colon l).toNat),Zb (l.drop ((colon l).toNat+1)),true):=by
 unfold Zu colon;rw[ZiA l hl false]
 by_cases h:ZS false 0 l=-1
 ·rw[if_pos h,if_pos h]
 ·rw[if_neg h,if_neg h]
theorem ZuJ(p:LI)(ha:p.all numeral=true):∀n v:Int,0≤n→((n≤65535∧v=n)∨(65535<n∧v=65536))→∃m,numGo 10 65535 n (Zb p)=some m∧0≤m∧((m≤65535∧p.foldl ZbI v=m)∨(65535<m∧p.foldl ZbI v=65536)):=by
 induction p with
 | nil=>intro n v h0 h;exact⟨n,rfl,h0,h⟩
 | cons c r ih=>
  intro n v h0 h;rw[List.all_cons,Xd]at ha;have hc:=ZgP ha.1
  have hd:digit c=c-48:=by unfold digit;rw[if_pos hc]
  rw[bytesOf_cons,ZmN (by omega),List.foldl_cons]
  show ∃m,numGo 10 65535 n (toB c::Zb r)=some m∧_
  have h9:0≤c-48∧c-48<10:=by omega
  rw[numGo,Zbf (by omega) (by omega),Zd2 _ _ (by omega),hd,if_pos h9]
  simp only[if_true]
  refine ih ha.2 _ _ ?_ ?_
  ·split<;>omega
  ·unfold ZbI
   rcases h with⟨h1,rfl⟩|⟨h1,rfl⟩
   ·rw[if_pos h1]
    by_cases h3:65535<10*v+c-48
    ·rw[if_pos h3];exact Or.inr ⟨by omega,rfl⟩
    ·rw[if_neg h3];exact Or.inl ⟨by omega,by omega⟩
   ·rw[if_neg (by omega),if_pos (by omega)]
    exact Or.inr ⟨h1,rfl⟩
theorem Zsx(p:LI)(hp:∀c∈p,Pt c):ZaI (Zb p)=if ZU p=false∨65535<value p then(0,false)else(value p,true):=by
 unfold ZaI;have hn:=Zgp p hp 65535
 cases ha:ZU p
 ·rw[ha]at hn
  rw[if_pos (Or.inl hn),if_pos (Or.inl rfl)]
 ·rw[ha]at hn
  have ha':p.all numeral=true∧p≠[]:=by
   unfold ZU at ha;rw[Xd]at ha
   exact⟨ha.1,fun e=>by rw[e]at ha;exact absurd ha.2 (by decide)⟩
  obtain⟨m,hm,hm0,hr⟩:=ZuJ p ha'.1 0 0 (Int.le_refl _) (Or.inl ⟨by decide,rfl⟩)
  have hne:Zb p≠[]:=fun e=>ha'.2 ((Zr hp).1 e)
  have hnum:Zq (Zb p) 10 65535=if 65535<m then(65536,true)else(m,true):=by unfold Zq;rw[if_neg hne,hm];rfl
  rw[show p.foldl ZbI 0=value p from rfl]at hr;rw[hnum]
  by_cases hm2:65535<m
  ·have:65535<value p:=by rcases hr with⟨a,b⟩|⟨a,b⟩<;>omega
   rw[if_pos hm2,if_pos (Or.inr (by decide)),if_pos (Or.inr this)]
  ·have:value p=m:=by rcases hr with⟨a,b⟩|⟨a,b⟩<;>omega
   rw[if_neg hm2,if_neg (by rintro(g|g);cases g;exact hm2 g),this,if_neg (by rintro(g|g);cases g;exact hm2 g)]
theorem ZuK(p:LI)(h:ZU p=true):0≤value p:=(Zk4 p (by unfold ZU at h;rw[Xd]at h;exact h.1)).1
theorem Zxo(sch:LB)(n:Int)(h0:0≤n):ZtD sch n=if(ZJ sch).2=true∧n=(ZJ sch).1 then -1 else n:=by
 unfold ZtD ZdJ ZJ;simp only[Zg3,names6,ZeN];have e1:tl (⟨#[104,116,116,112]⟩:BA)=[104,116,116,112]:=rfl;have e2:tl (⟨#[104,116,116,112,115]⟩:BA)=[104,116,116,112,115]:=rfl;have e3:tl (⟨#[119,115]⟩:BA)=[119,115]:=rfl;have e4:tl (⟨#[119,115,115]⟩:BA)=[119,115,115]:=rfl;have e5:tl (⟨#[102,116,112]⟩:BA)=[102,116,112]:=rfl;have e6:tl (⟨#[102,105,108,101]⟩:BA)=[102,105,108,101]:=rfl;rw[e1,e2,e3,e4,e5,e6]
 by_cases h1:sch=[104,116,116,112]
 ·subst h1;simp
 by_cases h2:sch=[104,116,116,112,115]
 ·subst h2;simp
 by_cases h3:sch=[119,115]
 ·subst h3;simp
 by_cases h4:sch=[119,115,115]
 ·subst h4;simp
 by_cases h5:sch=[102,116,112]
 ·subst h5;simp
 rw[if_neg (Ne.symm h1),if_neg (Ne.symm h2),if_neg (Ne.symm h3),if_neg (Ne.symm h4),if_neg (Ne.symm h5),if_neg (show ¬(sch=[104,116,116,112]∨sch=[119,115])by rintro(e|e);exact h1 e;exact h3 e),if_neg (show ¬(sch=[104,116,116,112,115]∨sch=[119,115,115])by rintro(e|e);exact h2 e;exact h4 e),if_neg h5]
 by_cases h6:sch=[102,105,108,101]
 ·have n1:¬n=((-1:Int),true).1:=by show ¬n=-1;omega
  have n2:¬(((0:Int),false).2=true∧n=((0:Int),false).1):=fun g=>by cases g.1
  rw[if_pos h6.symm,if_neg n1,if_neg n2]
 ·have n1:¬n=((-1:Int),false).1:=by show ¬n=-1;omega
  have n2:¬(((0:Int),false).2=true∧n=((0:Int),false).1):=fun g=>by cases g.1
  rw[if_neg (Ne.symm h6),if_neg n1,if_neg n2]
structure Rl (b:Bool) (Q S:List UInt8) (u:U) (m:RU):Prop where
 sch:m.sch=u.sch
 own:u.sch=S
 user:m.user=u.nam
 pass:m.pass=u.pw
 his:m.his=u.hh
 htx:m.htx=u.host
 port:m.port=if u.hp=true then(u.port:Int)else -1
 path:m.path=u.segs
 op:m.op=u.op
 bl:m.bl=u.opath
 hq:m.hq=u.hq
 q:(if b=true then Q else m.q)=u.q
 hf:m.hf=u.hf
 fr:m.fr=[]
 zfr:u.fr=[]
def ZuL(b:Bool)(Q S:List UInt8)(x:U×Int)(y:RU×Int):Prop:=x.2=y.2∧(x.2=0→Rl b Q S x.1 y.1)
theorem Zl3{b:Bool}{Q S:LB}{u:U}{m:RU}(h:Rl b Q S u m)(l:LI)(hl:∀c∈l,Sc c):ZuL b Q S (Z2 u (Zb l)) (ZaS m l):=by
 have hpt:∀c∈l,Pt c:=fun c hc=>(hl c hc).pt
 unfold Z2 ZaS Zeq;rw[ZkG l hpt,h.sch,special_eq];rcases ZlV l with hc|⟨k,hc,hk⟩
 ·rw[if_pos hc,if_pos hc]
  simp only[Xb,or_false];have hE:=Zr hpt
  by_cases h0:l=[]∧Zc u.sch=true
  ·have h0':Zb l=[]∧Zc u.sch=true:=⟨hE.2 h0.1,h0.2⟩
   rw[if_pos h0',if_pos h0]
   exact⟨rfl,fun g=>by cases g⟩
  ·have h0':¬(Zb l=[]∧Zc u.sch=true):=fun g=>h0 ⟨hE.1 g.1,g.2⟩
   rw[if_neg h0',if_neg h0];obtain⟨e1,e2⟩:=Znp l hl (Zc u.sch);rw[e1]
   by_cases h2:(hostOf l (Zc u.sch)).2.2≠0
   ·rw[if_pos h2,if_pos h2]
    exact⟨rfl,fun g=>absurd g h2⟩
   ·have h2':(hostOf l (Zc u.sch)).2.2=0:=Classical.not_not.1 h2
    rw[if_neg h2,if_neg h2,if_pos trivial]
    exact⟨rfl,fun _=>{ h with sch:=rfl,his:=by rw[e2,decide_eq_true h2'],htx:=rfl }⟩
 ·have hcn:¬colon l=-1:=by omega
  have hkn:(colon l).toNat=k:=by omega
  rw[if_neg hcn,if_neg hcn,hkn];simp only[or_true,and_true]
  have htp:∀c∈l.take k,Pt c:=fun c g=>hpt c (Xh g)
  have hdp:∀c∈l.drop (k+1),Pt c:=fun c g=>hpt c (Xi g)
  have hE:=Zr htp;have hF:=Zr hdp
  by_cases h0:l.take k=[]
  ·rw[if_pos (hE.2 h0),if_pos h0]
   exact⟨rfl,fun g=>by cases g⟩
  ·have h0':¬Zb (l.take k)=[]:=fun g=>h0 (hE.1 g)
   rw[if_neg h0',if_neg h0]
   obtain⟨e1,e2⟩:=Znp (l.take k) (fun c g=>hl c (Xh g)) (Zc u.sch)
   rw[e1]
   by_cases h2:(hostOf (l.take k) (Zc u.sch)).2.2≠0
   ·rw[if_pos h2,if_pos h2]
    exact⟨rfl,fun g=>absurd g h2⟩
   ·have h2':(hostOf (l.take k) (Zc u.sch)).2.2=0:=Classical.not_not.1 h2
    rw[if_neg h2,if_neg h2]
    by_cases h3:l.drop (k+1)=[]
    ·rw[if_pos (hF.2 h3),if_pos h3]
     exact⟨rfl,fun _=>{ h with sch:=rfl,his:=by rw[e2,decide_eq_true h2'],htx:=rfl }⟩
    ·have h3':¬Zb (l.drop (k+1))=[]:=fun g=>h3 (hF.1 g)
     rw[if_neg h3',if_neg h3];unfold Zgg;rw[Zsx _ hdp]
     by_cases h4:ZU (l.drop (k+1))=false∨65535<value (l.drop (k+1))
     ·rw[if_pos h4,if_pos h4]
      exact⟨rfl,fun g=>by cases g⟩
     ·have hnn:0≤value (l.drop (k+1)):=ZuK _ (by cases hx:ZU (l.drop (k+1))with|true=>rfl|false=>exact absurd (Or.inl hx) h4)
      rw[if_neg h4,if_neg h4,if_neg (by intro g;cases g)]
      refine⟨rfl,fun _=>?_⟩
      unfold Za6;simp only;rw[Zxo u.sch _ hnn]
      by_cases h5:(ZJ u.sch).2=true∧value (l.drop (k+1))=(ZJ u.sch).1
      ·rw[if_pos h5,if_pos h5]
       exact { h with sch:=rfl,his:=by rw[e2,decide_eq_true h2'],htx:=rfl,port:=rfl }
      ·rw[if_neg h5,if_neg h5]
       exact { h with sch:=rfl,his:=by rw[e2,decide_eq_true h2'],htx:=rfl,port:=by show value (l.drop (k+1))=((value (l.drop (k+1))).toNat:Int);omega }
structure Wf (u:U):Prop where
 nh:u.hh=false→u.nam=[]∧u.pw=[]∧u.host=[]∧u.hp=false
 nq:u.hq=false→u.q=[]
 nf:u.hf=false→u.fr=[]
theorem ZdO:Wf zeroU:=⟨fun _=>⟨rfl,rfl,rfl,rfl⟩,fun _=>rfl,fun _=>rfl⟩
theorem Ze2(p:UInt8→Bool)(l:LB):(bcut p l).2.2=false→(bcut p l).2.1=[]:=by
 induction l with
 | nil=>intro _;rfl
 | cons c r ih=>
  unfold bcut
  split
  ·intro h;cases h
  ·exact ih
theorem Za9(set:LB):encB set (clean [])=[]:=by rw[clean_nil];rfl
theorem Wf.segs{u:U}(h:Wf u)(s:List LB):Wf { u with segs:=s }:=⟨h.nh,h.nq,h.nf⟩
theorem Wf.pathed{u:U}(h:Wf u)(b:Bool)(s:LB):Wf { u with op:=b,opath:=s }:=⟨h.nh,h.nq,h.nf⟩
theorem Wf.hosted{u:U}(h:Wf u):Wf { u with hh:=true }:=⟨fun h0=>(by cases h0),h.nq,h.nf⟩
theorem Wf.hosts{u:U}(h:Wf u)(x:LB):Wf { u with hh:=true,host:=x }:=⟨fun h0=>(by cases h0),h.nq,h.nf⟩
theorem ZkH(sch q:LB)(hq:Bool)(h:hq=false→q=[]):Wf (ZcE sch hq q):=
 ⟨fun _=>⟨rfl,rfl,rfl,rfl⟩,fun h0=>by show encB _ (clean q)=[];rw[h h0,Za9],fun _=>rfl⟩
theorem Zl4{u base:U}(left:LB)(h:Wf u)(hb:Wf base):Wf (Zad u left base):=by
 unfold Zad
 split
 ·refine⟨h.nh,?_,h.nf⟩
  intro h0
  have h1:(u.hq||base.hq)=false:=h0;rw[Bool.or_eq_false_iff]at h1
  show(if u.hq=true then u.q else base.q)=[]
  rw[if_neg (by rw[h1.1];decide)]
  exact hb.nq h1.2
 ·exact h.segs _
theorem Znv{u:U}(t:LB)(h:Wf u)(h1:u.hh=true):Wf (Z6 u t).1:=by
 unfold Z6
 split
 ·exact h.segs _
 split
 ·exact ZdO
 ·exact⟨fun h0=>absurd (h1.symm.trans h0) (by decide),h.nq,h.nf⟩
theorem Zsz{u base:U}(left:LB)(h:Wf u)(hb:Wf base):Wf (ZdN u left base).1:=by
 unfold ZdN
 split
 ·exact Znv _ h.hosted rfl
 split
 ·exact h.hosted.segs _
 split
 ·exact(h.hosts _).segs _
 split
 ·exact(h.hosts _).segs _
 ·exact Zl4 left (h.hosts _) hb
structure Wq (u:U):Prop where
 nq:u.hq=false→u.q=[]
 nf:u.hf=false→u.fr=[]
theorem Wf.wq{u:U}(h:Wf u):Wq u:=⟨h.nq,h.nf⟩
theorem ZwC{u:U}(p:LB)(h:Wq u)(h1:u.hh=true):Wf (Zgg u p).1:=by
 unfold Zgg
 split
 ·exact ZdO
 show Wf (Za6 u _)
 unfold Za6
 split
 ·exact⟨fun h0=>absurd (h1.symm.trans h0) (by decide),h.nq,h.nf⟩
 ·exact⟨fun h0=>absurd (h1.symm.trans h0) (by decide),h.nq,h.nf⟩
theorem ZuM{u:U}(p:LB)(h:Wq u):Wf (Z2 u p).1:=by
 unfold Z2
 split
 ·exact ZdO
 split
 ·exact ZdO
 split
 ·exact⟨fun h0=>(by cases h0),h.nq,h.nf⟩
 ·exact ZwC _ ⟨h.nq,h.nf⟩ rfl
theorem ZdC{u:U}(t:LB)(h:Wq u):Wf (Zy u t).1:=by
 unfold Zy
 split
 ·exact ZdO
 ·unfold Zdi
  split
  ·exact ZdO
  have hw:=ZuM (u:={ u with nam:=ZfA (bcut (isB 58) (bcutLast 64 (bcut (slB (Zc u.sch)) t).1).1).1,pw:=ZfA (bcut (isB 58) (bcutLast 64 (bcut (slB (Zc u.sch)) t).1).1).2.1 }) (bcutLast 64 (bcut (slB (Zc u.sch)) t).1).2.1 ⟨h.nq,h.nf⟩
  split
  ·exact hw.segs _
  ·exact hw
theorem Wf.keep{u base:U}(h:Wf u)(hb:Wf base):Wf (kept u base):=⟨hb.nh,h.nq,h.nf⟩
theorem ZjI{u base:U}(left:LB)(h:Wf u)(hb:Wf base):Wf (ZX u left base).1:=by
 unfold ZX
 split
 ·exact Zsz left h hb
 split
 ·exact ZdC _ h.wq
 split
 ·exact(h.keep hb).segs _
 ·exact Zl4 left (h.keep hb) hb
theorem Zqd{u base:U}(left:LB)(h:Wf u)(hb:Wf base):Wf (Za7 u left base).1:=by
 unfold Za7
 split
 ·exact ZjI left h hb
 ·exact ZdC _ h.wq
theorem Zqe{u base:U}(left:LB)(h:Wf u)(hb:Wf base):Wf (ZY u left base).1:=by
 unfold ZY
 split
 ·exact Zsz left h hb
 split
 ·exact Zqd left h hb
 split
 ·exact h.pathed _ _
 split
 ·exact h.segs _
 ·exact ZdC _ h.wq
theorem ZsA(sch rest:LB)(found:Bool){base:U}(hb:Wf base):Wf (ZcX sch rest found base).1:=by
 unfold ZcX
 split
 ·exact ZdO
 split
 ·exact Zqe _ (ZkH _ _ _ (Ze2 _ _)) hb
 ·exact ZjI _ (ZkH _ _ _ (Ze2 _ _)) hb
theorem ZuN(l:LB)(hf:Bool){base:U}(hb:Wf base):Wf (ZbK l hf base).1:=by
 unfold ZbK
 split
 ·exact ZsA _ _ _ hb
 split
 ·unfold ZcR
  split
  ·exact hb
  ·exact ZdO
 ·exact ZsA _ _ _ hb
theorem Zqf(l:LB){base:U}(hb:Wf base):Wf (Zae l base).1:=by
 unfold Zae ZgG
 split
 ·exact ZdO
 ·have h:=ZuN (bcut (isB 35) (wholeText l)).1 (bcut (isB 35) (wholeText l)).2.2 hb
  refine⟨h.nh,h.nq,fun h0=>?_⟩
  show encB _ (clean (bcut (isB 35) (wholeText l)).2.1)=[]
  rw[Ze2 _ _ h0,Za9]
theorem Znw(l:LI):∀n,(Zd3 l n=-1∧∀j,j<n→l[j]?≠some 64)∨∃k:Nat,Zd3 l n=(k:Int)∧k<n∧l[k]?=some 64∧∀j,k<j→j<n→l[j]?≠some 64:=by
 intro n
 induction n with
 | zero=>exact Or.inl ⟨rfl,fun j h=>by omega⟩
 | succ n ih=>
  rw[Zd3]
  by_cases h:l[n]?=some 64
  ·rw[if_pos h]
   exact Or.inr ⟨n,rfl,by omega,h,fun j h1 h2=>by omega⟩
  ·rw[if_neg h]
   rcases ih with⟨h1,h2⟩|⟨k,h1,h2,h3,h4⟩
   ·refine Or.inl ⟨h1,fun j hj=>?_⟩
    by_cases e:j=n
    ·subst e;exact h
    ·exact h2 j (by omega)
   ·refine Or.inr ⟨k,h1,by omega,h3,fun j hj1 hj2=>?_⟩
    by_cases e:j=n
    ·subst e;exact h
    ·exact h4 j hj1 (by omega)
theorem Zxp:Asc (isB 64) (fun c=>among c [64]):=ZvH (Zei 64 (by decide) (by decide) 64 rfl)
theorem Zxq{l:LI}(hl:∀c∈l,Pt c)(h:∀c∈l,c≠64):∀b∈Zb l,isB 64 b=false:=by
 have h1:=Zxp.any l hl
 have h2:(l.any fun c=>among c [64])=false:=by
  rw[Xl];intro c hc;have:=h c hc
  simp[among]
  omega
 rw[h2]at h1;intro b hb;have:=Xl.1 h1 b hb
 simpa using this
theorem ZwD(who:LI)(hl:∀c∈who,Pt c):bcutLast 64 (Zb who)=if ZbY who=-1 then([],Zb who,false)else(Zb (who.take (ZbY who).toNat),Zb (who.drop ((ZbY who).toNat+1)),true):=by
 unfold ZbY;rcases Znw who who.length with⟨h1,h2⟩|⟨k,h1,h2,h3,h4⟩
 ·rw[if_pos h1]
  refine Zhg (Zxq hl fun c hc e=>?_)
  obtain⟨j,hj,rfl⟩:=Xk hc
  exact h2 j hj (by rw[Xg hj,e])
 ·rw[if_neg (by omega),h1,Int.toNat_natCast]
  have e:who=who.take k++64::who.drop (k+1):=by
   have h5:who[k]=64:=by rw[Xg h2]at h3;exact Option.some.inj h3
   rw[←h5,←List.drop_eq_getElem_cons h2,List.take_append_drop]
  have hb:Zb who=Zb (who.take k)++64::Zb (who.drop (k+1)):=by
   conv=>lhs;rw[e]
   rw[Zm8,bytesOf_cons]
   rfl
  rw[hb]
  refine Znd (Zxq (fun c hc=>hl c (Xi hc)) fun c hc e=>?_) (by decide)
  obtain⟨j,hj,rfl⟩:=Xk hc;rw[List.length_drop]at hj;rw[List.getElem_drop]at e
  exact h4 (k+1+j) (by omega) (by omega) (by rw[Xg (by omega),e])
theorem Zo0(l:LI)(hl:∀c∈l,Sc c):ZfA (Zb l)=encoded l Zgq:=by
 unfold ZfA;rw[Zbx _ l hl]
 exact Zb9 (Zd1 (by decide) (by decide)) l
theorem Zo1{b:Bool}{Q S:LB}{x:U×Int}{y:RU×Int}(h:ZuL b Q S x y)(sch:LB)(rest:LI)(hr:∀c∈rest,Sc c)(f:Bool):ZuL b Q S (Zdi x sch (Zb rest) f) (ZhJ y sch rest f):=by
 unfold Zdi ZhJ;rw[←h.1]
 by_cases h0:x.2≠0
 ·rw[if_pos h0,if_pos h0]
  exact⟨h.1,fun g=>absurd g h0⟩
 ·rw[if_neg h0,if_neg h0]
  have hr1:=h.2 (Classical.not_not.1 h0)
  cases f
  ·rw[if_neg (by decide),if_neg (by decide)]
   exact⟨rfl,fun _=>hr1⟩
  ·rw[if_pos rfl,if_pos rfl]
   exact⟨rfl,fun _=>{ hr1 with path:=Zau sch rest hr }⟩
theorem ZkI{b:Bool}{Q S:LB}{u:U}{m:RU}(h:Rl b Q S u m)(hn:u.nam=[])(hw:u.pw=[])(l:LI)(hl:∀c∈l,Sc c)(t:LB)(ht:t=Zb (ZcZ u.sch l)):ZuL b Q S (Zy u t) (Zas m l):=by
 subst ht;unfold Zy Zas;rw[h.sch]
 have hl2:∀c∈ZcZ u.sch l,Sc c:=fun c hc=>hl c (ZlY hc)
 generalize ZcZ u.sch l=l2 at *
 have hpt:∀c∈l2,Pt c:=fun c hc=>(hl2 c hc).pt
 have hs:ZtB (slB (Zc u.sch)) (tl (Zk u.sch)):=by rw[ZgK,special_eq];exact Zfk _
 rw[Zan hs l2 hpt]
 have hc1:∀c∈(cut l2 (tl (Zk u.sch))).1,Sc c:=fun c hc=>hl2 c (ZD (Or.inl hc))
 have hc2:∀c∈(cut l2 (tl (Zk u.sch))).2.1,Sc c:=fun c hc=>hl2 c (ZD (Or.inr hc))
 generalize cut l2 (tl (Zk u.sch))=cc at *;obtain⟨who,rest,found⟩:=cc;simp only at *
 rw[ZwD who (fun c hc=>(hc1 c hc).pt),special_eq,Bool.or_comm found]
 unfold Zbp ZqU
 by_cases ha:ZbY who=-1
 ·rw[if_pos ha]
  simp only[Xb,false_and,if_false]
  have g1:¬(ZbY who≠-1∧(if ZbY who=-1 then who else who.drop ((ZbY who).toNat+1))=[]):=fun g=>g.1 ha
  rw[if_neg g1,if_pos ha,if_pos ha]
  refine Zo1 (Zl3 ?_ who hc1) u.sch rest hc2 _
  have e:ZfA (bcut (isB 58) []).1=[]∧ZfA (bcut (isB 58) []).2.1=[]:=⟨by unfold ZfA;exact Za9 _,by unfold ZfA;exact Za9 _⟩
  exact { h with user:=by show m.user=ZfA (bcut (isB 58) []).1;rw[e.1,h.user,hn],pass:=by show m.pass=ZfA (bcut (isB 58) []).2.1;rw[e.2,h.pass,hw] }
 ·have hdp:∀c∈who.drop ((ZbY who).toNat+1),Sc c:=fun c hc=>hc1 c (Xi hc)
  have htp:∀c∈who.take (ZbY who).toNat,Sc c:=fun c hc=>hc1 c (Xh hc)
  rw[if_neg ha,if_neg ha,if_neg ha];simp only[true_and]
  have hE:=Zr (l:=who.drop ((ZbY who).toNat+1)) (fun c hc=>(hdp c hc).pt)
  by_cases h0:who.drop ((ZbY who).toNat+1)=[]
  ·rw[if_pos (hE.2 h0),if_pos ⟨ha,h0⟩]
   exact⟨rfl,fun g=>by cases g⟩
  ·have h0':¬Zb (who.drop ((ZbY who).toNat+1))=[]:=fun g=>h0 (hE.1 g)
   rw[if_neg h0',if_neg (fun g=>h0 g.2)]
   refine Zo1 (Zl3 ?_ _ hdp) u.sch rest hc2 _
   have hcol:=Zan Zjt (who.take (ZbY who).toNat) (fun c hc=>(htp c hc).pt)
   refine { h with user:=?_,pass:=?_ }
   ·show encoded _ Zgq=ZfA (bcut (isB 58) (Zb (who.take (ZbY who).toNat))).1
    rw[hcol,Zo0 _ (fun c hc=>htp c (ZD (Or.inl hc)))]
   ·show encoded _ Zgq=ZfA (bcut (isB 58) (Zb (who.take (ZbY who).toNat))).2.1
    rw[hcol,Zo0 _ (fun c hc=>htp c (ZD (Or.inr hc)))]
theorem Zo2:ZtB (slB true) [47,92]:=Zfk true
theorem ZwE(l:LI):letter (cut l [47,92]).1=driven l:=by
 unfold driven
 match l with
 | []=>rfl
 | [c]=>
  rw[if_pos (by simp),cut]
  split
  ·rfl
  ·rfl
 | c::d::r=>
  rw[if_neg (by simp)]
  show _=(letter [c,d]&&(decide ((c::d::r).length=2)||Zn (c::d::r) 2 Zx))
  cases hl:letter [c,d]
  ·rw[Bool.false_and]
   rw[cut]
   split
   ·rfl
   ·rw[cut]
    split
    ·rfl
    ·cases r with
     | nil=>exact hl
     | cons e t=>
      rw[cut]
      split
      ·exact hl
      ·rfl
  ·have hl':(alpha c&&(d==58||d==124))=true:=hl
   rw[Xd]at hl'
   have hc:c<128∧65≤c∧c≠92:=by
    have:=hl'.1
    simp[alpha]at this
    omega
   have hd:d=58∨d=124:=by simpa using hl'.2
   have n1:among c [47,92]=false:=by simp[among];omega
   have n2:among d [47,92]=false:=by rcases hd with rfl|rfl<;>rfl
   rw[Bool.true_and,cut,n1,cut,n2];simp only[Xb,if_false]
   cases r with
   | nil=>exact hl
   | cons e t=>
    have hs:Zn (c::d::e::t) 2 Zx=among e [47,92]:=rfl
    rw[hs,cut,decide_eq_false (by simp)]
    cases he:among e [47,92]
    ·simp only[Xb,if_false,Bool.or_self]
     rfl
    ·simp only[if_true,Bool.or_true]
     exact hl
theorem ZiB(l:LI)(hl:∀c∈l,Pt c):Zai (Zb l)=driven l:=by
 unfold Zai;rw[Zan Zo2 l hl]
 show ZN (Zb (cut l [47,92]).1)=_
 rw[ZcH _ (fun c hc=>hl c (ZD (Or.inl hc))),ZwE]
theorem Znx{b:Bool}{Q S:LB}{u:U}{m:RU}(h:Rl b Q S u m)(hh:u.hh=true)(l:LI)(hl:∀c∈l,Sc c):(ZH (Zb l)).2=(Zak m l).2∧((Zak m l).2=0→Rl b Q S { u with host:=(ZH (Zb l)).1 } (Zak m l).1):=by
 unfold ZH Zak
 have hE:=Zr (l:=l) (fun c hc=>(hl c hc).pt)
 obtain⟨e1,e2⟩:=Znp l hl true
 by_cases h0:l=[]
 ·rw[if_pos (hE.2 h0),if_pos h0]
  exact⟨rfl,fun _=>{ h with his:=hh.symm,htx:=rfl }⟩
 ·have h0':¬Zb l=[]:=fun g=>h0 (hE.1 g)
  rw[if_neg h0',if_neg h0,e1]
  by_cases h1:(hostOf l true).2.2≠0
  ·rw[if_pos h1,if_pos h1]
   exact⟨rfl,fun g=>absurd g h1⟩
  ·have h1':=Classical.not_not.1 h1
   rw[if_neg h1,if_neg h1]
   by_cases h2:(hostOf l true).2.1=ZoT
   ·have h2':(hostOf l true).2.1=ZeS:=h2
    rw[if_pos h2',if_pos h2]
    exact⟨rfl,fun _=>{ h with his:=hh.symm,htx:=rfl }⟩
   ·have h2':¬(hostOf l true).2.1=ZeS:=h2
    rw[if_neg h2',if_neg h2]
    exact⟨rfl,fun _=>{ h with his:=by show(hostOf l true).1=u.hh;rw[e2,decide_eq_true h1',hh],htx:=rfl }⟩
theorem Zl5{b:Bool}{Q S:LB}{u:U}{m:RU}(h:Rl b Q S u m)(hh:u.hh=true)(l:LI)(hl:∀c∈l,Sc c):ZuL b Q S (Z6 u (Zb l)) (Zdm m l):=by
 have hpt:∀c∈l,Pt c:=fun c hc=>(hl c hc).pt
 unfold Z6 Zdm;rw[Zan Zo2 l hpt];simp only
 rw[ZcH _ (fun c hc=>hpt c (ZD (Or.inl hc)))]
 by_cases h0:letter (cut l [47,92]).1=true
 ·rw[if_pos h0,if_pos h0]
  exact⟨rfl,fun _=>{ h with path:=by show walked m.sch [] l=_;rw[h.sch];exact Zau u.sch l hl }⟩
 ·rw[if_neg h0,if_neg h0]
  obtain⟨g1,g2⟩:=Znx h hh (cut l [47,92]).1 (fun c hc=>hl c (ZD (Or.inl hc)))
  rw[g1]
  by_cases h1:(Zak m (cut l [47,92]).1).2≠0
  ·rw[if_pos h1,if_pos h1]
   exact⟨rfl,fun g=>absurd g h1⟩
  ·rw[if_neg h1,if_neg h1]
   exact⟨rfl,fun _=>{ g2 (Classical.not_not.1 h1)with path:=by show walked m.sch [] _=_;rw[h.sch];exact Zau u.sch _ (fun c hc=>hl c (ZD (Or.inr hc))) }⟩
end Go.Proofs.YtchkhibgbnhjpabGreatDoor
