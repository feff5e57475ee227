import Derived.Test.YtchkhibgbnhjpabGreatDoorR26
import Derived.Test.YtchkhibgbnhjpabGreatDoorR28
open Bool renaming false_eq_true→Xb,and_eq_true→Xd,eq_iff_iff→Xo,or_false→Xr
open List renaming takeWhile_cons→Xa,mem_cons_of_mem→Xc,drop_succ_cons→Xe,mem_cons_self→Xf,getElem?_eq_getElem→Xg,mem_of_mem_take→Xh,mem_of_mem_drop→Xi,singleton_append→Xj,getElem_of_mem→Xk,any_eq_false→Xl,cons_append→Xm,length_cons→Xn,drop_nil→Xp,any_cons→Xq,any_nil→Xs
namespace Go.Proofs.YtchkhibgbnhjpabGreatDoor
open Go.RowKit
theorem ZgV{s:LB}(h:ZK s=true):∀b∈s,b.toNat<128:=by
 obtain⟨a,b,rfl,ha,hb⟩:=ZeR h;intro x hx;have h1:alpha (a.toNat:Int)=true:=ha;simp only[List.mem_cons,List.not_mem_nil,or_false]at hx;rcases hx with rfl|rfl
 ·rcases Nat.lt_or_ge x.toNat 128 with g|g
  ·exact g
  ·rw[ZdS.hi x g]at ha;cases ha
 ·rcases hb with rfl|rfl<;>decide
theorem Zn9(s:LB):ZK (clean s)=ZK s:=by
 by_cases h:∀b∈s,b.toNat<128
 ·rw[Zda h]
 ·have h1:ZK s=false:=by
   cases hd:ZK s with
   | false=>rfl
   | true=>exact absurd (ZgV hd) h
  have h2:ZK (clean s)=false:=by
   cases hd:ZK (clean s)with
   | false=>rfl
   | true=>exact absurd (Zhv s.length s (Nat.le_refl _) (ZgV hd)) h
  rw[h1,h2]
theorem ZpR(s:LB):drive s=Zap s:=by
 unfold drive Zap
 have hpt:∀c∈Zk s,Pt c:=fun c hc=>(Za3 s c hc).pt
 have hl:=Zcy (Zk s) hpt;rw[ZaK,Zn9]at hl;rw[←hl]
 cases hd:ZK s
 ·rfl
 ·rw[hd]at hl
  have hb:=ZaK s;rw[Zda (ZgV hd)]at hb
  match hp:Zk s,hl,hpt with
  | [x,y],hl,hpt=>
   rw[hp]at hb
   have hl':(alpha x&&(y==58||y==124))=true:=hl.symm;rw[Xd]at hl'
   have hx:x<128:=by
    rcases Int.lt_or_le x 128 with g|g
    ·exact g
    ·rw[ZdS.up x g]at hl';exact absurd hl'.1 (by decide)
   have hy:y=58∨y=124:=by simpa using hl'.2
   have hy1:y<128:=by omega
   have hs:s=[toB x,toB y]:=by
    rw[←hb,bytesOf_cons,bytesOf_cons,Zpg hx,Zpg hy1]
    rfl
   rw[hs]
   show(true&&y==58)=(true&&(((toB y).toNat:Int)==58))
   rw[Zbc (by omega) hy1]
theorem ZgW(sch:LB)(p:List LB):Zcn sch p=ZaA (sch==Zt) p:=by
 unfold Zcn ZaA
 have e:p.headD []=p.getD 0 []:=by cases p<;>rfl
 rw[ZpR,e]
 by_cases h:p.length=1∧sch=ZO∧Zap (p.getD 0 [])=true
 ·rw[if_pos h,if_pos ⟨by rw[h.2.1];rfl,h.1,h.2.2⟩]
 ·rw[if_neg h,if_neg (fun g=>h ⟨g.2.1,eq_of_beq g.1,g.2.2⟩),List.dropLast_eq_take]
theorem ZtI(s:LI)(hs:∀c∈s,Sc c)(h:letter s=true):(encoded s ZcM).take 1=(Zb s).take 1:=by
 have hd:=Zcy s (fun c hc=>(hs c hc).pt)
 rw[h]at hd;rw[←Zk5 s hs];obtain⟨a,b,e,ha,-⟩:=ZeR hd;have:=Zj1 ha;rw[e,ZfT _ this.1 this.2.1 this.2.2]
 rfl
theorem Zq9(sch:LB)(p:List LB)(s:LI)(last:Bool)(hs:∀c∈s,Sc c):Zas sch p s last=ZdC (sch==Zt) p (Zb s) last:=by
 unfold Zas ZdC
 have hd:dots (encoded s ZcM)=(countDots (Zb s):Int):=by rw[Zyl,←Zk5 s hs,Zpz]
 rw[hd]
 by_cases h0:countDots (Zb s)=0
 ·rw[if_pos (by omega),if_pos h0]
  unfold joinL
  have hl:=Zcy s (fun c hc=>(hs c hc).pt)
  by_cases hc:letter s=true∧sch=ZO∧p=[]
  ·rw[if_pos hc,if_pos ⟨by rw[hc.2.1];rfl,hc.2.2,by rw[hl];exact hc.1⟩,ZtI s hs hc.1]
  ·rw[if_neg hc,if_neg (fun g=>hc ⟨by rw[←hl];exact g.2.2,eq_of_beq g.1,g.2.1⟩)]
   rw[show encB (tl (ZaD 4)) (clean (Zb s))=encoded s ZcM from Zk5 s hs]
 ·rw[if_neg (by omega),if_neg h0,ZgW]
  by_cases h2:countDots (Zb s)=2
  ·rw[if_pos (by omega),if_pos h2]
  ·rw[if_neg (by omega),if_neg h2]
theorem ZtJ(sch:LB):∀(ss:List LI) (p:List LB),(∀s∈ss,∀c∈s,Sc c)→ZfC sch p ss=Zcb (sch==Zt) p (ss.map Zb):=by
 intro ss
 induction ss with
 | nil=>intro p _;rfl
 | cons s r ih=>
  intro p hs
  rw[ZfC,Zq9 sch p s _ (hs s (Xf ..)),ih _ (fun x hx=>hs x (Xc _ hx))]
  cases r with
  | nil=>rfl
  | cons x y=>rfl
theorem ZeW(sch:LB)(p:List LB)(l:LI)(hl:∀c∈l,Sc c):walked sch p l=ZaW (sch==Zt) (Zc sch) p (Zb l):=by
 unfold walked ZaW
 rw[Zn0 sch l (fun c hc=>(hl c hc).pt),ZtJ sch _ p (fun s hs c hc=>hl c (((ZaQ l _).2 s hs).2 c hc))]
theorem Zbr(sch:LB)(l:LI)(hl:∀c∈l,Sc c):walked sch [] l=ZbU (Zb l) sch:=ZeW sch [] l hl
theorem ZxD{p:UInt8→Bool}{t:LB}(h:Zve p t):Asc p (fun c=>among c t):=⟨h.low,h.high,h.none⟩
def slP(sp:Bool)(c:Int):Bool:=among c (if sp then [47,92]else [47])
theorem ZtK(sp:Bool):Asc (slB sp) (slP sp):=ZxD (Zfh sp)
theorem Zyt{sp:Bool}{c:Int}(h:slP sp c=true):0≤c∧c<128:=by
 unfold slP at h
 cases sp<;>simp[among]at h<;>omega
theorem slP_of(sch:LB)(c:Int):among c (tl (Zl sch))=slP (Zc sch) c:=by rw[ZgO,special_eq];rfl
theorem Zat(sp:Bool)(l:LI)(hl:∀c∈l,Pt c):countSl sp (Zb l)=(l.takeWhile (slP sp)).length:=by
 induction l with
 | nil=>rfl
 | cons c r ih=>
  have ih':=ih (fun x hx=>hl x (Xc _ hx))
  rw[bytesOf_cons,Xa];rcases Zad (hl c (Xf ..))with⟨a,b,e⟩|⟨a,b,e⟩
  ·rw[e,Xj,countSl,(ZtK sp).lo c a b]
   split
   ·rw[ih'];rfl
   ·rfl
  ·rw[(ZtK sp).up c a]
   cases hx:(utf c).map toB with
   | nil=>exact absurd hx b
   | cons y q=>
    rw[Xm,countSl,(ZtK sp).hi y (e y (by rw[hx];simp))]
    rfl
theorem ZcV(sp:Bool)(l:LI):∀k,k≤(l.takeWhile (slP sp)).length→(Zb l).drop k=Zb (l.drop k):=by
 induction l with
 | nil=>intro k _;rw[Xp];rw[bytesOf_nil,Xp]
 | cons c r ih=>
  intro k hk
  cases k with
  | zero=>rfl
  | succ k=>
   rw[Xa]at hk
   cases hc:slP sp c
   ·rw[hc]at hk;simp at hk
   ·rw[hc]at hk
    simp only[if_true,Xn]at hk;rw[bytesOf_cons,Zpg (Zyt hc).2]
    show(toB c::Zb r).drop (k+1)=_
    rw[Xe,Xe]
    exact ih k (by omega)
theorem Zoa(sp:Bool)(l:LI)(hl:∀c∈l,Pt c):(Zb l).drop (countSl sp (Zb l))=Zb (l.dropWhile (slP sp)):=by
 rw[Zat sp l hl,ZcV sp l _ (Nat.le_refl _)]
 congr 1
 induction l with
 | nil=>rfl
 | cons c r ih=>
  rw[Xa,List.dropWhile_cons]
  split
  ·rw[Xn,Xe]
   exact ih (fun x hx=>hl x (Xc _ hx))
  ·rfl
theorem ZpS(sch:LB)(l:LI)(hl:∀c∈l,Pt c):ZB l 0 sch=decide (1≤countSl (Zc sch) (Zb l)):=by
 rw[Zat _ l hl];unfold ZB
 cases l with
 | nil=>rfl
 | cons c r=>
  show among c (tl (Zl sch))=_
  rw[slP_of,Xa]
  cases slP (Zc sch) c<;>simp
theorem ZmD(sch:LB)(l:LI)(hl:∀c∈l,Pt c):(ZB l 0 sch&&ZB l 1 sch)=decide (1<countSl (Zc sch) (Zb l)):=by
 rw[Zat _ l hl];unfold ZB
 match l with
 | []=>rfl
 | [c]=>
  show(among c (tl (Zl sch))&&false)=_
  rw[Xa]
  cases slP (Zc sch) c<;>simp
 | c::d::r=>
  show(among c (tl (Zl sch))&&among d (tl (Zl sch)))=_
  rw[slP_of,slP_of,Xa,Xa]
  cases slP (Zc sch) c<;>cases slP (Zc sch) d<;>simp
theorem Zlg(sch:LB)(l:LI)(hl:∀c∈l,Pt c):Zb (ZcP sch l)=if Zc sch=true then(Zb l).drop (countSl true (Zb l))else Zb l:=by
 unfold ZcP;rw[special_eq]
 by_cases h:Zc sch=true
 ·rw[if_pos h,if_pos h,Zoa true l hl]
  congr 2
  funext c
  rw[slP_of,h]
 ·rw[if_neg h,if_neg h]
theorem Zyu(l:LI)(hl:∀c∈l,Pt c):ZiS l=decide (2≤countSl false (Zb l)):=by
 rw[Zat _ l hl]
 have h47:∀c:Int,slP false c=(c==47):=fun c=>by
  unfold slP among;simp only[Xb,if_false,Xq,Xs,Xr];rw[Xo,beq_iff_eq,beq_iff_eq];have:((47:UInt8).toNat:Int)=47:=rfl
  omega
 match l with
 | []=>rfl
 | [c]=>rw[Xa,h47];cases c==47<;>simp[ZiS]
 | c::d::r=>
  rw[Xa,Xa,h47,h47]
  show(decide (1<(c::d::r).length)&&c==47&&d==47)=_
  rw[decide_eq_true (by simp)]
  cases c==47<;>cases d==47<;>simp
theorem Zyv(l:LI)(hl:∀c∈l,Pt c):Zys l=decide (1≤countSl false (Zb l)):=by
 rw[Zat _ l hl]
 have h47:∀c:Int,slP false c=(c==47):=fun c=>by
  unfold slP among;simp only[Xb,if_false,Xq,Xs,Xr];rw[Xo,beq_iff_eq,beq_iff_eq];have:((47:UInt8).toNat:Int)=47:=rfl
  omega
 match l with
 | []=>rfl
 | c::r=>
  rw[Xa,h47]
  show(decide (0<(c::r).length)&&c==47)=_
  rw[decide_eq_true (by simp)]
  cases c==47<;>simp
theorem Zlh(l:LI):∀(inb:Bool) (i:Nat),ZN inb i l=if ZN inb 0 l=-1 then -1 else ZN inb 0 l+i:=by
 induction l with
 | nil=>intro inb i;rfl
 | cons c r ih=>
  intro inb i;rw[ZN,ZN]
  have hge:∀b,-1≤ZN b 0 r:=fun b=>by
   rcases ZfW r b 0 with h|h
   ·omega
   ·omega
  by_cases h1:c=91
  ·rw[if_pos h1,if_pos h1,ih true (i+1),ih true (0+1)]
   have:=hge true
   by_cases h:ZN true 0 r=-1
   ·rw[if_pos h,if_pos h];rfl
   ·rw[if_neg h,if_neg h,if_neg (by omega)];omega
  ·rw[if_neg h1,if_neg h1]
   by_cases h2:c=93
   ·rw[if_pos h2,if_pos h2,ih false (i+1),ih false (0+1)]
    have:=hge false
    by_cases h:ZN false 0 r=-1
    ·rw[if_pos h,if_pos h];rfl
    ·rw[if_neg h,if_neg h,if_neg (by omega)];omega
   ·rw[if_neg h2,if_neg h2]
    by_cases h3:c=58∧inb=false
    ·rw[if_pos h3,if_pos h3];simp
    ·rw[if_neg h3,if_neg h3,ih inb (i+1),ih inb (0+1)]
     have:=hge inb
     by_cases h:ZN inb 0 r=-1
     ·rw[if_pos h,if_pos h];rfl
     ·rw[if_neg h,if_neg h,if_neg (by omega)];omega
theorem Zjo(q l:LB)(h:∀b∈q,128≤b.toNat)(inb:Bool):cutPortGo inb (q++l)=(cutPortGo inb l).map fun x=>(q++x.1,x.2):=by
 induction q with
 | nil=>cases hc:cutPortGo inb l<;>simp[hc]
 | cons b q ih=>
  have hb:=h b (Xf ..)
  rw[Xm,cutPortGo,if_neg (by omega),if_neg (by omega),if_neg (by omega),ih (fun x hx=>h x (Xc _ hx))]
  cases cutPortGo inb l<;>rfl
theorem ZiT(l:LI)(hl:∀c∈l,Pt c):∀inb:Bool,cutPortGo inb (Zb l)=if ZN inb 0 l=-1 then none else some (Zb (l.take (ZN inb 0 l).toNat),Zb (l.drop ((ZN inb 0 l).toNat+1))):=by
 induction l with
 | nil=>intro inb;rfl
 | cons c r ih=>
  intro inb
  have ih':=ih (fun x hx=>hl x (Xc _ hx))
  have hge:∀b,-1≤ZN b 0 r:=fun b=>by
   rcases ZfW r b 0 with h|h
   ·omega
   ·omega
  have key:∀(b':Bool) (pre:LB),pre=(utf c).map toB→(cutPortGo b' (Zb r)).map (fun x=>(pre++x.1,x.2))=if ZN b' (0+1) r=-1 then none else some (Zb ((c::r).take (ZN b' (0+1) r).toNat),Zb ((c::r).drop ((ZN b' (0+1) r).toNat+1))):=by
   intro b' pre hpre;rw[ih' b',Zlh r b' (0+1)];have:=hge b'
   by_cases h:ZN b' 0 r=-1
   ·rw[if_pos h,if_pos h];rfl
   ·rw[if_neg h,if_neg h]
    have e:(ZN b' 0 r+((0+1:Nat):Int)).toNat=(ZN b' 0 r).toNat+1:=by omega
    rw[if_neg (by omega),e,List.take_succ_cons,Xe,bytesOf_cons,hpre]
    rfl
  rw[ZN,bytesOf_cons];rcases Zad (hl c (Xf ..))with⟨a,b,e⟩|⟨a,b,e⟩
  ·rw[e,Xj,cutPortGo,Zbc a b]
   by_cases h1:c=91
   ·rw[if_pos h1,if_pos h1]
    exact key true [toB c] e.symm
   ·rw[if_neg h1,if_neg h1]
    by_cases h2:c=93
    ·rw[if_pos h2,if_pos h2]
     exact key false [toB c] e.symm
    ·rw[if_neg h2,if_neg h2]
     by_cases h3:c=58∧inb=false
     ·rw[if_pos h3,if_pos h3]
      rfl
     ·rw[if_neg h3,if_neg h3]
      exact key inb [toB c] e.symm
  ·have n1:¬c=91:=by omega
   have n2:¬c=93:=by omega
   have n3:¬(c=58∧inb=false):=by omega
   rw[if_neg n1,if_neg n2,if_neg n3,Zjo _ _ e];exact key inb _ rfl
theorem Zli(l:LI)(hl:∀c∈l,Pt c):Zz (Zb l)=if colon l=-1 then(Zb l,[],false)else(Zb (l.take (colon l).toNat),Zb (l.drop ((colon l).toNat+1)),true):=by
 unfold Zz colon;rw[ZiT l hl false]
 by_cases h:ZN false 0 l=-1
 ·rw[if_pos h,if_pos h]
 ·rw[if_neg h,if_neg h]
theorem Zwv(p:LI)(ha:p.all numeral=true):∀n v:Int,0≤n→((n≤65535∧v=n)∨(65535<n∧v=65536))→∃m,numGo 10 65535 n (Zb p)=some m∧0≤m∧((m≤65535∧p.foldl ZbE v=m)∨(65535<m∧p.foldl ZbE v=65536)):=by
 induction p with
 | nil=>intro n v h0 h;exact⟨n,rfl,h0,h⟩
 | cons c r ih=>
  intro n v h0 h;rw[List.all_cons,Xd]at ha;have hc:=ZgT ha.1
  have hd:digit c=c-48:=by unfold digit;rw[if_pos hc]
  rw[bytesOf_cons,Zpg (by omega),List.foldl_cons]
  show ∃m,numGo 10 65535 n (toB c::Zb r)=some m∧_
  have h9:0≤c-48∧c-48<10:=by omega
  rw[numGo,Zbc (by omega) (by omega),ZdV _ _ (by omega),hd,if_pos h9]
  simp only[if_true]
  refine ih ha.2 _ _ ?_ ?_
  ·split<;>omega
  ·unfold ZbE
   rcases h with⟨h1,rfl⟩|⟨h1,rfl⟩
   ·rw[if_pos h1]
    by_cases h3:65535<10*v+c-48
    ·rw[if_pos h3];exact Or.inr ⟨by omega,rfl⟩
    ·rw[if_neg h3];exact Or.inl ⟨by omega,by omega⟩
   ·rw[if_neg (by omega),if_pos (by omega)]
    exact Or.inr ⟨h1,rfl⟩
theorem ZtL(p:LI)(hp:∀c∈p,Pt c):ZaM (Zb p)=if ZP p=false∨65535<value p then(0,false)else(value p,true):=by
 unfold ZaM;have hn:=Zgp p hp 65535
 cases ha:ZP p
 ·rw[ha]at hn
  rw[if_pos (Or.inl hn),if_pos (Or.inl rfl)]
 ·rw[ha]at hn
  have ha':p.all numeral=true∧p≠[]:=by
   unfold ZP at ha;rw[Xd]at ha
   exact⟨ha.1,fun e=>by rw[e]at ha;exact absurd ha.2 (by decide)⟩
  obtain⟨m,hm,hm0,hr⟩:=Zwv p ha'.1 0 0 (Int.le_refl _) (Or.inl ⟨by decide,rfl⟩)
  have hne:Zb p≠[]:=fun e=>ha'.2 ((Zr hp).1 e)
  have hnum:Zn (Zb p) 10 65535=if 65535<m then(65536,true)else(m,true):=by unfold Zn;rw[if_neg hne,hm];rfl
  rw[show p.foldl ZbE 0=value p from rfl]at hr;rw[hnum]
  by_cases hm2:65535<m
  ·have:65535<value p:=by rcases hr with⟨a,b⟩|⟨a,b⟩<;>omega
   rw[if_pos hm2,if_pos (Or.inr (by decide)),if_pos (Or.inr this)]
  ·have:value p=m:=by rcases hr with⟨a,b⟩|⟨a,b⟩<;>omega
   rw[if_neg hm2,if_neg (by rintro(g|g);cases g;exact hm2 g),this,if_neg (by rintro(g|g);cases g;exact hm2 g)]
theorem Zww(p:LI)(h:ZP p=true):0≤value p:=(ZlF p (by unfold ZP at h;rw[Xd]at h;exact h.1)).1
theorem Zzi(sch:LB)(n:Int)(h0:0≤n):ZxB sch n=if(ZG sch).2=true∧n=(ZG sch).1 then -1 else n:=by
 unfold ZxB ZdA ZG;simp only[Zg9,names6,ZeF];have e1:tl (⟨#[104,116,116,112]⟩:BA)=[104,116,116,112]:=rfl;have e2:tl (⟨#[104,116,116,112,115]⟩:BA)=[104,116,116,112,115]:=rfl;have e3:tl (⟨#[119,115]⟩:BA)=[119,115]:=rfl;have e4:tl (⟨#[119,115,115]⟩:BA)=[119,115,115]:=rfl;have e5:tl (⟨#[102,116,112]⟩:BA)=[102,116,112]:=rfl;have e6:tl (⟨#[102,105,108,101]⟩:BA)=[102,105,108,101]:=rfl;rw[e1,e2,e3,e4,e5,e6]
 by_cases h1:sch=[104,116,116,112]
 ·subst h1;simp
 by_cases h2:sch=[104,116,116,112,115]
 ·subst h2;simp
 by_cases h3:sch=[119,115]
 ·subst h3;simp
 by_cases h4:sch=[119,115,115]
 ·subst h4;simp
 by_cases h5:sch=[102,116,112]
 ·subst h5;simp
 rw[if_neg (Ne.symm h1),if_neg (Ne.symm h2),if_neg (Ne.symm h3),if_neg (Ne.symm h4),if_neg (Ne.symm h5),if_neg (show ¬(sch=[104,116,116,112]∨sch=[119,115])by rintro(e|e);exact h1 e;exact h3 e),if_neg (show ¬(sch=[104,116,116,112,115]∨sch=[119,115,115])by rintro(e|e);exact h2 e;exact h4 e),if_neg h5]
 by_cases h6:sch=[102,105,108,101]
 ·have n1:¬n=((-1:Int),true).1:=by show ¬n=-1;omega
  have n2:¬(((0:Int),false).2=true∧n=((0:Int),false).1):=fun g=>by cases g.1
  rw[if_pos h6.symm,if_neg n1,if_neg n2]
 ·have n1:¬n=((-1:Int),false).1:=by show ¬n=-1;omega
  have n2:¬(((0:Int),false).2=true∧n=((0:Int),false).1):=fun g=>by cases g.1
  rw[if_neg (Ne.symm h6),if_neg n1,if_neg n2]
structure Rl (b:Bool) (Q S:List UInt8) (u:U) (m:RU):Prop where
 sch:m.sch=u.sch
 own:u.sch=S
 user:m.user=u.nam
 pass:m.pass=u.pw
 his:m.his=u.hh
 htx:m.htx=u.host
 port:m.port=if u.hp=true then(u.port:Int)else -1
 path:m.path=u.segs
 op:m.op=u.op
 bl:m.bl=u.opath
 hq:m.hq=u.hq
 q:(if b=true then Q else m.q)=u.q
 hf:m.hf=u.hf
 fr:m.fr=[]
 zfr:u.fr=[]
def Zwx(b:Bool)(Q S:List UInt8)(x:U×Int)(y:RU×Int):Prop:=x.2=y.2∧(x.2=0→Rl b Q S x.1 y.1)
theorem ZmE{b:Bool}{Q S:LB}{u:U}{m:RU}(h:Rl b Q S u m)(l:LI)(hl:∀c∈l,Sc c):Zwx b Q S (Z2 u (Zb l)) (ZaH m l):=by
 have hpt:∀c∈l,Pt c:=fun c hc=>(hl c hc).pt
 unfold Z2 ZaH ZfX;rw[Zli l hpt,h.sch,special_eq];rcases Zmx l with hc|⟨k,hc,hk⟩
 ·rw[if_pos hc,if_pos hc]
  simp only[Xb,or_false];have hE:=Zr hpt
  by_cases h0:l=[]∧Zc u.sch=true
  ·have h0':Zb l=[]∧Zc u.sch=true:=⟨hE.2 h0.1,h0.2⟩
   rw[if_pos h0',if_pos h0]
   exact⟨rfl,fun g=>by cases g⟩
  ·have h0':¬(Zb l=[]∧Zc u.sch=true):=fun g=>h0 ⟨hE.1 g.1,g.2⟩
   rw[if_neg h0',if_neg h0];obtain⟨e1,e2⟩:=Zn6 l hl (Zc u.sch);rw[e1]
   by_cases h2:(hostOf l (Zc u.sch)).2.2≠0
   ·rw[if_pos h2,if_pos h2]
    exact⟨rfl,fun g=>absurd g h2⟩
   ·have h2':(hostOf l (Zc u.sch)).2.2=0:=Classical.not_not.1 h2
    rw[if_neg h2,if_neg h2,if_pos trivial]
    exact⟨rfl,fun _=>{ h with sch:=rfl,his:=by rw[e2,decide_eq_true h2'],htx:=rfl }⟩
 ·have hcn:¬colon l=-1:=by omega
  have hkn:(colon l).toNat=k:=by omega
  rw[if_neg hcn,if_neg hcn,hkn];simp only[or_true,and_true]
  have htp:∀c∈l.take k,Pt c:=fun c g=>hpt c (Xh g)
  have hdp:∀c∈l.drop (k+1),Pt c:=fun c g=>hpt c (Xi g)
  have hE:=Zr htp;have hF:=Zr hdp
  by_cases h0:l.take k=[]
  ·rw[if_pos (hE.2 h0),if_pos h0]
   exact⟨rfl,fun g=>by cases g⟩
  ·have h0':¬Zb (l.take k)=[]:=fun g=>h0 (hE.1 g)
   rw[if_neg h0',if_neg h0]
   obtain⟨e1,e2⟩:=Zn6 (l.take k) (fun c g=>hl c (Xh g)) (Zc u.sch)
   rw[e1]
   by_cases h2:(hostOf (l.take k) (Zc u.sch)).2.2≠0
   ·rw[if_pos h2,if_pos h2]
    exact⟨rfl,fun g=>absurd g h2⟩
   ·have h2':(hostOf (l.take k) (Zc u.sch)).2.2=0:=Classical.not_not.1 h2
    rw[if_neg h2,if_neg h2]
    by_cases h3:l.drop (k+1)=[]
    ·rw[if_pos (hF.2 h3),if_pos h3]
     exact⟨rfl,fun _=>{ h with sch:=rfl,his:=by rw[e2,decide_eq_true h2'],htx:=rfl }⟩
    ·have h3':¬Zb (l.drop (k+1))=[]:=fun g=>h3 (hF.1 g)
     rw[if_neg h3',if_neg h3];unfold Zgh;rw[ZtL _ hdp]
     by_cases h4:ZP (l.drop (k+1))=false∨65535<value (l.drop (k+1))
     ·rw[if_pos h4,if_pos h4]
      exact⟨rfl,fun g=>by cases g⟩
     ·have hnn:0≤value (l.drop (k+1)):=Zww _ (by cases hx:ZP (l.drop (k+1))with|true=>rfl|false=>exact absurd (Or.inl hx) h4)
      rw[if_neg h4,if_neg h4,if_neg (by intro g;cases g)]
      refine⟨rfl,fun _=>?_⟩
      unfold Zbn;simp only;rw[Zzi u.sch _ hnn]
      by_cases h5:(ZG u.sch).2=true∧value (l.drop (k+1))=(ZG u.sch).1
      ·rw[if_pos h5,if_pos h5]
       exact { h with sch:=rfl,his:=by rw[e2,decide_eq_true h2'],htx:=rfl,port:=rfl }
      ·rw[if_neg h5,if_neg h5]
       exact { h with sch:=rfl,his:=by rw[e2,decide_eq_true h2'],htx:=rfl,port:=by show value (l.drop (k+1))=((value (l.drop (k+1))).toNat:Int);omega }
structure Wf (u:U):Prop where
 nh:u.hh=false→u.nam=[]∧u.pw=[]∧u.host=[]∧u.hp=false
 nq:u.hq=false→u.q=[]
 nf:u.hf=false→u.fr=[]
theorem ZdG:Wf zeroU:=⟨fun _=>⟨rfl,rfl,rfl,rfl⟩,fun _=>rfl,fun _=>rfl⟩
theorem ZeX(p:UInt8→Bool)(l:LB):(bcut p l).2.2=false→(bcut p l).2.1=[]:=by
 induction l with
 | nil=>intro _;rfl
 | cons c r ih=>
  unfold bcut
  split
  ·intro h;cases h
  ·exact ih
theorem ZaZ(set:LB):encB set (clean [])=[]:=by rw[clean_nil];rfl
theorem Wf.segs{u:U}(h:Wf u)(s:List LB):Wf { u with segs:=s }:=⟨h.nh,h.nq,h.nf⟩
theorem Wf.pathed{u:U}(h:Wf u)(b:Bool)(s:LB):Wf { u with op:=b,opath:=s }:=⟨h.nh,h.nq,h.nf⟩
theorem Wf.hosted{u:U}(h:Wf u):Wf { u with hh:=true }:=⟨fun h0=>(by cases h0),h.nq,h.nf⟩
theorem Wf.hosts{u:U}(h:Wf u)(x:LB):Wf { u with hh:=true,host:=x }:=⟨fun h0=>(by cases h0),h.nq,h.nf⟩
theorem Zlj(sch q:LB)(hq:Bool)(h:hq=false→q=[]):Wf (Zcw sch hq q):=
 ⟨fun _=>⟨rfl,rfl,rfl,rfl⟩,fun h0=>by show encB _ (clean q)=[];rw[h h0,ZaZ],fun _=>rfl⟩
theorem ZmF{u base:U}(left:LB)(h:Wf u)(hb:Wf base):Wf (Zab u left base):=by
 unfold Zab
 split
 ·refine⟨h.nh,?_,h.nf⟩
  intro h0
  have h1:(u.hq||base.hq)=false:=h0;rw[Bool.or_eq_false_iff]at h1
  show(if u.hq=true then u.q else base.q)=[]
  rw[if_neg (by rw[h1.1];decide)]
  exact hb.nq h1.2
 ·exact h.segs _
theorem Zoc{u:U}(t:LB)(h:Wf u)(h1:u.hh=true):Wf (Z7 u t).1:=by
 unfold Z7
 split
 ·exact h.segs _
 split
 ·exact ZdG
 ·exact⟨fun h0=>absurd (h1.symm.trans h0) (by decide),h.nq,h.nf⟩
theorem ZtN{u base:U}(left:LB)(h:Wf u)(hb:Wf base):Wf (ZdD u left base).1:=by
 unfold ZdD
 split
 ·exact Zoc _ h.hosted rfl
 split
 ·exact h.hosted.segs _
 split
 ·exact(h.hosts _).segs _
 split
 ·exact(h.hosts _).segs _
 ·exact ZmF left (h.hosts _) hb
structure Wq (u:U):Prop where
 nq:u.hq=false→u.q=[]
 nf:u.hf=false→u.fr=[]
theorem Wf.wq{u:U}(h:Wf u):Wq u:=⟨h.nq,h.nf⟩
theorem Zyw{u:U}(p:LB)(h:Wq u)(h1:u.hh=true):Wf (Zgh u p).1:=by
 unfold Zgh
 split
 ·exact ZdG
 show Wf (Zbn u _)
 unfold Zbn
 split
 ·exact⟨fun h0=>absurd (h1.symm.trans h0) (by decide),h.nq,h.nf⟩
 ·exact⟨fun h0=>absurd (h1.symm.trans h0) (by decide),h.nq,h.nf⟩
theorem Zwy{u:U}(p:LB)(h:Wq u):Wf (Z2 u p).1:=by
 unfold Z2
 split
 ·exact ZdG
 split
 ·exact ZdG
 split
 ·exact⟨fun h0=>(by cases h0),h.nq,h.nf⟩
 ·exact Zyw _ ⟨h.nq,h.nf⟩ rfl
theorem Zdr{u:U}(t:LB)(h:Wq u):Wf (Zx u t).1:=by
 unfold Zx
 split
 ·exact ZdG
 ·unfold Zc8
  split
  ·exact ZdG
  have hw:=Zwy (u:={ u with nam:=Zf2 (bcut (isB 58) (bcutLast 64 (bcut (slB (Zc u.sch)) t).1).1).1,pw:=Zf2 (bcut (isB 58) (bcutLast 64 (bcut (slB (Zc u.sch)) t).1).1).2.1 }) (bcutLast 64 (bcut (slB (Zc u.sch)) t).1).2.1 ⟨h.nq,h.nf⟩
  split
  ·exact hw.segs _
  ·exact hw
theorem Wf.keep{u base:U}(h:Wf u)(hb:Wf base):Wf (kept u base):=⟨hb.nh,h.nq,h.nf⟩
theorem Zkd{u base:U}(left:LB)(h:Wf u)(hb:Wf base):Wf (ZW u left base).1:=by
 unfold ZW
 split
 ·exact ZtN left h hb
 split
 ·exact Zdr _ h.wq
 split
 ·exact(h.keep hb).segs _
 ·exact ZmF left (h.keep hb) hb
theorem Zra{u base:U}(left:LB)(h:Wf u)(hb:Wf base):Wf (ZaX u left base).1:=by
 unfold ZaX
 split
 ·exact Zkd left h hb
 ·exact Zdr _ h.wq
theorem Zrb{u base:U}(left:LB)(h:Wf u)(hb:Wf base):Wf (ZX u left base).1:=by
 unfold ZX
 split
 ·exact ZtN left h hb
 split
 ·exact Zra left h hb
 split
 ·exact h.pathed _ _
 split
 ·exact h.segs _
 ·exact Zdr _ h.wq
theorem ZtO(sch rest:LB)(found:Bool){base:U}(hb:Wf base):Wf (ZcL sch rest found base).1:=by
 unfold ZcL
 split
 ·exact ZdG
 split
 ·exact Zrb _ (Zlj _ _ _ (ZeX _ _)) hb
 ·exact Zkd _ (Zlj _ _ _ (ZeX _ _)) hb
theorem Zwz(l:LB)(hf:Bool){base:U}(hb:Wf base):Wf (ZbH l hf base).1:=by
 unfold ZbH
 split
 ·exact ZtO _ _ _ hb
 split
 ·unfold ZcH
  split
  ·exact hb
  ·exact ZdG
 ·exact ZtO _ _ _ hb
theorem Zrc(l:LB){base:U}(hb:Wf base):Wf (Zac l base).1:=by
 unfold Zac ZgK
 split
 ·exact ZdG
 ·have h:=Zwz (bcut (isB 35) (wholeText l)).1 (bcut (isB 35) (wholeText l)).2.2 hb
  refine⟨h.nh,h.nq,fun h0=>?_⟩
  show encB _ (clean (bcut (isB 35) (wholeText l)).2.1)=[]
  rw[ZeX _ _ h0,ZaZ]
theorem Zod(l:LI):∀n,(ZdX l n=-1∧∀j,j<n→l[j]?≠some 64)∨∃k:Nat,ZdX l n=(k:Int)∧k<n∧l[k]?=some 64∧∀j,k<j→j<n→l[j]?≠some 64:=by
 intro n
 induction n with
 | zero=>exact Or.inl ⟨rfl,fun j h=>by omega⟩
 | succ n ih=>
  rw[ZdX]
  by_cases h:l[n]?=some 64
  ·rw[if_pos h]
   exact Or.inr ⟨n,rfl,by omega,h,fun j h1 h2=>by omega⟩
  ·rw[if_neg h]
   rcases ih with⟨h1,h2⟩|⟨k,h1,h2,h3,h4⟩
   ·refine Or.inl ⟨h1,fun j hj=>?_⟩
    by_cases e:j=n
    ·subst e;exact h
    ·exact h2 j (by omega)
   ·refine Or.inr ⟨k,h1,by omega,h3,fun j hj1 hj2=>?_⟩
    by_cases e:j=n
    ·subst e;exact h
    ·exact h4 j hj1 (by omega)
theorem Zzj:Asc (isB 64) (fun c=>among c [64]):=ZxD (Zec 64 (by decide) (by decide) 64 rfl)
theorem Zzk{l:LI}(hl:∀c∈l,Pt c)(h:∀c∈l,c≠64):∀b∈Zb l,isB 64 b=false:=by
 have h1:=Zzj.any l hl
 have h2:(l.any fun c=>among c [64])=false:=by
  rw[Xl];intro c hc;have:=h c hc
  simp[among]
  omega
 rw[h2]at h1;intro b hb;have:=Xl.1 h1 b hb
 simpa using this
theorem Zyx(who:LI)(hl:∀c∈who,Pt c):bcutLast 64 (Zb who)=if ZbV who=-1 then([],Zb who,false)else(Zb (who.take (ZbV who).toNat),Zb (who.drop ((ZbV who).toNat+1)),true):=by
 unfold ZbV;rcases Zod who who.length with⟨h1,h2⟩|⟨k,h1,h2,h3,h4⟩
 ·rw[if_pos h1]
  refine Zho (Zzk hl fun c hc e=>?_)
  obtain⟨j,hj,rfl⟩:=Xk hc
  exact h2 j hj (by rw[Xg hj,e])
 ·rw[if_neg (by omega),h1,Int.toNat_natCast]
  have e:who=who.take k++64::who.drop (k+1):=by
   have h5:who[k]=64:=by rw[Xg h2]at h3;exact Option.some.inj h3
   rw[←h5,←List.drop_eq_getElem_cons h2,List.take_append_drop]
  have hb:Zb who=Zb (who.take k)++64::Zb (who.drop (k+1)):=by
   conv=>lhs;rw[e]
   rw[ZnQ,bytesOf_cons]
   rfl
  rw[hb]
  refine ZnU (Zzk (fun c hc=>hl c (Xi hc)) fun c hc e=>?_) (by decide)
  obtain⟨j,hj,rfl⟩:=Xk hc;rw[List.length_drop]at hj;rw[List.getElem_drop]at e
  exact h4 (k+1+j) (by omega) (by omega) (by rw[Xg (by omega),e])
theorem ZpU(l:LI)(hl:∀c∈l,Sc c):Zf2 (Zb l)=encoded l ZhM:=by
 unfold Zf2;rw[ZaV _ l hl]
 exact Zby (ZdU (by decide) (by decide)) l
theorem ZpV{b:Bool}{Q S:LB}{x:U×Int}{y:RU×Int}(h:Zwx b Q S x y)(sch:LB)(rest:LI)(hr:∀c∈rest,Sc c)(f:Bool):Zwx b Q S (Zc8 x sch (Zb rest) f) (ZhW y sch rest f):=by
 unfold Zc8 ZhW;rw[←h.1]
 by_cases h0:x.2≠0
 ·rw[if_pos h0,if_pos h0]
  exact⟨h.1,fun g=>absurd g h0⟩
 ·rw[if_neg h0,if_neg h0]
  have hr1:=h.2 (Classical.not_not.1 h0)
  cases f
  ·rw[if_neg (by decide),if_neg (by decide)]
   exact⟨rfl,fun _=>hr1⟩
  ·rw[if_pos rfl,if_pos rfl]
   exact⟨rfl,fun _=>{ hr1 with path:=Zbr sch rest hr }⟩
theorem Zlk{b:Bool}{Q S:LB}{u:U}{m:RU}(h:Rl b Q S u m)(hn:u.nam=[])(hw:u.pw=[])(l:LI)(hl:∀c∈l,Sc c)(t:LB)(ht:t=Zb (ZcP u.sch l)):Zwx b Q S (Zx u t) (ZaS m l):=by
 subst ht;unfold Zx ZaS;rw[h.sch]
 have hl2:∀c∈ZcP u.sch l,Sc c:=fun c hc=>hl c (ZmA hc)
 generalize ZcP u.sch l=l2 at *
 have hpt:∀c∈l2,Pt c:=fun c hc=>(hl2 c hc).pt
 have hs:Zve (slB (Zc u.sch)) (tl (Zl u.sch)):=by rw[ZgO,special_eq];exact Zfh _
 rw[Zao hs l2 hpt]
 have hc1:∀c∈(cut l2 (tl (Zl u.sch))).1,Sc c:=fun c hc=>hl2 c (ZR (Or.inl hc))
 have hc2:∀c∈(cut l2 (tl (Zl u.sch))).2.1,Sc c:=fun c hc=>hl2 c (ZR (Or.inr hc))
 generalize cut l2 (tl (Zl u.sch))=cc at *;obtain⟨who,rest,found⟩:=cc;simp only at *
 rw[Zyx who (fun c hc=>(hc1 c hc).pt),special_eq,Bool.or_comm found]
 unfold Zbq Zr5
 by_cases ha:ZbV who=-1
 ·rw[if_pos ha]
  simp only[Xb,false_and,if_false]
  have g1:¬(ZbV who≠-1∧(if ZbV who=-1 then who else who.drop ((ZbV who).toNat+1))=[]):=fun g=>g.1 ha
  rw[if_neg g1,if_pos ha,if_pos ha]
  refine ZpV (ZmE ?_ who hc1) u.sch rest hc2 _
  have e:Zf2 (bcut (isB 58) []).1=[]∧Zf2 (bcut (isB 58) []).2.1=[]:=⟨by unfold Zf2;exact ZaZ _,by unfold Zf2;exact ZaZ _⟩
  exact { h with user:=by show m.user=Zf2 (bcut (isB 58) []).1;rw[e.1,h.user,hn],pass:=by show m.pass=Zf2 (bcut (isB 58) []).2.1;rw[e.2,h.pass,hw] }
 ·have hdp:∀c∈who.drop ((ZbV who).toNat+1),Sc c:=fun c hc=>hc1 c (Xi hc)
  have htp:∀c∈who.take (ZbV who).toNat,Sc c:=fun c hc=>hc1 c (Xh hc)
  rw[if_neg ha,if_neg ha,if_neg ha];simp only[true_and]
  have hE:=Zr (l:=who.drop ((ZbV who).toNat+1)) (fun c hc=>(hdp c hc).pt)
  by_cases h0:who.drop ((ZbV who).toNat+1)=[]
  ·rw[if_pos (hE.2 h0),if_pos ⟨ha,h0⟩]
   exact⟨rfl,fun g=>by cases g⟩
  ·have h0':¬Zb (who.drop ((ZbV who).toNat+1))=[]:=fun g=>h0 (hE.1 g)
   rw[if_neg h0',if_neg (fun g=>h0 g.2)]
   refine ZpV (ZmE ?_ _ hdp) u.sch rest hc2 _
   have hcol:=Zao ZjW (who.take (ZbV who).toNat) (fun c hc=>(htp c hc).pt)
   refine { h with user:=?_,pass:=?_ }
   ·show encoded _ ZhM=Zf2 (bcut (isB 58) (Zb (who.take (ZbV who).toNat))).1
    rw[hcol,ZpU _ (fun c hc=>htp c (ZR (Or.inl hc)))]
   ·show encoded _ ZhM=Zf2 (bcut (isB 58) (Zb (who.take (ZbV who).toNat))).2.1
    rw[hcol,ZpU _ (fun c hc=>htp c (ZR (Or.inr hc)))]
theorem ZpW:Zve (slB true) [47,92]:=Zfh true
theorem Zyy(l:LI):letter (cut l [47,92]).1=driven l:=by
 unfold driven
 match l with
 | []=>rfl
 | [c]=>
  rw[if_pos (by simp),cut]
  split
  ·rfl
  ·rfl
 | c::d::r=>
  rw[if_neg (by simp)]
  show _=(letter [c,d]&&(decide ((c::d::r).length=2)||ZB (c::d::r) 2 ZO))
  cases hl:letter [c,d]
  ·rw[Bool.false_and]
   rw[cut]
   split
   ·rfl
   ·rw[cut]
    split
    ·rfl
    ·cases r with
     | nil=>exact hl
     | cons e t=>
      rw[cut]
      split
      ·exact hl
      ·rfl
  ·have hl':(alpha c&&(d==58||d==124))=true:=hl
   rw[Xd]at hl'
   have hc:c<128∧65≤c∧c≠92:=by
    have:=hl'.1
    simp[alpha]at this
    omega
   have hd:d=58∨d=124:=by simpa using hl'.2
   have n1:among c [47,92]=false:=by simp[among];omega
   have n2:among d [47,92]=false:=by rcases hd with rfl|rfl<;>rfl
   rw[Bool.true_and,cut,n1,cut,n2];simp only[Xb,if_false]
   cases r with
   | nil=>exact hl
   | cons e t=>
    have hs:ZB (c::d::e::t) 2 ZO=among e [47,92]:=rfl
    rw[hs,cut,decide_eq_false (by simp)]
    cases he:among e [47,92]
    ·simp only[Xb,if_false,Bool.or_self]
     rfl
    ·simp only[if_true,Bool.or_true]
     exact hl
theorem ZiU(l:LI)(hl:∀c∈l,Pt c):Zag (Zb l)=driven l:=by
 unfold Zag;rw[Zao ZpW l hl]
 show ZK (Zb (cut l [47,92]).1)=_
 rw[Zcy _ (fun c hc=>hl c (ZR (Or.inl hc))),Zyy]
theorem Zoe{b:Bool}{Q S:LB}{u:U}{m:RU}(h:Rl b Q S u m)(hh:u.hh=true)(l:LI)(hl:∀c∈l,Sc c):(ZM (Zb l)).2=(Zaz m l).2∧((Zaz m l).2=0→Rl b Q S { u with host:=(ZM (Zb l)).1 } (Zaz m l).1):=by
 unfold ZM Zaz
 have hE:=Zr (l:=l) (fun c hc=>(hl c hc).pt)
 obtain⟨e1,e2⟩:=Zn6 l hl true
 by_cases h0:l=[]
 ·rw[if_pos (hE.2 h0),if_pos h0]
  exact⟨rfl,fun _=>{ h with his:=hh.symm,htx:=rfl }⟩
 ·have h0':¬Zb l=[]:=fun g=>h0 (hE.1 g)
  rw[if_neg h0',if_neg h0,e1]
  by_cases h1:(hostOf l true).2.2≠0
  ·rw[if_pos h1,if_pos h1]
   exact⟨rfl,fun g=>absurd g h1⟩
  ·have h1':=Classical.not_not.1 h1
   rw[if_neg h1,if_neg h1]
   by_cases h2:(hostOf l true).2.1=ZpP
   ·have h2':(hostOf l true).2.1=ZeK:=h2
    rw[if_pos h2',if_pos h2]
    exact⟨rfl,fun _=>{ h with his:=hh.symm,htx:=rfl }⟩
   ·have h2':¬(hostOf l true).2.1=ZeK:=h2
    rw[if_neg h2',if_neg h2]
    exact⟨rfl,fun _=>{ h with his:=by show(hostOf l true).1=u.hh;rw[e2,decide_eq_true h1',hh],htx:=rfl }⟩
theorem ZmG{b:Bool}{Q S:LB}{u:U}{m:RU}(h:Rl b Q S u m)(hh:u.hh=true)(l:LI)(hl:∀c∈l,Sc c):Zwx b Q S (Z7 u (Zb l)) (ZdW m l):=by
 have hpt:∀c∈l,Pt c:=fun c hc=>(hl c hc).pt
 unfold Z7 ZdW;rw[Zao ZpW l hpt];simp only
 rw[Zcy _ (fun c hc=>hpt c (ZR (Or.inl hc)))]
 by_cases h0:letter (cut l [47,92]).1=true
 ·rw[if_pos h0,if_pos h0]
  exact⟨rfl,fun _=>{ h with path:=by show walked m.sch [] l=_;rw[h.sch];exact Zbr u.sch l hl }⟩
 ·rw[if_neg h0,if_neg h0]
  obtain⟨g1,g2⟩:=Zoe h hh (cut l [47,92]).1 (fun c hc=>hl c (ZR (Or.inl hc)))
  rw[g1]
  by_cases h1:(Zaz m (cut l [47,92]).1).2≠0
  ·rw[if_pos h1,if_pos h1]
   exact⟨rfl,fun g=>absurd g h1⟩
  ·rw[if_neg h1,if_neg h1]
   exact⟨rfl,fun _=>{ g2 (Classical.not_not.1 h1)with path:=by show walked m.sch [] _=_;rw[h.sch];exact Zbr u.sch _ (fun c hc=>hl c (ZR (Or.inr hc))) }⟩
end Go.Proofs.YtchkhibgbnhjpabGreatDoor
