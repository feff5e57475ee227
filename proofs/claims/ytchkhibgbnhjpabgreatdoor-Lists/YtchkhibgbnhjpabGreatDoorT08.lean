import Derived.Test.YtchkhibgbnhjpabGreatDoorW05
import Derived.Test.YtchkhibgbnhjpabGreatDoorT03
import Derived.Test.YtchkhibgbnhjpabGreatDoorT06
import Derived.Test.YtchkhibgbnhjpabGreatDoorT07
open Bool renaming false_eq_true→Xc,and_eq_true→Xi,true_eq_false→Xt,eq_iff_iff→XE,true_and→XV,or_false→XW
open Int renaming toNat_natCast→XD
open List renaming mem_of_mem_drop→Xa,mem_cons_of_mem→Xb,mem_cons_self→Xd,takeWhile_cons→Xe,length_cons→Xh,map_cons→Xm,mem_of_mem_take→Xn,drop_eq_getElem_cons→Xo,drop_succ_cons→Xp,length_append→Xq,length_nil→Xr,length_reverse→Xs,getElem?_eq_getElem→Xu,length_drop→Xv,cons_append→Xw,countP_cons_of_neg→Xx,dropWhile_sublist→Xy,singleton_append→Xz,length_replicate→XA,take_append_drop→XB,sum_cons→XC,drop_zero→XF,any_cons→XG,drop_nil→XH,map_nil→XI,drop_of_length_le→XJ,eq_nil_or_concat→XL,concat_eq_append→XM,dropWhile_suffix→XN,take_succ_cons→XO,getElem_of_mem→XP,append_assoc→XQ,any_eq_false→XR,filter_cons→XS,nil_append→XT,any_nil→XX
open Nat renaming le_trans→Xf,le_refl→Xk,zero_le→Xl,zero_add→XK,le_of_not_lt→XU,lt_or_ge→XY
open Or renaming inl→Xg,inr→Xj
namespace Go.Proofs.YtchkhibgbnhjpabGreatDoor
open Go.RowKit
variable [Fl]
set_option linter.all false
theorem ZJq(n:Int)(t:UInt8)(_ht:(t.toNat:Int)=n)(l:LB):among n l=(bcut (isB n) l).2.2:=by
 induction l with
 | nil=>rfl
 | cons c r ih=>
  rw[bcut];unfold among at ih ⊢;rw[XG,ih]
  show(isB n c||_)=_
  cases isB n c
  .simp
  .simp
theorem ZJr(p:LI)(hp:∀c∈p,Pt c):among 46 (Zb p)=(cut p [46]).2.2:=by rw[ZJq 46 46 rfl,Zab (Zei 46 (by decide) (by decide) 46 rfl) p hp]
theorem ZK6(en:Bool):∀(ps:List LI),(∀p∈ps,∀c∈p,Pt c)->∀(zs:LI) (n:Nat),n<=8->grpGo en (zs,n) (ps.map Zb)=match grpGoR en ps with|none=>none|some q=>if n+q.length<=8 then some (putGo zs n q,n+q.length)else none:=by
 intro ps
 induction ps with
 | nil=>intro _ zs n hn;rw[XI,grpGo,grpGoR];simp only;rw[ifP (by simpa using hn)];rfl
 | cons p r ih=>
  intro hp zs n hn;have hpp:=hp p (Xd ..);rw[Xm,grpGo,grpGoR,ZJr p hpp]
  have hr:(r.map Zb=[])↔r=[]:=by cases r<;>simp
  by_cases hc:(cut p [46]).2.2=true/\en=true/\r=[]
  .obtain⟨h1,h2,h3⟩:=hc
   subst h3;have c1:en=true/\([]:List LI).map Zb=[]/\(cut p [46]).2.2=true:=⟨h2,rfl,h1⟩;have c2:(cut p [46]).2.2=true/\en=true/\([]:List LI)=[]:=⟨h1,h2,rfl⟩;rw[ifP c1,ifP c2];rcases ZK5 p hpp (zs,n)with⟨a,b⟩|⟨x,y,a,b⟩
   .rw[b,a]
    rfl
   .rw[b,a]
    simp only[if_true];unfold Zf5;simp only
    by_cases h8:n<8
    .rw[ifP h8]
     simp only
     by_cases h7:n+1<8
     .rw[ifP h7]
      simp only[Xt,if_true,if_false,XI,grpGo,Xh,Xr]
      rw[ifP (by omega)]
      rfl
     .rw[ifN h7]
      simp only[Xt,Xc,if_false,Xh,Xr]
      rw[ifN (by omega)]
    .rw[ifN h8]
     simp only[Xc,if_true,if_false,Xh,Xr]
     rw[ifN (by omega)]
  .rw[ifN (fun g=>hc ⟨g.2.2,g.1,hr.1 g.2.1⟩),ifN hc]
   rcases ZK2 p hpp (zs,n)with⟨a,b⟩|⟨v,a,b⟩
   .rw[b,a]
    rfl
   .rw[b,a]
    simp only;unfold Zf5;simp only
    by_cases h8:n<8
    .rw[ifP h8]
     simp only[if_true]
     rw[ih (fun q hq=>hp q (Xb _ hq)) _ _ (by omega)]
     cases grpGoR en r with
     | none=>rfl
     | some q=>
      simp only[Option.map,Xh]
      by_cases hq:n+1+q.length<=8
      .rw[ifP hq,ifP (by omega),putGo]
       rw[show n+(q.length+1)=n+1+q.length by omega]
      .rw[ifN hq,ifN (by omega)]
    .rw[ifN h8]
     simp only[Xc,if_false]
     cases grpGoR en r with
     | none=>rfl
     | some q=>simp only[Option.map,Xh];rw[ifN (by omega)]
theorem ZBC(l:LI)(hl:∀c∈l,Pt c)(en:Bool):(ZA (Zb l) en).2=((groups l en).2&&decide ((groups l en).1.length<=8))/\((ZA (Zb l) en).2=true->(ZA (Zb l) en).1=(putGo zeros8 0 (groups l en).1,(groups l en).1.length)):=by
 unfold ZA groups
 by_cases h0:l=[]
 .subst h0
  exact⟨rfl,fun _=>rfl⟩
 .rw[ifN (fun e=>h0 ((Zzt hl).1 e)),ifN h0]
  have hpp:∀q∈parts l [58],∀c∈q,Pt c:=fun q hq c hc=>hl c (((ZzS l [58]).2 q hq).2 c hc)
  rw[Za2 (n:=58) (t:=58) (by decide) (by decide) rfl l hl]
  unfold zeroG
  rw[ZK6 en _ hpp zeros8 0 (by decide)]
  cases grpGoR en (parts l [58])with
  | none=>exact⟨rfl,fun h=>by cases h⟩
  | some q=>
   simp only[XK]
   by_cases h8:q.length<=8
   .rw[ifP h8]
    exact⟨by rw[decide_eq_true h8];rfl,fun _=>rfl⟩
   .rw[ifN h8]
    exact⟨by rw[decide_eq_false h8];rfl,fun h=>by cases h⟩
def ZK7:List Int->Option Nat
 | []=>none
 | [_]=>none
 | c::d::r=>if c=58/\d=58 then some 0 else(ZK7 (d::r)).map (· + 1)
def ZMi(l:List Int):List Int×Bool:=((groups l true).1,(groups l true).2&&(groups l true).1.length==8)
theorem ZFb(l:LI):∀(n i:Nat),l.length-i<=n->Zz6 l i=match ZK7 (l.drop i)with|some k=>ZCQ l (i+k)|none=>ZMi l:=by
 intro n
 induction n with
 | zero=>
  intro i h
  rw[Zz6,ifN (by omega),XJ (by omega)]
  rfl
 | succ n ih=>
  intro i h;rw[Zz6]
  by_cases h1:i+1<l.length
  .have e:l.drop i=l[i]::l[i+1]::l.drop (i+2):=by rw[Xo (by omega:i<l.length),Xo h1]
   rw[ifP h1,e,ZK7,ZAI (by omega),ZAI h1]
   by_cases h2:l[i]=58/\l[i+1]=58
   .rw[ifP h2,ifP h2];rfl
   .rw[ifN h2,ifN h2,ih (i+1) (by omega),show l.drop (i+1)=l[i+1]::l.drop (i+2)from Xo h1]
    cases ZK7 (l[i+1]::l.drop (i+2))with
    | none=>rfl
    | some k=>simp only[Option.map];rw[show i+1+k=i+(k+1)by omega]
  .rw[ifN h1]
   have:ZK7 (l.drop i)=none:=by
    have hl:(l.drop i).length<=1:=by rw[Xv];omega
    match l.drop i,hl with
    | [],_=>rfl
    | [_],_=>rfl
   rw[this]
   rfl
theorem ZDj(b:UInt8)(l:LB)(h:b≠58∨∀x t,l=x::t->x≠58):cutGap (b::l)=if(cutGap l).2.2=true then(b::(cutGap l).1,(cutGap l).2.1,true)else([],[],false):=by
 cases l with
 | nil=>rfl
 | cons x t=>
  rw[cutGap,ifN];rintro⟨h1,h2⟩;rcases h with h|h
  .exact h h1
  .exact h x t rfl h2
theorem ZFc(q l:LB)(h:∀b∈q,b≠58):cutGap (q++l)=if(cutGap l).2.2=true then(q++(cutGap l).1,(cutGap l).2.1,true)else([],[],false):=by
 induction q with
 | nil=>
  rw[XT]
  by_cases hc:(cutGap l).2.2=true
  .rw[ifP hc]
   show cutGap l=((cutGap l).1,(cutGap l).2.1,true)
   rw[<-hc]
  .rw[ifN hc]
   exact Zhe (by simpa using hc)
 | cons b q ih=>
  rw[Xw,ZDj b _ (Xg (h b (Xd ..))),ih (fun x hx=>h x (Xb _ hx))]
  by_cases hc:(cutGap l).2.2=true
  .rw[ifP hc];simp only[if_true,Xw];rw[ifP hc]
  .rw[ifN hc];simp only[Xc,if_false];rw[ifN hc]
theorem ZNc{c:Int}(h0:0<=c)(h1:c<128):toB c=58↔c=58:=by
 have:=ZzW h0 h1
 constructor
 .intro h;rw[h]at this;exact this.symm
 .intro h;subst h;rfl
theorem ZMv{d:Int}(hd:Pt d)(r:LB):∃x t,(utf d).map toB++r=x::t/\(x=58↔d=58):=by
 rcases Zzz hd with⟨a,b,e⟩|⟨a,b,e⟩
 .exact⟨toB d,r,by rw[e];rfl,ZNc a b⟩
 .cases hx:(utf d).map toB with
  | nil=>exact absurd hx b
  | cons y q=>
   have hy:=e y (by rw[hx];simp)
   refine⟨y,q++r,rfl,?_⟩
   constructor
   .intro h;rw[h]at hy;exact absurd hy (by decide)
   .intro h;omega
theorem ZFd(l:LI)(hl:∀c∈l,Pt c):cutGap (Zb l)=match ZK7 l with|some k=>(Zb (l.take k),Zb (l.drop (k+2)),true)|none=>([],[],false):=by
 induction l with
 | nil=>rfl
 | cons c r ih=>
  have ih':=ih (fun x hx=>hl x (Xb _ hx))
  have hskip:(c≠58∨∀d t,r=d::t->d≠58)->cutGap (Zb (c::r))=if(cutGap (Zb r)).2.2=true then((utf c).map toB++(cutGap (Zb r)).1,(cutGap (Zb r)).2.1,true)else([],[],false):=by
   intro h;rw[bytesOf_cons];rcases Zzz (hl c (Xd ..))with⟨a,b,e⟩|⟨a,b,e⟩
   .rw[e,Xz,ZDj]
    .rfl
    .rcases h with h|h
     .exact Xg (fun g=>h ((ZNc a b).1 g))
     .right
      intro x t hx
      cases r with
      | nil=>cases hx
      | cons d t'=>
       obtain⟨x',t'',h1,h2⟩:=ZMv (hl d (by simp)) (Zb t')
       rw[bytesOf_cons,h1]at hx;obtain⟨rfl,-⟩:=List.cons.inj hx
       exact fun g=>h d t' rfl (h2.1 g)
   .exact ZFc _ _ (fun x hx g=>by have:=e x hx;rw[g]at this;exact absurd this (by decide))
  cases r with
  | nil=>
   rw[hskip (Xj (fun d t h=>by cases h))]
   rfl
  | cons d t=>
   rw[ZK7]
   by_cases h:c=58/\d=58
   .obtain⟨rfl,rfl⟩:=h
    rw[ifP ⟨rfl,rfl⟩]
    show cutGap (58::58::Zb t)=_
    rw[cutGap,ifP ⟨rfl,rfl⟩]
    rfl
   .rw[ifN h,hskip (by
     by_cases h1:c=58
     .right;intro d' t' e;obtain⟨rfl,-⟩:=List.cons.inj e;exact fun g=>h ⟨h1,g⟩
     .exact Xg h1),ih']
    cases ZK7 (d::t)with
    | none=>rfl
    | some k=>
     simp only[Option.map,if_true];rw[XO,bytesOf_cons]
     rfl
theorem zeros_eq:zeros8=List.replicate 8 0:=rfl
theorem ZCz(q:LI)(h:q.length<=8):putGo zeros8 0 q=q++List.replicate (8-q.length) 0:=by rw[ZHa q zeros8 0 (by rw[zeros_eq,XA];omega),List.take_zero,XT,XK,zeros_eq,List.drop_replicate]
theorem ZK8(l:LI)(hl:∀c∈l,Pt c):(ip6 (Zb l)).2=(address l).2/\((address l).2=true->(ip6 (Zb l)).1=(address l).1):=by
 unfold ip6 address
 rw[ZFb l l.length 0 (by omega),ZFd l hl,XF]
 cases ZK7 l with
 | none=>
  simp only[if_true];unfold Zjw ZMi;obtain⟨h1,h2⟩:=ZBC l hl true;generalize ZA (Zb l) true=x at *;generalize groups l true=y at *;obtain⟨yl,yb⟩:=y;simp only at *
  cases hx:x.2
  .rw[hx]at h1
   rw[ifP (Xg rfl)]
   have:(yb&&yl.length==8)=false:=by
    cases yb
    .rfl
    .rw[XV]at h1 ⊢
     have:=of_decide_eq_false h1.symm
     exact beq_eq_false_iff_ne.2 (by omega)
   rw[this]
   exact⟨rfl,fun h=>by cases h⟩
  .rw[hx]at h1
   have e:=h2 hx
   have hb:yb=true/\yl.length<=8:=by have:=h1.symm;rw[Xi]at this;exact⟨this.1,of_decide_eq_true this.2⟩
   rw[e];simp only
   by_cases h8:yl.length=8
   .rw[ifN (by rintro(g|g);cases g;exact g h8)]
    refine⟨by rw[hb.1,h8];rfl,fun _=>?_⟩
    rw[ZCz _ hb.2,h8]
    simp
   .rw[ifP (Xj h8)]
    have:(yb&&yl.length==8)=false:=by rw[beq_eq_false_iff_ne.2 h8,Bool.and_false]
    rw[this]
    exact⟨rfl,fun h=>by cases h⟩
 | some k=>
  simp only[Xt,if_false,XK];unfold ZCQ
  obtain⟨h1,h2⟩:=ZBC (l.take k) (fun c hc=>hl c (Xn hc)) false
  obtain⟨h3,h4⟩:=ZBC (l.drop (k+2)) (fun c hc=>hl c (Xa hc)) true
  generalize ZA (Zb (l.take k)) false=x at *;generalize ZA (Zb (l.drop (k+2))) true=y at *;generalize groups (l.take k) false=a at *;generalize groups (l.drop (k+2)) true=b at *;obtain⟨al,ab⟩:=a;obtain⟨bl,bb⟩:=b;simp only at *
  by_cases hbad:ab=false∨bb=false∨7<al.length+bl.length
  .rw[ifP hbad]
   have:x.2=false∨y.2=false∨7<x.1.2+y.1.2:=by
    rcases hbad with g|g|g
    .left;rw[h1,g];rfl
    .right;left;rw[h3,g];rfl
    .cases hx:x.2
     .exact Xg rfl
     .cases hy:y.2
      .exact Xj (Xg rfl)
      .rw[h2 hx,h4 hy];exact Xj (Xj g)
   rw[ifP this]
   exact⟨rfl,fun h=>by cases h⟩
  .have hab:ab=true/\bb=true/\al.length+bl.length<=7:=by
    refine⟨?_,?_,?_⟩
    .cases ab;exact absurd (Xg rfl) hbad;rfl
    .cases bb;exact absurd (Xj (Xg rfl)) hbad;rfl
    .omega
   rw[hab.1,decide_eq_true (by omega:al.length<=8)]at h1
   rw[hab.2.1,decide_eq_true (by omega:bl.length<=8)]at h3
   have e1:=h2 h1;have e2:=h4 h3;rw[ifN hbad,h1,h3,e1,e2];simp only
   rw[ifN (by rintro(g|g|g);cases g;cases g;omega)]
   refine⟨rfl,fun _=>?_⟩
   simp only
   rw[ZCz bl (by omega),ZCz al (by omega),List.take_left' rfl]
   rw[ZHa bl _ _ (by rw[Xq,XA];omega)]
   rw[List.take_append,XJ (by rw[Xq,XA];omega),List.append_nil,List.take_of_length_le (by omega),List.take_replicate]
   congr 3
   omega
theorem ZGf:∀d:Fin 16,Zgg d.val=ZfJ d.val:=by decide
theorem ZFe{d:Nat}(h:d<16):Zgg d=ZfJ d:=ZGf ⟨d,h⟩
theorem ZJs(n:Nat)(h:n<=65535):hexa n=Zi7 n:=by
 induction n using Nat.strongRecOn with
 | ind n ih=>
  rw[hexa]
  by_cases h1:n<16
  .rw[ifP h1,ZjA h1,ZFe h1]
  .rw[ifN h1,Zlm (by omega) h,ih (n/16) (by omega) (by omega),ZFe (by omega)]
theorem ZDk(l:LI)(h:GOk l):listed l=ZF8 (l.map hxD):=by
 cases l with
 | nil=>rfl
 | cons x r=>
  have hx0:=h x (Xd ..)
  rw[listed,ZJs _ (by omega),Xm,ZF8]
  congr 1
  have hr:∀y∈r,0<=y/\y<=65535:=fun y hy=>h y (Xb _ hy)
  clear h hx0
  induction r with
  | nil=>rfl
  | cons y t ih=>
   have hy:=hr y (Xd ..)
   rw[List.flatMap_cons,Xm,tailC_cons,ih (fun z hz=>hr z (Xb _ hz)),ZJs _ (by omega)]
   rfl
def sGo(v:List Int):Nat->Nat->Nat->Option (Nat×Nat)
 | 0,_,_=>none
 | f+1,n,i=>if n<=1 then none else if i+n<=8 then(if noughts v i n then some (i,n)else sGo v f n (i+1))else sGo v f (n-1) 0
theorem ZJt(v:LI):∀(f n i:Nat),n<=8->i<=9->n*10+(9-i)<f->briefFrom v n i=match sGo v f n i with|none=>listed v|some (i,n)=>listed (v.take i)++58::58::listed (v.drop (i+n)):=by
 intro f
 induction f with
 | zero=>intro n i _ _ h;omega
 | succ f ih=>
  intro n i hn hi h;rw[briefFrom,sGo]
  by_cases h1:n<=1
  .rw[ifP h1,ifP h1]
  .rw[ifN h1,ifN h1]
   by_cases h2:i+n<=8
   .rw[ifP h2,ifP h2]
    cases hz:noughts v i n
    .simp only[Xc,if_false]
     exact ih n (i+1) hn (by omega) (by omega)
    .simp only[if_true]
   .rw[ifN h2,ifN h2]
    exact ih (n-1) 0 (by omega) (by omega) (by omega)
def zz(x:Int):Int:=if x=0 then 0 else 1
theorem ZGg(x:Int):zz x=0↔x=0:=by unfold zz;split<;>simp_all
theorem ZH6(v:LI)(i n:Nat):noughts (v.map zz) i n=noughts v i n:=by
 unfold noughts;rw[<-List.map_drop,<-List.map_take,List.all_map]
 congr 1
 funext x
 show(zz x==0)=(x==0)
 rw[XE,beq_iff_eq,beq_iff_eq,ZGg]
theorem ZNd(v:LI):∀(f n i:Nat),sGo (v.map zz) f n i=sGo v f n i:=by
 intro f
 induction f with
 | zero=>intro n i;rfl
 | succ f ih=>
  intro n i;rw[sGo,sGo,ZH6,ih,ih]
theorem ZMw(v:LI):∀(i st ln run:Nat),lrGo i st ln run (v.map zz)=lrGo i st ln run v:=by
 induction v with
 | nil=>intro i st ln run;rfl
 | cons x r ih=>
  intro i st ln run;rw[Xm,lrGo,lrGo]
  have:(if zz x=0 then run+1 else 0)=(if x=0 then run+1 else 0):=by
   by_cases h:x=0
   .rw[ifP h,ifP ((ZGg x).2 h)]
   .rw[ifN h,ifN (fun g=>h ((ZGg x).1 g))]
  rw[this,ih,ih]
def bz(b:Bool):Int:=if b then 0 else 1
def ZJu(v:List Int):Bool:=sGo v 100 8 0==(if(ZW v).1=8 then none else some ((ZW v).1,(ZW v).2))
theorem ZK9:∀a b c d e f g h:Bool,ZJu [bz a,bz b,bz c,bz d,bz e,bz f,bz g,bz h]=true:=by decide +kernel
theorem ZFf(x:Int):zz x=bz (decide (x=0)):=by
 unfold zz bz
 by_cases h:x=0
 .rw[ifP h,decide_eq_true h];rfl
 .rw[ifN h,decide_eq_false h];rfl
theorem ZLa(v:LI)(hl:v.length=8):sGo v 100 8 0=if(ZW v).1=8 then none else some ((ZW v).1,(ZW v).2):=by
 match v,hl with
 | [a,b,c,d,e,f,g,h],_=>
  have hb:=ZK9 (decide (a=0)) (decide (b=0)) (decide (c=0)) (decide (d=0)) (decide (e=0)) (decide (f=0)) (decide (g=0)) (decide (h=0));rw[<-ZFf,<-ZFf,<-ZFf,<-ZFf,<-ZFf,<-ZFf,<-ZFf,<-ZFf]at hb;unfold ZJu at hb;have e1:=ZNd [a,b,c,d,e,f,g,h] 100 8 0;have e2:ZW [zz a,zz b,zz c,zz d,zz e,zz f,zz g,zz h]=ZW [a,b,c,d,e,f,g,h]:=ZMw [a,b,c,d,e,f,g,h] 0 8 1 0;simp only[Xm,XI]at e1;rw[e1,e2]at hb;exact eq_of_beq hb
theorem ZJv(v:LI)(hl:v.length=8)(h:GOk v):brief v=Zi9 v:=by
 unfold brief Zi9
 rw[ZJt v 100 8 0 (by decide) (by decide) (by decide),ZLa v hl]
 have hok:=ZHU v hl;generalize (ZW v).1=st at *;generalize (ZW v).2=ln at *
 by_cases h8:st=8
 .rw[ifP h8,ZM3 v hl st ln (by omega) 8 0 (by decide)]
  exact ZDk v h
 .rw[ifN h8]
  rcases hok with⟨g,-⟩|⟨g1,g2,-⟩
  .exact absurd g h8
  .rw[ZKR v hl st ln (by omega) g2 8 0 (by omega) (by decide),ifP rfl,XF]
   simp only
   rw[ZDk _ (fun x hx=>h x (Xn hx)),ZDk _ (fun x hx=>h x (Xa hx))]
   rfl
theorem ZH7(n:Int)(t:UInt8)(h0:0<n)(h1:n<128)(ht:(t.toNat:Int)=n)(l:LI)(hl:∀c∈l,Pt c):(((Zb l).getD 0 0).toNat:Int)=n↔l.getD 0 0=n:=by
 cases l with
 | nil=>show((0:Int)=n)↔((0:Int)=n);exact Iff.rfl
 | cons c r=>
  rw[bytesOf_cons];rcases Zzz (hl c (Xd ..))with⟨a,b,e⟩|⟨a,b,e⟩
  .rw[e]
   show((toB c).toNat:Int)=n↔c=n
   rw[ZzW a b]
  .cases hx:(utf c).map toB with
   | nil=>exact absurd hx b
   | cons y q=>
    have hy:=e y (by rw[hx];simp)
    show((y.toNat:Int)=n)↔c=n
    omega
theorem ZFg{α:Type}(a:List α)(x d:α):(a++[x]).getD ((a++[x]).length-1) d=x:=by
 rw[List.getD_eq_getElem?_getD,Xq]
 simp
theorem ZJw(a:LI)(z:Int)(hz:Pt z)(pre:LB):(((pre++(Zb a++(utf z).map toB)).getD ((pre++(Zb a++(utf z).map toB)).length-1) 0).toNat:Int)=93↔z=93:=by
 rcases XL ((utf z).map toB)with hx|⟨q,y,hx⟩
 .exfalso
  rcases Zzz hz with⟨-,-,e⟩|⟨-,e,-⟩
  .rw[e]at hx;cases hx
  .exact e hx
 .rw[XM]at hx
  rw[hx,<-XQ,<-XQ,ZFg];rcases Zzz hz with⟨h0,h1,e⟩|⟨h0,h1,e⟩
  .rw[e]at hx
   have:y=toB z:=by
    have h:=congrArg List.getLast? hx
    simpa using h.symm
   rw[this,ZzW h0 h1]
  .have hy:=e y (by rw[hx];simp)
   omega
theorem ZLb:Asc (fun b=>among (b.toNat:Int) ZhJ) (fun c=>among c ZAF) where
 lo:=ZBz (p:=fun b=>among (b.toNat:Int) ZhJ) (P:=fun c=>among c ZAF) (by decide +kernel)
 hi:=fun b=>by256 (P:=fun b=>128<=b.toNat->among (b.toNat:Int) ZhJ=false) (by decide +kernel) b
 up:=fun c hc=>by simp[among,ZAF];omega
theorem ZGh(l:LI)(hl:∀c∈l,Sc c)(sp:Bool):ZaP (Zb l) sp=((hostOf l sp).2.1,(hostOf l sp).2.2)/\(hostOf l sp).1=decide ((hostOf l sp).2.2=0):=by
 have hpt:∀c∈l,Pt c:=fun c hc=>(hl c hc).pt
 unfold ZaP hostOf
 have hf:=ZH7 91 91 (by decide) (by decide) rfl l hpt
 by_cases h91:l.getD 0 0=91
 .rw[ifP (hf.2 h91),ifP h91]
  unfold Zb1
  cases l with
  | nil=>cases h91
  | cons c r=>
   have hc:c=91:=h91;subst hc;rcases XL r with rfl|⟨m,z,rfl⟩
   .exact⟨rfl,rfl⟩
   .rw[XM]at *
    have hz:=hpt z (by simp)
    have hm:∀c∈m,Pt c:=fun c hc=>hpt c (by simp[hc])
    have e1:Zb (91::(m++[z]))=[91]++(Zb m++(utf z).map toB):=by rw[bytesOf_cons,bytesOf_snoc];rfl
    have hlast:=ZJw m z hz [91];have e2:(91::(m++[z])).getD ((91::(m++[z])).length-1) 0=z:=ZFg (91::m) z 0
    have e3:((91::(m++[z])).take ((91::(m++[z])).length-1)).drop 1=m:=by
     rw[Xh,Xq]
     simp
    rw[e1,e2,e3]
    by_cases h93:z=93
    .subst h93
     have e4:(([91]++(Zb m++(utf 93).map toB)).take (([91]++(Zb m++(utf 93).map toB)).length-1)).drop 1=Zb m:=by
      rw[show(utf 93).map toB=[93]from rfl]
      simp
     have g1:¬(([91]++(Zb m++(utf 93).map toB)).length<2∨¬((([91]++(Zb m++(utf 93).map toB)).getD (([91]++(Zb m++(utf 93).map toB)).length-1) 0).toNat:Int)=93):=by
      rintro(g|g)
      .rw[show(utf 93).map toB=[93]from rfl]at g;simp at g;omega
      .exact g (hlast.2 rfl)
     have g2:¬((93:Int)≠93):=fun g=>g rfl
     rw[ifN g1,ifN g2,e4];obtain⟨i1,i2⟩:=ZK8 m hm;rw[i1]
     by_cases ha:(address m).2=true
     .have hok:=ZDY ha
      rw[ifP ha,ifP ha,i2 ha,ZJv _ hok.1 hok.2];exact⟨rfl,rfl⟩
     .rw[ifN ha,ifN ha]
      exact⟨rfl,rfl⟩
    .have g2:z≠93:=h93
     rw[ifP (Xj (fun g=>h93 (hlast.1 g))),ifP g2]
     exact⟨rfl,rfl⟩
 .rw[ifN (fun g=>h91 (hf.1 g)),ifN h91]
  cases sp
  .rw[ifN (by decide),ifN (by decide)]
   unfold Zft;rw[ZLb.any l hpt]
   by_cases hb:(l.any fun c=>among c ZAF)=true
   .rw[ifP hb,ifP hb]
    exact⟨rfl,rfl⟩
   .rw[ifN hb,ifN hb,show encB (tl (Zbo 0)) (clean (Zb l))=encoded l []from ZaW _ l hl]
    exact⟨rfl,rfl⟩
  .rw[ifP rfl,ifP rfl]
   exact ZJn l
theorem ZCB{s:LB}(h:ZY s=true):∀b∈s,b.toNat<128:=by
 obtain⟨a,b,rfl,ha,hb⟩:=ZE4 h;intro x hx;have h1:alpha (a.toNat:Int)=true:=ha;simp only[List.mem_cons,List.not_mem_nil,or_false]at hx;rcases hx with rfl|rfl
 .rcases XY x.toNat 128 with g|g
  .exact g
  .rw[ZBa.hi x g]at ha;cases ha
 .rcases hb with rfl|rfl<;>decide
theorem ZGk(s:LB):ZY (clean s)=ZY s:=by
 by_cases h:∀b∈s,b.toNat<128
 .rw[ZBm h]
 .have h1:ZY s=false:=by
   cases hd:ZY s with
   | false=>rfl
   | true=>exact absurd (ZCB hd) h
  have h2:ZY (clean s)=false:=by
   cases hd:ZY (clean s)with
   | false=>rfl
   | true=>exact absurd (ZCS s.length s (Xk _) (ZCB hd)) h
  rw[h1,h2]
theorem ZHr(s:LB):drive s=Zad s:=by
 unfold drive Zad
 have hpt:∀c∈Zl s,Pt c:=fun c hc=>(Za0 s c hc).pt
 have hl:=ZAx (Zl s) hpt;rw[ZaD,ZGk]at hl;rw[<-hl]
 cases hd:ZY s
 .rfl
 .rw[hd]at hl
  have hb:=ZaD s;rw[ZBm (ZCB hd)]at hb
  match hp:Zl s,hl,hpt with
  | [x,y],hl,hpt=>
   rw[hp]at hb
   have hl':(alpha x&&(y==58||y==124))=true:=hl.symm;rw[Xi]at hl'
   have hx:x<128:=by
    rcases Int.lt_or_le x 128 with g|g
    .exact g
    .rw[ZBa.up x g]at hl';exact absurd hl'.1 (by decide)
   have hy:y=58∨y=124:=by simpa using hl'.2
   have hy1:y<128:=by omega
   have hs:s=[toB x,toB y]:=by
    rw[<-hb,bytesOf_cons,bytesOf_cons,Zpj hx,Zpj hy1]
    rfl
   rw[hs]
   show(true&&y==58)=(true&&(((toB y).toNat:Int)==58))
   rw[ZzW (by omega) hy1]
theorem ZCC(sch:LB)(p:List LB):ZzN sch p=ZaK (sch==ZE) p:=by
 unfold ZzN ZaK
 have e:p.headD []=p.getD 0 []:=by cases p<;>rfl
 rw[ZHr,e]
 by_cases h:p.length=1/\sch=Zzu/\Zad (p.getD 0 [])=true
 .rw[ifP h,ifP ⟨by rw[h.2.1];rfl,h.1,h.2.2⟩]
 .rw[ifN h,ifN (fun g=>h ⟨g.2.1,eq_of_beq g.1,g.2.2⟩),List.dropLast_eq_take]
theorem ZJB(s:LI)(hs:∀c∈s,Sc c)(h:letter s=true):(encoded s ZAH).take 1=(Zb s).take 1:=by
 have hd:=ZAx s (fun c hc=>(hs c hc).pt)
 rw[h]at hd;rw[<-ZEv s hs];obtain⟨a,b,e,ha,-⟩:=ZE4 hd;have:=ZHV ha;rw[e,ZB3 _ this.1 this.2.1 this.2.2]
 rfl
theorem ZIb(sch:LB)(p:List LB)(s:LI)(last:Bool)(hs:∀c∈s,Sc c):ZzI sch p s last=Zec (sch==ZE) p (Zb s) last:=by
 unfold ZzI Zec
 have hd:dots (encoded s ZAH)=(countDots (Zb s):Int):=by rw[ZMp,<-ZEv s hs,ZKU]
 rw[hd]
 by_cases h0:countDots (Zb s)=0
 .rw[ifP (by omega),ifP h0]
  unfold joinL
  have hl:=ZAx s (fun c hc=>(hs c hc).pt)
  by_cases hc:letter s=true/\sch=Zzu/\p=[]
  .rw[ifP hc,ifP ⟨by rw[hc.2.1];rfl,hc.2.2,by rw[hl];exact hc.1⟩,ZJB s hs hc.1]
  .rw[ifN hc,ifN (fun g=>hc ⟨by rw[<-hl];exact g.2.2,eq_of_beq g.1,g.2.1⟩)]
   rw[show encB (tl (Zbo 4)) (clean (Zb s))=encoded s ZAH from ZEv s hs]
 .rw[ifN (by omega),ifN h0,ZCC]
  by_cases h2:countDots (Zb s)=2
  .rw[ifP (by omega),ifP h2]
  .rw[ifN (by omega),ifN h2]
theorem ZJC(sch:LB):∀(ss:List LI) (p:List LB),(∀s∈ss,∀c∈s,Sc c)->ZB0 sch p ss=Zdt (sch==ZE) p (ss.map Zb):=by
 intro ss
 induction ss with
 | nil=>intro p _;rfl
 | cons s r ih=>
  intro p hs
  rw[ZB0,ZIb sch p s _ (hs s (Xd ..)),ih _ (fun x hx=>hs x (Xb _ hx))]
  cases r with
  | nil=>rfl
  | cons x y=>rfl
theorem ZBE(sch:LB)(p:List LB)(l:LI)(hl:∀c∈l,Sc c):walked sch p l=Za3 (sch==ZE) (Zc sch) p (Zb l):=by
 unfold walked Za3
 rw[ZGb sch l (fun c hc=>(hl c hc).pt),ZJC sch _ p (fun s hs c hc=>hl c (((ZzS l _).2 s hs).2 c hc))]
theorem Zz2(sch:LB)(l:LI)(hl:∀c∈l,Sc c):walked sch [] l=Zcb (Zb l) sch:=ZBE sch [] l hl
theorem ZMk{p:UInt8->Bool}{t:LB}(h:ZuP p t):Asc p (fun c=>among c t):=⟨h.low,h.high,h.none⟩
def slP(sp:Bool)(c:Int):Bool:=among c (if sp then [47,92]else [47])
theorem ZJD(sp:Bool):Asc (slB sp) (slP sp):=ZMk (ZBL sp)
theorem ZMy{sp:Bool}{c:Int}(h:slP sp c=true):0<=c/\c<128:=by
 unfold slP at h
 cases sp<;>simp[among]at h<;>omega
theorem slP_of(sch:LB)(c:Int):among c (tl (Zn sch))=slP (Zc sch) c:=by rw[ZCt,special_eq];rfl
theorem ZzJ(sp:Bool)(l:LI)(hl:∀c∈l,Pt c):countSl sp (Zb l)=(l.takeWhile (slP sp)).length:=by
 induction l with
 | nil=>rfl
 | cons c r ih=>
  have ih':=ih (fun x hx=>hl x (Xb _ hx))
  rw[bytesOf_cons,Xe];rcases Zzz (hl c (Xd ..))with⟨a,b,e⟩|⟨a,b,e⟩
  .rw[e,Xz,countSl,(ZJD sp).lo c a b]
   split
   .rw[ih'];rfl
   .rfl
  .rw[(ZJD sp).up c a]
   cases hx:(utf c).map toB with
   | nil=>exact absurd hx b
   | cons y q=>
    rw[Xw,countSl,(ZJD sp).hi y (e y (by rw[hx];simp))]
    rfl
theorem ZAN(sp:Bool)(l:LI):∀k,k<=(l.takeWhile (slP sp)).length->(Zb l).drop k=Zb (l.drop k):=by
 induction l with
 | nil=>intro k _;rw[XH];rw[bytesOf_nil,XH]
 | cons c r ih=>
  intro k hk
  cases k with
  | zero=>rfl
  | succ k=>
   rw[Xe]at hk
   cases hc:slP sp c
   .rw[hc]at hk;simp at hk
   .rw[hc]at hk
    simp only[if_true,Xh]at hk;rw[bytesOf_cons,Zpj (ZMy hc).2]
    show(toB c::Zb r).drop (k+1)=_
    rw[Xp,Xp]
    exact ih k (by omega)
theorem ZGl(sp:Bool)(l:LI)(hl:∀c∈l,Pt c):(Zb l).drop (countSl sp (Zb l))=Zb (l.dropWhile (slP sp)):=by
 rw[ZzJ sp l hl,ZAN sp l _ (Xk _)]
 congr 1
 induction l with
 | nil=>rfl
 | cons c r ih=>
  rw[Xe,List.dropWhile_cons]
  split
  .rw[Xh,Xp]
   exact ih (fun x hx=>hl x (Xb _ hx))
  .rfl
theorem ZHs(sch:LB)(l:LI)(hl:∀c∈l,Pt c):Zq l 0 sch=decide (1<=countSl (Zc sch) (Zb l)):=by
 rw[ZzJ _ l hl];unfold Zq
 cases l with
 | nil=>rfl
 | cons c r=>
  show among c (tl (Zn sch))=_
  rw[slP_of,Xe]
  cases slP (Zc sch) c<;>simp
theorem ZFq(sch:LB)(l:LI)(hl:∀c∈l,Pt c):(Zq l 0 sch&&Zq l 1 sch)=decide (1<countSl (Zc sch) (Zb l)):=by
 rw[ZzJ _ l hl];unfold Zq
 match l with
 | []=>rfl
 | [c]=>
  show(among c (tl (Zn sch))&&false)=_
  rw[Xe]
  cases slP (Zc sch) c<;>simp
 | c::d::r=>
  show(among c (tl (Zn sch))&&among d (tl (Zn sch)))=_
  rw[slP_of,slP_of,Xe,Xe]
  cases slP (Zc sch) c<;>cases slP (Zc sch) d<;>simp
theorem ZEF(sch:LB)(l:LI)(hl:∀c∈l,Pt c):Zb (ZAJ sch l)=if Zc sch=true then(Zb l).drop (countSl true (Zb l))else Zb l:=by
 unfold ZAJ;rw[special_eq]
 by_cases h:Zc sch=true
 .rw[ifP h,ifP h,ZGl true l hl]
  congr 2
  funext c
  rw[slP_of,h]
 .rw[ifN h,ifN h]
theorem ZMz(l:LI)(hl:∀c∈l,Pt c):ZC3 l=decide (2<=countSl false (Zb l)):=by
 rw[ZzJ _ l hl]
 have h47:∀c:Int,slP false c=(c==47):=fun c=>by
  unfold slP among;simp only[Xc,if_false,XG,XX,XW];rw[XE,beq_iff_eq,beq_iff_eq];have:((47:UInt8).toNat:Int)=47:=rfl
  omega
 match l with
 | []=>rfl
 | [c]=>rw[Xe,h47];cases c==47<;>simp[ZC3]
 | c::d::r=>
  rw[Xe,Xe,h47,h47]
  show(decide (1<(c::d::r).length)&&c==47&&d==47)=_
  rw[decide_eq_true (by simp)]
  cases c==47<;>cases d==47<;>simp
theorem ZMA(l:LI)(hl:∀c∈l,Pt c):ZMx l=decide (1<=countSl false (Zb l)):=by
 rw[ZzJ _ l hl]
 have h47:∀c:Int,slP false c=(c==47):=fun c=>by
  unfold slP among;simp only[Xc,if_false,XG,XX,XW];rw[XE,beq_iff_eq,beq_iff_eq];have:((47:UInt8).toNat:Int)=47:=rfl
  omega
 match l with
 | []=>rfl
 | c::r=>
  rw[Xe,h47]
  show(decide (0<(c::r).length)&&c==47)=_
  rw[decide_eq_true (by simp)]
  cases c==47<;>simp
theorem ZEG(l:LI):∀(inb:Bool) (i:Nat),ZM inb i l=if ZM inb 0 l=-1 then -1 else ZM inb 0 l+i:=by
 induction l with
 | nil=>intro inb i;rfl
 | cons c r ih=>
  intro inb i;rw[ZM,ZM]
  have hge:∀b,-1<=ZM b 0 r:=fun b=>by
   rcases ZB5 r b 0 with h|h
   .omega
   .omega
  by_cases h1:c=91
  focus
   rw[ifP h1,ifP h1,ih true (i+1),ih true (0+1)];have:=hge true
   by_cases h:ZM true 0 r=-1
   .rw[ifP h,ifP h];rfl
  rotate_left
  focus
   rw[ifN h1,ifN h1]
   by_cases h2:c=93
   focus
    rw[ifP h2,ifP h2,ih false (i+1),ih false (0+1)];have:=hge false
    by_cases h:ZM false 0 r=-1
    .rw[ifP h,ifP h];rfl
   rotate_left
   focus
    rw[ifN h2,ifN h2]
    by_cases h3:c=58/\inb=false
    .rw[ifP h3,ifP h3];simp
    focus
     rw[ifN h3,ifN h3,ih inb (i+1),ih inb (0+1)];have:=hge inb
     by_cases h:ZM inb 0 r=-1
     .rw[ifP h,ifP h];rfl
  all_goals
   rw[ifN h,ifN h,ifN (by omega)];omega
theorem ZDP(q l:LB)(h:∀b∈q,128<=b.toNat)(inb:Bool):cutPortGo inb (q++l)=(cutPortGo inb l).map fun x=>(q++x.1,x.2):=by
 induction q with
 | nil=>cases hc:cutPortGo inb l<;>simp[hc]
 | cons b q ih=>
  have hb:=h b (Xd ..)
  rw[Xw,cutPortGo,ifN (by omega),ifN (by omega),ifN (by omega),ih (fun x hx=>h x (Xb _ hx))]
  cases cutPortGo inb l<;>rfl
theorem ZDo(l:LI)(hl:∀c∈l,Pt c):∀inb:Bool,cutPortGo inb (Zb l)=if ZM inb 0 l=-1 then none else some (Zb (l.take (ZM inb 0 l).toNat),Zb (l.drop ((ZM inb 0 l).toNat+1))):=by
 induction l with
 | nil=>intro inb;rfl
 | cons c r ih=>
  intro inb
  have ih':=ih (fun x hx=>hl x (Xb _ hx))
  have hge:∀b,-1<=ZM b 0 r:=fun b=>by
   rcases ZB5 r b 0 with h|h
   .omega
   .omega
  have key:∀(b':Bool) (pre:LB),pre=(utf c).map toB->(cutPortGo b' (Zb r)).map (fun x=>(pre++x.1,x.2))=if ZM b' (0+1) r=-1 then none else some (Zb ((c::r).take (ZM b' (0+1) r).toNat),Zb ((c::r).drop ((ZM b' (0+1) r).toNat+1))):=by
   intro b' pre hpre;rw[ih' b',ZEG r b' (0+1)];have:=hge b'
   by_cases h:ZM b' 0 r=-1
   .rw[ifP h,ifP h];rfl
   .rw[ifN h,ifN h]
    have e:(ZM b' 0 r+((0+1:Nat):Int)).toNat=(ZM b' 0 r).toNat+1:=by omega
    rw[ifN (by omega),e,XO,Xp,bytesOf_cons,hpre]
    rfl
  rw[ZM,bytesOf_cons];rcases Zzz (hl c (Xd ..))with⟨a,b,e⟩|⟨a,b,e⟩
  .rw[e,Xz,cutPortGo,ZzW a b]
   by_cases h1:c=91
   .rw[ifP h1,ifP h1]
    exact key true [toB c] e.symm
   .rw[ifN h1,ifN h1]
    by_cases h2:c=93
    .rw[ifP h2,ifP h2]
     exact key false [toB c] e.symm
    .rw[ifN h2,ifN h2]
     by_cases h3:c=58/\inb=false
     .rw[ifP h3,ifP h3]
      rfl
     .rw[ifN h3,ifN h3]
      exact key inb [toB c] e.symm
  .have n1:¬c=91:=by omega
   have n2:¬c=93:=by omega
   have n3:¬(c=58/\inb=false):=by omega
   rw[ifN n1,ifN n2,ifN n3,ZDP _ _ e];exact key inb _ rfl
theorem ZEH(l:LI)(hl:∀c∈l,Pt c):Zw (Zb l)=if colon l=-1 then(Zb l,[],false)else(Zb (l.take (colon l).toNat),Zb (l.drop ((colon l).toNat+1)),true):=by
 unfold Zw colon;rw[ZDo l hl false]
 by_cases h:ZM false 0 l=-1
 .rw[ifP h,ifP h]
 .rw[ifN h,ifN h]
theorem ZLi(p:LI)(ha:p.all numeral=true):∀n v:Int,0<=n->((n<=65535/\v=n)∨(65535<n/\v=65536))->∃m,numGo 10 65535 n (Zb p)=some m/\0<=m/\((m<=65535/\p.foldl ZbI v=m)∨(65535<m/\p.foldl ZbI v=65536)):=by
 induction p with
 | nil=>intro n v h0 h;exact⟨n,rfl,h0,h⟩
 | cons c r ih=>
  intro n v h0 h;rw[List.all_cons,Xi]at ha;have hc:=ZCy ha.1
  have hd:digit c=c-48:=by unfold digit;rw[ifP hc]
  rw[bytesOf_cons,Zpj (by omega),List.foldl_cons]
  show ∃m,numGo 10 65535 n (toB c::Zb r)=some m/\_
  have h9:0<=c-48/\c-48<10:=by omega
  rw[numGo,ZzW (by omega) (by omega),ZBe _ _ (by omega),hd,ifP h9]
  simp only[if_true]
  refine ih ha.2 _ _ ?_ ?_
  .split<;>omega
  .unfold ZbI
   rcases h with⟨h1,rfl⟩|⟨h1,rfl⟩
   .rw[ifP h1]
    by_cases h3:65535<10*v+c-48
    .rw[ifP h3];exact Xj ⟨by omega,rfl⟩
    .rw[ifN h3];exact Xg ⟨by omega,by omega⟩
   .rw[ifN (by omega),ifP (by omega)]
    exact Xj ⟨h1,rfl⟩
theorem ZJE(p:LI)(hp:∀c∈p,Pt c):Zbq (Zb p)=if ZP p=false∨65535<value p then(0,false)else(value p,true):=by
 unfold Zbq;have hn:=ZCi p hp 65535
 cases ha:ZP p
 .rw[ha]at hn
  rw[ifP (Xg hn),ifP (Xg rfl)]
 .rw[ha]at hn
  have ha':p.all numeral=true/\p≠[]:=by
   unfold ZP at ha;rw[Xi]at ha
   exact⟨ha.1,fun e=>by rw[e]at ha;exact absurd ha.2 (by decide)⟩
  obtain⟨m,hm,hm0,hr⟩:=ZLi p ha'.1 0 0 (Int.le_refl _) (Xg ⟨by decide,rfl⟩)
  have hne:Zb p≠[]:=fun e=>ha'.2 ((Zzt hp).1 e)
  have hnum:Zp (Zb p) 10 65535=if 65535<m then(65536,true)else(m,true):=by unfold Zp;rw[ifN hne,hm];rfl
  rw[show p.foldl ZbI 0=value p from rfl]at hr;rw[hnum]
  by_cases hm2:65535<m
  .have:65535<value p:=by rcases hr with⟨a,b⟩|⟨a,b⟩<;>omega
   rw[ifP hm2,ifP (Xj (by decide)),ifP (Xj this)]
  .have:value p=m:=by rcases hr with⟨a,b⟩|⟨a,b⟩<;>omega
   rw[ifN hm2,ifN (by rintro(g|g);cases g;exact hm2 g),this,ifN (by rintro(g|g);cases g;exact hm2 g)]
theorem ZLj(p:LI)(h:ZP p=true):0<=value p:=(ZlL p (by unfold ZP at h;rw[Xi]at h;exact h.1)).1
theorem ZNe(sch:LB)(n:Int)(h0:0<=n):ZMj sch n=if(ZC sch).2=true/\n=(ZC sch).1 then -1 else n:=by
 unfold ZMj ZdM ZC;simp only[Zhr,names6,ZeR];have e1:tl (⟨#[104,116,116,112]⟩:BA)=[104,116,116,112]:=rfl;have e2:tl (⟨#[104,116,116,112,115]⟩:BA)=[104,116,116,112,115]:=rfl;have e3:tl (⟨#[119,115]⟩:BA)=[119,115]:=rfl;have e4:tl (⟨#[119,115,115]⟩:BA)=[119,115,115]:=rfl;have e5:tl (⟨#[102,116,112]⟩:BA)=[102,116,112]:=rfl;have e6:tl (⟨#[102,105,108,101]⟩:BA)=[102,105,108,101]:=rfl;rw[e1,e2,e3,e4,e5,e6]
 by_cases h1:sch=[104,116,116,112]
 .subst h1;simp
 by_cases h2:sch=[104,116,116,112,115]
 .subst h2;simp
 by_cases h3:sch=[119,115]
 .subst h3;simp
 by_cases h4:sch=[119,115,115]
 .subst h4;simp
 by_cases h5:sch=[102,116,112]
 .subst h5;simp
 rw[ifN (Ne.symm h1),ifN (Ne.symm h2),ifN (Ne.symm h3),ifN (Ne.symm h4),ifN (Ne.symm h5),ifN (show ¬(sch=[104,116,116,112]∨sch=[119,115])by rintro(e|e);exact h1 e;exact h3 e),ifN (show ¬(sch=[104,116,116,112,115]∨sch=[119,115,115])by rintro(e|e);exact h2 e;exact h4 e),ifN h5]
 by_cases h6:sch=[102,105,108,101]
 .have n1:¬n=((-1:Int),true).1:=by show ¬n=-1;omega
  have n2:¬(((0:Int),false).2=true/\n=((0:Int),false).1):=fun g=>by cases g.1
  rw[ifP h6.symm,ifN n1,ifN n2]
 .have n1:¬n=((-1:Int),false).1:=by show ¬n=-1;omega
  have n2:¬(((0:Int),false).2=true/\n=((0:Int),false).1):=fun g=>by cases g.1
  rw[ifN (Ne.symm h6),ifN n1,ifN n2]
structure Rl (b:Bool) (Q S:List UInt8) (u:U) (m:RU):Prop where
 sch:m.sch=u.sch
 own:u.sch=S
 user:m.user=u.nam
 pass:m.pass=u.pw
 his:m.his=u.hh
 htx:m.htx=u.host
 port:m.port=if u.hp=true then(u.port:Int)else -1
 path:m.path=u.segs
 op:m.op=u.op
 bl:m.bl=u.opath
 hq:m.hq=u.hq
 q:(if b=true then Q else m.q)=u.q
 hf:m.hf=u.hf
 fr:m.fr=[]
 zfr:u.fr=[]
def ZLk(b:Bool)(Q S:List UInt8)(x:U×Int)(y:RU×Int):Prop:=x.2=y.2/\(x.2=0->Rl b Q S x.1 y.1)
theorem ZFr{b:Bool}{Q S:LB}{u:U}{m:RU}(h:Rl b Q S u m)(l:LI)(hl:∀c∈l,Sc c):ZLk b Q S (Zbx u (Zb l)) (ZzO m l):=by
 have hpt:∀c∈l,Pt c:=fun c hc=>(hl c hc).pt
 unfold Zbx ZzO ZB6;rw[ZEH l hpt,h.sch,special_eq];rcases ZFj l with hc|⟨k,hc,hk⟩
 focus
  rw[ifP hc,ifP hc];simp only[Xc,or_false];have hE:=Zzt hpt
  by_cases h0:l=[]/\Zc u.sch=true
  .have h0':Zb l=[]/\Zc u.sch=true:=⟨hE.2 h0.1,h0.2⟩
   rw[ifP h0',ifP h0]
   exact⟨rfl,fun g=>by cases g⟩
  focus
   have h0':¬(Zb l=[]/\Zc u.sch=true):=fun g=>h0 ⟨hE.1 g.1,g.2⟩
   rw[ifN h0',ifN h0];obtain⟨e1,e2⟩:=ZGh l hl (Zc u.sch);rw[e1]
   by_cases h2:(hostOf l (Zc u.sch)).2.2≠0
   .rw[ifP h2,ifP h2]
    exact⟨rfl,fun g=>absurd g h2⟩
   focus
    have h2':(hostOf l (Zc u.sch)).2.2=0:=Classical.not_not.1 h2;rw[ifN h2,ifN h2,ifP trivial]
 rotate_left
 focus
  have hcn:¬colon l=-1:=by omega
  have hkn:(colon l).toNat=k:=by omega
  rw[ifN hcn,ifN hcn,hkn];simp only[or_true,and_true]
  have htp:∀c∈l.take k,Pt c:=fun c g=>hpt c (Xn g)
  have hdp:∀c∈l.drop (k+1),Pt c:=fun c g=>hpt c (Xa g)
  have hE:=Zzt htp;have hF:=Zzt hdp
  by_cases h0:l.take k=[]
  .rw[ifP (hE.2 h0),ifP h0]
   exact⟨rfl,fun g=>by cases g⟩
  focus
   have h0':¬Zb (l.take k)=[]:=fun g=>h0 (hE.1 g)
   rw[ifN h0',ifN h0]
   obtain⟨e1,e2⟩:=ZGh (l.take k) (fun c g=>hl c (Xn g)) (Zc u.sch)
   rw[e1]
   by_cases h2:(hostOf (l.take k) (Zc u.sch)).2.2≠0
   .rw[ifP h2,ifP h2]
    exact⟨rfl,fun g=>absurd g h2⟩
   focus
    have h2':(hostOf (l.take k) (Zc u.sch)).2.2=0:=Classical.not_not.1 h2;rw[ifN h2,ifN h2]
    by_cases h3:l.drop (k+1)=[]
    focus
     rw[ifP (hF.2 h3),ifP h3]
    rotate_left
    .have h3':¬Zb (l.drop (k+1))=[]:=fun g=>h3 (hF.1 g)
     rw[ifN h3',ifN h3];unfold ZgJ;rw[ZJE _ hdp]
     by_cases h4:ZP (l.drop (k+1))=false∨65535<value (l.drop (k+1))
     .rw[ifP h4,ifP h4]
      exact⟨rfl,fun g=>by cases g⟩
     .have hnn:0<=value (l.drop (k+1)):=ZLj _ (by cases hx:ZP (l.drop (k+1))with|true=>rfl|false=>exact absurd (Xg hx) h4)
      rw[ifN h4,ifN h4,ifN (by intro g;cases g)]
      refine⟨rfl,fun _=>?_⟩
      unfold Zby;simp only;rw[ZNe u.sch _ hnn]
      by_cases h5:(ZC u.sch).2=true/\value (l.drop (k+1))=(ZC u.sch).1
      .rw[ifP h5,ifP h5]
       exact { h with sch:=rfl,his:=by rw[e2,decide_eq_true h2'],htx:=rfl,port:=rfl }
      .rw[ifN h5,ifN h5]
       exact { h with sch:=rfl,his:=by rw[e2,decide_eq_true h2'],htx:=rfl,port:=by show value (l.drop (k+1))=((value (l.drop (k+1))).toNat:Int);omega }
 all_goals
  exact⟨rfl,fun _=>{ h with sch:=rfl,his:=by rw[e2,decide_eq_true h2'],htx:=rfl }⟩
theorem ZGm(l:LI):∀n,(ZBf l n=-1/\∀j,j<n->l[j]?≠some 64)∨∃k:Nat,ZBf l n=(k:Int)/\k<n/\l[k]?=some 64/\∀j,k<j->j<n->l[j]?≠some 64:=by
 intro n
 induction n with
 | zero=>exact Xg ⟨rfl,fun j h=>by omega⟩
 | succ n ih=>
  rw[ZBf]
  by_cases h:l[n]?=some 64
  .rw[ifP h]
   exact Xj ⟨n,rfl,by omega,h,fun j h1 h2=>by omega⟩
  .rw[ifN h]
   rcases ih with⟨h1,h2⟩|⟨k,h1,h2,h3,h4⟩
   .refine Xg ⟨h1,fun j hj=>?_⟩
    by_cases e:j=n
    .subst e;exact h
    .exact h2 j (by omega)
   .refine Xj ⟨k,h1,by omega,h3,fun j hj1 hj2=>?_⟩
    by_cases e:j=n
    .subst e;exact h
    .exact h4 j hj1 (by omega)
theorem ZNf:Asc (isB 64) (fun c=>among c [64]):=ZMk (Zei 64 (by decide) (by decide) 64 rfl)
theorem ZNg{l:LI}(hl:∀c∈l,Pt c)(h:∀c∈l,c≠64):∀b∈Zb l,isB 64 b=false:=by
 have h1:=ZNf.any l hl
 have h2:(l.any fun c=>among c [64])=false:=by
  rw[XR];intro c hc;have:=h c hc
  simp[among]
  omega
 rw[h2]at h1;intro b hb;have:=XR.1 h1 b hb
 simpa using this
theorem ZMB(who:LI)(hl:∀c∈who,Pt c):bcutLast 64 (Zb who)=if ZAf who=-1 then([],Zb who,false)else(Zb (who.take (ZAf who).toNat),Zb (who.drop ((ZAf who).toNat+1)),true):=by
 unfold ZAf;rcases ZGm who who.length with⟨h1,h2⟩|⟨k,h1,h2,h3,h4⟩
 .rw[ifP h1]
  refine ZCN (ZNg hl fun c hc e=>?_)
  obtain⟨j,hj,rfl⟩:=XP hc
  exact h2 j hj (by rw[Xu hj,e])
 .rw[ifN (by omega),h1,XD]
  have e:who=who.take k++64::who.drop (k+1):=by
   have h5:who[k]=64:=by rw[Xu h2]at h3;exact Option.some.inj h3
   rw[<-h5,<-Xo h2,XB]
  have hb:Zb who=Zb (who.take k)++64::Zb (who.drop (k+1)):=by
   conv=>lhs;rw[e]
   rw[ZF5,bytesOf_cons]
   rfl
  rw[hb]
  refine ZF9 (ZNg (fun c hc=>hl c (Xa hc)) fun c hc e=>?_) (by decide)
  obtain⟨j,hj,rfl⟩:=XP hc;rw[Xv]at hj;rw[List.getElem_drop]at e
  exact h4 (k+1+j) (by omega) (by omega) (by rw[Xu (by omega),e])
theorem ZHt(l:LI)(hl:∀c∈l,Sc c):ZfY (Zb l)=encoded l ZC0:=by
 unfold ZfY;rw[ZaW _ l hl]
 exact Zz5 (ZBc (by decide) (by decide)) l
theorem ZHu{b:Bool}{Q S:LB}{x:U×Int}{y:RU×Int}(h:ZLk b Q S x y)(sch:LB)(rest:LI)(hr:∀c∈rest,Sc c)(f:Bool):ZLk b Q S (ZdJ x sch (Zb rest) f) (ZC2 y sch rest f):=by
 unfold ZdJ ZC2;rw[<-h.1]
 by_cases h0:x.2≠0
 .rw[ifP h0,ifP h0]
  exact⟨h.1,fun g=>absurd g h0⟩
 .rw[ifN h0,ifN h0]
  have hr1:=h.2 (Classical.not_not.1 h0)
  cases f
  .rw[ifN (by decide),ifN (by decide)]
   exact⟨rfl,fun _=>hr1⟩
  .rw[ifP rfl,ifP rfl]
   exact⟨rfl,fun _=>{ hr1 with path:=Zz2 sch rest hr }⟩
theorem ZEI{b:Bool}{Q S:LB}{u:U}{m:RU}(h:Rl b Q S u m)(hn:u.nam=[])(hw:u.pw=[])(l:LI)(hl:∀c∈l,Sc c)(t:LB)(ht:t=Zb (ZAJ u.sch l)):ZLk b Q S (Zx u t) (ZzE m l):=by
 subst ht;unfold Zx ZzE;rw[h.sch]
 have hl2:∀c∈ZAJ u.sch l,Sc c:=fun c hc=>hl c (ZFm hc)
 generalize ZAJ u.sch l=l2 at *
 have hpt:∀c∈l2,Pt c:=fun c hc=>(hl2 c hc).pt
 have hs:ZuP (slB (Zc u.sch)) (tl (Zn u.sch)):=by rw[ZCt,special_eq];exact ZBL _
 rw[Zab hs l2 hpt]
 have hc1:∀c∈(cut l2 (tl (Zn u.sch))).1,Sc c:=fun c hc=>hl2 c (Zy (Xg hc))
 have hc2:∀c∈(cut l2 (tl (Zn u.sch))).2.1,Sc c:=fun c hc=>hl2 c (Zy (Xj hc))
 generalize cut l2 (tl (Zn u.sch))=cc at *;obtain⟨who,rest,found⟩:=cc;simp only at *
 rw[ZMB who (fun c hc=>(hc1 c hc).pt),special_eq,Bool.or_comm found]
 unfold Zz1 ZI5
 by_cases ha:ZAf who=-1
 .rw[ifP ha]
  simp only[Xc,false_and,if_false]
  have g1:¬(ZAf who≠-1/\(if ZAf who=-1 then who else who.drop ((ZAf who).toNat+1))=[]):=fun g=>g.1 ha
  rw[ifN g1,ifP ha,ifP ha]
  refine ZHu (ZFr ?_ who hc1) u.sch rest hc2 _
  have e:ZfY (bcut (isB 58) []).1=[]/\ZfY (bcut (isB 58) []).2.1=[]:=⟨by unfold ZfY;exact ZaT _,by unfold ZfY;exact ZaT _⟩
  exact { h with user:=by show m.user=ZfY (bcut (isB 58) []).1;rw[e.1,h.user,hn],pass:=by show m.pass=ZfY (bcut (isB 58) []).2.1;rw[e.2,h.pass,hw] }
 .have hdp:∀c∈who.drop ((ZAf who).toNat+1),Sc c:=fun c hc=>hc1 c (Xa hc)
  have htp:∀c∈who.take (ZAf who).toNat,Sc c:=fun c hc=>hc1 c (Xn hc)
  rw[ifN ha,ifN ha,ifN ha];simp only[true_and]
  have hE:=Zzt (l:=who.drop ((ZAf who).toNat+1)) (fun c hc=>(hdp c hc).pt)
  by_cases h0:who.drop ((ZAf who).toNat+1)=[]
  .rw[ifP (hE.2 h0),ifP ⟨ha,h0⟩]
   exact⟨rfl,fun g=>by cases g⟩
  .have h0':¬Zb (who.drop ((ZAf who).toNat+1))=[]:=fun g=>h0 (hE.1 g)
   rw[ifN h0',ifN (fun g=>h0 g.2)]
   refine ZHu (ZFr ?_ _ hdp) u.sch rest hc2 _
   have hcol:=Zab ZDS (who.take (ZAf who).toNat) (fun c hc=>(htp c hc).pt)
   refine { h with user:=?_,pass:=?_ }
   .show encoded _ ZC0=ZfY (bcut (isB 58) (Zb (who.take (ZAf who).toNat))).1
    rw[hcol,ZHt _ (fun c hc=>htp c (Zy (Xg hc)))]
   .show encoded _ ZC0=ZfY (bcut (isB 58) (Zb (who.take (ZAf who).toNat))).2.1
    rw[hcol,ZHt _ (fun c hc=>htp c (Zy (Xj hc)))]
theorem ZHv:ZuP (slB true) [47,92]:=ZBL true
theorem ZMC(l:LI):letter (cut l [47,92]).1=driven l:=by
 unfold driven
 match l with
 | []=>rfl
 | [c]=>
  rw[ifP (by simp),cut]
  split
  .rfl
  .rfl
 | c::d::r=>
  rw[ifN (by simp)]
  show _=(letter [c,d]&&(decide ((c::d::r).length=2)||Zq (c::d::r) 2 Zzu))
  cases hl:letter [c,d]
  .rw[Bool.false_and]
   rw[cut]
   split
   .rfl
   .rw[cut]
    split
    .rfl
    .cases r with
     | nil=>exact hl
     | cons e t=>
      rw[cut]
      split
      .exact hl
      .rfl
  .have hl':(alpha c&&(d==58||d==124))=true:=hl
   rw[Xi]at hl'
   have hc:c<128/\65<=c/\c≠92:=by
    have:=hl'.1
    simp[alpha]at this
    omega
   have hd:d=58∨d=124:=by simpa using hl'.2
   have n1:among c [47,92]=false:=by simp[among];omega
   have n2:among d [47,92]=false:=by rcases hd with rfl|rfl<;>rfl
   rw[XV,cut,n1,cut,n2];simp only[Xc,if_false]
   cases r with
   | nil=>exact hl
   | cons e t=>
    have hs:Zq (c::d::e::t) 2 Zzu=among e [47,92]:=rfl
    rw[hs,cut,decide_eq_false (by simp)]
    cases he:among e [47,92]
    .simp only[Xc,if_false,Bool.or_self]
     rfl
    .simp only[if_true,Bool.or_true]
     exact hl
theorem ZDp(l:LI)(hl:∀c∈l,Pt c):Z3 (Zb l)=driven l:=by
 unfold Z3;rw[Zab ZHv l hl]
 show ZY (Zb (cut l [47,92]).1)=_
 rw[ZAx _ (fun c hc=>hl c (Zy (Xg hc))),ZMC]
theorem ZGn{b:Bool}{Q S:LB}{u:U}{m:RU}(h:Rl b Q S u m)(hh:u.hh=true)(l:LI)(hl:∀c∈l,Sc c):(Z2 (Zb l)).2=(ZzK m l).2/\((ZzK m l).2=0->Rl b Q S { u with host:=(Z2 (Zb l)).1 } (ZzK m l).1):=by
 unfold Z2 ZzK
 have hE:=Zzt (l:=l) (fun c hc=>(hl c hc).pt)
 obtain⟨e1,e2⟩:=ZGh l hl true
 by_cases h0:l=[]
 .rw[ifP (hE.2 h0),ifP h0]
  exact⟨rfl,fun _=>{ h with his:=hh.symm,htx:=rfl }⟩
 .have h0':¬Zb l=[]:=fun g=>h0 (hE.1 g)
  rw[ifN h0',ifN h0,e1]
  by_cases h1:(hostOf l true).2.2≠0
  .rw[ifP h1,ifP h1]
   exact⟨rfl,fun g=>absurd g h1⟩
  .have h1':=Classical.not_not.1 h1
   rw[ifN h1,ifN h1]
   by_cases h2:(hostOf l true).2.1=ZHn
   .have h2':(hostOf l true).2.1=Zhk:=h2
    rw[ifP h2',ifP h2]
    exact⟨rfl,fun _=>{ h with his:=hh.symm,htx:=rfl }⟩
   .have h2':¬(hostOf l true).2.1=Zhk:=h2
    rw[ifN h2',ifN h2]
    exact⟨rfl,fun _=>{ h with his:=by show(hostOf l true).1=u.hh;rw[e2,decide_eq_true h1',hh],htx:=rfl }⟩
theorem ZFs{b:Bool}{Q S:LB}{u:U}{m:RU}(h:Rl b Q S u m)(hh:u.hh=true)(l:LI)(hl:∀c∈l,Sc c):ZLk b Q S (Zao u (Zb l)) (ZAS m l):=by
 have hpt:∀c∈l,Pt c:=fun c hc=>(hl c hc).pt
 unfold Zao ZAS;rw[Zab ZHv l hpt];simp only
 rw[ZAx _ (fun c hc=>hpt c (Zy (Xg hc)))]
 by_cases h0:letter (cut l [47,92]).1=true
 .rw[ifP h0,ifP h0]
  exact⟨rfl,fun _=>{ h with path:=by show walked m.sch [] l=_;rw[h.sch];exact Zz2 u.sch l hl }⟩
 .rw[ifN h0,ifN h0]
  obtain⟨g1,g2⟩:=ZGn h hh (cut l [47,92]).1 (fun c hc=>hl c (Zy (Xg hc)))
  rw[g1]
  by_cases h1:(ZzK m (cut l [47,92]).1).2≠0
  .rw[ifP h1,ifP h1]
   exact⟨rfl,fun g=>absurd g h1⟩
  .rw[ifN h1,ifN h1]
   exact⟨rfl,fun _=>{ g2 (Classical.not_not.1 h1)with path:=by show walked m.sch [] _=_;rw[h.sch];exact Zz2 u.sch _ (fun c hc=>hl c (Zy (Xj hc))) }⟩
def toR(u:U):RU:=⟨u.sch,u.nam,u.pw,u.hh,u.host,if u.hp=true then(u.port:Int)else -1,u.segs,u.op,u.opath,u.hq,u.q,u.hf,u.fr⟩
def Bl(base:U)(ob:Option RU):Prop:=(ob=none/\base=zeroU)∨(ob=some (toR base)/\Sl base)
theorem Bl.near{base:U}{ob:Option RU}(h:Bl base ob):(base.sch≠ZE/\ZDO ob=none)∨(base.sch=ZE/\ZDO ob=some (toR base)/\base.hh=true):=by
 rcases h with⟨rfl,rfl⟩|⟨rfl,hs⟩
 .exact Xg ⟨by decide,rfl⟩
 .by_cases hf:base.sch=ZE
  .exact Xj ⟨hf,ifP hf,hs.q3.sp (by rw[hf];decide)⟩
  .exact Xg ⟨hf,ifN hf⟩
theorem ZD1{b:Bool}{Q S:LB}{u:U}{m:RU}(h:Rl b Q S u m)(hqb:u.hq=b)(base:U)(l:LI)(hl:∀c∈l,Sc c)(h0:l=[]):Rl b Q S (Zak u (Zb l) base) (ZDl m (toR base)):=by
 subst h0;unfold Zak ZDl;rw[ifP (show Zb []=[]from rfl)]
 refine { h with path:=rfl,hq:=by show(m.hq||base.hq)=(u.hq||base.hq);rw[h.hq],q:=?_ }
 show(if b=true then Q else if m.hq=true then m.q else base.q)=if u.hq=true then u.q else base.q
 rw[h.hq,hqb];have:=h.q
 cases b
 .simp
 .simpa using this
theorem ZHw{b:Bool}{Q S:LB}{u:U}{m:RU}(h:Rl b Q S u m)(hqb:u.hq=b)(hf:u.sch=ZE)(hz:u.host=[]){base:U}{ob:Option RU}(hB:Bl base ob)(l:LI)(hl:∀c∈l,Sc c):ZLk b Q S (ZdU u (Zb l) base) (ZAp m l (ZDO ob)):=by
 have hpt:∀c∈l,Pt c:=fun c hc=>(hl c hc).pt
 unfold ZdU ZAp
 have hsp:Zc Zzu=true:=by decide
 have s0:=ZHs Zzu l hpt;have s01:=ZFq Zzu l hpt;rw[hsp]at s0 s01;have hdr:=ZAN true l;have hcnt:=ZzJ true l hpt
 by_cases h2:1<countSl true (Zb l)
 .rw[ifP h2,ifP (by rw[s01];exact decide_eq_true h2),hdr 2 (by omega)]
  exact ZFs (u:={ u with hh:=true }) (m:={ m with his:=true,htx:=[] }) { h with his:=rfl,htx:=hz.symm } rfl (l.drop 2) (fun c hc=>hl c (Xa hc))
 .have h2':¬(Zq l 0 Zzu&&Zq l 1 Zzu)=true:=by rw[s01];simpa using h2
  rw[ifN h2,ifN h2'];rcases hB.near with⟨hn,hr⟩|⟨hn,hr,hbh⟩
  .rw[ifP hn,hr]
   simp only
   by_cases h1:Zq l 0 Zzu=true
   .have h1':countSl true (Zb l)=1:=by rw[s0]at h1;have:=of_decide_eq_true h1;omega
    rw[ifP h1,h1',hdr 1 (by omega)]
    exact⟨rfl,fun _=>{ h with his:=rfl,htx:=hz.symm,path:=by show walked m.sch [] _=_;rw[h.sch];exact Zz2 u.sch _ (fun c hc=>hl c (Xa hc)) }⟩
   .have h1':countSl true (Zb l)=0:=by rw[s0,decide_eq_true_iff]at h1;omega
    rw[ifN h1,h1',XF]
    exact⟨rfl,fun _=>{ h with his:=rfl,htx:=hz.symm,path:=by show walked m.sch [] _=_;rw[h.sch];exact Zz2 u.sch _ hl }⟩
  .rw[ifN (fun g=>g hn),hr]
   simp only
   by_cases h1:Zq l 0 Zzu=true
   .have h1':countSl true (Zb l)=1:=by rw[s0]at h1;have:=of_decide_eq_true h1;omega
    rw[ifP h1,ifP h1',hdr 1 (by omega)]
    have hld:∀c∈l.drop 1,Sc c:=fun c hc=>hl c (Xa hc)
    refine⟨rfl,fun _=>{ h with his:=hbh,htx:=rfl,path:=?_ }⟩
    show walked m.sch (if driven (l.drop 1)=false/\base.segs≠[]/\drive (base.segs.headD [])=true then [base.segs.headD []]else []) (l.drop 1)=ZaR base.segs (Zb (l.drop 1))
    unfold ZaR
    have hda:=ZDp (l.drop 1) (fun c hc=>(hld c hc).pt)
    have hhd:base.segs.headD []=base.segs.getD 0 []:=by cases base.segs<;>rfl
    rw[h.sch,hf,ZHr,hhd]
    by_cases hc:driven (l.drop 1)=false/\base.segs≠[]/\Zad (base.segs.getD 0 [])=true
    .have hc':¬(base.segs=[]∨Zad (base.segs.getD 0 [])=false∨Z3 (Zb (l.drop 1))=true):=by
      rintro(g|g|g)
      .exact hc.2.1 g
      .rw[hc.2.2]at g;cases g
      .rw[hda,hc.1]at g;cases g
     rw[ifP hc,ifN hc',ZBE ZE _ _ hld]
     have:[base.segs.getD 0 []]=base.segs.take 1:=by
      cases hs:base.segs with
      | nil=>exact absurd hs hc.2.1
      | cons a r=>rfl
     rw[this]
     rfl
    .have hc':base.segs=[]∨Zad (base.segs.getD 0 [])=false∨Z3 (Zb (l.drop 1))=true:=by
      refine Classical.byContradiction fun g=>hc ⟨?_,?_,?_⟩
      .cases hx:driven (l.drop 1)with
       | false=>rfl
       | true=>exact absurd (Xj (Xj (by rw[hda,hx]))) g
      .exact fun e=>g (Xg e)
      .cases hx:Zad (base.segs.getD 0 [])with
       | true=>rfl
       | false=>exact absurd (Xj (Xg hx)) g
     rw[ifN hc,ifP hc',ZBE ZE _ _ hld]
     rfl
   .have h1':countSl true (Zb l)=0:=by rw[s0,decide_eq_true_iff]at h1;omega
    have hda:=ZDp l hpt
    rw[ifN h1,ifN (by omega)]
    by_cases h0:l=[]
    .rw[ifP h0]
     have hd0:¬Z3 (Zb l)=true:=by rw[h0];decide
     rw[ifN hd0]
     exact⟨rfl,fun _=>ZD1 (u:={ u with hh:=true,host:=base.host }) (m:={ m with his:=base.hh,htx:=base.host }) { h with his:=hbh,htx:=rfl } hqb base l hl h0⟩
    .rw[ifN h0]
     have h0':¬Zb l=[]:=fun g=>h0 ((Zzt hpt).1 g)
     by_cases hd:driven l=true
     .rw[ifP hd,ifP (by rw[hda];exact hd)]
      exact⟨rfl,fun _=>{ h with his:=hbh,htx:=rfl,path:=by show walked m.sch [] _=_;rw[h.sch];exact Zz2 u.sch _ hl }⟩
     .rw[ifN hd,ifN (by rw[hda];exact hd)]
      unfold Zak;rw[ifN h0']
      refine⟨rfl,fun _=>{ h with his:=hbh,htx:=rfl,path:=?_ }⟩
      show walked m.sch (ZzN m.sch base.segs) l=Zc8 base.segs (Zb l) u.sch
      rw[h.sch,ZBE u.sch _ l hl,ZCC]
      rfl
theorem ZFt(sp:Bool)(l:LB):∀k,k<=countSl sp l->countSl sp (l.drop k)=countSl sp l-k:=by
 induction l with
 | nil=>intro k h;rw[XH];rw[countSl];omega
 | cons c r ih=>
  intro k h
  cases k with
  | zero=>rfl
  | succ k=>
   rw[countSl]at h ⊢
   by_cases hc:slB sp c=true
   .rw[ifP hc]at h ⊢
    rw[Xp,ih k (by omega)]
    omega
   .rw[ifN hc]at h;omega
theorem ZLl(sch:LB)(l:LI)(hl:∀c∈l,Pt c)(h:1<countSl (Zc sch) (Zb l)):(Zb l).drop (if Zc sch=true then countSl (Zc sch) (Zb l)else 2)=Zb (ZAJ sch (l.drop 2)):=by
 rw[ZEF sch (l.drop 2) (fun c hc=>hl c (Xa hc))]
 have hcnt:=ZzJ (Zc sch) l hl
 have hd:=ZAN (Zc sch) l 2 (by omega)
 by_cases hs:Zc sch=true
 .rw[ifP hs,ifP hs,<-hd]
  rw[hs]at h ⊢
  rw[ZFt true _ 2 (by omega),List.drop_drop]
  congr 1
  omega
 .rw[ifN hs,ifN hs,hd]
theorem ZFu{b:Bool}{Q S:LB}{u:U}{m:RU}(h:Rl b Q S u m)(hqb:u.hq=b)(hf:u.sch≠ZE)(hn:u.nam=[])(hw:u.pw=[])(base:U)(l:LI)(hl:∀c∈l,Sc c):ZLk b Q S (ZV u (Zb l) base) (ZA4 m l (toR base)):=by
 have hpt:∀c∈l,Pt c:=fun c hc=>(hl c hc).pt
 unfold ZV ZA4;rw[ifN hf,h.sch,ZFq u.sch l hpt,ZHs u.sch l hpt];have hcnt:=ZzJ (Zc u.sch) l hpt
 by_cases h2:1<countSl (Zc u.sch) (Zb l)
 .rw[ifP h2,ifP (decide_eq_true h2)]
  exact ZEI h hn hw (l.drop 2) (fun c hc=>hl c (Xa hc)) _ (ZLl u.sch l hpt h2)
 .have h2':¬decide (1<countSl (Zc u.sch) (Zb l))=true:=by rw[decide_eq_true_iff];exact h2
  rw[ifN h2,ifN h2']
  have hk:Rl b Q S (kept u base) (ZFo m (toR base)):={ h with user:=rfl,pass:=rfl,his:=rfl,htx:=rfl,port:=rfl }
  by_cases h1:countSl (Zc u.sch) (Zb l)=1
  .rw[ifP h1,ifP (decide_eq_true (by omega)),ZAN (Zc u.sch) l 1 (by omega)]
   exact⟨rfl,fun _=>{ hk with path:=Zz2 u.sch _ (fun c hc=>hl c (Xa hc)) }⟩
  .have h1':¬decide (1<=countSl (Zc u.sch) (Zb l))=true:=by rw[decide_eq_true_iff];omega
   rw[ifN h1,ifN h1']
   by_cases h0:l=[]
   .rw[ifP h0]
    exact⟨rfl,fun _=>ZD1 hk hqb base l hl h0⟩
   .rw[ifN h0]
    have h0':¬Zb l=[]:=fun g=>h0 ((Zzt hpt).1 g)
    unfold Zak;rw[ifN h0']
    refine⟨rfl,fun _=>{ hk with path:=?_ }⟩
    show walked u.sch (ZzN u.sch base.segs) l=Zc8 base.segs (Zb l) u.sch
    rw[ZBE u.sch _ l hl,ZCC]
    rfl
theorem ZMD{b:Bool}{Q S:LB}{u:U}{m:RU}(h:Rl b Q S u m)(hqb:u.hq=b)(hn:u.nam=[])(hw:u.pw=[])(hz:u.host=[])(hs0:u.sch≠[]){base:U}{ob:Option RU}(hB:Bl base ob)(l:LI)(hl:∀c∈l,Sc c):ZLk b Q S (Zar u (Zb l) base) (ZzD m l ob):=by
 have hpt:∀c∈l,Pt c:=fun c hc=>(hl c hc).pt
 unfold Zar ZzD;rw[h.sch,special_eq]
 by_cases hf:u.sch=ZE
 .have hf':u.sch=Zzu:=hf
  rw[ifP hf,ifP hf'];exact ZHw h hqb hf hz hB l hl
 .have hf':¬u.sch=Zzu:=hf
  rw[ifN hf,ifN hf'];have htwo:=ZMz l hpt;have hone:=ZMA l hpt;have hcnt:=ZzJ false l hpt
  by_cases hs:Zc u.sch=true
  .rw[ifP hs,ifP hs]
   unfold Za5
   by_cases hc:base.sch=u.sch/\countSl false (Zb l)<2
   .rw[ifP hc]
    have e:(if ZC3 l=true then none else ZH9 m ob)=some (toR base):=by
     rw[ifN (by rw[htwo,decide_eq_true_iff];omega)]
     rcases hB with⟨rfl,rfl⟩|⟨rfl,-⟩
     .exact absurd hc.1.symm hs0
     .show(if(toR base).sch=m.sch then some (toR base)else none)=_
      rw[ifP (by rw[h.sch];exact hc.1)]
    rw[e];exact ZFu h hqb hf hn hw base l hl
   .rw[ifN hc]
    have e:(if ZC3 l=true then none else ZH9 m ob)=none:=by
     by_cases ht:ZC3 l=true
     .rw[ifP ht]
     .rw[ifN ht]
      rcases hB with⟨rfl,rfl⟩|⟨rfl,-⟩
      .rfl
      .show(if(toR base).sch=m.sch then some (toR base)else none)=_
       rw[ifN];intro g;rw[h.sch]at g;rw[htwo,decide_eq_true_iff]at ht
       exact hc ⟨g,by omega⟩
    rw[e]
    refine ZEI h hn hw l hl _ ?_
    rw[ZEF u.sch l hpt,ifP hs]
  .rw[ifN hs,ifN hs]
   by_cases h0:countSl false (Zb l)=0
   .rw[ifP h0,ifN (by rw[htwo,decide_eq_true_iff];omega),ifN (by rw[hone,decide_eq_true_iff];omega)]
    exact⟨rfl,fun _=>{ h with sch:=rfl,op:=rfl,bl:=(ZaW _ l hl).symm }⟩
   .rw[ifN h0]
    by_cases h1:countSl false (Zb l)=1
    .rw[ifP h1,ifN (by rw[htwo,decide_eq_true_iff];omega),ifP (by rw[hone];exact decide_eq_true (by omega)),ZAN false l 1 (by omega)]
     exact⟨rfl,fun _=>{ h with sch:=rfl,path:=Zz2 u.sch _ (fun c hc=>hl c (Xa hc)) }⟩
    .rw[ifN h1,ifP (by rw[htwo];exact decide_eq_true (by omega))]
     refine ZEI h hn hw (l.drop 2) (fun c hc=>hl c (Xa hc)) _ ?_
     rw[ZEF u.sch _ (fun c hc=>hpt c (Xa hc)),ifN hs,ZAN false l 2 (by omega)]
theorem ZJF(sch:LB)(l:LI)(hl:∀c∈l,Sc c):encB (tl (Zbo (Zbp sch))) (clean (Zb l))=encoded l (tl (Zpc (Zg sch))):=by
 rw[ZaW _ l hl,special_eq];unfold Zbp Zpc
 cases Zc sch
 .exact Zz5 (ZBc (by decide) (by decide)) l
 .exact Zz5 (ZBc (by decide) (by decide)) l
theorem ZHx(l:LI)(hl:∀c∈l,Sc c):encB (tl (Zbo 1)) (clean (Zb l))=encoded l ZCj:=by
 rw[ZaW _ l hl]
 exact Zz5 (ZBc (by decide) (by decide)) l
theorem ZHy(l:LI)(t:LB)(h:(cut l t).2.2=false):(cut l t).2.1=[]:=by
 induction l with
 | nil=>rfl
 | cons c r ih=>
  rw[cut]at h ⊢
  split
  .next hc=>rw[ifP hc]at h;cases h
  .next hc=>rw[ifN hc]at h;exact ih h
theorem ZHz(sch:LB)(rest:LI):Rl (cut rest [63]).2.2 (encB (tl (Zbo (Zbp sch))) (clean (Zb (cut rest [63]).2.1))) sch (Zcw sch (cut rest [63]).2.2 (Zb (cut rest [63]).2.1)) (ZDn sch rest):=by
 refine⟨rfl,rfl,rfl,rfl,rfl,rfl,rfl,rfl,rfl,rfl,rfl,?_,rfl,rfl,rfl⟩
 show(if(cut rest [63]).2.2=true then _ else([]:LB))=encB _ (clean _)
 cases hq:(cut rest [63]).2.2
 .rw[ifN (by decide),ZHy rest _ hq,bytesOf_nil,ZaT]
 .rw[ifP rfl]
def ZNx(x:U×Int)(y:RU×Int):Prop:=x.2=y.2/\(x.2=0->y.1=toR x.1)
theorem ZEJ{b:Bool}{S:LB}{x:U×Int}{y:RU×Int}{query:LI}(hq:∀c∈query,Sc c)(h:ZLk b (encB (tl (Zbo (Zbp S))) (clean (Zb query))) S x y)(hf:Bool)(frag:LI)(hfr:∀c∈frag,Sc c)(hfn:hf=false->frag=[]):ZNx (ZgL x hf (Zb frag)) (ZIa (queried y b query) hf frag):=by
 have hc:(queried y b query).2=y.2:=by unfold queried;split<;>rfl
 unfold ZgL ZIa;rw[hc,<-h.1]
 by_cases h0:x.2≠0
 .rw[ifP h0,ifP h0]
  exact⟨rfl,fun g=>absurd g h0⟩
 .rw[ifN h0,ifN h0]
  have hr:=h.2 (Classical.not_not.1 h0)
  refine⟨rfl,fun _=>?_⟩
  have hfrag:(if hf=true then encoded frag ZCj else(queried y b query).1.fr)=encB (tl (Zbo 1)) (clean (Zb frag)):=by
   cases hf
   .rw[ifN (by decide),hfn rfl,bytesOf_nil,ZaT]
    have:(queried y b query).1.fr=y.1.fr:=by unfold queried;split<;>rfl
    rw[this,hr.fr]
   .rw[ifP rfl,ZHx frag hfr]
  rw[hfrag]
  have hsq:encoded query (tl (Zpc (Zg y.1.sch)))=encB (tl (Zbo (Zbp S))) (clean (Zb query)):=by rw[hr.sch,hr.own,ZJF S query hq]
  obtain⟨x1,x2⟩:=x;obtain⟨y1,y2⟩:=y;obtain⟨a1,a2,a3,a4,a5,a6,a7,a8,a9,a10,a11,a12,a13⟩:=y1;obtain⟨r1,r2,r3,r4,r5,r6,r7,r8,r9,r10,r11,r12,r13,r14,r15⟩:=hr;unfold queried toR;simp only at *
  cases b
  .rw[ifN (by decide)]at r12 ⊢
   simp only;rw[r1,r3,r4,r5,r6,r7,r8,r9,r10,r11,r12]
  .rw[ifP rfl]at r12 ⊢
   simp only;rw[hsq,r12,r1,r3,r4,r5,r6,r7,r8,r9,r10,r11]
theorem ZJG{l:LI}(hl:∀c∈l,Pt c)(h:(schemeOf l).2.2=true):(schemeOf l).1≠[]:=by
 unfold schemeOf at h ⊢
 split at h
 .next hc=>
  rw[ifP hc];rw[Xi]at hc;intro e
  have h1:=(Zzt (l:=(cut l [58]).1) (fun c hm=>hl c (Zy (Xg hm)))).1 (ZCu.1 e)
  rw[h1]at hc
  exact absurd hc.2 (by decide)
 .cases h
theorem ZME{l:LI}(h:(schemeOf l).2.2=false):(schemeOf l).2.1=l:=by
 unfold schemeOf at h ⊢
 split
 .next hc=>rw[ifP hc]at h;cases h
 .rfl
theorem ZCT(t:LB){base:U}{ob:Option RU}(hB:Bl base ob):ZNx (Zaa t base) (parseR t ob):=by
 unfold Zaa parseR;rw[ZF6,show ZzG t=ZEZ t from rfl];have hsc:=ZI9 t;generalize ZEZ t=L at *
 have hpt:∀c∈L,Pt c:=fun c hc=>(hsc c hc).pt
 rw[Zab ZJa L hpt]
 have ha:∀c∈(cut L [35]).1,Sc c:=fun c hc=>hsc c (Zy (Xg hc))
 have hfr:∀c∈(cut L [35]).2.1,Sc c:=fun c hc=>hsc c (Zy (Xj hc))
 have hfn:(cut L [35]).2.2=false->(cut L [35]).2.1=[]:=ZHy L _;generalize cut L [35]=cc at *;obtain⟨a,frag,hf⟩:=cc;simp only at *
 have hap:∀c∈a,Pt c:=fun c hc=>(ha c hc).pt
 unfold Zcd ZBi;rw[ZE1 a hap];simp only
 have hrest:∀c∈(schemeOf a).2.1,Sc c:=fun c hc=>ha c (ZAa hc)
 have hcq:=Zab ZHT (schemeOf a).2.1 (fun c hc=>(hrest c hc).pt)
 have hq1:∀c∈(cut (schemeOf a).2.1 [63]).1,Sc c:=fun c hc=>hrest c (Zy (Xg hc))
 have hq2:∀c∈(cut (schemeOf a).2.1 [63]).2.1,Sc c:=fun c hc=>hrest c (Zy (Xj hc))
 by_cases hok:(schemeOf a).2.2=true
 .rw[ifP hok,ifP hok]
  have hne:=ZJG hap hok;unfold ZdK ZLh;rw[ifN hne,ifP rfl,hcq];simp only;exact ZEJ hq2 (ZMD (ZHz (schemeOf a).1 (schemeOf a).2.1) rfl rfl rfl rfl hne hB _ hq1) hf frag hfr hfn
 .rw[ifN hok,ifN hok]
  have hoff:=ZME (l:=a) (by simpa using hok)
  rcases hB with⟨rfl,rfl⟩|⟨rfl,hst⟩
  .rw[ifN (show ¬zeroU.op=true by decide)]
   unfold ZdK ZgL;rw[ifP (show zeroU.sch=[]from rfl)]
   exact⟨rfl,fun g=>by cases g⟩
  .simp only
   by_cases ho:base.op=true
   .rw[ifP ho,ifP (show(toR base).op=true from ho)]
    unfold ZcK;rw[hoff];have hE:=Zzt hap
    by_cases hc:a=[]/\hf=true
    .have hc1:Zb a=[]/\hf=true:=⟨hE.2 hc.1,hc.2⟩
     have hc2:¬(a≠[]∨hf=false):=by
      rintro(g|g)
      .exact g hc.1
      .rw[hc.2]at g;cases g
     rw[ifP hc1,ifN hc2];unfold ZgL ZIa
     have n1:¬((base,(0:Int)).2≠0):=fun g=>g rfl
     rw[ifN n1,ifN (fun g=>g rfl)]
     refine⟨rfl,fun _=>?_⟩
     obtain⟨o1,o2⟩:=hst.q3.opq ho;obtain⟨w1,w2,w3,w4⟩:=hst.wf.nh o2;have hff:=ZHx frag hfr;rw[hc.2];unfold toR zeroR;simp only[if_true];rw[hff,w1,w2,o2,w3,w4,o1,ho]
     rfl
    .have hc1:¬(Zb a=[]/\hf=true):=fun g=>hc ⟨hE.1 g.1,g.2⟩
     have hc2:a≠[]∨hf=false:=by
      by_cases g:a=[]
      .right
       cases hf with
       | false=>rfl
       | true=>exact absurd ⟨g,rfl⟩ hc
      .exact Xg g
     rw[ifN hc1,ifP hc2];unfold ZgL
     exact⟨rfl,fun g=>by cases g⟩
   .rw[ifN ho,ifN (show ¬(toR base).op=true from ho)]
    have hne:base.sch≠[]:=hst.sd.sc.ne;unfold ZdK ZHq ZBh
    rw[ifN hne,ifN (by decide),hcq]
    simp only;have hst0:=ZHz base.sch (schemeOf a).2.1
    by_cases hff:base.sch=ZE
    .have hg:(ZDn (toR base).sch (schemeOf a).2.1).sch=Zzu:=hff
     rw[ifP hg];unfold ZV;have hg2:(Zcw base.sch (cut (schemeOf a).2.1 [63]).2.2 (Zb (cut (schemeOf a).2.1 [63]).2.1)).sch=ZE:=hff;rw[ifP hg2];exact ZEJ hq2 (ZHw hst0 rfl hff rfl (Xj ⟨rfl,hst⟩) _ hq1) hf frag hfr hfn
    .have hg:¬(ZDn (toR base).sch (schemeOf a).2.1).sch=Zzu:=hff
     rw[ifN hg];exact ZEJ hq2 (ZFu hst0 rfl hff rfl rfl base _ hq1) hf frag hfr hfn
structure Wk (u:U):Prop where
 port:u.hp=true->u.port<=65535
 opq:u.op=true->u.segs=[]/\u.hh=false
 zop:u.op=false->u.opath=[]
 nq:u.hq=false->u.q=[]
 pq:Pr u.q
 sp:Zc u.sch=true->u.hh=true
 path:(ZaL u).length<=9000
 lq:u.q.length<=295000
theorem ZCm{u:U}(h:u.hp=true->u.port<=65535):ZA5 (toR u)=ZaA u:=by
 unfold ZA5 ZaA ZbE toR;simp only
 cases hp:u.hp
 .simp
 .simp only[if_true]
  rw[ifP (by omega),XD,ZBP _ (by have:=h hp;omega)]
theorem ZLm{u:U}(h:u.hp=true->u.port<=65535):ZJL (toR u)=ZbE u:=by
 unfold ZJL ZbE toR;simp only
 cases hp:u.hp
 .simp
 .simp only[if_true]
  rw[ifP (by omega),XD,ZBP _ (by have:=h hp;omega)]
theorem ZC4{u:U}(h:Wk u):ZA1 (toR u)=ZaL u:=by
 unfold ZA1 ZaL toR;simp only
 cases ho:u.op
 .rw[h.zop ho,ifN (by decide)];rfl
 .rw[(h.opq ho).1,ifP rfl];simp[Zc9]
theorem ZLn(u:U):ZB7 (toR u)=Zkz u:=by
 unfold ZB7 Zkz toR;simp only
 split
 .rfl
 .split
  .rfl
  .simp
theorem ZJM{u:U}(h:Wk u):ZAT (toR u)=Zhi u:=by
 unfold ZAT Zhi;rw[ZCm h.port,ZLn];unfold toR;simp only
 cases hh:u.hh
 .simp only[Xc,if_false]
  cases ho:u.op
  .by_cases hc:1<u.segs.length/\u.segs.getD 0 []=[]
   .rw[ifP hc,ifP ⟨rfl,hc.1,hc.2⟩]
   .rw[ifN hc,ifN (fun g=>hc ⟨g.2.1,g.2.2⟩)]
  .rw[(h.opq ho).1,ifN (by simp),ifN (by simp)]
 .rw[ifP rfl,ifP rfl]
theorem ZEM{u:U}(h:Wk u):ZC1 (toR u)=Zjc u:=by
 unfold ZC1 Zjc Zb2;rw[ZJM h,ZC4 h]
 rfl
theorem ZJN:Bl zeroU none:=Xg ⟨rfl,rfl⟩
theorem ZGq{l:LB}(h:(ZbN l).2=0):Sl (ZbN l).1:=ZgM l (Xg rfl) h
theorem ZBS(l:LB):ZNx (ZbN l) (parseR l none):=ZCT l ZJN
theorem ZJO(s:LB):ZAV s=(Zc s&&s != ZE):=by
 by_cases h1:s=[104,116,116,112]
 .subst h1;rfl
 by_cases h2:s=[104,116,116,112,115]
 .subst h2;rfl
 by_cases h3:s=[119,115]
 .subst h3;rfl
 by_cases h4:s=[119,115,115]
 .subst h4;rfl
 by_cases h5:s=[102,116,112]
 .subst h5;rfl
 have e1:ZAV s=false:=by unfold ZAV;simp[h1,h2,h3,h4,h5]
 have e2:Zc s=(s==ZE):=by
  unfold Zc ZC
  rw[ifN (by rintro(g|g);exact h1 g;exact h3 g),ifN (by rintro(g|g);exact h2 g;exact h4 g),ifN h5]
  rfl
 rw[e1,e2,bne]
 cases s==ZE<;>rfl
theorem ZEa{u:U}(h:Wk u):Zz3 (toR u)=ZAs u:=by
 unfold Zz3 ZAs;rw[ZC4 h,ZJO];have e:(toR u).sch=u.sch:=rfl;rw[e,special_eq]
 by_cases hp:Zc u.sch=true/\u.sch≠Zzu
 .have hp2:(Zc u.sch&&u.sch != ZE)=true:=by rw[Xi,bne_iff_ne];exact hp
  rw[ifP hp,ifP hp2];unfold ZB8 Zzy;rw[ZCm h.port]
  rfl
 .have hp2:¬(Zc u.sch&&u.sch != ZE)=true:=by rw[Xi,bne_iff_ne];exact hp
  rw[ifN hp,ifN hp2]
  by_cases hb:u.sch=ZIi
  .have hb':u.sch=[98,108,111,98]:=hb
   rw[ifP hb,ifP hb'];unfold ZDr ZAU;obtain⟨s1,s2⟩:=ZBS (ZaL u)
   by_cases h0:(ZbN (ZaL u)).2=0
   .have s3:=s2 h0
    rw[<-s1,s3]
    have n0:¬((ZbN (ZaL u)).2≠0):=fun g=>g h0
    rw[ifN n0];have e2:(toR (ZbN (ZaL u)).1).sch=(ZbN (ZaL u)).1.sch:=rfl;rw[e2]
    by_cases hc:(ZbN (ZaL u)).1.sch=ZMF∨(ZbN (ZaL u)).1.sch=ZJJ
    .rw[ifP ⟨h0,hc⟩,ifN (by
      rintro⟨g1,g2⟩;rcases hc with hc|hc
      .exact g1 hc
      .exact g2 hc)]
     unfold ZB8 Zzy
     rw[ZCm (fun g=>((ZGq h0).sd.port g).1)]
     rfl
    .rw[ifN (fun g=>hc g.2),ifP ⟨fun g=>hc (Xg g),fun g=>hc (Xj g)⟩]
     rfl
   .rw[ifP h0,ifN (fun g=>h0 (s1.trans g.1))]
    rfl
  .have hb':¬u.sch=[98,108,111,98]:=hb
   rw[ifN hb,ifN hb']
   rfl
theorem ZLo:∀n:Fin 128,plusB (toB (n.val:Int))=toB (ZAL (n.val:Int)):=by decide
theorem ZIl(l:LI)(hl:∀c∈l,Pt c):ZBY (Zb l)=Zb (l.map ZAL):=by
 induction l with
 | nil=>rfl
 | cons c r ih=>
  have ih':=ih (fun x hx=>hl x (Xb _ hx))
  unfold ZBY at ih' ⊢;rw[bytesOf_cons,List.map_append,ih',Xm,bytesOf_cons]
  congr 1
  rcases Zzz (hl c (Xd ..))with⟨a,b,e⟩|⟨a,b,e⟩
  .have hp:0<=ZAL c/\ZAL c<128:=by unfold ZAL;split<;>omega
   rw[e,Zpj hp.2]
   have:=ZLo ⟨c.toNat,by omega⟩
   have hc:((⟨c.toNat,by omega⟩:Fin 128).val:Int)=c:=by simp;omega
   rw[hc]at this
   show [plusB (toB c)]=[toB (ZAL c)]
   rw[this]
  .have hp:ZAL c=c:=by unfold ZAL;rw[ifN (by omega)]
   rw[hp]
   have hid:∀b∈(utf c).map toB,plusB b=b:=fun b hb=>by
    have:=e b hb;unfold plusB
    rw[ifN (by omega)]
   rw[List.map_congr_left hid,List.map_id']
theorem ZEb(l:LI)(hl:∀c∈l,Pt c):ZDs l=ZAA (Zb l):=by unfold ZDs ZAA;rw[ZaD,bdecode_decoded,ZIl l hl]
theorem ZJP(l:LI)(hl:∀c∈l,Pt c):ZGp l=ZAb (Zb l):=by
 unfold ZGp ZAb
 rw[Zab (Zei 61 (by decide) (by decide) 61 rfl) l hl]
 rw[ZEb _ (fun c hc=>hl c (Zy (Xg hc))),ZEb _ (fun c hc=>hl c (Zy (Xj hc)))]
theorem ZLp:∀(ps:List LI),(∀p∈ps,∀c∈p,Pt c)->(ps.filter fun a=>!a.isEmpty).map ZGp=((ps.map Zb).filter fun p=>!p.isEmpty).map ZAb:=by
 intro ps
 induction ps with
 | nil=>intro _;rfl
 | cons p r ih=>
  intro hpp;have hp:=hpp p (Xd ..)
  have ih':=ih (fun q hq=>hpp q (Xb _ hq))
  rw[Xm,XS,XS]
  have he:(Zb p).isEmpty=p.isEmpty:=by
   cases p with
   | nil=>rfl
   | cons c t=>
    have:Zb (c::t)≠[]:=fun e=>by have:=(Zzt hp).1 e;cases this
    cases hx:Zb (c::t)with
    | nil=>exact absurd hx this
    | cons _ _=>rfl
  rw[he]
  cases p.isEmpty
  .simp only[Bool.not_false,if_true,Xm]
   rw[ih',ZJP p hp]
  .simp only[Bool.not_true,Xc,if_false]
   exact ih'
theorem ZIm{q:LB}(hq:Pr q):ZCV q=Zzs q:=by
 unfold ZCV Zzs ZBq ZCl
 have hpt:∀c∈Zl q,Pt c:=fun c hc=>(Za0 q c hc).pt
 have hb:=ZaD q
 rw[ZBm (fun b hb=>by have:=hq b hb;omega)]at hb
 have hs:=Za2 (n:=38) (t:=38) (by decide) (by decide) rfl (Zl q) hpt
 rw[hb]at hs;rw[hs]
 exact ZLp _ (fun p hp c hc=>hpt c (((ZzS (Zl q) [38]).2 p hp).2 c hc))
theorem ZJQ{u:U}(h:Wk u):ZEL (toR u)=Zzs u.q:=by
 unfold ZEL;have e:(toR u).hq=u.hq:=rfl;rw[e]
 cases hq:u.hq
 .rw[ifN (by decide),h.nq hq];rfl
 .rw[ifP rfl];exact ZIm h.pq
theorem ZGr(base:LB)(based:Bool):(ZcO base based).2=(ZA9 base based).2/\((ZcO base based).2=0->Bl (ZcO base based).1 (ZA9 base based).1):=by
 unfold ZcO ZA9
 cases based
 .exact⟨rfl,fun _=>ZJN⟩
 .simp only[Xt,if_false]
  obtain⟨s1,s2⟩:=ZBS base;rw[<-s1]
  by_cases h2:(ZbN base).2=2
  .rw[ifP h2,ifP h2]
   exact⟨rfl,fun g=>by cases g⟩
  .rw[ifN h2,ifN h2]
   by_cases h0:(ZbN base).2=0
   .rw[ifN (fun g=>g h0)]
    exact⟨h0,fun _=>Xj ⟨by rw[s2 h0],(ZGq h0)⟩⟩
   .have h0':(ZbN base).2≠0:=h0
    rw[ifP h0']
    exact⟨rfl,fun g=>absurd g h0⟩
theorem ZLq(l base:LB)(based:Bool):ZNx (ZcN l base based) (ZDL l base based):=by
 unfold ZcN ZDL
 by_cases hl:160<l.length∨(based=true/\160<base.length)
 .rw[ifP hl,ifP hl]
  exact⟨rfl,fun g=>by cases g⟩
 .rw[ifN hl,ifN hl]
  obtain⟨g1,g2⟩:=ZGr base based;rw[<-g1]
  by_cases h0:(ZcO base based).2=0
  .rw[ifN (fun g=>g h0),ifN (fun g=>g h0)]
   exact ZCT l (g2 h0)
  .have h0':(ZcO base based).2≠0:=h0
   rw[ifP h0',ifP h0']
   exact⟨rfl,fun g=>absurd g h0⟩
theorem ZAB(l:LB):clean l=Zb (Zl l):=(ZaD l).symm
theorem ZIn{u:U}(h:u.op=false->u.opath=[]):ZDv (toR u)=toR (ZAj u):=by
 unfold ZDv ZAj;have e:(toR u).op=u.op/\(toR u).hq=u.hq/\(toR u).hf=u.hf:=⟨rfl,rfl,rfl⟩;rw[e.1,e.2.1,e.2.2]
 cases hq:u.hq
 .cases hf:u.hf
  .rw[ifN (show ¬(false=true∨false=true)by decide)]
   cases ho:u.op
   .rw[ifN (by rintro⟨g,-⟩;cases g),h ho]
    have:ZAi []=[]:=rfl;unfold toR
    simp[this,h ho,ho,hq,hf]
   .rw[ifP ⟨rfl,rfl,rfl⟩]
    rfl
  .rw[ifN (by rintro⟨-,-,g⟩;cases g),ifP (Xj rfl)]
 .rw[ifN (by rintro⟨-,g,-⟩;cases g),ifP (Xg rfl)]
def pl(ps:List (List UInt8)):Nat:=(Zc9 ps).length
theorem ZHA(a b:List LB):pl (a++b)=pl a+pl b:=by simp[pl,Zc9]
theorem ZJR(s:LB):pl [s]=1+s.length:=by simp[pl,Zc9];omega
theorem ZJS(ps:List LB)(n:Nat):pl (ps.take n)<=pl ps:=by
 conv=>rhs;rw[<-XB n ps]
 rw[ZHA];omega
theorem ZHB(f:Bool)(ps:List LB):pl (ZaK f ps)<=pl ps:=by
 unfold ZaK
 split
 .exact Xk _
 .exact ZJS _ _
theorem ZNy(set l:LB):(encB set (clean l)).length<=9*l.length:=by
 have h1:=Zkp set (clean l);have h2:=ZaJ l
 omega
theorem ZMG(f:Bool)(ps:List LB)(s:LB):pl (joinL f ps s)<=pl ps+(2+9*s.length):=by
 unfold joinL;rw[ZHA,ZJR]
 split
 .rw[Xq,List.length_take];simp;omega
 .have:=ZNy (tl (Zbo 4)) s;omega
theorem ZNh(f:Bool)(ps:List LB)(s:LB)(last:Bool):pl (Zec f ps s last)<=pl ps+(2+9*s.length):=by
 have h2:pl (if countDots s=2 then ZaK f ps else ps)<=pl ps:=by
  split
  .exact ZHB _ _
  .exact Xk _
 unfold Zec
 split
 .exact ZMG _ _ _
 split
 .rw[ZHA,ZJR];simp only[Xr];omega
 .omega
def cost(ss:List (List UInt8)):Nat:=(ss.map fun s=>2+9*s.length).sum
theorem ZMH(f:Bool)(ss:List LB):∀ps,pl (Zdt f ps ss)<=pl ps+cost ss:=by
 induction ss with
 | nil=>intro ps;exact Nat.le_add_right _ _
 | cons x r ih=>
  intro ps
  cases r with
  | nil=>have:=ZNh f ps x true;simp only[Zdt,cost,List.map,XC,List.sum_nil];omega
  | cons y q=>
   have h1:=ih (Zec f ps x false);have h2:=ZNh f ps x false;rw[Zdt];simp only[cost,List.map,XC]at h1 ⊢
   omega
theorem ZIo(p:UInt8->Bool)(l:LB):cost (Zcu p l)<=9*l.length+2:=by
 induction l with
 | nil=>rw[Zcu];simp[cost]
 | cons c r ih=>
  rw[Zcu]
  split
  .simp only[cost,List.map,XC,Xr,Xh]at ih ⊢
   omega
  .obtain⟨x,q,hx⟩:=Zga p r
   rw[hx]at ih ⊢;simp only[cost,List.map,XC,Xh]at ih ⊢
   omega
theorem ZDx(f sp:Bool)(ps:List LB)(t:LB):pl (Za3 f sp ps t)<=pl ps+9*t.length+2:=by
 have h1:=ZMH f (Zcu (slB sp) t) ps;have h2:=ZIo (slB sp) t;unfold Za3
 omega
theorem ZBH(t sch:LB):pl (Zcb t sch)<=9*t.length+2:=by
 have h:=ZDx (sch==ZE) (Zc sch) [] t;have h0:pl []=0:=rfl;unfold Zcb
 omega
theorem ZJT(b:List LB)(t sch:LB):pl (Zc8 b t sch)<=pl b+9*t.length+2:=by
 have h:=ZDx (sch==ZE) (Zc sch) (ZaK (sch==ZE) b) t;have h0:=ZHB (sch==ZE) b;unfold Zc8
 omega
theorem ZLs(b:List LB)(t:LB):pl (ZaR b t)<=pl b+9*t.length+2:=by
 unfold ZaR
 split
 .have:=ZBH t ZE;omega
 .have:=ZDx true true (b.take 1) t
  have:=ZJS b 1
  omega
structure Pm (u:U) (a:Nat):Prop where
 o:u.opath.length<=a
 s:pl u.segs<=a
theorem Pm.path{u:U}{a:Nat}(h:Pm u a):(ZaL u).length<=a:=by
 unfold ZaL
 split
 .exact h.o
 .exact h.s
theorem Pm.le{u:U}{a b:Nat}(h:Pm u a)(hab:a<=b):Pm u b:=⟨Xf h.o hab,Xf h.s hab⟩
theorem ZAk(a:Nat):Pm zeroU a:=⟨Xl _,Xl _⟩
theorem ZHC(sch q:LB)(b:Bool):Pm (Zcw sch b q) 0:=⟨Xl _,Xl _⟩
theorem ZFx{u base:U}{B:Nat}(l:LB)(h:Pm u 0)(hb:Pm base B):Pm (Zak u l base) (B+9*l.length+2):=by
 have h1:=h.o;have h2:=hb.s;unfold Zak
 split
 .exact⟨by show u.opath.length<=_;omega,by show pl base.segs<=_;omega⟩
 .exact⟨by show u.opath.length<=_;omega,by show pl (Zc8 base.segs l u.sch)<=_;have:=ZJT base.segs l u.sch;omega⟩
theorem ZJU{u:U}{a:Nat}(h:Pm u 0)(s:List LB)(hs:pl s<=a):Pm { u with segs:=s } a:=⟨Xf h.o (Xl _),hs⟩
theorem ZAG(l:LB)(n:Nat):(l.drop n).length<=l.length:=by rw[Xv];omega
theorem ZGu{u:U}(t:LB)(h:Pm u 0):Pm (Zao u t).1 (9*t.length+2):=by
 have hc:=(Z9 (slB true) t).1;unfold Zao
 split
 .exact ZJU h _ (ZBH _ _)
 split
 .exact ZAk _
 .exact⟨Xf h.o (Xl _),by show pl (Zcb _ _)<=_;have:=ZBH (bcut (slB true) t).2.1 u.sch;omega⟩
theorem ZJV{u base:U}{B:Nat}(l:LB)(h:Pm u 0)(hb:Pm base B):Pm (ZdU u l base).1 (B+9*l.length+2):=by
 have h0:=h.o;have hs:=hb.s;unfold ZdU
 split
 .have:=ZAG l 2
  exact(ZGu (u:={ u with hh:=true }) (l.drop 2) ⟨h.o,h.s⟩).le (by omega)
 split
 .exact⟨by show u.opath.length<=_;omega,by show pl (Zcb _ _)<=_;have:=ZBH (l.drop (countSl true l)) u.sch;have:=ZAG l (countSl true l);omega⟩
 split
 .exact⟨by show u.opath.length<=_;omega,by show pl (ZaR _ _)<=_;have:=ZLs base.segs (l.drop 1);have:=ZAG l 1;omega⟩
 split
 .exact⟨by show u.opath.length<=_;omega,by show pl (Zcb _ _)<=_;have:=ZBH l u.sch;omega⟩
 .exact ZFx (u:={ u with hh:=true,host:=base.host }) l ⟨h.o,h.s⟩ hb
theorem ZMI{u:U}(p:LB)(h:Pm u 0):Pm (ZgJ u p).1 0:=by
 unfold ZgJ
 split
 .exact ZAk _
 show Pm (Zby u _) 0
 unfold Zby
 split
 .exact⟨h.o,h.s⟩
 .exact⟨h.o,h.s⟩
theorem ZLt{u:U}(p:LB)(h:Pm u 0):Pm (Zbx u p).1 0:=by
 unfold Zbx
 split
 .exact ZAk _
 split
 .exact ZAk _
 split
 .exact⟨h.o,h.s⟩
 .exact ZMI _ ⟨h.o,h.s⟩
theorem ZBI{u:U}(t:LB)(h:Pm u 0):Pm (Zx u t).1 (9*t.length+2):=by
 have hc:=(Z9 (slB (Zc u.sch)) t).1;unfold Zx
 split
 .exact ZAk _
 .unfold ZdJ
  split
  .exact ZAk _
  have hp:=ZLt (u:={ u with nam:=ZfY (bcut (isB 58) (bcutLast 64 (bcut (slB (Zc u.sch)) t).1).1).1,pw:=ZfY (bcut (isB 58) (bcutLast 64 (bcut (slB (Zc u.sch)) t).1).1).2.1 }) (bcutLast 64 (bcut (slB (Zc u.sch)) t).1).2.1 ⟨h.o,h.s⟩
  split
  .exact ZJU hp _ (by have:=ZBH (bcut (slB (Zc u.sch)) t).2.1 u.sch;omega)
  .exact hp.le (Xl _)
theorem ZEd{u base:U}{B:Nat}(l:LB)(h:Pm u 0)(hb:Pm base B):Pm (ZV u l base).1 (B+9*l.length+2):=by
 have h0:=h.o;unfold ZV
 split
 .exact ZJV l h hb
 split
 .exact(ZBI _ h).le (by have:=ZAG l (if Zc u.sch=true then countSl (Zc u.sch) l else 2);omega)
 split
 .exact⟨by show u.opath.length<=_;omega,by show pl (Zcb _ _)<=_;have:=ZBH (l.drop 1) u.sch;have:=ZAG l 1;omega⟩
 .exact ZFx (u:=kept u base) l ⟨h.o,h.s⟩ hb
theorem ZIp{u base:U}{B:Nat}(l:LB)(h:Pm u 0)(hb:Pm base B):Pm (Za5 u l base).1 (B+9*l.length+2):=by
 unfold Za5
 split
 .exact ZEd l h hb
 .exact(ZBI _ h).le (by have:=ZAG l (countSl true l);omega)
theorem ZIq{u base:U}{B:Nat}(l:LB)(h:Pm u 0)(hb:Pm base B):Pm (Zar u l base).1 (B+9*l.length+2):=by
 have h0:=h.o;have h1:=h.s;unfold Zar
 split
 .exact ZJV l h hb
 split
 .exact ZIp l h hb
 split
 .exact⟨by show(encB _ (clean l)).length<=_;have:=ZNy (tl (Zbo 0)) l;omega,by show pl u.segs<=_;omega⟩
 split
 .exact⟨by show u.opath.length<=_;omega,by show pl (Zcb _ _)<=_;have:=ZBH (l.drop 1) u.sch;have:=ZAG l 1;omega⟩
 .exact(ZBI _ h).le (by have:=ZAG l 2;omega)
theorem ZJW(sch rest:LB)(f:Bool){base:U}{B:Nat}(hb:Pm base B):Pm (ZdK sch rest f base).1 (B+9*rest.length+2):=by
 have hc:=(Z9 (isB 63) rest).1;unfold ZdK
 split
 .exact ZAk _
 split
 .exact(ZIq _ (ZHC _ _ _) hb).le (by omega)
 .exact(ZEd _ (ZHC _ _ _) hb).le (by omega)
theorem ZLu(l:LB)(hf:Bool){base:U}{B:Nat}(hb:Pm base B):Pm (Zcd l hf base).1 (B+9*l.length+2):=by
 have hc:=(ZgK l).2;unfold Zcd
 split
 .exact(ZJW _ _ _ hb).le (by omega)
 split
 .unfold ZcK
  split
  .exact hb.le (by omega)
  .exact ZAk _
 .exact(ZJW _ _ _ hb).le (by omega)
theorem ZLv(l:LB):(Zgb l).length<=l.length:=by
 unfold Zgb;rw[Xs]
 refine Xf (List.IsSuffix.length_le (XN _)) ?_
 rw[Xs];exact List.IsSuffix.length_le (XN _)
theorem ZCW(l:LB):(ZI l).length<=3*l.length:=by
 have h1:=ZeK (Zgb (clean l));have h2:=ZLv (clean l);have h3:=ZaJ l;unfold ZI
 omega
theorem ZCD(l:LB){base:U}{B:Nat}(hb:Pm base B):Pm (Zaa l base).1 (B+27*l.length+2):=by
 have h1:=(Z9 (isB 35) (ZI l)).1;have h2:=ZCW l;unfold Zaa ZgL
 split
 .exact ZAk _
 .have h:=ZLu (bcut (isB 35) (ZI l)).1 (bcut (isB 35) (ZI l)).2.2 hb
  have ho:=h.o;have hs:=h.s
  exact⟨Xf ho (by omega),Xf hs (by omega)⟩
theorem ZLw(l base:LB)(b:Bool):(ZaL (ZcN l base b).1).length<=8644:=by
 have hz:(ZaL zeroU).length<=8644:=(ZAk 8644).path;unfold ZcN
 split
 .exact hz
 next hl=>
  split
  .exact hz
  .refine Pm.path ?_
   have h1:l.length<=160:=XU fun h=>hl (Xg h)
   have hbase:Pm (ZcO base b).1 4322:=by
    unfold ZcO
    split
    .exact ZAk _
    next hb=>
     split
     .exact ZAk _
     .have h2:base.length<=160:=XU fun h=>hl (Xj ⟨by cases b;exact absurd rfl hb;rfl,h⟩)
      exact(ZCD base (ZAk 0)).le (by omega)
   exact(ZCD l hbase).le (by omega)
def amp(l:List UInt8):Nat:=l.countP (isB 38)
theorem ZNi{a b:LB}(h:a.Sublist b):amp a<=amp b:=h.countP_le
theorem amp_app(a b:LB):amp (a++b)=amp a+amp b:=List.countP_append
theorem ZFy(l:LB):amp (clean l)<=amp l:=by
 generalize hn:l.length=n
 induction n using Nat.strongRecOn generalizing l with
 | ind n ih=>
  cases l with
  | nil=>rw[ZbC];exact Xk _
  | cons c r=>
   obtain⟨h1,h2⟩:=Ze8 (l:=c::r) (by simp)
   rw[ZcV (c::r) (by simp)]
   have h3:=ih ((c::r).drop (measure (c::r)).1).length (by rw[Xv];omega) _ rfl
   have h4:=amp_app ((c::r).take (measure (c::r)).1) ((c::r).drop (measure (c::r)).1);rw[XB]at h4;rw[amp_app]
   split
   .omega
   .rw[show amp [239,191,189]=0 by decide];omega
theorem ZDy:∀k:Fin 16,isB 38 (toB (capital (k.val:Int)))=false:=by decide +kernel
theorem ZMJ(set l:LB):amp (encB set l)<=amp l:=by
 induction l with
 | nil=>exact Xk _
 | cons b r ih=>
  rw[show encB set (b::r)=ZL set b++encB set r from rfl,amp_app,show b::r=[b]++r from rfl,amp_app]
  have h:amp (ZL set b)<=amp [b]:=by
   unfold ZL
   split
   .have hb:=b.toNat_lt
    have e1:=ZDy ⟨b.toNat/16,by omega⟩
    have e2:=ZDy ⟨b.toNat%16,by omega⟩
    simp only[Int.natCast_ediv,Int.natCast_emod]at e1 e2
    have e3:isB 38 37=false:=by decide
    unfold amp
    rw[Xx (by rw[e3];decide),Xx (by first|(rw[e1];decide)|(rw[show((b.toNat:Int)/16)=(b.toNat:Int)/((16:Nat):Int)from rfl,e1];decide)),Xx (by first|(rw[e2];decide)|(rw[show((b.toNat:Int)%16)=(b.toNat:Int)%((16:Nat):Int)from rfl,e2];decide))]
    exact Xl _
   .exact Xk _
  omega
theorem ZC5(p:UInt8->Bool)(l:LB):amp (bcut p l).1<=amp l/\amp (bcut p l).2.1<=amp l:=by
 induction l with
 | nil=>exact⟨Xk _,Xk _⟩
 | cons c r ih=>
  have e:=amp_app [c] r;rw[show [c]++r=c::r from rfl]at e;unfold bcut
  split
  .exact⟨Xl _,by show amp r<=_;omega⟩
  .have e2:=amp_app [c] (bcut p r).1
   rw[show [c]++(bcut p r).1=c::(bcut p r).1 from rfl]at e2
   exact⟨by show amp (c::(bcut p r).1)<=_;omega,by show amp (bcut p r).2.1<=_;omega⟩
theorem ZJX(l:LB):amp (ZI l)<=l.length:=by
 have h1:amp (ZI l)<=amp (clean l):=by
  unfold ZI ZbM Zgb
  refine ZNi (List.filter_sublist.trans ?_)
  refine List.Sublist.trans (List.reverse_sublist.2 (Xy _)) ?_
  rw[List.reverse_reverse];exact Xy _
 have h2:=ZFy l;have h3:amp l<=l.length:=List.countP_le_length
 omega
theorem ZMK(l:LB):amp (ZbF l).2.1<=amp l:=by
 unfold ZbF
 split
 .exact(ZC5 _ l).2
 .exact Xk _
structure Hm (u:U) (a:Nat×Nat):Prop where
 host:u.host.length<=300000
 q:u.q.length<=a.1/\amp u.q<=a.2
theorem ZAl(a:Nat×Nat):Hm zeroU a:=⟨Xl _,Xl _,Xl _⟩
theorem ZHD(sch q:LB)(b:Bool){a:Nat×Nat}(h:9*q.length<=a.1/\amp q<=a.2):Hm (Zcw sch b q) a:=⟨Xl _,Xf (ZNy _ _) h.1,Xf (ZMJ _ _) (Xf (ZFy _) h.2)⟩
theorem ZFz{u base:U}{a:Nat×Nat}(l:LB)(h:Hm u a)(hb:Hm base a):Hm (Zak u l base) a:=by
 unfold Zak
 split
 .refine⟨h.host,?_⟩
  show(if u.hq=true then u.q else base.q).length<=a.1/\amp (if u.hq=true then u.q else base.q)<=a.2
  split
  .exact h.q
  .exact hb.q
 .exact⟨h.host,h.q⟩
theorem ZGv{u:U}{a:Nat×Nat}(t:LB)(ht:t.length<=30000)(h:Hm u a):Hm (Zao u t).1 a:=by
 have hc:=(Z9 (slB true) t).1;unfold Zao
 split
 .exact⟨h.host,h.q⟩
 split
 .exact ZAl _
 .exact⟨Zgd (by omega),h.q⟩
theorem ZJY{u base:U}{a:Nat×Nat}(l:LB)(hl:l.length<=30000)(h:Hm u a)(hb:Hm base a):Hm (ZdU u l base).1 a:=by
 unfold ZdU
 split
 .have:=ZAG l 2
  exact ZGv (u:={ u with hh:=true }) (l.drop 2) (by omega) ⟨h.host,h.q⟩
 split
 .exact⟨h.host,h.q⟩
 split
 .exact⟨hb.host,h.q⟩
 split
 .exact⟨hb.host,h.q⟩
 .exact ZFz (u:={ u with hh:=true,host:=base.host }) l ⟨hb.host,h.q⟩ hb
theorem ZML{u:U}{a:Nat×Nat}(p:LB)(h:Hm u a):Hm (ZgJ u p).1 a:=by
 unfold ZgJ
 split
 .exact ZAl _
 show Hm (Zby u _) a
 unfold Zby
 split
 .exact⟨h.host,h.q⟩
 .exact⟨h.host,h.q⟩
theorem ZLx{u:U}{a:Nat×Nat}(p:LB)(hp:p.length<=30000)(h:Hm u a):Hm (Zbx u p).1 a:=by
 have hc:=Zif p;unfold Zbx
 split
 .exact ZAl _
 split
 .exact ZAl _
 have h2:Hm { u with hh:=true,host:=(ZaP (Zw p).1 (Zc u.sch)).1 } a:=⟨Zid (by omega),h.q⟩
 split
 .exact h2
 .exact ZML _ h2
theorem ZBJ{u:U}{a:Nat×Nat}(t:LB)(ht:t.length<=30000)(h:Hm u a):Hm (Zx u t).1 a:=by
 have hc:=(Z9 (slB (Zc u.sch)) t).1;have hl:=Zho 64 (bcut (slB (Zc u.sch)) t).1;unfold Zx
 split
 .exact ZAl _
 unfold ZdJ
 have h2:=ZLx (u:={ u with nam:=ZfY (bcut (isB 58) (bcutLast 64 (bcut (slB (Zc u.sch)) t).1).1).1,pw:=ZfY (bcut (isB 58) (bcutLast 64 (bcut (slB (Zc u.sch)) t).1).1).2.1 }) (a:=a) (bcutLast 64 (bcut (slB (Zc u.sch)) t).1).2.1 (by omega) ⟨h.host,h.q⟩
 split
 .exact ZAl _
 split
 .exact⟨h2.host,h2.q⟩
 .exact h2
theorem ZEe{u base:U}{a:Nat×Nat}(l:LB)(hl:l.length<=30000)(h:Hm u a)(hb:Hm base a):Hm (ZV u l base).1 a:=by
 unfold ZV
 split
 .exact ZJY l hl h hb
 split
 .have:=ZAG l (if Zc u.sch=true then countSl (Zc u.sch) l else 2)
  exact ZBJ _ (by omega) h
 split
 .exact⟨hb.host,h.q⟩
 .exact ZFz l (u:=kept u base) ⟨hb.host,h.q⟩ hb
theorem ZIr{u base:U}{a:Nat×Nat}(l:LB)(hl:l.length<=30000)(h:Hm u a)(hb:Hm base a):Hm (Zar u l base).1 a:=by
 unfold Zar
 split
 .exact ZJY l hl h hb
 split
 .unfold Za5
  split
  .exact ZEe l hl h hb
  .have:=ZAG l (countSl true l)
   exact ZBJ _ (by omega) h
 split
 .exact⟨h.host,h.q⟩
 split
 .exact⟨h.host,h.q⟩
 .have:=ZAG l 2
  exact ZBJ _ (by omega) h
theorem ZMM(sch rest:LB)(f:Bool){base:U}{a:Nat×Nat}(hr:rest.length<=30000)(ha:9*rest.length<=a.1/\amp rest<=a.2)(hb:Hm base a):Hm (ZdK sch rest f base).1 a:=by
 have hc:=(Z9 (isB 63) rest).1;have hc2:=(Z9 (isB 63) rest).2;unfold ZdK
 split
 .exact ZAl _
 split
 .exact ZIr _ (by omega) (ZHD _ _ _ ⟨by omega,Xf (ZC5 _ _).2 ha.2⟩) hb
 .exact ZEe _ (by omega) (ZHD _ _ _ ⟨by omega,Xf (ZC5 _ _).2 ha.2⟩) hb
theorem ZLy(l:LB)(hf:Bool){base:U}{a:Nat×Nat}(hl:l.length<=30000)(ha:9*l.length<=a.1/\amp l<=a.2)(hb:Hm base a):Hm (Zcd l hf base).1 a:=by
 have hc:=(ZgK l).2;unfold Zcd
 split
 rotate_left
 focus
  split
  .unfold ZcK
   split
   .exact hb
   .exact ZAl _
 all_goals
  exact ZMM _ _ _ (by omega) ⟨by omega,Xf (ZMK _) ha.2⟩ hb
theorem ZEf(l:LB){base:U}{a:Nat×Nat}(hl:l.length<=10000)(ha:27*l.length<=a.1/\l.length<=a.2)(hb:Hm base a):Hm (Zaa l base).1 a:=by
 have h1:=ZCW l;have h2:=(Z9 (isB 35) (ZI l)).1;unfold Zaa ZgL
 have h3:=ZLy (bcut (isB 35) (ZI l)).1 (bcut (isB 35) (ZI l)).2.2 (a:=a) (by omega) ⟨by omega,Xf (ZC5 _ _).1 (Xf (ZJX l) ha.2)⟩ hb
 split
 .exact ZAl _
 .exact⟨h3.host,h3.q⟩
theorem ZJZ(l:LB)(hl:l.length<=10000):Hm (ZbN l).1 (27*l.length,l.length):=ZEf l hl ⟨Xk _,Xk _⟩ (ZAl _)
theorem ZEN(l base:LB)(b:Bool):Hm (ZcN l base b).1 (4320,160):=by
 unfold ZcN
 split
 .exact ZAl _
 .next h0=>
  split
  .exact ZAl _
  .refine ZEf l (by omega) ⟨by show 27*l.length<=4320;omega,by show l.length<=160;omega⟩ ?_
   unfold ZcO
   split
   .exact ZAl _
   .next h1=>
    have hb:base.length<=160:=by
     cases b
     .exact absurd rfl h1
     .rcases XY 160 base.length with g|g
      .exact absurd (Xj ⟨rfl,g⟩) h0
      .exact g
    split
    .exact ZAl _
    .have h2:=ZJZ base (by omega)
     exact⟨h2.host,Xf h2.q.1 (by show 27*base.length<=4320;omega),Xf h2.q.2 (by show base.length<=160;omega)⟩
theorem ZIs(l:LB):(ZAi l).length<=l.length:=by
 unfold ZAi;rw[Xs]
 exact Xf (Xy _).length_le (by rw[Xs];exact Xk _)
theorem ZJ0{u:U}(h:Wk u):Wk (ZAj u):=by
 unfold ZAj
 split
 .exact h
 .refine⟨h.port,h.opq,fun g=>?_,h.nq,h.pq,h.sp,?_,h.lq⟩
  .show ZAi u.opath=[]
   rw[h.zop g]
   rfl
  .have hp:=h.path
   unfold ZaL at hp ⊢;simp only
   split
   .next ho=>
    rw[ifP ho]at hp;have:=ZIs u.opath
    omega
   .next ho=>
    rw[ifN ho]at hp;exact hp
end Go.Proofs.YtchkhibgbnhjpabGreatDoor
