import Derived.Test.YtchkhibgbnhjpabGreatDoorR22
import Derived.Test.YtchkhibgbnhjpabGreatDoorR25
open Bool renaming false_eq_true→Xe,and_eq_true→Xj,true_eq_false→Xp
open Int renaming le_refl→XD,lt_or_le→XI,mul_comm→XJ
open List renaming mem_cons_self→Xa,mem_cons_of_mem→Xb,length_cons→Xc,eq_nil_of_length_eq_zero→Xd,length_map→Xf,foldl_cons→Xg,map_cons→Xh,length_append→Xi,getD_eq_getElem?_getD→Xk,drop_eq_getElem_cons→Xl,length_nil→Xm,length_replicate→Xn,mem_of_mem_take→Xo,any_eq_true→Xq,cons_append→Xr,mem_cons→Xs,all_cons→Xt,any_map→Xu,map_nil→Xv,drop_of_length_le→Xw,singleton_append→Xx,eq_nil_or_concat→Xz,concat_eq_append→XA,mem_of_mem_drop→XB,take_succ_cons→XC,append_assoc→XE,nil_append→XF,drop_zero→XG,map_take→XH
namespace Go.Proofs.YtchkhibgbnhjpabGreatDoor
open Go.RowKit
def tb(p:List Int):List UInt8:=lower (Zb p)
theorem ZpO(p:LI):Zn3 (ZH (tb p)) (valueOf p):=Zla _ (Ztp _)
theorem Zq5(n:Nat)(hn:n≤4):∀(ps:List LI) (i:Nat) (s:Int),i+ps.length=n→ip4Go (ps.map tb) (256^(4-i)) s=fourGo n i s ps:=by
 intro ps
 induction ps with
 | nil=>intro i s h;rfl
 | cons p r ih=>
  intro i s h;rw[Xc]at h;rw[Xh,ip4Go,fourGo];have hv:=ZpO p;have hih:=ih (i+1);generalize ZH (tb p)=x at *;generalize valueOf p=y at *
  have hr:(r.map tb≠[])↔r≠[]:=by cases r<;>simp
  have hr2:(i+1=n)↔r=[]:=by
   cases r with
   | nil=>simp at h ⊢;omega
   | cons a b=>simp at h ⊢;omega
  rcases hv with⟨h1,h2⟩|⟨h1,h2,h3,h4⟩
  ·rw[if_pos h1,if_pos (Or.inl h2)]
  ·rw[if_neg (by rw[h1];decide)]
   by_cases hr0:r=[]
   ·subst hr0
    have hi:i+1=n:=hr2.2 rfl;rw[if_pos hi]
    have hpow:(256:Int)^(4-i)≤4294967296:=by
     have:i=0∨i=1∨i=2∨i=3:=by omega
     rcases this with rfl|rfl|rfl|rfl<;>decide
    by_cases hb:(256:Int)^(4-i)≤x.1
    ·rw[if_pos (Or.inl hb),if_pos (Or.inr (by rcases h4 with⟨a,b⟩|⟨a,b⟩<;>omega))]
    ·have hx:y.1=x.1:=by rcases h4 with⟨a,b⟩|⟨a,b⟩<;>omega
     have g1:¬((256:Int)^(4-i)≤x.1∨(([]:List LI).map tb≠[]∧255<x.1)):=by
      rintro(g|⟨g,-⟩)
      ·exact hb g
      ·exact g rfl
     have g2:¬(y.2=false∨(256:Int)^(4-i)≤y.1):=by
      rintro(g|g)
      ·rw[h2]at g;cases g
      ·rw[hx]at g;exact hb g
     have g3:¬(([]:List LI).map tb≠[]):=fun g=>g rfl
     rw[if_neg g1,if_neg g2,if_neg g3,if_pos hi,hx,Int.mul_one]
     rfl
   ·have hi:¬i+1=n:=fun e=>hr0 (hr2.1 e)
    have hrn:=hr.2 hr0;rw[if_neg hi]
    have h256:(255<x.1)↔(256≤y.1):=by rcases h4 with⟨a,b⟩|⟨a,b⟩<;>omega
    have hlen:0<r.length:=by cases r with|nil=>exact absurd rfl hr0|cons _ _=>simp
    have hroom:(256:Int)≤256^(4-i)∧(256:Int)^(4-i)/256=256^(3-i)∧(3-i=4-(i+1)):=by
     have:i=0∨i=1∨i=2:=by omega
     rcases this with rfl|rfl|rfl<;>decide
    by_cases hb:256≤y.1
    ·rw[if_pos (Or.inr ⟨hrn,h256.2 hb⟩),if_pos (Or.inr hb)]
    ·have hx:y.1=x.1:=by rcases h4 with⟨a,b⟩|⟨a,b⟩<;>omega
     have g1:¬((256:Int)^(4-i)≤x.1∨(r.map tb≠[]∧255<x.1)):=by
      rintro(g|⟨-,g⟩)
      ·omega
      ·exact hb (h256.1 g)
     have g2:¬(y.2=false∨256≤y.1):=by
      rintro(g|g)
      ·rw[h2]at g;cases g
      ·exact hb g
     rw[if_neg g1,if_neg g2,if_pos hrn,if_neg hi,hroom.2.1,hx,hroom.2.2]
     exact hih _ (by omega)
theorem ZgS(ps:List LI)(h:ps≠[]):ip4 (ps.map tb)=fourOf ps:=by
 unfold ip4 fourOf;rw[Xf]
 have h0:¬ps.length=0:=fun e=>h (Xd e)
 by_cases h4:4<ps.length
 ·rw[if_pos (Or.inr h4),if_pos h4]
 ·rw[if_neg (by omega),if_neg h4]
  exact Zq5 ps.length (by omega) ps 0 0 (by omega)
theorem Zfp(n:Nat)(h:n≤99999):dec n=Zb7 n:=by
 unfold Zb7
 by_cases h1:n<10
 ·rw[if_pos h1,dec,if_neg (by omega)];rfl
 rw[if_neg h1,dec,if_pos (by omega)]
 by_cases h2:n<100
 ·rw[if_pos h2,dec,if_neg (by omega)];rfl
 rw[if_neg h2,dec,if_pos (by omega),show n/10/10=n/100 by omega]
 by_cases h3:n<1000
 ·rw[if_pos h3,dec,if_neg (by omega)];rfl
 rw[if_neg h3,dec,if_pos (by omega),show n/100/10=n/1000 by omega]
 by_cases h4:n<10000
 ·rw[if_pos h4,dec,if_neg (by omega)];rfl
 rw[if_neg h4,dec,if_pos (by omega),show n/1000/10=n/10000 by omega,dec,if_neg (by omega)]
 rfl
theorem Ztr(v:Nat)(h:v<4294967296):ZaY v=Zc5 v:=by
 rw[Zdp];unfold ZaY dots4
 rw[Zfp _ (by omega),Zfp _ (by omega),Zfp _ (by omega),Zfp _ (by omega)]
 rw[show v/256^3%256=v/16777216 by omega,show v/256^2%256=v/65536%256 by omega,show v/256^1%256=v/256%256 by omega,show v/256^0%256=v%256 by omega]
 simp
theorem Zhv:∀(n:Nat) (l:LB),l.length≤n→(∀b∈clean l,b.toNat<128)→∀b∈l,b.toNat<128:=by
 intro n
 induction n with
 | zero=>intro l h _ b hb;rw[Xd (Nat.le_zero.1 h)]at hb;cases hb
 | succ n ih=>
  intro l hn h b hb
  cases l with
  | nil=>cases hb
  | cons c r=>
   by_cases hc:c.toNat<128
   ·rw[ZhV r hc]at h
    rcases Xs.1 hb with rfl|hb
    ·exact hc
    ·exact ih r (by simp at hn;omega) (fun x hx=>h x (Xb _ hx)) b hb
   ·exfalso
    rw[ZdL _ (by simp)]at h
    cases hm:(measure (c::r)).2
    ·rw[hm]at h
     have:=h 239 (by simp)
     exact absurd this (by decide)
    ·rw[hm]at h
     have h1:1≤(measure (c::r)).1:=Zmc _ _ _ _ _
     have:=h c (by
      simp only[if_true]
      refine List.mem_append_left _ ?_
      obtain⟨m,hm⟩:∃m,(measure (c::r)).1=m+1:=⟨(measure (c::r)).1 - 1,by omega⟩
      rw[hm,XC]
      exact Xa ..)
     exact hc this
theorem Zmm{d:LI}(hd:∀c∈d,Pt c):(∀b∈Zb d,b.toNat<128)↔∀c∈d,c≤127:=by
 induction d with
 | nil=>simp[Zb]
 | cons c r ih=>
  have ih':=ih (fun x hx=>hd x (Xb _ hx))
  rw[bytesOf_cons]
  constructor
  ·intro h x hx
   rcases Xs.1 hx with rfl|hx
   ·rcases Zad (hd x (Xa ..))with⟨a,b,e⟩|⟨a,b,e⟩
    ·omega
    ·exfalso
     cases hq:(utf x).map toB with
     | nil=>exact b hq
     | cons y q=>
      have h1:=h y (by rw[hq];simp)
      have h2:=e y (by rw[hq];simp)
      omega
   ·exact ih'.1 (fun b hb=>h b (List.mem_append_right _ hb)) x hx
  ·intro h b hb
   rcases List.mem_append.1 hb with hb|hb
   ·rcases Zad (hd c (Xa ..))with⟨a,k,e⟩|⟨a,k,e⟩
    ·rw[e,List.mem_singleton]at hb
     subst hb;have:=Zbc a k
     omega
    ·have:=h c (Xa ..);omega
   ·exact ih'.2 (fun x hx=>h x (Xb _ hx)) b hb
theorem isB_low(b:UInt8):isB 46 (Zd2 b)=isB 46 b:=by256 (P:=fun b=>isB 46 (Zd2 b)=isB 46 b) (by decide +kernel) b
theorem Zmn(l:LB):bsplit 46 (lower l)=(bsplit 46 l).map lower:=by
 induction l with
 | nil=>rfl
 | cons c r ih=>
  rw[lower_cons,bsplit,bsplit,isB_low,ih]
  cases isB 46 c
  ·simp only[Xe,if_false]
   cases bsplit 46 r with
   | nil=>rfl
   | cons p q=>rfl
  ·simp only[if_true]
   rfl
theorem beyond_lower(l:LB):beyondB (lower l)=beyondB l:=by
 unfold beyondB lower;rw[Xu]
 congr 1
 funext b
 exact by256 (P:=fun b=>decide (127<((Zd2 b).toNat:Int))=decide (127<(b.toNat:Int))) (by decide +kernel) b
theorem Zym:Asc (fun b=>Zjg (Zd2 b)) ZfV where
 lo:=ZeN (p:=fun b=>Zjg (Zd2 b)) (P:=ZfV) (by decide +kernel)
 hi:=fun b=>by256 (P:=fun b=>128≤b.toNat→Zjg (Zd2 b)=false) (by decide +kernel) b
 up:=fun c hc=>by simp[ZfV,among,ZcI];omega
theorem Zxz{p:LI}(hp:∀c∈p,Pt c):tb p=[]↔p=[]:=by unfold tb;rw[Zfk,Zr hp]
theorem Zts(l:LI)(t:LB):parts l t≠[]:=by
 rw[Zf7]
 split<;>simp
theorem Zgn(ps:List LI)(h:ps≠[]):(ps.map tb).getD ((ps.map tb).length-1) []=tb (Zbp ps):=by
 unfold Zbp
 have hl:ps.length-1<ps.length:=by cases ps with|nil=>exact absurd rfl h|cons _ _=>simp
 rw[Xf,Xk,Xk,List.getElem?_map,List.getElem?_eq_getElem hl]
 rfl
theorem Zj7{ps:List LI}(h:ps≠[]):Zbp ps∈ps:=by
 have hl:ps.length-1<ps.length:=by cases ps with|nil=>exact absurd rfl h|cons _ _=>simp
 rw[Zcz hl];exact List.getElem_mem _
theorem Zv8(ps:List LI)(h:ps≠[])(hp:∀p∈ps,∀c∈p,Pt c):Zeq (ps.map tb)=(if 1<ps.length∧(Zbp ps).length=0 then ps.take (ps.length-1)else ps).map tb:=by
 unfold Zeq;rw[Zgn ps h,Xf]
 have e:(tb (Zbp ps)=[])↔(Zbp ps).length=0:=by
  rw[Zxz (hp _ (Zj7 h))]
  exact⟨fun e=>by rw[e];rfl,Xd⟩
 by_cases hc:1<ps.length∧(Zbp ps).length=0
 ·rw[if_pos hc,if_pos ⟨hc.1,e.2 hc.2⟩,XH]
 ·rw[if_neg hc,if_neg (fun g=>hc ⟨g.1,e.1 g.2⟩)]
theorem Ztt(d:LI)(qs:List LI)(h:qs≠[])(hp:∀p∈qs,∀c∈p,Pt c):Zer (lower (Zb d)) (qs.map tb)=((domTail d qs).2.1,(domTail d qs).2.2)∧(domTail d qs).1=decide ((domTail d qs).2.2=0):=by
 unfold Zer domTail
 have he:Zb3 (qs.map tb)=(ZP (Zbp qs)||(valueOf (Zbp qs)).2):=by
  unfold Zb3
  rw[if_neg (by rw[Xf];exact fun e=>h (Xd e)),Zgn qs h]
  rw[show Zn (tb (Zbp qs)) 10 4294967295=Zn (lower (Zb (Zbp qs))) 10 4294967295 from rfl,Zml _ (hp _ (Zj7 h))]
  congr 1
  rcases ZpO (Zbp qs)with⟨a,b⟩|⟨a,b,-⟩<;>rw[a,b]
 rw[he,ZgS qs h]
 by_cases hc:(valueOf (Zbp qs)).2=false∧ZP (Zbp qs)=false
 ·rw[if_pos hc,if_pos (by rw[hc.1,hc.2];rfl)]
  exact⟨rfl,rfl⟩
 ·have h1:¬(ZP (Zbp qs)||(valueOf (Zbp qs)).2)=false:=fun g=>by
   rw[Bool.or_eq_false_iff]at g;exact hc ⟨g.2,g.1⟩
  rw[if_neg hc,if_neg h1]
  by_cases h2:(fourOf qs).2=true
  ·have h3:=Zxw (ps:=qs.map tb) (by rw[ZgS qs h];exact h2)
   rw[ZgS qs h]at h3;rw[if_pos h2,if_pos h2,Ztr _ h3];exact⟨rfl,rfl⟩
  ·rw[if_neg h2,if_neg h2]
   exact⟨rfl,rfl⟩
theorem Ztu(l:LI):ZaB (Zb l)=((domainOf l).2.1,(domainOf l).2.2)∧(domainOf l).1=decide ((domainOf l).2.2=0):=by
 unfold ZaB domainOf;rw[bdecode_decoded,beyond_lower,Zmn];generalize decoded (Zb l)=D;have hsc:=Za3 D;have hbp:=ZaK D;generalize Zk D=d at *
 have hpt:∀c∈d,Pt c:=fun c hc=>(hsc c hc).pt
 unfold ZiM
 by_cases hb:beyondB D=true
 ·have hd:(d.any fun c=>decide (127<c))=true:=by
   rw[Xq]
   refine Classical.byContradiction fun hn=>?_
   have h1:∀c∈d,c≤127:=fun c hc=>by
    rcases XI 127 c with g|g
    ·exact absurd ⟨c,hc,decide_eq_true g⟩ hn
    ·exact g
   have h2:=(Zmm hpt).2 h1;rw[hbp]at h2;have h3:=Zhv D.length D (Nat.le_refl _) h2;unfold beyondB at hb;rw[Xq]at hb;obtain⟨b,hb1,hb2⟩:=hb;have:=h3 b hb1
   simp at hb2
   omega
  rw[if_pos (by rw[hb];rfl),if_pos (Or.inr hd)]
  exact⟨rfl,rfl⟩
 ·have hlo:∀b∈D,b.toNat<128:=fun b hbm=>by
   rcases Nat.lt_or_ge b.toNat 128 with g|g
   ·exact g
   ·exfalso
    refine hb ?_
    unfold beyondB;rw[Xq]
    exact⟨b,hbm,decide_eq_true (by omega)⟩
  rw[Zda hlo]at hbp;subst hbp
  have hd:(d.any fun c=>decide (127<c))=false:=by
   rw[List.any_eq_false];intro c hc;have:=(Zmm hpt).1 hlo c hc
   simp
   omega
  have hs:(bsplit 46 (Zb d)).map lower=(parts d [46]).map tb:=by
   rw[Za6 (n:=46) (t:=46) (by decide) (by decide) rfl d hpt,List.map_map]
   rfl
  have hpp:∀p∈parts d [46],∀c∈p,Pt c:=fun p hp c hc=>hpt c (((ZaQ d [46]).2 p hp).2 c hc)
  rw[hs];have hne:=Zts d [46];generalize parts d [46]=ps at *
  have hx:Zvy (ps.map tb)=ps.any ZpN:=by
   unfold Zvy;rw[Xu]
   rfl
  have hbf:beyondB (Zb d)=false:=by cases h:beyondB (Zb d)with|false=>rfl|true=>exact absurd h hb
  rw[hx,hbf,hd]
  by_cases hxn:ps.any ZpN=true
  ·rw[if_pos (by rw[hxn];rfl),if_pos (Or.inl hxn)]
   exact⟨rfl,rfl⟩
  ·have hxf:ps.any ZpN=false:=by cases h:ps.any ZpN with|false=>rfl|true=>exact absurd h hxn
   rw[hxf,if_neg (show ¬(false||false)=true by decide),if_neg (show ¬(false=true∨false=true)by decide)]
   have hpl:plainDom (lower (Zb d))=!((d.length:Int)==0||d.any ZfV):=by
    unfold plainDom
    have h1:(lower (Zb d)).any Zjg=d.any ZfV:=by
     rw[←Zym.any d hpt];unfold lower;rw[Xu]
     rfl
    have h2:(lower (Zb d)).isEmpty=((d.length:Int)==0):=by
     cases d with
     | nil=>rfl
     | cons c r=>
      have:tb (c::r)≠[]:=fun e=>by have:=(Zxz hpt).1 e;cases this
      cases hq:lower (Zb (c::r))with
      | nil=>exact absurd hq this
      | cons _ _=>simp;omega
    rw[h1,h2]
    cases((d.length:Int)==0)<;>cases d.any ZfV<;>rfl
   rw[hpl]
   by_cases hbad:((d.length:Int)==0||d.any ZfV)=true
   ·rw[if_pos (by rw[hbad];rfl),if_pos hbad]
    exact⟨rfl,rfl⟩
   ·rw[if_neg (show ¬(!((d.length:Int)==0||d.any ZfV))=false by simpa using hbad),if_neg hbad,Zv8 ps hne hpp]
    refine Ztt d _ ?_ ?_
    ·split
     ·next hc=>
      intro e;have:=congrArg List.length e;rw[List.length_take,Xm]at this
      omega
     ·exact hne
    ·intro p hp
     split at hp
     ·exact hpp p (Xo hp)
     ·exact hpp p hp
theorem Zlb{c:Int}(h:128≤c):digit c=-1:=by unfold digit;rw[if_neg (by omega),if_neg (by omega),if_neg (by omega)]
theorem Zyn(p:LI)(hp:∀c∈p,Pt c):∀n:Int,0≤n→(n+1)*16^p.length≤65536→numGo 16 65535 n (Zb p)=Zb9 n p:=by
 induction p with
 | nil=>intro n _ _;rfl
 | cons c r ih=>
  intro n h0 hn;rw[Xc,Int.pow_succ]at hn
  have ih':=ih (fun x hx=>hp x (Xb _ hx))
  have hpos:(0:Int)<16^r.length:=Int.pow_pos (by decide)
  rw[bytesOf_cons,Zb9];rcases Zad (hp c (Xa ..))with⟨a,b,e⟩|⟨a,b,e⟩
  ·rw[e,Xx,numGo,Zbc a b,ZdV _ _ (by omega)]
   have hr:=ZdH c;generalize digit c=d at *
   by_cases hd:0≤d∧d<16
   ·have hn1:n≤65535:=by
     have:(n+1)*1≤(n+1)*(16^r.length*16):=Int.mul_le_mul_of_nonneg_left (by omega) (by omega)
     omega
    have h9:¬d<0:=by omega
    rw[if_pos hd,if_neg h9];simp only[if_true]
    rw[if_pos hn1,show n*16+d=16*n+d by omega]
    refine ih' _ (by omega) ?_
    have:(16*n+d+1)*16^r.length≤(16*(n+1))*16^r.length:=Int.mul_le_mul_of_nonneg_right (by omega) (by omega)
    calc (16*n+d+1)*16^r.length≤(16*(n+1))*16^r.length:=this
     _=(n+1)*(16^r.length*16):=by rw[XJ 16 (n+1),Int.mul_assoc,XJ 16 (16^r.length)]
     _≤65536:=hn
   ·have h9:d<0:=by omega
    rw[if_neg hd,if_pos h9]
    rfl
  ·rw[Zlb a,if_pos (by decide)]
   cases hx:(utf c).map toB with
   | nil=>exact absurd hx b
   | cons y q=>
    have hy:=e y (by rw[hx];simp)
    have h9:¬(0≤(-1:Int)∧(-1:Int)<16):=by decide
    rw[Xr,numGo,ZdV _ _ (by omega),Zlb (by omega),if_neg h9]
    rfl
theorem Zmo(p:LI)(hp:∀c∈p,Pt c):p.length≤(Zb p).length:=by
 induction p with
 | nil=>exact Nat.zero_le _
 | cons c r ih=>
  rw[bytesOf_cons,Xi,Xc];have h1:=ZpI (hp c (Xa ..))
  have h2:=ih (fun x hx=>hp x (Xb _ hx))
  omega
theorem Zgo(p:LI)(hp:∀c∈p,0≤c∧c<128):Zb p=p.map toB:=by
 induction p with
 | nil=>rfl
 | cons c r ih=>
  rw[bytesOf_cons,ih (fun x hx=>hp x (Xb _ hx)),Zpg (hp c (Xa ..)).2]
  rfl
theorem Ztv(p:LI)(hp:∀c∈p,Pt c):∀n v,Zb9 n p=some v→∀c∈p,0≤c∧c<128:=by
 induction p with
 | nil=>intro n v _ c hc;cases hc
 | cons x r ih=>
  intro n v h c hc;rw[Zb9]at h
  by_cases hd:digit x<0
  ·rw[if_pos hd]at h;cases h
  ·rw[if_neg hd]at h
   rcases Xs.1 hc with rfl|hc
   ·refine⟨(hp c (Xa ..)).1,?_⟩
    rcases XI c 128 with g|g
    ·exact g
    ·rw[Zlb g]at hd;omega
   ·exact ih (fun y hy=>hp y (Xb _ hy)) _ v h c hc
theorem Zv9(p:LI)(hp:∀c∈p,Pt c)(g:LI×Nat):(Zbd p=none∧(Zbl g (Zb p)).2=false)∨∃v,Zbd p=some v∧Zbl g (Zb p)=ZfN g v:=by
 unfold Zbd Zbl
 by_cases hl:p.length<1∨4<p.length
 ·rw[if_pos hl]
  refine Or.inl ⟨rfl,?_⟩
  rcases hl with h|h
  ·rw[Xd (by omega:p.length=0)]
   rw[if_pos (Or.inl (by rfl))]
  ·have:=Zmo p hp
   rw[if_pos (Or.inr (by omega))]
 ·rw[if_neg hl]
  have hle:p.length≤4:=by omega
  have hnum:=Zyn p hp 0 (XD _) (by
   have:p.length=1∨p.length=2∨p.length=3∨p.length=4:=by omega
   rcases this with h|h|h|h<;>rw[h]<;>decide)
  have hne:Zb p≠[]:=fun e=>by have:=(Zr hp).1 e;rw[this]at hl;exact hl (Or.inl (by decide))
  cases hx:Zb9 0 p with
  | none=>
   rw[hx]at hnum
   have:Zn (Zb p) 16 65535=(0,false):=by unfold Zn;rw[if_neg hne,hnum]
   rw[this,if_pos (Or.inl rfl)];exact Or.inl ⟨rfl,rfl⟩
  | some v=>
   rw[hx]at hnum
   have hv:=Zhu (p:=p) (x:=v) (by unfold Zbd;rw[if_neg hl];exact hx)
   have hb:(Zb p).length=p.length:=by rw[Zgo p (Ztv p hp 0 v hx),Xf]
   have:Zn (Zb p) 16 65535=(v,true):=by unfold Zn;rw[if_neg hne,hnum];simp only;rw[if_neg (by omega)]
   rw[this,if_neg (by rintro(g|g);cases g;omega)]
   exact Or.inr ⟨v,rfl,rfl⟩
theorem Zyo(p:LI)(hp:∀c∈p,Pt c)(ha:p.all numeral=true):∀n v:Int,0≤n→((n≤255∧v=n)∨(255<n∧255<v))→∃m,numGo 10 255 n (Zb p)=some m∧0≤m∧((m≤255∧p.foldl dgo v=m)∨(255<m∧255<p.foldl dgo v)):=by
 induction p with
 | nil=>intro n v h0 h;exact⟨n,rfl,h0,h⟩
 | cons c r ih=>
  intro n v h0 h;rw[Xt,Xj]at ha
  have hc:48≤c∧c≤57:=by have:=ha.1;unfold numeral at this;exact of_decide_eq_true this
  have hd:digit c=c-48:=by unfold digit;rw[if_pos hc]
  rw[bytesOf_cons,Zpg (by omega),Xg]
  show ∃m,numGo 10 255 n (toB c::Zb r)=some m∧_
  have h9:0≤c-48∧c-48<10:=by omega
  rw[numGo,Zbc (by omega) (by omega),ZdV _ _ (by omega),hd,if_pos h9]
  simp only[if_true]
  refine ih (fun x hx=>hp x (Xb _ hx)) ha.2 _ _ ?_ ?_
  ·split<;>omega
  ·unfold dgo
   rcases h with⟨h1,rfl⟩|⟨h1,h2⟩
   ·rw[if_pos h1]
    by_cases h3:10*v+c-48≤255
    ·exact Or.inl ⟨by omega,by omega⟩
    ·exact Or.inr ⟨by omega,by omega⟩
   ·rw[if_neg (by omega)]
    exact Or.inr ⟨h1,by omega⟩
theorem Zwa(p:LI)(ha:p.all numeral=true):∀v:Int,0≤v→v≤p.foldl dgo v:=by
 induction p with
 | nil=>intro v _;exact XD _
 | cons c r ih=>
  intro v hv;rw[Xt,Xj]at ha
  have hc:48≤c∧c≤57:=by have:=ha.1;unfold numeral at this;exact of_decide_eq_true this
  rw[Xg]
  have h1:v≤dgo v c:=by unfold dgo;omega
  have:=ih ha.2 (dgo v c) (by omega)
  omega
theorem ZgT{c:Int}(h:numeral c=true):48≤c∧c≤57:=by unfold numeral at h;exact of_decide_eq_true h
theorem Zwb{p:LI}(ha:p.all numeral=true)(hl:3<p.length)(h0:p.headD 0≠48):255<p.foldl dgo 0:=by
 match p,ha,hl,h0 with
 | a::b::c::d::r,ha,_,h0=>
  simp only[Xt,Xj]at ha;obtain⟨a1,b1,c1,d1,r1⟩:=ha;have a2:=ZgT a1;have b2:=ZgT b1;have c2:=ZgT c1;have d2:=ZgT d1;have h0':a≠48:=h0;rw[Xg,Xg,Xg,Xg]
  have hv:1000≤dgo (dgo (dgo (dgo 0 a) b) c) d:=by unfold dgo;omega
  have:=Zwa r r1 (dgo (dgo (dgo (dgo 0 a) b) c) d) (by omega)
  omega
theorem Zgp(p:LI)(hp:∀c∈p,Pt c)(most:Int):(Zn (Zb p) 10 most).2=ZP p:=by
 rw[Zgm,ZiP.all p hp];unfold ZP
 congr 1
 cases p with
 | nil=>rfl
 | cons c r=>
  have hne:Zb (c::r)≠[]:=fun e=>by have:=(Zr hp).1 e;cases this
  cases hb:Zb (c::r)with
  | nil=>exact absurd hb hne
  | cons x y=>rfl
theorem Ztw(p:LI)(hp:∀c∈p,Pt c):ZgE (Zb p)=match ZeT p with|none=>(0,false)|some v=>(v,true):=by
 unfold ZgE ZeT;have hn:=Zgp p hp 255
 cases ha:ZP p
 ·rw[ha]at hn
  rw[if_pos (Or.inl hn),if_pos (by unfold byteBad;rw[ha];rfl)]
 ·rw[ha]at hn
  have ha':p.all numeral=true∧p≠[]:=by
   unfold ZP at ha;rw[Xj]at ha
   exact⟨ha.1,fun e=>by rw[e]at ha;exact absurd ha.2 (by decide)⟩
  have hasc:∀c∈p,0≤c∧c<128:=fun c hc=>by have:=ZgT (List.all_eq_true.1 ha'.1 c hc);omega
  have hb:=Zgo p hasc
  have hlen:(Zb p).length=p.length:=by rw[hb,Xf]
  have hhead:(((Zb p).getD 0 0).toNat:Int)=48↔p.headD 0=48:=by
   rw[hb]
   cases p with
   | nil=>exact absurd rfl ha'.2
   | cons c r=>
    show((toB c).toNat:Int)=48↔c=48
    rw[Zbc (hasc c (Xa ..)).1 (hasc c (Xa ..)).2]
  obtain⟨m,hm,hm0,hr⟩:=Zyo p hp ha'.1 0 0 (XD _) (Or.inl ⟨by decide,rfl⟩)
  have hne:Zb p≠[]:=fun e=>ha'.2 ((Zr hp).1 e)
  have hnum:Zn (Zb p) 10 255=if 255<m then(256,true)else(m,true):=by unfold Zn;rw[if_neg hne,hm];rfl
  by_cases hz:1<p.length∧p.headD 0=48
  ·rw[if_pos (Or.inr (Or.inr ⟨by rw[hlen];exact hz.1,hhead.2 hz.2⟩)),if_pos (Zhp hz.1 hz.2)]
  ·by_cases h3:3<p.length
   ·have hbig:=Zwb ha'.1 h3 (fun e=>hz ⟨by omega,e⟩)
    have hm2:255<m:=by rcases hr with⟨a,b⟩|⟨a,b⟩<;>omega
    rw[hnum,if_pos hm2,if_pos (Or.inr (Or.inl (by decide))),if_pos (by unfold byteBad;rw[decide_eq_true h3];simp)]
   ·rw[Zj2 ha h3 hz]
    by_cases hm2:255<m
    ·have:255<p.foldl dgo 0:=by rcases hr with⟨a,b⟩|⟨a,b⟩<;>omega
     rw[hnum,if_pos hm2,if_pos (Or.inr (Or.inl (by decide))),if_neg (by decide),if_pos this]
    ·have:p.foldl dgo 0=m:=by rcases hr with⟨a,b⟩|⟨a,b⟩<;>omega
     rw[hnum,if_neg hm2,if_neg (by
      rintro(g|g|⟨g1,g2⟩)
      ·cases g
      ·exact hm2 g
      ·exact hz ⟨by rw[←hlen];exact g1,hhead.1 g2⟩),if_neg (by decide),this,if_neg hm2]
theorem Zyp:∀(ps:List LI),(∀p∈ps,∀c∈p,Pt c)→∀v:Int,d4Go v (ps.map Zb)=(Z8 ps).map fun q=>q.foldl (fun a b=>a*256+b) v:=by
 intro ps
 induction ps with
 | nil=>intro _ v;rfl
 | cons p r ih=>
  intro hp v;rw[Xh,d4Go,Z8,Ztw p (hp p (Xa ..))]
  cases ZeT p with
  | none=>rfl
  | some b=>
   simp only[if_true]
   rw[ih (fun q hq=>hp q (Xb _ hq))]
   cases Z8 r<;>rfl
theorem Zwc(p:LI)(hp:∀c∈p,Pt c)(g:LI×Nat):((dotted p).2=false∧(Zbm g (Zb p)).2=false)∨∃x y,dotted p=([x,y],true)∧Zbm g (Zb p)=if(ZfN g x).2=false then((ZfN g x).1,false)else ZfN (ZfN g x).1 y:=by
 unfold Zbm dotted
 have hs:=Za6 (n:=46) (t:=46) (by decide) (by decide) rfl p hp
 have hpp:∀q∈parts p [46],∀c∈q,Pt c:=fun q hq c hc=>hp c (((ZaQ p [46]).2 q hq).2 c hc)
 rw[hs,Xf,Zyp _ hpp];generalize parts p [46]=ps at *
 cases hd:Z8 ps with
 | none=>
  left
  refine⟨rfl,?_⟩
  split<;>rfl
 | some q=>
  have hl:=ZiJ hd;have hr:=ZiO ps q hd;rw[hl]
  match q,hr with
  | [],_=>left;exact⟨rfl,rfl⟩
  | [a],_=>left;exact⟨rfl,rfl⟩
  | [a,b],_=>left;exact⟨rfl,rfl⟩
  | [a,b,c],_=>left;exact⟨rfl,rfl⟩
  | [a,b,c,d],hr=>
   right
   have ha:=hr a (by simp)
   have hb:=hr b (by simp)
   have hc:=hr c (by simp)
   have hdd:=hr d (by simp)
   refine⟨256*a+b,256*c+d,rfl,?_⟩
   rw[if_neg (by simp)]
   simp only[Option.map,Xg,List.foldl_nil]
   have e1:((((0*256+a)*256+b)*256+c)*256+d)/65536=256*a+b:=by omega
   have e2:((((0*256+a)*256+b)*256+c)*256+d)%65536=256*c+d:=by omega
   rw[e1,e2]
  | a::b::c::d::e::r,_=>
   left
   refine⟨rfl,?_⟩
   rw[if_pos (by simp)]
theorem Ztx(n:Int)(t:UInt8)(_ht:(t.toNat:Int)=n)(l:LB):among n l=(bcut (isB n) l).2.2:=by
 induction l with
 | nil=>rfl
 | cons c r ih=>
  rw[bcut];unfold among at ih ⊢;rw[List.any_cons,ih]
  show(isB n c||_)=_
  cases isB n c
  ·simp
  ·simp
theorem Zty(p:LI)(hp:∀c∈p,Pt c):among 46 (Zb p)=(cut p [46]).2.2:=by rw[Ztx 46 46 rfl,Zao (Zec 46 (by decide) (by decide) 46 rfl) p hp]
theorem Zwd(en:Bool):∀(ps:List LI),(∀p∈ps,∀c∈p,Pt c)→∀(zs:LI) (n:Nat),n≤8→grpGo en (zs,n) (ps.map Zb)=match grpGoR en ps with|none=>none|some q=>if n+q.length≤8 then some (putGo zs n q,n+q.length)else none:=by
 intro ps
 induction ps with
 | nil=>intro _ zs n hn;rw[Xv,grpGo,grpGoR];simp only;rw[if_pos (by simpa using hn)];rfl
 | cons p r ih=>
  intro hp zs n hn;have hpp:=hp p (Xa ..);rw[Xh,grpGo,grpGoR,Zty p hpp]
  have hr:(r.map Zb=[])↔r=[]:=by cases r<;>simp
  by_cases hc:(cut p [46]).2.2=true∧en=true∧r=[]
  ·obtain⟨h1,h2,h3⟩:=hc
   subst h3;have c1:en=true∧([]:List LI).map Zb=[]∧(cut p [46]).2.2=true:=⟨h2,rfl,h1⟩;have c2:(cut p [46]).2.2=true∧en=true∧([]:List LI)=[]:=⟨h1,h2,rfl⟩;rw[if_pos c1,if_pos c2];rcases Zwc p hpp (zs,n)with⟨a,b⟩|⟨x,y,a,b⟩
   ·rw[b,a]
    rfl
   ·rw[b,a]
    simp only[if_true];unfold ZfN;simp only
    by_cases h8:n<8
    ·rw[if_pos h8]
     simp only
     by_cases h7:n+1<8
     ·rw[if_pos h7]
      simp only[Xp,if_true,if_false,Xv,grpGo,Xc,Xm]
      rw[if_pos (by omega)]
      rfl
     ·rw[if_neg h7]
      simp only[Xp,Xe,if_false,Xc,Xm]
      rw[if_neg (by omega)]
    ·rw[if_neg h8]
     simp only[Xe,if_true,if_false,Xc,Xm]
     rw[if_neg (by omega)]
  ·rw[if_neg (fun g=>hc ⟨g.2.2,g.1,hr.1 g.2.1⟩),if_neg hc]
   rcases Zv9 p hpp (zs,n)with⟨a,b⟩|⟨v,a,b⟩
   ·rw[b,a]
    rfl
   ·rw[b,a]
    simp only;unfold ZfN;simp only
    by_cases h8:n<8
    ·rw[if_pos h8]
     simp only[if_true]
     rw[ih (fun q hq=>hp q (Xb _ hq)) _ _ (by omega)]
     cases grpGoR en r with
     | none=>rfl
     | some q=>
      simp only[Option.map,Xc]
      by_cases hq:n+1+q.length≤8
      ·rw[if_pos hq,if_pos (by omega),putGo]
       rw[show n+(q.length+1)=n+1+q.length by omega]
      ·rw[if_neg hq,if_neg (by omega)]
    ·rw[if_neg h8]
     simp only[Xe,if_false]
     cases grpGoR en r with
     | none=>rfl
     | some q=>simp only[Option.map,Xc];rw[if_neg (by omega)]
theorem ZeU(l:LI)(hl:∀c∈l,Pt c)(en:Bool):(Zy (Zb l) en).2=((groups l en).2&&decide ((groups l en).1.length≤8))∧((Zy (Zb l) en).2=true→(Zy (Zb l) en).1=(putGo zeros8 0 (groups l en).1,(groups l en).1.length)):=by
 unfold Zy groups
 by_cases h0:l=[]
 ·subst h0
  exact⟨rfl,fun _=>rfl⟩
 ·rw[if_neg (fun e=>h0 ((Zr hl).1 e)),if_neg h0]
  have hpp:∀q∈parts l [58],∀c∈q,Pt c:=fun q hq c hc=>hl c (((ZaQ l [58]).2 q hq).2 c hc)
  rw[Za6 (n:=58) (t:=58) (by decide) (by decide) rfl l hl]
  unfold zeroG
  rw[Zwd en _ hpp zeros8 0 (by decide)]
  cases grpGoR en (parts l [58])with
  | none=>exact⟨rfl,fun h=>by cases h⟩
  | some q=>
   simp only[Nat.zero_add]
   by_cases h8:q.length≤8
   ·rw[if_pos h8]
    exact⟨by rw[decide_eq_true h8];rfl,fun _=>rfl⟩
   ·rw[if_neg h8]
    exact⟨by rw[decide_eq_false h8];rfl,fun h=>by cases h⟩
def Zwe:List Int→Option Nat
 | []=>none
 | [_]=>none
 | c::d::r=>if c=58∧d=58 then some 0 else(Zwe (d::r)).map (· + 1)
def ZxA(l:List Int):List Int×Bool:=((groups l true).1,(groups l true).2&&(groups l true).1.length==8)
theorem Zmp(l:LI):∀(n i:Nat),l.length-i≤n→Zbz l i=match Zwe (l.drop i)with|some k=>Zhs l (i+k)|none=>ZxA l:=by
 intro n
 induction n with
 | zero=>
  intro i h
  rw[Zbz,if_neg (by omega),Xw (by omega)]
  rfl
 | succ n ih=>
  intro i h;rw[Zbz]
  by_cases h1:i+1<l.length
  ·have e:l.drop i=l[i]::l[i+1]::l.drop (i+2):=by rw[Xl (by omega:i<l.length),Xl h1]
   rw[if_pos h1,e,Zwe,ZcN (by omega),ZcN h1]
   by_cases h2:l[i]=58∧l[i+1]=58
   ·rw[if_pos h2,if_pos h2];rfl
   ·rw[if_neg h2,if_neg h2,ih (i+1) (by omega),show l.drop (i+1)=l[i+1]::l.drop (i+2)from Xl h1]
    cases Zwe (l[i+1]::l.drop (i+2))with
    | none=>rfl
    | some k=>simp only[Option.map];rw[show i+1+k=i+(k+1)by omega]
  ·rw[if_neg h1]
   have:Zwe (l.drop i)=none:=by
    have hl:(l.drop i).length≤1:=by rw[List.length_drop];omega
    match l.drop i,hl with
    | [],_=>rfl
    | [_],_=>rfl
   rw[this]
   rfl
theorem ZiQ(b:UInt8)(l:LB)(h:b≠58∨∀x t,l=x::t→x≠58):cutGap (b::l)=if(cutGap l).2.2=true then(b::(cutGap l).1,(cutGap l).2.1,true)else([],[],false):=by
 cases l with
 | nil=>rfl
 | cons x t=>
  rw[cutGap,if_neg];rintro⟨h1,h2⟩;rcases h with h|h
  ·exact h h1
  ·exact h x t rfl h2
theorem Zmq(q l:LB)(h:∀b∈q,b≠58):cutGap (q++l)=if(cutGap l).2.2=true then(q++(cutGap l).1,(cutGap l).2.1,true)else([],[],false):=by
 induction q with
 | nil=>
  rw[XF]
  by_cases hc:(cutGap l).2.2=true
  ·rw[if_pos hc]
   show cutGap l=((cutGap l).1,(cutGap l).2.1,true)
   rw[←hc]
  ·rw[if_neg hc]
   exact Zhe (by simpa using hc)
 | cons b q ih=>
  rw[Xr,ZiQ b _ (Or.inl (h b (Xa ..))),ih (fun x hx=>h x (Xb _ hx))]
  by_cases hc:(cutGap l).2.2=true
  ·rw[if_pos hc];simp only[if_true,Xr];rw[if_pos hc]
  ·rw[if_neg hc];simp only[Xe,if_false];rw[if_neg hc]
theorem Zzg{c:Int}(h0:0≤c)(h1:c<128):toB c=58↔c=58:=by
 have:=Zbc h0 h1
 constructor
 ·intro h;rw[h]at this;exact this.symm
 ·intro h;subst h;rfl
theorem Zyq{d:Int}(hd:Pt d)(r:LB):∃x t,(utf d).map toB++r=x::t∧(x=58↔d=58):=by
 rcases Zad hd with⟨a,b,e⟩|⟨a,b,e⟩
 ·exact⟨toB d,r,by rw[e];rfl,Zzg a b⟩
 ·cases hx:(utf d).map toB with
  | nil=>exact absurd hx b
  | cons y q=>
   have hy:=e y (by rw[hx];simp)
   refine⟨y,q++r,rfl,?_⟩
   constructor
   ·intro h;rw[h]at hy;exact absurd hy (by decide)
   ·intro h;omega
theorem Zmr(l:LI)(hl:∀c∈l,Pt c):cutGap (Zb l)=match Zwe l with|some k=>(Zb (l.take k),Zb (l.drop (k+2)),true)|none=>([],[],false):=by
 induction l with
 | nil=>rfl
 | cons c r ih=>
  have ih':=ih (fun x hx=>hl x (Xb _ hx))
  have hskip:(c≠58∨∀d t,r=d::t→d≠58)→cutGap (Zb (c::r))=if(cutGap (Zb r)).2.2=true then((utf c).map toB++(cutGap (Zb r)).1,(cutGap (Zb r)).2.1,true)else([],[],false):=by
   intro h;rw[bytesOf_cons];rcases Zad (hl c (Xa ..))with⟨a,b,e⟩|⟨a,b,e⟩
   ·rw[e,Xx,ZiQ]
    ·rfl
    ·rcases h with h|h
     ·exact Or.inl (fun g=>h ((Zzg a b).1 g))
     ·right
      intro x t hx
      cases r with
      | nil=>cases hx
      | cons d t'=>
       obtain⟨x',t'',h1,h2⟩:=Zyq (hl d (by simp)) (Zb t')
       rw[bytesOf_cons,h1]at hx;obtain⟨rfl,-⟩:=List.cons.inj hx
       exact fun g=>h d t' rfl (h2.1 g)
   ·exact Zmq _ _ (fun x hx g=>by have:=e x hx;rw[g]at this;exact absurd this (by decide))
  cases r with
  | nil=>
   rw[hskip (Or.inr (fun d t h=>by cases h))]
   rfl
  | cons d t=>
   rw[Zwe]
   by_cases h:c=58∧d=58
   ·obtain⟨rfl,rfl⟩:=h
    rw[if_pos ⟨rfl,rfl⟩]
    show cutGap (58::58::Zb t)=_
    rw[cutGap,if_pos ⟨rfl,rfl⟩]
    rfl
   ·rw[if_neg h,hskip (by
     by_cases h1:c=58
     ·right;intro d' t' e;obtain⟨rfl,-⟩:=List.cons.inj e;exact fun g=>h ⟨h1,g⟩
     ·exact Or.inl h1),ih']
    cases Zwe (d::t)with
    | none=>rfl
    | some k=>
     simp only[Option.map,if_true];rw[XC,bytesOf_cons]
     rfl
theorem zeros_eq:zeros8=List.replicate 8 0:=rfl
theorem ZgU(q:LI)(h:q.length≤8):putGo zeros8 0 q=q++List.replicate (8-q.length) 0:=by rw[Zfi q zeros8 0 (by rw[zeros_eq,Xn];omega),List.take_zero,XF,Nat.zero_add,zeros_eq,List.drop_replicate]
theorem Zwf(l:LI)(hl:∀c∈l,Pt c):(ip6 (Zb l)).2=(address l).2∧((address l).2=true→(ip6 (Zb l)).1=(address l).1):=by
 unfold ip6 address
 rw[Zmp l l.length 0 (by omega),Zmr l hl,XG]
 cases Zwe l with
 | none=>
  simp only[if_true];unfold Zhf ZxA;obtain⟨h1,h2⟩:=ZeU l hl true;generalize Zy (Zb l) true=x at *;generalize groups l true=y at *;obtain⟨yl,yb⟩:=y;simp only at *
  cases hx:x.2
  ·rw[hx]at h1
   rw[if_pos (Or.inl rfl)]
   have:(yb&&yl.length==8)=false:=by
    cases yb
    ·rfl
    ·rw[Bool.true_and]at h1 ⊢
     have:=of_decide_eq_false h1.symm
     exact beq_eq_false_iff_ne.2 (by omega)
   rw[this]
   exact⟨rfl,fun h=>by cases h⟩
  ·rw[hx]at h1
   have e:=h2 hx
   have hb:yb=true∧yl.length≤8:=by have:=h1.symm;rw[Xj]at this;exact⟨this.1,of_decide_eq_true this.2⟩
   rw[e];simp only
   by_cases h8:yl.length=8
   ·rw[if_neg (by rintro(g|g);cases g;exact g h8)]
    refine⟨by rw[hb.1,h8];rfl,fun _=>?_⟩
    rw[ZgU _ hb.2,h8]
    simp
   ·rw[if_pos (Or.inr h8)]
    have:(yb&&yl.length==8)=false:=by rw[beq_eq_false_iff_ne.2 h8,Bool.and_false]
    rw[this]
    exact⟨rfl,fun h=>by cases h⟩
 | some k=>
  simp only[Xp,if_false,Nat.zero_add];unfold Zhs
  obtain⟨h1,h2⟩:=ZeU (l.take k) (fun c hc=>hl c (Xo hc)) false
  obtain⟨h3,h4⟩:=ZeU (l.drop (k+2)) (fun c hc=>hl c (XB hc)) true
  generalize Zy (Zb (l.take k)) false=x at *;generalize Zy (Zb (l.drop (k+2))) true=y at *;generalize groups (l.take k) false=a at *;generalize groups (l.drop (k+2)) true=b at *;obtain⟨al,ab⟩:=a;obtain⟨bl,bb⟩:=b;simp only at *
  by_cases hbad:ab=false∨bb=false∨7<al.length+bl.length
  ·rw[if_pos hbad]
   have:x.2=false∨y.2=false∨7<x.1.2+y.1.2:=by
    rcases hbad with g|g|g
    ·left;rw[h1,g];rfl
    ·right;left;rw[h3,g];rfl
    ·cases hx:x.2
     ·exact Or.inl rfl
     ·cases hy:y.2
      ·exact Or.inr (Or.inl rfl)
      ·rw[h2 hx,h4 hy];exact Or.inr (Or.inr g)
   rw[if_pos this]
   exact⟨rfl,fun h=>by cases h⟩
  ·have hab:ab=true∧bb=true∧al.length+bl.length≤7:=by
    refine⟨?_,?_,?_⟩
    ·cases ab;exact absurd (Or.inl rfl) hbad;rfl
    ·cases bb;exact absurd (Or.inr (Or.inl rfl)) hbad;rfl
    ·omega
   rw[hab.1,decide_eq_true (by omega:al.length≤8)]at h1
   rw[hab.2.1,decide_eq_true (by omega:bl.length≤8)]at h3
   have e1:=h2 h1;have e2:=h4 h3;rw[if_neg hbad,h1,h3,e1,e2];simp only
   rw[if_neg (by rintro(g|g|g);cases g;cases g;omega)]
   refine⟨rfl,fun _=>?_⟩
   simp only
   rw[ZgU bl (by omega),ZgU al (by omega),List.take_left' rfl]
   rw[Zfi bl _ _ (by rw[Xi,Xn];omega)]
   rw[List.take_append,Xw (by rw[Xi,Xn];omega),List.append_nil,List.take_of_length_le (by omega),List.take_replicate]
   congr 3
   omega
theorem Zn4:∀d:Fin 16,Zf9 d.val=Zdh d.val:=by decide
theorem Zms{d:Nat}(h:d<16):Zf9 d=Zdh d:=Zn4 ⟨d,h⟩
theorem Ztz(n:Nat)(h:n≤65535):hexa n=Zfz n:=by
 induction n using Nat.strongRecOn with
 | ind n ih=>
  rw[hexa]
  by_cases h1:n<16
  ·rw[if_pos h1,ZjO h1,Zms h1]
  ·rw[if_neg h1,ZlS (by omega) h,ih (n/16) (by omega) (by omega),Zms (by omega)]
theorem ZiR(l:LI)(h:GOk l):listed l=ZhL (l.map hx):=by
 cases l with
 | nil=>rfl
 | cons x r=>
  have hx0:=h x (Xa ..)
  rw[listed,Ztz _ (by omega),Xh,ZhL]
  congr 1
  have hr:∀y∈r,0≤y∧y≤65535:=fun y hy=>h y (Xb _ hy)
  clear h hx0
  induction r with
  | nil=>rfl
  | cons y t ih=>
   have hy:=hr y (Xa ..)
   rw[List.flatMap_cons,Xh,tailC_cons,ih (fun z hz=>hr z (Xb _ hz)),Ztz _ (by omega)]
   rfl
def sGo(v:List Int):Nat→Nat→Nat→Option (Nat×Nat)
 | 0,_,_=>none
 | f+1,n,i=>if n≤1 then none else if i+n≤8 then(if noughts v i n then some (i,n)else sGo v f n (i+1))else sGo v f (n-1) 0
theorem ZtA(v:LI):∀(f n i:Nat),n≤8→i≤9→n*10+(9-i)<f→briefFrom v n i=match sGo v f n i with|none=>listed v|some (i,n)=>listed (v.take i)++58::58::listed (v.drop (i+n)):=by
 intro f
 induction f with
 | zero=>intro n i _ _ h;omega
 | succ f ih=>
  intro n i hn hi h;rw[briefFrom,sGo]
  by_cases h1:n≤1
  ·rw[if_pos h1,if_pos h1]
  ·rw[if_neg h1,if_neg h1]
   by_cases h2:i+n≤8
   ·rw[if_pos h2,if_pos h2]
    cases hz:noughts v i n
    ·simp only[Xe,if_false]
     exact ih n (i+1) hn (by omega) (by omega)
    ·simp only[if_true]
   ·rw[if_neg h2,if_neg h2]
    exact ih (n-1) 0 (by omega) (by omega) (by omega)
def zz(x:Int):Int:=if x=0 then 0 else 1
theorem Zn5(x:Int):zz x=0↔x=0:=by unfold zz;split<;>simp_all
theorem Zq6(v:LI)(i n:Nat):noughts (v.map zz) i n=noughts v i n:=by
 unfold noughts;rw[←List.map_drop,←XH,List.all_map]
 congr 1
 funext x
 show(zz x==0)=(x==0)
 rw[Bool.eq_iff_iff,beq_iff_eq,beq_iff_eq,Zn5]
theorem Zzh(v:LI):∀(f n i:Nat),sGo (v.map zz) f n i=sGo v f n i:=by
 intro f
 induction f with
 | zero=>intro n i;rfl
 | succ f ih=>
  intro n i;rw[sGo,sGo,Zq6,ih,ih]
theorem Zyr(v:LI):∀(i st ln run:Nat),lrGo i st ln run (v.map zz)=lrGo i st ln run v:=by
 induction v with
 | nil=>intro i st ln run;rfl
 | cons x r ih=>
  intro i st ln run;rw[Xh,lrGo,lrGo]
  have:(if zz x=0 then run+1 else 0)=(if x=0 then run+1 else 0):=by
   by_cases h:x=0
   ·rw[if_pos h,if_pos ((Zn5 x).2 h)]
   ·rw[if_neg h,if_neg (fun g=>h ((Zn5 x).1 g))]
  rw[this,ih,ih]
def bz(b:Bool):Int:=if b then 0 else 1
def ZtB(v:List Int):Bool:=sGo v 100 8 0==(if(ZZ v).1=8 then none else some ((ZZ v).1,(ZZ v).2))
theorem Zwg:∀a b c d e f g h:Bool,ZtB [bz a,bz b,bz c,bz d,bz e,bz f,bz g,bz h]=true:=by decide +kernel
theorem Zmt(x:Int):zz x=bz (decide (x=0)):=by
 unfold zz bz
 by_cases h:x=0
 ·rw[if_pos h,decide_eq_true h];rfl
 ·rw[if_neg h,decide_eq_false h];rfl
theorem Zwh(v:LI)(hl:v.length=8):sGo v 100 8 0=if(ZZ v).1=8 then none else some ((ZZ v).1,(ZZ v).2):=by
 match v,hl with
 | [a,b,c,d,e,f,g,h],_=>
  have hb:=Zwg (decide (a=0)) (decide (b=0)) (decide (c=0)) (decide (d=0)) (decide (e=0)) (decide (f=0)) (decide (g=0)) (decide (h=0));rw[←Zmt,←Zmt,←Zmt,←Zmt,←Zmt,←Zmt,←Zmt,←Zmt]at hb;unfold ZtB at hb;have e1:=Zzh [a,b,c,d,e,f,g,h] 100 8 0;have e2:ZZ [zz a,zz b,zz c,zz d,zz e,zz f,zz g,zz h]=ZZ [a,b,c,d,e,f,g,h]:=Zyr [a,b,c,d,e,f,g,h] 0 8 1 0;simp only[Xh,Xv]at e1;rw[e1,e2]at hb;exact eq_of_beq hb
theorem ZtC(v:LI)(hl:v.length=8)(h:GOk v):brief v=Zgd v:=by
 unfold brief Zgd
 rw[ZtA v 100 8 0 (by decide) (by decide) (by decide),Zwh v hl]
 have hok:=ZjX v hl;generalize (ZZ v).1=st at *;generalize (ZZ v).2=ln at *
 by_cases h8:st=8
 ·rw[if_pos h8,Zxq v hl st ln (by omega) 8 0 (by decide)]
  exact ZiR v h
 ·rw[if_neg h8]
  rcases hok with⟨g,-⟩|⟨g1,g2,-⟩
  ·exact absurd g h8
  ·rw[Zpr v hl st ln (by omega) g2 8 0 (by omega) (by decide),if_pos rfl,XG]
   simp only
   rw[ZiR _ (fun x hx=>h x (Xo hx)),ZiR _ (fun x hx=>h x (XB hx))]
   rfl
theorem Zq7(n:Int)(t:UInt8)(h0:0<n)(h1:n<128)(ht:(t.toNat:Int)=n)(l:LI)(hl:∀c∈l,Pt c):(((Zb l).getD 0 0).toNat:Int)=n↔l.getD 0 0=n:=by
 cases l with
 | nil=>show((0:Int)=n)↔((0:Int)=n);exact Iff.rfl
 | cons c r=>
  rw[bytesOf_cons];rcases Zad (hl c (Xa ..))with⟨a,b,e⟩|⟨a,b,e⟩
  ·rw[e]
   show((toB c).toNat:Int)=n↔c=n
   rw[Zbc a b]
  ·cases hx:(utf c).map toB with
   | nil=>exact absurd hx b
   | cons y q=>
    have hy:=e y (by rw[hx];simp)
    show((y.toNat:Int)=n)↔c=n
    omega
theorem Zmu{α:Type}(a:List α)(x d:α):(a++[x]).getD ((a++[x]).length-1) d=x:=by
 rw[Xk,Xi]
 simp
theorem ZtD(a:LI)(z:Int)(hz:Pt z)(pre:LB):(((pre++(Zb a++(utf z).map toB)).getD ((pre++(Zb a++(utf z).map toB)).length-1) 0).toNat:Int)=93↔z=93:=by
 rcases Xz ((utf z).map toB)with hx|⟨q,y,hx⟩
 ·exfalso
  rcases Zad hz with⟨-,-,e⟩|⟨-,e,-⟩
  ·rw[e]at hx;cases hx
  ·exact e hx
 ·rw[XA]at hx
  rw[hx,←XE,←XE,Zmu];rcases Zad hz with⟨h0,h1,e⟩|⟨h0,h1,e⟩
  ·rw[e]at hx
   have:y=toB z:=by
    have h:=congrArg List.getLast? hx
    simpa using h.symm
   rw[this,Zbc h0 h1]
  ·have hy:=e y (by rw[hx];simp)
   omega
theorem Zwi:Asc (fun b=>among (b.toNat:Int) Zed) (fun c=>among c ZcI) where
 lo:=ZeN (p:=fun b=>among (b.toNat:Int) Zed) (P:=fun c=>among c ZcI) (by decide +kernel)
 hi:=fun b=>by256 (P:=fun b=>128≤b.toNat→among (b.toNat:Int) Zed=false) (by decide +kernel) b
 up:=fun c hc=>by simp[among,ZcI];omega
theorem Zn6(l:LI)(hl:∀c∈l,Sc c)(sp:Bool):ZT (Zb l) sp=((hostOf l sp).2.1,(hostOf l sp).2.2)∧(hostOf l sp).1=decide ((hostOf l sp).2.2=0):=by
 have hpt:∀c∈l,Pt c:=fun c hc=>(hl c hc).pt
 unfold ZT hostOf
 have hf:=Zq7 91 91 (by decide) (by decide) rfl l hpt
 by_cases h91:l.getD 0 0=91
 ·rw[if_pos (hf.2 h91),if_pos h91]
  unfold Zar
  cases l with
  | nil=>cases h91
  | cons c r=>
   have hc:c=91:=h91;subst hc;rcases Xz r with rfl|⟨m,z,rfl⟩
   ·exact⟨rfl,rfl⟩
   ·rw[XA]at *
    have hz:=hpt z (by simp)
    have hm:∀c∈m,Pt c:=fun c hc=>hpt c (by simp[hc])
    have e1:Zb (91::(m++[z]))=[91]++(Zb m++(utf z).map toB):=by rw[bytesOf_cons,bytesOf_snoc];rfl
    have hlast:=ZtD m z hz [91];have e2:(91::(m++[z])).getD ((91::(m++[z])).length-1) 0=z:=Zmu (91::m) z 0
    have e3:((91::(m++[z])).take ((91::(m++[z])).length-1)).drop 1=m:=by
     rw[Xc,Xi]
     simp
    rw[e1,e2,e3]
    by_cases h93:z=93
    ·subst h93
     have e4:(([91]++(Zb m++(utf 93).map toB)).take (([91]++(Zb m++(utf 93).map toB)).length-1)).drop 1=Zb m:=by
      rw[show(utf 93).map toB=[93]from rfl]
      simp
     have g1:¬(([91]++(Zb m++(utf 93).map toB)).length<2∨¬((([91]++(Zb m++(utf 93).map toB)).getD (([91]++(Zb m++(utf 93).map toB)).length-1) 0).toNat:Int)=93):=by
      rintro(g|g)
      ·rw[show(utf 93).map toB=[93]from rfl]at g;simp at g;omega
      ·exact g (hlast.2 rfl)
     have g2:¬((93:Int)≠93):=fun g=>g rfl
     rw[if_neg g1,if_neg g2,e4];obtain⟨i1,i2⟩:=Zwf m hm;rw[i1]
     by_cases ha:(address m).2=true
     ·have hok:=Zj6 ha
      rw[if_pos ha,if_pos ha,i2 ha,ZtC _ hok.1 hok.2];exact⟨rfl,rfl⟩
     ·rw[if_neg ha,if_neg ha]
      exact⟨rfl,rfl⟩
    ·have g2:z≠93:=h93
     rw[if_pos (Or.inr (fun g=>h93 (hlast.1 g))),if_pos g2]
     exact⟨rfl,rfl⟩
 ·rw[if_neg (fun g=>h91 (hf.1 g)),if_neg h91]
  cases sp
  ·rw[if_neg (by decide),if_neg (by decide)]
   unfold Zca;rw[Zwi.any l hpt]
   by_cases hb:(l.any fun c=>among c ZcI)=true
   ·rw[if_pos hb,if_pos hb]
    exact⟨rfl,rfl⟩
   ·rw[if_neg hb,if_neg hb,show encB (tl (ZaD 0)) (clean (Zb l))=encoded l []from ZaV _ l hl]
    exact⟨rfl,rfl⟩
  ·rw[if_pos rfl,if_pos rfl]
   exact Ztu l
end Go.Proofs.YtchkhibgbnhjpabGreatDoor
