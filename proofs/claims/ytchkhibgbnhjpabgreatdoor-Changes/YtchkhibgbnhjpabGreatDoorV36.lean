import Derived.Test.YtchkhibgbnhjpabGreatDoorV35
open List renaming filter_append→Xa,filter_cons→Xb,all_eq_true→Xc,mem_map→Xd,all_takeWhile→Xe,append_assoc→Xf,mem_reverse→Xg,nil_append→Xh,foldl_cons→Xi,length_map→Xj,mem_filter→Xk
namespace Go.Proofs.YtchkhibgbnhjpabGreatDoor
open Go.RowKit
theorem ZkH(f:Int→Int):∀a b:LI,aheadK f a b=true→aheadK f b a=false:=by
 intro a
 induction a with
 | nil=>intro b h;cases b<;>simp_all [aheadK]
 | cons x a ih=>
  intro b h
  cases b with
  | nil=>simp[aheadK]at h
  | cons y b=>
   simp only[aheadK]at h ⊢
   by_cases hxy:x=y
   ·rw[if_pos hxy]at h
    rw[if_pos hxy.symm];exact ih b h
   ·rw[if_neg hxy]at h
    rw[if_neg (fun e=>hxy e.symm)]
    have:=of_decide_eq_true h
    exact decide_eq_false (by omega)
theorem Zlz{p q:LB×LB}(h:ltB p q=true):ltB q p=false:=ZkH _ _ _ h
theorem ltB_irr{p q:LB×LB}(h:ltB p q=true):p.1≠q.1:=fun e=>by
 have h2:=Zlz h
 have e2:ltB q p=ltB p q:=by unfold ltB;rw[e]
 rw[e2,h]at h2
 cases h2
def AdjR{α:Type}(lt:α→α→Bool):List α→Prop
 | []=>True
 | [_]=>True
 | a::b::r=>lt b a=false∧AdjR lt (b::r)
theorem AdjR.tail{α:Type}{lt:α→α→Bool}{a:α}{r:List α}(h:AdjR lt (a::r)):AdjR lt r:=by
 cases r with
 | nil=>trivial
 | cons b r=>exact h.2
theorem AdjR.at{α:Type}{lt:α→α→Bool}:∀ {l:List α},AdjR lt l→∀i (h:i+1<l.length),lt l[i+1] l[i]=false:=by
 intro l
 induction l with
 | nil=>intro _ i h;simp at h
 | cons a r ih=>
  intro h i hi
  cases r with
  | nil=>simp at hi
  | cons b r=>
   cases i with
   | zero=>exact h.1
   | succ i=>exact ih h.2 i (by simpa using hi)
theorem AdjR.parts{α:Type}{lt:α→α→Bool}{A B:List α}(h:AdjR lt (A++B)):AdjR lt A∧AdjR lt B:=by
 induction A with
 | nil=>exact⟨trivial,h⟩
 | cons a A ih=>
  obtain⟨h1,h2⟩:=ih h.tail
  refine⟨?_,h2⟩
  cases A with
  | nil=>trivial
  | cons b A=>exact⟨h.1,h1⟩
theorem AdjR.join{α:Type}{lt:α→α→Bool}{A B:List α}(hA:AdjR lt A)(hB:AdjR lt B)(h:∀a,A.getLast?=some a→∀b,B.head?=some b→lt b a=false):AdjR lt (A++B):=by
 induction A with
 | nil=>exact hB
 | cons a A ih=>
  cases A with
  | nil=>
   cases B with
   | nil=>trivial
   | cons b B=>exact⟨h a rfl b rfl,hB⟩
  | cons c A=>exact⟨hA.1,ih hA.2 (fun x hx b hb=>h x (by rw[List.getLast?_cons_cons];exact hx) b hb)⟩
theorem Zho{α:Type}(lt:α→α→Bool)(S:List α)(x:α):S=(S.reverse.dropWhile (lt x)).reverse++(S.reverse.takeWhile (lt x)).reverse:=by have h:=congrArg List.reverse (List.takeWhile_append_dropWhile (p:=lt x) (l:=S.reverse));rw[List.reverse_append,List.reverse_reverse]at h;exact h.symm
theorem Zrg{S:Lp}(h:AdjR ltB S)(x:LB×LB):AdjR ltB (Zfg ltB S x):=by
 have e:=Zho ltB S x;rw[e]at h;obtain⟨h1,h2⟩:=h.parts;unfold Zfg
 refine h1.join ?_ ?_
 ·cases hT:(S.reverse.takeWhile (ltB x)).reverse with
  | nil=>trivial
  | cons b T=>
   rw[hT]at h2
   refine⟨Zlz ?_,h2⟩
   have hm:b∈S.reverse.takeWhile (ltB x):=by rw[←Xg,hT];simp
   exact Xc.1 (Xe (p:=ltB x) (l:=S.reverse)) b hm
 ·intro a ha b hb
  obtain rfl:x=b:=by simpa using hb
  rw[List.getLast?_reverse]at ha;have:=List.head?_dropWhile_not (ltB x) S.reverse;rw[ha]at this
  simpa using this
theorem Zrh(L:Lp):AdjR ltB (Zav ltB L):=by
 have key:∀(L S:Lp),AdjR ltB S→AdjR ltB (L.foldl (Zfg ltB) S):=by
  intro L
  induction L with
  | nil=>intro S h;exact h
  | cons x r ih=>intro S h;exact ih _ (Zrg h x)
 exact key L [] trivial
theorem ZkI(n:LB)(S:Lp)(x:LB×LB):(Zfg ltB S x).filter (fun p=>p.1==n)=S.filter (fun p=>p.1==n)++[x].filter (fun p=>p.1==n):=by
 have e:=Zho ltB S x
 conv=>rhs;rw[e]
 unfold Zfg;rw[Xa,Xa,Xf]
 congr 1
 rw[Xb]
 by_cases hx:(x.1==n)=true
 ·have hT:(S.reverse.takeWhile (ltB x)).reverse.filter (fun p=>p.1==n)=[]:=by
   refine List.filter_eq_nil_iff.2 fun y hy=>?_
   have hl:=Xc.1 (Xe (p:=ltB x) (l:=S.reverse)) y (Xg.1 hy);intro g;exact ltB_irr hl ((beq_iff_eq.1 hx).trans (beq_iff_eq.1 g).symm)
  rw[if_pos hx,hT,Xh,Xb,if_pos hx]
  rfl
 ·rw[if_neg hx,Xb,if_neg hx]
  simp
theorem ZkJ(n:LB)(L:Lp):(Zav ltB L).filter (fun p=>p.1==n)=L.filter (fun p=>p.1==n):=by
 have key:∀(L S:Lp),(L.foldl (Zfg ltB) S).filter (fun p=>p.1==n)=S.filter (fun p=>p.1==n)++L.filter (fun p=>p.1==n):=by
  intro L
  induction L with
  | nil=>intro S;simp
  | cons x r ih=>
   intro S;rw[Xi,ih,ZkI,Xf,←Xa]
   rfl
 simpa [Zav]using key L []
theorem ZsW{c x:Int}(h:Pt c)(hx:x∈utf c):x≤244:=by
 unfold Pt at h;unfold utf at hx
 split at hx
 ·simp at hx;omega
 ·split at hx
  ·simp at hx;omega
  ·split at hx
   ·simp at hx;omega
   ·simp at hx;omega
theorem ZsX{l:LB}(h:Cpt l):∀b∈l,b.toNat≤244:=by
 obtain⟨p,rfl,hp⟩:=h;intro b hb;obtain⟨c,hc,hb⟩:=List.mem_flatMap.1 hb;obtain⟨x,hx,rfl⟩:=Xd.1 hb;have h1:=ZsW (hp c hc).pt hx;have h2:=ZpC (hp c hc).pt hx;unfold toB
 rw[UInt8.toNat_ofNat',Nat.mod_eq_of_lt (by omega)]
 omega
theorem name_map(n:BA)(ps:List Pq):(ps.filter (nameQ n)).map tl2=(ps.map tl2).filter (fun p=>p.1==tl n):=by
 rw[List.filter_map]
 congr 1
 apply List.filter_congr
 intro p _
 show nameQ n p=((tl2 p).1==tl n)
 unfold nameQ tl2;rw[ByteArray.toList_eq,ByteArray.toList_eq]
 rfl
theorem ZkK{ps qs:List Pq}{L:Lp}(h1:ps.map tl2=L)(h2:qs.map tl2=Zav ltB L)(hL:∀p∈L,Zjd p):(∀p∈qs,∀b∈tl p.1,b.toNat≤244)∧(∀i (h:i+1<qs.length),ZaH (tl qs[i+1].1) (tl qs[i].1)=false)∧ps.length=qs.length∧∀p∈ps,ps.filter (nameQ p.1)=qs.filter (nameQ p.1):=by
 have hlen:qs.length=(Zav ltB L).length:=by rw[←h2,Xj]
 refine⟨fun p hp=>?_,fun i h=>?_,?_,fun p _=>?_⟩
 ·have hm:tl2 p∈Zav ltB L:=by rw[←h2];exact Xd.2 ⟨p,hp,rfl⟩
  exact ZsX (hL _ (Zep hm)).1
 ·have h3:=(Zrh L).at i (by omega)
  have e1:(Zav ltB L)[i]'(by omega)=tl2 qs[i]:=by simp[←h2]
  have e2:(Zav ltB L)[i+1]'(by omega)=tl2 qs[i+1]:=by simp[←h2]
  rw[e1,e2]at h3;exact h3
 ·rw[hlen,sortI_len,←h1,Xj]
 ·refine Zed ?_
  rw[name_map,name_map,h1,h2,ZkJ]
theorem Zm1{ps qs:List Pq}{s t:BA}(h:qs.map tl2=ps.map tl2++[(tl s,tl t)]):qs=ps++[(s,t)]:=Zed (by rw[h,List.map_append];rfl)
theorem Zm2{ps qs:List Pq}{c:Int}{s t:BA}(h:qs.map tl2=(ps.map tl2).filter (fun p=>!hitP (tl s) (tl t) (c==1) p)):qs=ps.filter (Zcg c s t):=Zed (by rw[h];exact(Zd7 s t (c==1) ps).symm)
theorem Zm3{α:Type}{hit:α→Bool}{x:α}(hx:hit x=true)(L:List α):(Zes hit x L).1.filter hit=(if(Zes hit x L).2=true then [x]else [])∧(Zes hit x L).1.filter (fun p=>!hit p)=L.filter (fun p=>!hit p)∧((Zes hit x L).2=false→L.filter hit=[]):=by
 have key:∀(L:List α) (acc:List α×Bool),acc.1.filter hit=(if acc.2=true then [x]else [])→(L.foldl (Zaj hit x) acc).1.filter hit=(if(L.foldl (Zaj hit x) acc).2=true then [x]else [])∧(L.foldl (Zaj hit x) acc).1.filter (fun p=>!hit p)=acc.1.filter (fun p=>!hit p)++L.filter (fun p=>!hit p)∧((L.foldl (Zaj hit x) acc).2=false→acc.2=false∧L.filter hit=[]):=by
  intro L
  induction L with
  | nil=>intro acc h;exact⟨h,by simp,fun g=>⟨g,rfl⟩⟩
  | cons p r ih=>
   intro acc h;rw[Xi];obtain⟨g,b⟩:=acc;simp only at h
   cases hp:hit p
   ·have e:Zaj hit x (g,b) p=(g++[p],b):=if_neg (by rw[hp];decide)
    rw[e]
    obtain⟨k1,k2,k3⟩:=ih (g++[p],b) (by simp only[Xa,h];simp[hp])
    refine⟨k1,?_,fun z=>?_⟩
    ·rw[k2];simp[hp]
    ·obtain⟨z1,z2⟩:=k3 z
     exact⟨z1,by rw[Xb,if_neg (by rw[hp];decide)];exact z2⟩
   ·cases b
    ·have e:Zaj hit x (g,false) p=(g++[x],true):=by unfold Zaj;rw[if_pos hp,if_neg (by intro y;cases y)]
     rw[e]
     obtain⟨k1,k2,k3⟩:=ih (g++[x],true) (by simp only[Xa,h];simp[hx])
     refine⟨k1,?_,fun z=>?_⟩
     ·rw[k2];simp[hp,hx]
     ·cases(k3 z).1
    ·have e:Zaj hit x (g,true) p=(g,true):=by unfold Zaj;rw[if_pos hp,if_pos rfl]
     rw[e];obtain⟨k1,k2,k3⟩:=ih (g,true) h
     refine⟨k1,?_,fun z=>?_⟩
     ·rw[k2];simp[hp]
     ·cases(k3 z).1
 obtain⟨k1,k2,k3⟩:=key L ([],false) rfl;rw[List.filter_nil,Xh]at k2
 exact⟨k1,k2,fun z=>(k3 z).2⟩
theorem Zm4{ps qs:List Pq}{s t:BA}{S:Lp}(h:qs.map tl2=S)(hone:S.filter (fun p=>p.1==tl s)=[(tl s,tl t)])(hno:S.filter (fun p=>!(p.1==tl s))=(ps.map tl2).filter (fun p=>!(p.1==tl s))):(qs.filter (nameQ s)).length=1∧(∀p∈qs,nameQ s p=true→p.2=t)∧ps.filter (Zcg 0 s t)=qs.filter (Zcg 0 s t):=by
 have hm:=name_map s qs;rw[h,hone]at hm
 refine⟨by have:=congrArg List.length hm;simpa using this,fun p hp hn=>?_,Zed ?_⟩
 ·have h1:tl2 p∈(qs.filter (nameQ s)).map tl2:=Xd.2 ⟨p,Xk.2 ⟨hp,hn⟩,rfl⟩
  rw[hm,List.mem_singleton]at h1;exact Za4 (congrArg Prod.snd h1)
 ·have e:∀l:List Pq,(l.filter (Zcg 0 s t)).map tl2=(l.map tl2).filter (fun p=>!(p.1==tl s)):=by
   intro l;have:=Zd7 s t false l
   refine this.trans ?_
   congr 1
   funext p
   simp[hitP]
  rw[e,e,h,hno]
def chM(kd c:Int)(s t:List UInt8)(L:Lp):Except Int Lp:=if kd=0 then Zpj s t L else if kd=1 then Zq6 s t (c==1) L else if kd=2 then Zna s t L else .ok (Zav ltB L)
theorem Zpw{kd c j:Int}{s t:LB}{L:Lp}(h:chM kd c s t L=.error j):(j=1∧(160<s.length∨160<t.length))∨(j=5∧¬(160<s.length∨160<t.length)∧16≤L.length):=by
 unfold chM Zpj Zq6 Zna at h
 repeat' split at h
 all_goals first|(cases h;exact Or.inl ⟨rfl,by assumption⟩)|(cases h;exact Or.inr ⟨rfl,by assumption,by assumption⟩)|cases h
theorem ZtH{kd c:Int}{s t l:LB}{S:Lp}(hl:l.length≤4320)(h:chM kd c s t (Zh l)=.ok S):FitL S:=by
 obtain⟨h1,h2⟩:=ZdM hl;unfold chM Zpj Zq6 Zna at h
 repeat' split at h
 all_goals first|cases h|skip
 all_goals first
  | exact Zkt (by omega) (by omega) h1 h2
  | exact⟨fun p hp=>h1.cl p (Xk.1 hp).1,Nat.le_trans (Zgh _ _) h1.wd⟩
  | exact Zlw (by omega) (by omega) h1 h2
  | exact⟨Zls h1.cl,by rw[Zjq];exact h1.wd⟩
theorem Zgm{l:LB}(h:ZaI l=true):clean l=l:=Zcc (fun b hb=>by
 have:=Xc.1 h b hb;simp only[Bool.and_eq_true,decide_eq_true_eq]at this
 omega)
theorem Zm5{kd c:Int}{s t:BA}{L S:Lp}{ps qs:List Pq}(hkd:kd=0∨kd=1∨kd=2∨kd=3)(hM:chM kd c (tl s) (tl t) L=.ok S)(h1:ps.map tl2=L)(h2:qs.map tl2=S)(hL:FitL L)(hS:FitL S)(hs:s.size≤maxLen)(ht:t.size≤maxLen)
  (v1 v2:Value) (w:World) (hp1:PlAt w v1 ps) (hp2:PlAt w v2 qs):
  Calls Tryz.prog 64 #[v1,v2,.agg #[.int .i64 kd,.int .i64 c,.string s,.string t]] w fun e w'=>e=.returned (.bool true)∧Nx w w':=by
 obtain⟨l1,z1⟩:=ZcJ hL h1;obtain⟨l2,z2⟩:=ZcJ hS h2
 by_cases h3:kd=3
 ·subst h3
  unfold chM at hM
  rw[if_neg (by decide),if_neg (by decide),if_neg (by decide)]at hM
  cases hM
  obtain⟨k1,k2,k3,k4⟩:=ZkK h1 h2 hL.cl
  exact ZkF v1 v2 ps qs c s t w hp1 hp2 l1 l2 hs ht (fun p hp=>(z2 p hp).1) k1 k2 ⟨k3,k4⟩
 ·by_cases hpl:ZaI (tl s)=true∧ZaI (tl t)=true
  ·have e1:=Zgm hpl.1
   have e2:=Zgm hpl.2;rcases hkd with rfl|rfl|rfl|rfl
   ·unfold chM Zpj at hM
    rw[if_pos rfl]at hM
    split at hM
    ·cases hM
    ·split at hM
     ·cases hM
     ·cases hM
      rw[e1,e2,←h1]at h2;exact Zib v1 v2 ps qs c s t w hp1 hp2 l1 l2 hs ht hpl (Zm1 h2)
   ·unfold chM Zq6 at hM
    rw[if_neg (by decide),if_pos rfl]at hM
    split at hM
    ·cases hM
    ·cases hM
     rw[e1,e2,←h1]at h2;exact Zic v1 v2 ps qs c s t w hp1 hp2 l1 l2 hs ht hpl (Zm2 h2)
   ·unfold chM Zna at hM
    rw[if_neg (by decide),if_neg (by decide),if_pos rfl,e1,e2]at hM
    obtain⟨f1,f2,f3⟩:=Zm3 (hit:=fun p:LB×LB=>p.1==tl s) (x:=(tl s,tl t)) (by simp) L
    have fin:S.filter (fun p=>p.1==tl s)=[(tl s,tl t)]∧S.filter (fun p=>!(p.1==tl s))=(ps.map tl2).filter (fun p=>!(p.1==tl s)):=by
     split at hM
     ·cases hM
     ·split at hM
      ·next hf=>
       cases hM
       rw[f1,if_pos hf,h1];exact⟨rfl,f2⟩
      ·next hf=>
       split at hM
       ·cases hM
       ·cases hM
        have f4:=f3 (by simpa using hf)
        rw[Xa,Xa,f4,h1]
        simp
    obtain⟨k1,k2,k3⟩:=Zm4 h2 fin.1 fin.2;exact Zm0 v1 v2 ps qs c s t w hp1 hp2 l1 l2 hs ht hpl k1 k2 k3
   ·exact absurd rfl h3
  ·refine ZkG v1 v2 ps qs kd c s t w hp1 hp2 l1 l2 hs ht (beq_eq_false_iff_ne.2 h3) ?_
   cases e1:ZaI (tl s)
   ·rfl
   ·cases e2:ZaI (tl t)
    ·rfl
    ·exact absurd ⟨e1,e2⟩ hpl
theorem ZsY{u:U}(S:Lp)(h:(pathU u).length≤9000):(pathU (ZS u S)).length≤9000:=by
 rcases Zgl (Zco u S)with e|⟨-,e⟩
 ·rw[e];exact h
 ·rw[e];have:=ZmA (pathU u);omega
theorem Zm6{u:U}(hst:St u)(S:Lp){c:UInt8}{r:LB}(h:pathU u=c::r)(hc:c=47):pathU (ZS u S)=pathU u:=by
 rcases Zgl (Zco u S)with e|⟨ho,e⟩
 ·exact e
 ·exfalso
  have h1:=(hst.st.opq ho).2.2.1;have h2:pathU u=u.opath:=if_pos ho;rw[←h2,h,hc,ZbN]at h1
  cases h1
theorem Zm7(u:U):Z4 (ZS u [])=[]∧(ZS u []).hq=false:=by
 have e:ZS u []=ZbZ u:=if_pos rfl;rw[e];unfold ZbZ Zbe Z4 ZaL
 split<;>exact⟨rfl,rfl⟩
theorem ZkL{u:U}{S:Lp}(h:S≠[]):Z4 (ZS u S)=63::ZR S:=by
 have e:ZS u S={ u with hq:=true,q:=ZR S }:=if_neg h
 have hne:ZR S≠[]:=by
  cases S with
  | nil=>exact absurd rfl h
  | cons p r=>
   unfold ZR;rw[List.map_cons]
   show(if r.map writePr=[]then writePr p else writePr p++38::Zbt 38 (r.map writePr))≠[]
   unfold writePr
   split<;>simp
 rw[e];unfold Z4 ZaL;rw[if_neg hne]
 rfl
end Go.Proofs.YtchkhibgbnhjpabGreatDoor
