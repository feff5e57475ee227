import Derived.Test.YtchkhibgbnhjpabGreatDoorV21
import Derived.Test.YtchkhibgbnhjpabGreatDoorT05
import Derived.Maps.AppendAt
open Array renaming getElem?_eq_some_iff→Xc
open List renaming length_filter_le→Xa,append_nil→Xb,mem_map→Xe,length_take_le→Xf,length_append→Xg,filter_congr→Xh,filter_map→Xi,length_map→Xj,map_map→Xk
open Nat renaming zero_le→Xd
namespace Go.Proofs.YtchkhibgbnhjpabGreatDoor
open Go.RowKit
set_option maxHeartbeats 4000000
set_option maxRecDepth 8000
def ZvD(c:UInt8):List (List UInt8)→List UInt8
 | []=>[]
 | a::r=>if r=[]then a else a++c::ZvD c r
def formB:List UInt8:=tl (ZaN 7)
def Zvt(l:List UInt8):List UInt8:=ZvD 43 ((bsplit 32 l).map fun p=>encB formB (clean p))
def ZxS(p:List UInt8×List UInt8):List UInt8:=Zvt p.1++61::Zvt p.2
def Zvk(ps:List (List UInt8×List UInt8)):List UInt8:=ZvD 38 (ps.map ZxS)
def Zvf(b:UInt8):List UInt8:=if b=32 then [43]else ZN formB b
def Cpt(l:List UInt8):Prop:=∃p,l=Zn p∧∀c∈p,Sc c
theorem ZAx(l:LB):Cpt (clean l):=⟨Z1 l,Zi5 l,ZnC l⟩
theorem Cpt.clean{l:LB}(h:Cpt l):clean l=l:=by obtain⟨p,rfl,hp⟩:=h;exact Zee p hp
theorem ZBd(b:UInt8):isB 32 b=true↔b=32:=by
 unfold isB;rw[beq_iff_eq]
 constructor
 ·intro h
  exact UInt8.toNat_inj.1 (show b.toNat=(32:UInt8).toNat by show b.toNat=32;omega)
 ·rintro rfl;rfl
theorem Zyq(l:LB):ZvD 43 ((bsplit 32 l).map (encB formB))=l.flatMap Zvf:=by
 induction l with
 | nil=>rfl
 | cons c r ih=>
  obtain⟨p,q,hpq⟩:=Zb7 32 r;rw[List.flatMap_cons,←ih]
  by_cases hc:isB 32 c=true
  ·rw[show bsplit 32 (c::r)=[]::bsplit 32 r by rw[bsplit,if_pos hc],hpq,Zvf,if_pos ((ZBd c).1 hc)]
   show(if(p::q).map (encB formB)=[]then encB formB []else encB formB []++43::ZvD 43 ((p::q).map (encB formB)))=_
   rw[if_neg (by simp)]
   rfl
  ·rw[show bsplit 32 (c::r)=(c::p)::q by rw[bsplit,if_neg hc,hpq],hpq,Zvf,if_neg (fun e=>hc ((ZBd c).2 e))]
   show(if q.map (encB formB)=[]then encB formB (c::p)else encB formB (c::p)++43::ZvD 43 (q.map (encB formB)))=ZN formB c++(if q.map (encB formB)=[]then encB formB p else encB formB p++43::ZvD 43 (q.map (encB formB)))
   rw[Zdk]
   split
   ·rfl
   ·rw[List.append_assoc]
theorem ZvN{l:LB}(h:Cpt l):Zvt l=l.flatMap Zvf:=by
 rw[←Zyq];unfold Zvt;obtain⟨p,rfl,hp⟩:=h
 have hpt:∀c∈p,Pt c:=fun c hc=>(hp c hc).pt
 rw[Zgq (n:=32) (t:=32) (by decide) (by decide) rfl p hpt,Xk,Xk]
 congr 1
 apply List.map_congr_left
 intro a ha
 show encB formB (clean (Zn a))=encB formB (Zn a)
 rw[Zee a (fun c hc=>hp c (((Zok p [32]).2 a ha).2 c hc))]
def ZBc(p:List UInt8×List UInt8):Prop:=Cpt p.1∧Cpt p.2
theorem ZxT{n:Int}:∀ {a:LB},(∀x∈a,isB n x=false)→bsplit n a=[a]:=by
 intro a
 induction a with
 | nil=>intro _;rfl
 | cons c r ih=>
  intro h;unfold bsplit
  rw[if_neg (by rw[h c (by simp)];decide),ih (fun x hx=>h x (List.mem_cons_of_mem _ hx))]
theorem Zxr(l:LB):Cpt (Zb8 l):=ZAx _
theorem Zyr(l:LB):∀p∈Zh l,ZBc p:=by intro p hp;obtain⟨a,-,rfl⟩:=Xe.1 hp;exact⟨Zxr _,Zxr _⟩
def ZBe(ls:List (List UInt8)):Nat:=(ls.map fun x=>x.length+1).sum
theorem Zxs(a:LB)(r:List LB):ZBe (a::r)=a.length+1+ZBe r:=by simp[ZBe]
theorem Zzk(c:UInt8):∀ {ls:List LB},ls≠[]→(ZvD c ls).length+1=ZBe ls:=by
 intro ls
 induction ls with
 | nil=>intro h;exact absurd rfl h
 | cons a r ih=>
  intro _;rw[Zxs]
  show(if r=[]then a else a++c::ZvD c r).length+1=_
  by_cases hr:r=[]
  ·rw[if_pos hr,hr];rfl
  ·rw[if_neg hr,Xg,List.length_cons,←ih hr];omega
theorem ZAy(c:UInt8)(ls:List LB):(ZvD c ls).length≤ZBe ls:=by
 by_cases h:ls=[]
 ·subst h;exact Nat.le_refl _
 ·have:=Zzk c h;omega
def hitP(n v:List UInt8)(valued:Bool)(p:List UInt8×List UInt8):Bool:=p.1==n&&(!valued||p.2==v)
def ZwE(n v:ByteArray)(valued:Bool)(p:Pq):Bool:=p.1.toList==n.toList&&(!valued||p.2.toList==v.toList)
theorem hitQ_eq(n v:BA)(valued:Bool)(p:Pq):ZwE n v valued p=hitP (tl n) (tl v) valued (tl2 p):=by
 unfold ZwE hitP tl2;rw[ByteArray.toList_eq,ByteArray.toList_eq,ByteArray.toList_eq,ByteArray.toList_eq]
 rfl
theorem filter_tl2(n v:BA)(valued:Bool)(ps:List Pq):(ps.filter (ZwE n v valued)).map tl2=(ps.map tl2).filter (hitP (tl n) (tl v) valued):=by
 rw[Xi]
 congr 1
 apply Xh
 intro p _;exact hitQ_eq n v valued p
theorem ZxU(n v:BA)(valued:Bool)(ps:List Pq):(ps.filter (fun p=>!ZwE n v valued p)).map tl2=(ps.map tl2).filter (fun p=>!hitP (tl n) (tl v) valued p):=by
 rw[Xi]
 congr 1
 apply Xh
 intro p _
 show(!ZwE n v valued p)=!hitP (tl n) (tl v) valued (tl2 p)
 rw[hitQ_eq n v valued p]
theorem Zwi{α:Type}(f:α→Bool)(l:List α)(k:Nat)(h:k<l.length):(l.take (k+1)).filter f=(l.take k).filter f++if f l[k]then [l[k]]else []:=by
 rw[List.take_succ_eq_append_getElem h,List.filter_append]
 cases hf:f l[k]<;>simp[hf]
def Sep(v v2:Value):Prop:=∀k,v.ownBlock=some k→v2.ownBlock≠some k
theorem Sep.symm{v v2:Value}(h:Sep v v2):Sep v2 v:=fun k h1 h2=>h k h2 h1
theorem Zwj{ops:Array Oper}{rest:List Oper}{o:Oper}{a:Act}{Q:Exit→Act→World→Prop}(w:World)(p:Pq)
  (hgd:o.guard=none) (s x:Operand) (ho:o.op=.call { callee:=.builtin .append,args:=#[s,x],argTypes:=#[68,68] })
  (base:Nat) (v:Value) (ps:List Pq) (hs:a.eval s=v) (hown:OwnP w base v ps) (v2:Value) (qs:List Pq) (hown2:OwnP w base v2 qs) (hsep:Sep v v2) (hx:a.eval x=.slice (some ⟨w.heap.size,0,none⟩) 1 1)
  (hn:ps.length<1000000000000) (hbase:base≤w.heap.size)
  (h:∀v' w',OwnP w' base v' (ps++[p])→OwnP w' base v2 qs→Sep v' v2→Below base w w'→wpList Tryz.prog ops Q rest (a.put o.dst v') w'):
  wpList Tryz.prog ops Q (o::rest) a (w.alloc (.cells #[.string p.1,.string p.2] 113)):=by
 obtain⟨i,hi,hz0,hz1,hz2⟩:=info_parts Zhx;have own1:=World.ownsRow.alloc hown (.cells #[.string p.1,.string p.2] 113);have own2:=World.ownsRow.alloc hown2 (.cells #[.string p.1,.string p.2] 113)
 refine wpList_append_own_at _ hgd s x 68 ho base 113 i _ 2 32 Tryz.underlying68 hi hz0 hz1 hz2 rfl (by decide) v ps.length _ hs own1 ⟨w.heap.size,0,none⟩ 1 1 [.string p.1,.string p.2] hx rfl (Zzl (by simp) (by simp)) (by simp[Value.oneCell']) (by unfold maxLen;omega) (by omega) (by simp;omega) ?_
 intro v' w' q1 q2 _ q3
 have hlt2:∀k,v2.ownBlock=some k→k<(w.alloc (.cells #[.string p.1,.string p.2] 113)).heap.size:=fun k hk=>(own2.lt k hk).2
 refine h v' w' ?_ (own2.kept q2 ?_) ?_ (((Below.refl base w).alloc hbase _).trans ((Below.refl base _).grown q2 (by simp;omega) (fun k hk=>(own1.lt k hk).1)))
 ·unfold OwnP
  rw[Xg,Zys];exact q1
 ·cases hv:v2.ownBlock with
  | none=>exact Or.inl rfl
  | some k=>exact Or.inr (fun e=>hsep k e.symm hv)
 ·intro k h1 h2
  rcases q3 with q3|q3
  ·exact hsep k (q3 ▸ h1) h2
  ·rw[q3]at h1
   have:=hlt2 k h2;have:=Option.some.inj h1
   omega
theorem ZwJ(w:World)(base:Nat)(h:base≤w.heap.size):OwnP (w.alloc (.cells #[] 113)) base (.slice (some ⟨w.heap.size,0,none⟩) 0 0) []:=
 World.ownsRow_made w #[] 0 h (Xd _) rfl
theorem ZwK(v:Value)(ps:List Pq)(n x:BA)(valued:Bool)(w:World)(hp:PlAt w v ps)(hl:ps.length≤1000000)(hn:n.size≤1000000)(hx:x.size≤1000000):Calls Tryz.prog 151 #[v,.string n,.string x,.bool valued] w fun e w'=>∃a b fs os,e=.returned (.tuple #[a,b])∧OwnP w' w.heap.size a fs∧OwnP w' w.heap.size b os∧Sep a b∧fs.map tl2=(ps.map tl2).filter (hitP (clean (tl n)) (clean (tl x)) valued)∧os.map tl2=(ps.map tl2).filter (fun p=>!hitP (clean (tl n)) (clean (tl x)) valued p)∧fs.length≤ps.length∧os.length≤ps.length∧Nx w w':=by
 have HP:=Za hp;obtain⟨ao,cap,rfl,hlc,hcap,hnone,hsome⟩:=hp;unfold maxLen at hcap
 go_enter Tryz.func151,Tryz.ntmps151
 go_wp2_with fail
 refine(Zbo n _ hn).mono ?_
 rintro e w1 ⟨nm,rfl,hnm,hn1⟩;have HN1:=Za hn1;have HNM:=Za hnm;clear hn1 hnm;go_wp2_with fail
 refine(Zbo x _ hx).mono ?_
 rintro e w2 ⟨vl,rfl,hvl,hn2⟩;have HN2:=Za (HN1.out.then hn2);have HVL:=Za hvl;have hz2:=HN2.out.size;clear hn2 hvl HN1;go_wp2
 go_loopw [12,13,14] (fun o1 o2 i wr=>∃k:Nat,k≤ps.length∧i=.int .i64 k∧OwnP wr w.heap.size o1 ((ps.take k).filter (ZwE nm vl valued))∧OwnP wr w.heap.size o2 ((ps.take k).filter (fun p=>!ZwE nm vl valued p))∧Sep o1 o2∧Nx w wr) (fun _ _ i _=>ps.length-(intOf i).toNat)
 case atStart=>
  refine⟨0,Xd _,rfl,World.ownsRow.alloc (ZwJ w2 _ hz2) _,(by have h:=ZwJ (w2.alloc (.cells #[] 113)) w.heap.size (Nat.le_trans hz2 (Nx.rfl.alloc _).size);rw[show(w2.alloc (.cells #[] 113)).heap.size=w2.heap.size+1 by simp]at h;exact h),?_,(HN2.out.then (Nx.rfl.alloc _)).then (Nx.rfl.alloc _)⟩
  intro k h1 h2;simp only[Value.ownBlock,Option.some.injEq]at h1 h2
  omega
 case round=>
  obtain⟨k,hk,rfl,hO1,hO2,hsep,hnx⟩:=hrel;have HO1:=Za hO1;have HO2:=Za hO2;have HSP:=Za hsep;have HN:=Za hnx;have hzr:=hnx.size;clear hO1 hO2 hsep
  by_cases hlt:k<ps.length
  ·obtain⟨a,ha⟩:=Za6 hlt hnone
   subst ha;obtain⟨b,off,rfl,hr⟩:=hsome a rfl;obtain⟨c0,c1⟩:=(hr.on hnx).cell hlt;have HS1:=Za (Zwi (ZwE nm vl valued) ps k hlt)
   have HS2:=Za (Zwi (fun p=>!ZwE nm vl valued p) ps k hlt)
   have hl1:((ps.take k).filter (ZwE nm vl valued)).length<1000000000000:=by
    have h1:=Xa (ZwE nm vl valued) (ps.take k);have h2:=Xf k ps
    omega
   have hl2:((ps.take k).filter (fun p=>!ZwE nm vl valued p)).length<1000000000000:=by
    have h1:=Xa (fun p=>!ZwE nm vl valued p) (ps.take k)
    have h2:=Xf k ps
    omega
   clear hnone hsome hr hnx;generalize ps[k]=c at *;obtain⟨cn,cv⟩:=c;simp only at c0 c1
   have HQ:=Za (show ZwE nm vl valued (cn,cv)=(cn.toList==nm.toList&&(!valued||cv.toList==vl.toList))from rfl)
   cases hd1:(cn.toList==nm.toList)
   ·cases valued
    ·skip
     have HM:=Za (show ZwE nm vl false (cn,cv)=false by rw[HQ.out,hd1];rfl)
     clear HQ
     go_wp2_with (at_builtin;go_must (refine Zwj wr (cn,cv) rfl _ _ rfl w.heap.size _ _ rfl HO2.out _ _ HO1.out HSP.out.symm rfl hl2 hzr ?_;intro v' w3 ho2 ho1 hsp hb3;have HA:=Za ho2;have HB:=Za ho1;have HC:=Za hsp;clear ho2 ho1 hsp))
     go_roundw
     case rel=>exact⟨k+1,by omega,by go_num,by rw[HS1.out,HM.out,if_neg (by decide),Xb];exact HB.out,by rw[HS2.out,HM.out,if_pos (by decide)];exact HA.out,HC.out.symm,HN.out.trans hb3⟩
     case measure=>simp[intOf];omega
    ·skip
     have HM:=Za (show ZwE nm vl true (cn,cv)=false by rw[HQ.out,hd1];rfl)
     clear HQ
     go_wp2_with (at_builtin;go_must (refine Zwj wr (cn,cv) rfl _ _ rfl w.heap.size _ _ rfl HO2.out _ _ HO1.out HSP.out.symm rfl hl2 hzr ?_;intro v' w3 ho2 ho1 hsp hb3;have HA:=Za ho2;have HB:=Za ho1;have HC:=Za hsp;clear ho2 ho1 hsp))
     go_roundw
     case rel=>exact⟨k+1,by omega,by go_num,by rw[HS1.out,HM.out,if_neg (by decide),Xb];exact HB.out,by rw[HS2.out,HM.out,if_pos (by decide)];exact HA.out,HC.out.symm,HN.out.trans hb3⟩
     case measure=>simp[intOf];omega
   ·cases valued
    ·skip
     have HM:=Za (show ZwE nm vl false (cn,cv)=true by rw[HQ.out,hd1];rfl)
     clear HQ
     go_wp2_with (at_builtin;go_must (refine Zwj wr (cn,cv) rfl _ _ rfl w.heap.size _ _ rfl HO1.out _ _ HO2.out HSP.out rfl hl1 hzr ?_;intro v' w3 ho1 ho2 hsp hb3;have HA:=Za ho1;have HB:=Za ho2;have HC:=Za hsp;clear ho2 ho1 hsp))
     go_roundw
     case rel=>exact⟨k+1,by omega,by go_num,by rw[HS1.out,HM.out,if_pos rfl];exact HA.out,by rw[HS2.out,HM.out,if_neg (by decide),Xb];exact HB.out,HC.out,HN.out.trans hb3⟩
     case measure=>simp[intOf];omega
    ·cases hd2:(cv.toList==vl.toList)
     ·skip
      have HM:=Za (show ZwE nm vl true (cn,cv)=false by rw[HQ.out,hd1,hd2];rfl)
      clear HQ
      go_wp2_with (at_builtin;go_must (refine Zwj wr (cn,cv) rfl _ _ rfl w.heap.size _ _ rfl HO2.out _ _ HO1.out HSP.out.symm rfl hl2 hzr ?_;intro v' w3 ho2 ho1 hsp hb3;have HA:=Za ho2;have HB:=Za ho1;have HC:=Za hsp;clear ho2 ho1 hsp))
      go_roundw
      case rel=>exact⟨k+1,by omega,by go_num,by rw[HS1.out,HM.out,if_neg (by decide),Xb];exact HB.out,by rw[HS2.out,HM.out,if_pos (by decide)];exact HA.out,HC.out.symm,HN.out.trans hb3⟩
      case measure=>simp[intOf];omega
     ·skip
      have HM:=Za (show ZwE nm vl true (cn,cv)=true by rw[HQ.out,hd1,hd2];rfl)
      clear HQ
      go_wp2_with (at_builtin;go_must (refine Zwj wr (cn,cv) rfl _ _ rfl w.heap.size _ _ rfl HO1.out _ _ HO2.out HSP.out rfl hl1 hzr ?_;intro v' w3 ho1 ho2 hsp hb3;have HA:=Za ho1;have HB:=Za ho2;have HC:=Za hsp;clear ho2 ho1 hsp))
      go_roundw
      case rel=>exact⟨k+1,by omega,by go_num,by rw[HS1.out,HM.out,if_pos rfl];exact HA.out,by rw[HS2.out,HM.out,if_neg (by decide),Xb];exact HB.out,HC.out,HN.out.trans hb3⟩
      case measure=>simp[intOf];omega
  ·have e:ps.take k=ps:=List.take_of_length_le (by omega)
   have HF1:=Za (show OwnP wr w.heap.size _ (ps.filter (ZwE nm vl valued))by have h:=HO1.out;rw[e]at h;exact h)
   have HF2:=Za (show OwnP wr w.heap.size _ (ps.filter (fun p=>!ZwE nm vl valued p))by have h:=HO2.out;rw[e]at h;exact h)
   have HG1:=Za ((filter_tl2 nm vl valued ps).trans (by rw[HNM.out,HVL.out]))
   have HG2:=Za ((ZxU nm vl valued ps).trans (by rw[HNM.out,HVL.out]))
   clear hnone hsome hnx e;go_wp2;go_ret2;exact⟨_,_,_,_,rfl,HF1.out,HF2.out,HSP.out,HG1.out,HG2.out,Xa _ _,Xa _ _,HN.out⟩
theorem ZAz(v:Value)(ps:List Pq)(n x:BA)(valued:Bool)(w:World)(hp:PlAt w v ps)(hl:ps.length≤1000000)(hn:n.size≤1000000)(hx:x.size≤1000000):Calls Tryz.prog 100 #[v,.string n,.string x,.bool valued] w fun e w'=>e=.returned (.bool (decide (0<((ps.map tl2).filter (hitP (clean (tl n)) (clean (tl x)) valued)).length)))∧Nx w w':=by
 obtain⟨ao,cap,hve,-⟩:=id hp;subst hve
 go_enter Tryz.func100,Tryz.ntmps100
 go_wp2_with fail
 refine(ZwK _ ps n x valued _ hp hl hn hx).mono ?_
 rintro e w1 ⟨a,b,fs,os,rfl,h1,h2,-,h3,-,h5,-,hn1⟩;obtain⟨ao1,cp1,rfl⟩:=ZvO h1;obtain⟨ao2,cp2,rfl⟩:=ZvO h2;have HN:=Za hn1
 have HE:=Za (show fs.length=((ps.map tl2).filter (hitP (clean (tl n)) (clean (tl x)) valued)).length by rw[←h3,Xj])
 clear h1 h2 h3 hn1 hp;go_wp2;go_ret
 exact⟨Zi (by rw[HE.out,Bool.eq_iff_iff]<;>simp),HN.out⟩
def Zyi(l:List (List UInt8×List UInt8)):List UInt8:=match l with | []=>[]|p::_=>p.2
theorem Zyt(v:Value)(ps:List Pq)(n:BA)(w:World)(hp:PlAt w v ps)(hl:ps.length≤1000000)(hn:n.size≤1000000):Calls Tryz.prog 98 #[v,.string n] w fun e w'=>∃r:BA,e=.returned (.tuple #[.string r,.bool (decide (0<((ps.map tl2).filter (hitP (clean (tl n)) [] false)).length))])∧tl r=Zyi ((ps.map tl2).filter (hitP (clean (tl n)) [] false))∧Nx w w':=by
 obtain⟨ao,cap,hve,-⟩:=id hp;subst hve;generalize hF:(ps.map tl2).filter (hitP (clean (tl n)) [] false)=F;have HFF:=Za hF;clear hF
 go_enter Tryz.func98,Tryz.ntmps98
 go_wp2_with fail
 refine(ZwK _ ps n ⟨#[]⟩ false _ hp hl hn (by decide)).mono ?_
 rintro e w1 ⟨a,b,fs,os,rfl,h1,h2,-,h3,-,h5,-,hn1⟩;rw[show clean (tl (⟨#[]⟩:BA))=[]from clean_nil,HFF.out]at h3;obtain⟨ao2,cp2,rfl⟩:=ZvO h2;have hpl:=OwnP.at h1;obtain⟨ao1,cp1,rfl,hlc,hcap,hnone,hsome⟩:=hpl;unfold maxLen at hcap;have HN:=Za hn1
 cases fs with
 | nil=>
  have HF:=Za (show F=[]from h3.symm);clear h1 h2 h3 hn1 hp hnone hsome;simp only[List.length_nil];go_wp2;go_ret2
  exact⟨⟨#[]⟩,by rw[HF.out];rfl,by rw[HF.out];rfl,HN.out⟩
 | cons p r=>
  have HF:=Za (show F=tl2 p::r.map tl2 from h3.symm)
  have hpos:0<(p::r).length:=by simp
  obtain⟨a,ha⟩:=Za6 hpos hnone;subst ha;obtain⟨b,off,rfl,hr⟩:=hsome a rfl;obtain⟨c0,c1⟩:=hr.cell hpos
  have h0':(((p::r).length:Int)==0)=false:=beq_eq_false_iff_ne.2 (by omega)
  simp only[Nat.zero_mul,Nat.add_zero,List.getElem_cons_zero]at c0 c1;clear h1 h2 h3 hn1 hp hnone hsome hr;generalize (p::r).length=m at *;go_wp2;go_ret2
  exact⟨p.2,by rw[HF.out,decide_eq_true (show 0<(tl2 p::r.map tl2).length by simp)];rfl,by rw[HF.out];rfl,HN.out⟩
def FullS(w:World)(nb:Nat)(ss:List ByteArray):Prop:=w.heap[nb]?=some (Obj.cells (ss.map Value.string).toArray 9 (0,0))
theorem FullS.on{w w':World}{nb:Nat}{ss:LA}(h:FullS w nb ss)(hb:Nx w w'):FullS w' nb ss:=(hb.block nb (Xc.1 h).1).trans h
theorem FullS.lt{w:World}{nb:Nat}{ss:LA}(h:FullS w nb ss):nb<w.heap.size:=(Xc.1 h).1
theorem FullS.cell{w:World}{nb:Nat}{ss:LA}(h:FullS w nb ss){k:Nat}(hk:k<ss.length):w.cell? ⟨nb,k,none⟩=some (.string ss[k]):=by
 unfold FullS at h
 simp[World.cell?,h,hk]
theorem FullS.free{w:World}{nb:Nat}{ss:LA}(h:FullS w nb ss)(i:Nat):w.frozen? ⟨nb,i,none⟩=false:=by
 unfold FullS at h
 simp[World.frozen?,h]
theorem FullS.set{w:World}{nb:Nat}{ss:LA}(h:FullS w nb ss)(k:Nat)(n:BA):FullS (w.setCell ⟨nb,k,none⟩ (.string n)) nb (ss.set k n):=by
 unfold FullS at *;simp only[World.setCell,Array.getElem?_modify,if_pos,h]
 simp[List.map_set]
def StrIs(w:World)(base:Nat)(v:Value)(ss:List ByteArray):Prop:=(ss=[]∧v=.slice none 0 0)∨(0<ss.length∧∃nb,base≤nb∧v=.slice (some ⟨nb,0,none⟩) ss.length ss.length∧FullS w nb ss)
theorem ZvP{s:BA}(h:s.size≤160):s.size≤maxLen:=by unfold maxLen;omega
theorem ZxV{ps:List Pq}{l:LB}(h:ps.map tl2=Zh l)(hl:l.length≤300000):∀p∈ps,p.1.size≤1000000∧p.2.size≤1000000:=by
 intro p hp
 have hm:tl2 p∈Zh l:=by rw[←h];exact Xe.2 ⟨p,hp,rfl⟩
 obtain⟨a,ha,he⟩:=Xe.1 hm;have h1:=ZlH a;have h2:=ZgO ha;rw[he]at h1;obtain⟨g1,g2⟩:=h1;have e1:(tl2 p).1.length=p.1.size:=tl_length _;have e2:(tl2 p).2.length=p.2.size:=tl_length _
 omega
theorem PrsIs.slice{w:World}{base:Nat}{v:Value}{ps:List Pq}(h:PrsIs w base v ps):∃ao cap,v=.slice ao ps.length cap:=by
 rcases h with⟨rfl,rfl⟩|⟨-,nb,-,rfl,-⟩
 ·exact⟨none,0,rfl⟩
 ·exact⟨_,_,rfl⟩
theorem ZvE(a b:BA)(w:World)(ha:a.size≤maxLen)(hb:b.size≤maxLen):Calls Tryz.prog 97 #[.string a,.string b] w fun e w'=>e=.returned (.bool (decide (160<a.size∨160<b.size)))∧w=w':=by
 unfold maxLen at ha hb
 by_cases h1:160<a.size
 ·have h1':decide ((160:Int)<(a.size:Int))=true:=decide_eq_true (by omega)
  go_enter Tryz.func97,Tryz.ntmps97
  go_wp2;go_ret
  exact⟨Zi (by rw[decide_eq_true (Or.inl h1)]),rfl⟩
 ·have h1':decide ((160:Int)<(a.size:Int))=false:=decide_eq_false (by omega)
  by_cases h2:160<b.size
  ·have h2':decide ((160:Int)<(b.size:Int))=true:=decide_eq_true (by omega)
   go_enter Tryz.func97,Tryz.ntmps97
   go_wp2;go_ret
   exact⟨Zi (by rw[decide_eq_true (Or.inr h2)]),rfl⟩
  ·have h2':decide ((160:Int)<(b.size:Int))=false:=decide_eq_false (by omega)
   go_enter Tryz.func97,Tryz.ntmps97
   go_wp2;go_ret
   exact⟨Zi (by rw[decide_eq_false (by omega)]),rfl⟩
theorem Zzn(pb:Nat)(r:Rc)(u:U)(bs:LA)(w:World)(h0:UrlB w pb r)(h:RcIs w r u bs):Calls Tryz.prog 55 #[.pointer (some ⟨pb,0,none⟩)] w fun e w'=>e=.returned (.int .i64 ((Zh u.q).length:Int))∧Nx w w':=by
 go_enter Tryz.func55,Tryz.ntmps55
 go_wp2_with fail
 refine(Zv2 pb r u bs _ h0 h).mono ?_
 rintro e w1 ⟨v,ps,rfl,h1,h2,h3⟩;obtain⟨ao,cap,rfl⟩:=h1.slice
 have HL:=Za (show ps.length=(Zh u.q).length by rw[←h2,Xj])
 have HN:=Za h3;clear h1 h2 h3 h0 h;go_wp2;go_ret
 exact⟨Zai (by rw[HL.out]),HN.out⟩
theorem Zxb{w:World}{r:Rc}{u:U}{bs:LA}(h:RcIs w r u bs):u.q.length≤300000:=by
 have e:tl r.q=u.q:=by rw[←h.eq];rfl
 rw[←e,tl_length];exact h.lq
theorem Zyu(pb:Nat)(r:Rc)(u:U)(bs:LA)(n:BA)(w:World)(h0:UrlB w pb r)(h:RcIs w r u bs)(hn:n.size≤160):Calls Tryz.prog 41 #[.pointer (some ⟨pb,0,none⟩),.string n] w fun e w'=>∃t:BA,e=.returned (.tuple #[.string t,.bool (decide (0<((Zh u.q).filter (hitP (clean (tl n)) [] false)).length))])∧tl t=Zyi ((Zh u.q).filter (hitP (clean (tl n)) [] false))∧Nx w w':=by
 go_enter Tryz.func41,Tryz.ntmps41
 go_wp2_with fail
 refine(ZvE n ⟨#[]⟩ _ (ZvP hn) (Zg (by decide))).mono ?_
 rintro e w' ⟨rfl,rfl⟩
 rw[decide_eq_false (show ¬(160<n.size∨160<(⟨#[]⟩:BA).size)by rintro(g|g);omega;exact absurd g (by decide))]
 go_wp2_with fail
 refine(Zv2 pb r u bs _ h0 h).mono ?_
 rintro e w1 ⟨v,ps,rfl,h1,h2,h3⟩;have hc:=ZuZ h2 (Zxb h);have HA:=Za (h1.at hc);have H2:=Za h2;have HN:=Za h3;obtain⟨ao,cap,rfl⟩:=h1.slice;clear h1 h2 h3 h0 h;go_wp2_with fail
 refine(Zyt _ ps n _ HA.out hc (by omega)).mono ?_
 rintro e w2 ⟨t,rfl,ht,hn2⟩;have HT:=Za ht;have HN2:=Za (HN.out.then hn2);clear ht hn2;go_wp2;go_ret2
 exact⟨t,by rw[H2.out];rfl,by rw[HT.out,H2.out],HN2.out⟩
theorem ZAA(pb:Nat)(r:Rc)(u:U)(bs:LA)(n x:BA)(valued:Bool)(w:World)(h0:UrlB w pb r)(h:RcIs w r u bs)(hn:n.size≤160)(hx:x.size≤160):Calls Tryz.prog 43 #[.pointer (some ⟨pb,0,none⟩),.string n,.string x,.bool valued] w fun e w'=>e=.returned (.bool (decide (0<((Zh u.q).filter (hitP (clean (tl n)) (clean (tl x)) valued)).length)))∧Nx w w':=by
 go_enter Tryz.func43,Tryz.ntmps43
 go_wp2_with fail
 refine(ZvE n x _ (ZvP hn) (ZvP hx)).mono ?_
 rintro e w' ⟨rfl,rfl⟩
 rw[decide_eq_false (show ¬(160<n.size∨160<x.size)by omega)]
 go_wp2_with fail
 refine(Zv2 pb r u bs _ h0 h).mono ?_
 rintro e w1 ⟨v,ps,rfl,h1,h2,h3⟩;have hc:=ZuZ h2 (Zxb h);have HA:=Za (h1.at hc);have H2:=Za h2;have HN:=Za h3;obtain⟨ao,cap,rfl⟩:=h1.slice;clear h1 h2 h3 h0 h;go_wp2_with fail
 refine(ZAz _ ps n x valued _ HA.out hc (by omega) (by omega)).mono ?_
 rintro e w2 ⟨rfl,hn2⟩;have HN2:=Za (HN.out.then hn2);clear hn2;go_wp2;go_ret
 exact⟨Zi (by rw[H2.out]),HN2.out⟩
def Zu9(u:U)(l:List (List UInt8×List UInt8)):U:=if l=[]then ZbZ u else { u with hq:=true,q:=Zvk l }
def ZvF(n:ByteArray)(p:Pq):Bool:=p.1.toList==n.toList
def Zwl(l:List Pq):ByteArray:=match l with | []=>⟨#[]⟩|p::_=>p.2
theorem Zyw(v:Value)(ps:List Pq)(n:BA)(w:World)(hp:PlAt w v ps):Calls Tryz.prog 95 #[v,.string n] w fun e w'=>e=.returned (.string (Zwl (ps.filter (ZvF n))))∧w=w':=by
 obtain⟨ao,cap,rfl,hlc,hcap,hnone,hsome⟩:=hp;unfold maxLen at hcap
 go_enter Tryz.func95,Tryz.ntmps95
 go_wp2
 go_loopw [5] (fun i wr=>∃k:Nat,k≤ps.length∧i=.int .i64 k∧ps.filter (ZvF n)=(ps.drop k).filter (ZvF n)∧w=wr) (fun i _=>ps.length-(intOf i).toNat)
 case atStart=>exact⟨0,Xd _,rfl,rfl,rfl⟩
 case round=>
  obtain⟨k,hk,rfl,hE,rfl⟩:=hrel;have HE:=Za hE;clear hE
  by_cases hlt:k<ps.length
  ·obtain⟨a,ha⟩:=Za6 hlt hnone
   subst ha;obtain⟨b,off,rfl,hr⟩:=hsome a rfl;obtain⟨c0,c1⟩:=hr.cell hlt;have HD:=Za (List.drop_eq_getElem_cons hlt);clear hnone hsome hr;generalize ps[k]=c at *;obtain⟨cn,cv⟩:=c;simp only at c0 c1;have HQ:=Za (show ZvF n (cn,cv)=(cn.toList==n.toList)from rfl)
   cases hd1:(cn.toList==n.toList)
   ·have HF:=Za (show ps.filter (ZvF n)=(ps.drop (k+1)).filter (ZvF n)by rw[HE.out,HD.out,List.filter_cons_of_neg (by rw[HQ.out,hd1];decide)])
    clear HQ;go_wp2
    go_roundw
    case rel=>exact⟨k+1,by omega,by go_num,HF.out,trivial⟩
    case measure=>simp[intOf];omega
   ·have HF:=Za (show Zwl (ps.filter (ZvF n))=cv by rw[HE.out,HD.out,List.filter_cons_of_pos (by rw[HQ.out,hd1])];rfl)
    clear HQ;go_wp2;go_ret
    exact⟨by rw[HF.out];rfl,rfl⟩
  ·have HF:=Za (show Zwl (ps.filter (ZvF n))=⟨#[]⟩by rw[HE.out,List.drop_of_length_le (by omega)];rfl)
   clear hnone hsome;go_wp2;go_ret
   exact⟨by rw[HF.out];rfl,rfl⟩
def OpK(w:World)(b:Nat)(kd c:Int)(s t:ByteArray):Prop:=w.heap[b]?=some (Obj.cells #[.int .i64 kd,.int .i64 c,.string s,.string t] 53 (0,0))
theorem OpK.on{w w':World}{b:Nat}{kd c:Int}{s t:BA}(h:OpK w b kd c s t)(hb:Nx w w'):OpK w' b kd c s t:=(hb.block b (Xc.1 h).1).trans h
theorem OpK.cells{w:World}{b:Nat}{kd c:Int}{s t:BA}(h:OpK w b kd c s t):w.cell? ⟨b,0,none⟩=some (.int .i64 kd)∧w.cell? ⟨b,1,none⟩=some (.int .i64 c)∧w.cell? ⟨b,2,none⟩=some (.string s)∧w.cell? ⟨b,3,none⟩=some (.string t):=by
 unfold OpK at h
 refine⟨?_,?_,?_,?_⟩<;>simp[World.cell?,h]
theorem OpK.free{w:World}{b:Nat}{kd c:Int}{s t:BA}(h:OpK w b kd c s t)(i:Nat):w.frozen? ⟨b,i,none⟩=false:=by
 unfold OpK at h
 simp[World.frozen?,h]
def signsB(c:Int):List UInt8→Bool
 | []=>false
 | b::r=>if(b.toNat:Int)==c then true else if(b.toNat:Int)==35 then false else signsB c r
theorem ZwL(s:BA)(c:Int)(w:World)(hs:s.size≤maxLen):Calls Tryz.prog 63 #[.string s,.int .u8 c] w fun e w'=>e=.returned (.bool (signsB c (tl s)))∧w=w':=by
 unfold maxLen at hs
 go_enter Tryz.func63,Tryz.ntmps63
 go_wp2
 go_loopw [5] (fun i wr=>∃k:Nat,k≤s.size∧i=.int .i64 k∧signsB c (tl s)=signsB c ((tl s).drop k)∧w=wr) (fun i _=>s.size-(intOf i).toNat)
 case atStart=>exact⟨0,Xd _,rfl,rfl,rfl⟩
 case round=>
  obtain⟨k,hk,rfl,hE,rfl⟩:=hrel;have HE:=Za hE;clear hE
  by_cases hlt:k<s.size
  ·have HD:=Za (ZU s k hlt)
   have b1:=bb s[k]
   cases h1:((s[k].toNat:Int)==c)
   ·cases h2:((s[k].toNat:Int)==35)
    ·have HF:=Za (show signsB c (tl s)=signsB c ((tl s).drop (k+1))by rw[HE.out,HD.out,signsB,h1,h2];rfl)
     go_wp2
     go_roundw
     case rel=>exact⟨k+1,by omega,by go_num,HF.out,trivial⟩
     case measure=>simp[intOf];omega
    ·have HF:=Za (show signsB c (tl s)=false by rw[HE.out,HD.out,signsB,h1,h2];rfl)
     go_wp2;go_ret
     exact⟨by rw[HF.out];rfl,rfl⟩
   ·have HF:=Za (show signsB c (tl s)=true by rw[HE.out,HD.out,signsB,h1];rfl)
    go_wp2;go_ret
    exact⟨by rw[HF.out];rfl,rfl⟩
  ·have HF:=Za (show signsB c (tl s)=false by rw[HE.out,Zy s k (by omega)];rfl)
   go_wp2;go_ret
   exact⟨by rw[HF.out];rfl,rfl⟩
end Go.Proofs.YtchkhibgbnhjpabGreatDoor
