import Derived.Test.YtchkhibgbnhjpabGreatDoorR34
import Derived.Test.YtchkhibgbnhjpabGreatDoorR37
import Derived.Maps.AppendAt
import Derived.Deep.QuietTactic
import Derived.BigQuiet
open Array renaming getElem?_eq_some_iff→Xq
open Bool renaming eq_iff_iff→Xp
open List renaming take_succ_eq_append_getElem→Xa,take_of_length_le→Xb,append_nil→Xc,length_filter_le→Xf,map_append→Xg,length_take→Xi,length_drop→Xj,length_map→Xk,length_append→Xl,map_map→Xm,getElem_mem→Xn,length_nil→Xo,length_replicate→Xr,length_take_le→Xs,replicate_zero→Xt,filter_congr→Xu,filter_map→Xv,map_cons→Xw
open Nat renaming zero_le→Xd,le_trans→Xe,le_refl→Xh
namespace Go.Proofs.YtchkhibgbnhjpabGreatDoor
open Go.RowKit
set_option maxHeartbeats 4000000
set_option maxRecDepth 8000
theorem Zi4(s:BA)(w:World)(hs:s.size≤1000000):Calls Tryz.prog 204 #[.string s] w fun e w'=>∃r:BA,e=.returned (.string r)∧tl r=ZaL (tl s)∧Nx w w':=by
 go_enter Tryz.func204,Tryz.ntmps204
 go_wp2_with fail
 refine(ZeC s 32 _ (by omega)).mono ?_
 rintro e w1 ⟨v,cs,rfl,hv,hcs,hn1⟩
 have hcl:cs.length≤1000001:=by have h:=ZeD 32 (tl s);rw[←hcs,Xk,tl_length]at h;omega
 have HCM:Hid (∀c∈cs,c.size≤1000000):=Za (fun c hc=>by
  have h:=ZjG 32 (tl s) (tl c) (by rw[←hcs];exact List.mem_map.2 ⟨c,hc,rfl⟩)
  rw[tl_length,tl_length]at h
  omega)
 have HN1:=Za hn1
 have HW:=Za (show ZaL (tl s)=Za9 43 (cs.map fun c=>encB formB (clean (tl c)))by unfold ZaL;rw[←hcs,Xm];rfl)
 have HL:Hid (∀k,Zg4 ((cs.take k).map fun c=>encB formB (clean (tl c)))≤9000009):=Za (fun k=>by
  have h:=ZmY (tl s);rw[←hcs,Xm,tl_length]at h
  have h2:=ZmX (cs.map fun c=>encB formB (clean (tl c))) k
  rw[←List.map_take]at h2
  have h3:Zg4 (cs.map fun c=>encB formB (clean (tl c)))≤9*s.size+9:=h
  omega)
 clear hn1 hcs;obtain⟨ao,cap,rfl,hlc,hcap,hnone,hsome⟩:=hv;unfold maxLen at hcap;go_wp2
 go_loopw [4,5] (fun o i wr=>∃(k:Nat) (t:BA),k≤cs.length∧i=.int .i64 k∧o=.string t∧tl t=Za9 43 ((cs.take k).map fun c=>encB formB (clean (tl c)))∧t.size≤9000009∧Nx w1 wr) (fun _ i _=>cs.length-(intOf i).toNat)
 case atStart=>exact⟨0,_,Xd _,rfl,rfl,rfl,by decide,Nx.rfl⟩
 case round=>
  obtain⟨k,t,hk,rfl,rfl,hE,htl,hnx⟩:=hrel;have HE:=Za hE;have HN:=Za hnx;clear hE
  by_cases hlt:k<cs.length
  ·obtain⟨a,ha⟩:=Zw hlt hnone
   subst ha;obtain⟨b,off,rfl,hr⟩:=hsome a rfl;have hck:=(hr.on hnx).cell hlt
   have HS:=Za (show(cs.take (k+1)).map (fun c=>encB formB (clean (tl c)))=(cs.take k).map (fun c=>encB formB (clean (tl c)))++[encB formB (clean (tl cs[k]))]by rw[Xa hlt,Xg];rfl)
   have hsz:=HCM.out cs[k] (Xn hlt);have HL1:=Za (HL.out (k+1))
   have HT0:=Za (show((cs.take k).map fun c=>encB formB (clean (tl c)))=[]↔k=0 by
    constructor
    ·intro g
     have:=congrArg List.length g;rw[Xk,Xi]at this;simp only[Xo]at this
     omega
    ·rintro rfl;rfl)
   clear hnone hsome hr hnx;generalize cs[k]=c at *
   by_cases h0:0<k
   ·have h0':decide ((0:Int)<(k:Int))=true:=decide_eq_true (by omega)
    go_wp2_with (go_at_call 143;refine(ZaC c 7 _ hsz).mono ?_;rintro e w2 ⟨r,rfl,hr,hn2⟩;have HR:=Za hr;have HN2:=Za (HN.out.then hn2);have hrl:r.size≤9000000:=(by rw[←tl_length,hr];have:=Zg5 (tl c);rw[tl_length]at this;exact Xe this (by omega));clear hr hn2)
    go_roundw
    case rel=>exact⟨k+1,t++(⟨#[43]⟩:BA)++r,by omega,by go_num,rfl,by rw[HS.out,joinW_snoc,if_neg (fun g=>by have:=HT0.out.1 g;omega),Zd,Zd,HE.out,HR.out];simp[tl];rfl,by
     have e:tl (t++(⟨#[43]⟩:BA)++r)=Za9 43 ((cs.take (k+1)).map fun c=>encB formB (clean (tl c))):=by rw[HS.out,joinW_snoc,if_neg (fun g=>by have:=HT0.out.1 g;omega),Zd,Zd,HE.out,HR.out];simp[tl];rfl
     rw[←tl_length,e]
     exact Xe (Zco _ _) HL1.out,HN2.out⟩
    case measure=>simp[intOf];omega
   ·have h0':decide ((0:Int)<(k:Int))=false:=decide_eq_false (by omega)
    go_wp2_with (go_at_call 143;refine(ZaC c 7 _ hsz).mono ?_;rintro e w2 ⟨r,rfl,hr,hn2⟩;have HR:=Za hr;have HN2:=Za (HN.out.then hn2);have hrl:r.size≤9000000:=(by rw[←tl_length,hr];have:=Zg5 (tl c);rw[tl_length]at this;exact Xe this (by omega));clear hr hn2)
    go_roundw
    case rel=>
     have e:tl (t++r)=Za9 43 ((cs.take (k+1)).map fun c=>encB formB (clean (tl c))):=by
      have hk0:k=0:=by omega
      rw[HS.out,joinW_snoc,if_pos (HT0.out.2 hk0),Zd,HE.out,HR.out,HT0.out.2 hk0]
      rfl
     exact⟨k+1,t++r,by omega,by go_num,rfl,e,by rw[←tl_length,e];exact Xe (Zco _ _) HL1.out,HN2.out⟩
    case measure=>simp[intOf];omega
  ·have HF:=Za (show tl t=ZaL (tl s)by rw[HE.out,HW.out,Xb (by omega)])
   clear hnx hnone hsome;go_wp2;go_ret;exact⟨t,rfl,HF.out,HN1.out.then HN.out⟩
theorem Zi5(n v:BA)(w:World)(hn:n.size≤1000000)(hv:v.size≤1000000):Calls Tryz.prog 157 #[.agg #[.string n,.string v]] w fun e w'=>∃r:BA,e=.returned (.string r)∧tl r=writePr (tl n,tl v)∧Nx w w':=by
 have hpb:PB (w.alloc (Obj.cells #[.string n,.string v] 113)) w.heap.size (.string n) (.string v):=heap_alloc_new w _;have HPB:=Za hpb;clear hpb
 go_enter Tryz.func157,Tryz.ntmps157
 go_wp2_with fail
 refine(Zi4 n _ hn).mono ?_
 rintro e w1 ⟨r1,rfl,hr1,hn1⟩;have HN1:=Za (show Nx w w1 from(Nx.rfl.alloc _).then hn1);have HR1:=Za hr1
 have hl1:r1.size≤9000009:=by rw[←tl_length,hr1];have:=Zem (tl n);rw[tl_length]at this;omega
 obtain⟨-,p1,-⟩:=(HPB.out.on hn1).facts;clear hr1 hn1;go_wp2_with fail
 refine(Zi4 v _ hv).mono ?_
 rintro e w2 ⟨r2,rfl,hr2,hn2⟩;have HN2:=Za (HN1.out.then hn2);have HR2:=Za hr2
 have hl2:r2.size≤9000009:=by rw[←tl_length,hr2];have:=Zem (tl v);rw[tl_length]at this;omega
 clear hr2 hn2 p1;go_wp2;go_ret
 exact⟨_,rfl,by rw[Zd,Zd,HR1.out,HR2.out];show _=ZaL (tl n)++61::ZaL (tl v);simp[tl],HN2.out⟩
theorem ZhE(v:Value)(ps:List Pq)(w:World)(hp:PlAt w v ps)(hl:ps.length≤1000000)(hz:∀p∈ps,p.1.size≤1000000∧p.2.size≤1000000):Calls Tryz.prog 108 #[v] w fun e w'=>∃r:BA,e=.returned (.string r)∧tl r=Zam (ps.map tl2)∧Nx w w':=by
 have HZ:=Za hz;clear hz
 have HLN:Hid (∀k,k≤ps.length→Zg4 ((ps.take k).map fun p=>writePr (tl2 p))≤18000020*k):=Za (fun k hk=>by
  induction k with
  | zero=>exact Xd _
  | succ k ih=>
   rw[Xa (show k<ps.length by omega),Xg,Zlq]
   have h1:=ih (by omega)
   have h2:=Zf1 (tl2 ps[k]);have h3:=HZ.out ps[k] (Xn _);have h4:(tl2 ps[k]).1.length=ps[k].1.size:=tl_length _;have h5:(tl2 ps[k]).2.length=ps[k].2.size:=tl_length _
   show _+Zg4 [writePr (tl2 ps[k])]≤_
   rw[sumL_cons]
   show _+((writePr (tl2 ps[k])).length+1+0)≤_
   omega)
 obtain⟨ao,cap,rfl,hlc,hcap,hnone,hsome⟩:=hp;unfold maxLen at hcap
 go_enter Tryz.func108,Tryz.ntmps108
 go_wp2
 go_loopw [3,4] (fun o i wr=>∃(k:Nat) (t:BA),k≤ps.length∧i=.int .i64 k∧o=.string t∧tl t=Za9 38 ((ps.take k).map fun p=>writePr (tl2 p))∧t.size≤18000020000000∧Nx w wr) (fun _ i _=>ps.length-(intOf i).toNat)
 case atStart=>exact⟨0,_,Xd _,rfl,rfl,rfl,by decide,Nx.rfl⟩
 case round=>
  obtain⟨k,t,hk,rfl,rfl,hE,htl,hnx⟩:=hrel;have HE:=Za hE;have HN:=Za hnx;clear hE
  by_cases hlt:k<ps.length
  ·obtain⟨a,ha⟩:=Zc2 hlt hnone
   subst ha;obtain⟨b,off,rfl,hr⟩:=hsome a rfl;obtain⟨c0,c1⟩:=(hr.on hnx).cell hlt
   have HS:=Za (show(ps.take (k+1)).map (fun p=>writePr (tl2 p))=(ps.take k).map (fun p=>writePr (tl2 p))++[writePr (tl2 ps[k])]by rw[Xa hlt,Xg];rfl)
   obtain⟨hz1,hz2⟩:=HZ.out ps[k] (Xn hlt)
   have HL1:=Za (show Zg4 ((ps.take (k+1)).map fun p=>writePr (tl2 p))≤18000020000000 by have:=HLN.out (k+1) (by omega);omega)
   have HT0:=Za (show((ps.take k).map fun p=>writePr (tl2 p))=[]↔k=0 by
    constructor
    ·intro g
     have:=congrArg List.length g;rw[Xk,Xi]at this;simp only[Xo]at this
     omega
    ·rintro rfl;rfl)
   clear hnone hsome hr hnx;generalize ps[k]=c at *;obtain⟨cn,cv⟩:=c;simp only at c0 c1 hz1 hz2
   by_cases h0:0<k
   ·have h0':decide ((0:Int)<(k:Int))=true:=decide_eq_true (by omega)
    go_wp2_with fail
    refine(Zi5 cn cv _ hz1 hz2).mono ?_
    rintro e w2 ⟨r,rfl,hr,hn2⟩;have HN2:=Za (HN.out.then hn2)
    have e1:tl (t++(⟨#[38]⟩:BA)++r)=Za9 38 ((ps.take (k+1)).map fun p=>writePr (tl2 p)):=by
     rw[HS.out,joinW_snoc,if_neg (fun g=>by have:=HT0.out.1 g;omega),Zd,Zd,HE.out,hr]
     show _=_++38::writePr (tl cn,tl cv)
     simp[tl]
    have e2:(t++(⟨#[38]⟩:BA)++r).size≤18000020000000:=by rw[←tl_length,e1];exact Xe (Zco _ _) HL1.out
    have hrl:r.size≤18000019:=by rw[←tl_length,hr];have:=Zf1 (tl cn,tl cv);simp only[tl_length]at this;omega
    have HE1:=Za e1;have HE2:=Za e2;clear hr hn2 e1 e2;go_wp2
    go_roundw
    case rel=>exact⟨k+1,t++(⟨#[38]⟩:BA)++r,by omega,by go_num,rfl,HE1.out,HE2.out,HN2.out⟩
    case measure=>simp[intOf];omega
   ·have h0':decide ((0:Int)<(k:Int))=false:=decide_eq_false (by omega)
    go_wp2_with fail
    refine(Zi5 cn cv _ hz1 hz2).mono ?_
    rintro e w2 ⟨r,rfl,hr,hn2⟩;have HN2:=Za (HN.out.then hn2)
    have e1:tl (t++r)=Za9 38 ((ps.take (k+1)).map fun p=>writePr (tl2 p)):=by
     have hk0:k=0:=by omega
     rw[HS.out,joinW_snoc,if_pos (HT0.out.2 hk0),Zd,HE.out,hr,HT0.out.2 hk0]
     rfl
    have e2:(t++r).size≤18000020000000:=by rw[←tl_length,e1];exact Xe (Zco _ _) HL1.out
    have hrl:r.size≤18000019:=by rw[←tl_length,hr];have:=Zf1 (tl cn,tl cv);simp only[tl_length]at this;omega
    have HE1:=Za e1;have HE2:=Za e2;clear hr hn2 e1 e2;go_wp2
    go_roundw
    case rel=>exact⟨k+1,t++r,by omega,by go_num,rfl,HE1.out,HE2.out,HN2.out⟩
    case measure=>simp[intOf];omega
  ·have HF:=Za (show tl t=Zam (ps.map tl2)by
    rw[HE.out,Xb (by omega)]
    unfold Zam;rw[Xm]
    rfl)
   clear hnx hnone hsome;go_wp2;go_ret;exact⟨t,rfl,HF.out,HN.out⟩
def ZhF(n v:List UInt8)(valued:Bool)(p:List UInt8×List UInt8):Bool:=p.1==n&&(!valued||p.2==v)
def Zi8(n v:ByteArray)(valued:Bool)(p:Pq):Bool:=p.1.toList==n.toList&&(!valued||p.2.toList==v.toList)
theorem hitQ_eq(n v:BA)(valued:Bool)(p:Pq):Zi8 n v valued p=ZhF (tl n) (tl v) valued (tl2 p):=by
 unfold Zi8 ZhF tl2;rw[ByteArray.toList_eq,ByteArray.toList_eq,ByteArray.toList_eq,ByteArray.toList_eq]
 rfl
theorem filter_tl2(n v:BA)(valued:Bool)(ps:List Pq):(ps.filter (Zi8 n v valued)).map tl2=(ps.map tl2).filter (ZhF (tl n) (tl v) valued):=by
 rw[Xv]
 congr 1
 apply Xu
 intro p _;exact hitQ_eq n v valued p
theorem ZoC(n v:BA)(valued:Bool)(ps:List Pq):(ps.filter (fun p=>!Zi8 n v valued p)).map tl2=(ps.map tl2).filter (fun p=>!ZhF (tl n) (tl v) valued p):=by
 rw[Xv]
 congr 1
 apply Xu
 intro p _
 show(!Zi8 n v valued p)=!ZhF (tl n) (tl v) valued (tl2 p)
 rw[hitQ_eq n v valued p]
theorem Zen{α:Type}(f:α→Bool)(l:List α)(k:Nat)(h:k<l.length):(l.take (k+1)).filter f=(l.take k).filter f++if f l[k]then [l[k]]else []:=by
 rw[Xa h,List.filter_append]
 cases hf:f l[k]<;>simp[hf]
def Sep(v v2:Value):Prop:=∀k,v.ownBlock=some k→v2.ownBlock≠some k
theorem Sep.symm{v v2:Value}(h:Sep v v2):Sep v2 v:=fun k h1 h2=>h k h2 h1
theorem Zi9{ops:Array Oper}{rest:List Oper}{o:Oper}{a:Act}{Q:Exit→Act→World→Prop}(w:World)(p:Pq)
  (hgd:o.guard=none) (s x:Operand) (ho:o.op=.call { callee:=.builtin .append,args:=#[s,x],argTypes:=#[68,68] })
  (base:Nat) (v:Value) (ps:List Pq) (hs:a.eval s=v) (hown:OwnP w base v ps) (v2:Value) (qs:List Pq) (hown2:OwnP w base v2 qs) (hsep:Sep v v2) (hx:a.eval x=.slice (some ⟨w.heap.size,0,none⟩) 1 1)
  (hn:ps.length<1000000000000) (hbase:base≤w.heap.size)
  (h:∀v' w',OwnP w' base v' (ps++[p])→OwnP w' base v2 qs→Sep v' v2→Below base w w'→wpList Tryz.prog ops Q rest (a.put o.dst v') w'):
  wpList Tryz.prog ops Q (o::rest) a (w.alloc (.cells #[.string p.1,.string p.2] 113)):=by
 obtain⟨i,hi,hz0,hz1,hz2⟩:=info_parts Zdm;have own1:=World.ownsRow.alloc hown (.cells #[.string p.1,.string p.2] 113);have own2:=World.ownsRow.alloc hown2 (.cells #[.string p.1,.string p.2] 113)
 refine wpList_append_own_at _ hgd s x 68 ho base 113 i _ 2 32 Tryz.underlying68 hi hz0 hz1 hz2 rfl (by decide) v ps.length _ hs own1 ⟨w.heap.size,0,none⟩ 1 1 [.string p.1,.string p.2] hx rfl (Zd0 (by simp) (by simp)) (by simp[Value.oneCell']) (by unfold maxLen;omega) (by omega) (by simp;omega) ?_
 intro v' w' q1 q2 _ q3
 have hlt2:∀k,v2.ownBlock=some k→k<(w.alloc (.cells #[.string p.1,.string p.2] 113)).heap.size:=fun k hk=>(own2.lt k hk).2
 refine h v' w' ?_ (own2.kept q2 ?_) ?_ (((Below.refl base w).alloc hbase _).trans ((Below.refl base _).grown q2 (by simp;omega) (fun k hk=>(own1.lt k hk).1)))
 ·unfold OwnP
  rw[Xl,Zfw];exact q1
 ·cases hv:v2.ownBlock with
  | none=>exact Or.inl rfl
  | some k=>exact Or.inr (fun e=>hsep k e.symm hv)
 ·intro k h1 h2
  rcases q3 with q3|q3
  ·exact hsep k (q3 ▸ h1) h2
  ·rw[q3]at h1
   have:=hlt2 k h2;have:=Option.some.inj h1
   omega
theorem Zkx(w:World)(base:Nat)(h:base≤w.heap.size):OwnP (w.alloc (.cells #[] 113)) base (.slice (some ⟨w.heap.size,0,none⟩) 0 0) []:=
 World.ownsRow_made w #[] 0 h (Xd _) rfl
theorem Zg6(v:Value)(ps:List Pq)(n x:BA)(valued:Bool)(w:World)(hp:PlAt w v ps)(hl:ps.length≤1000000)(hn:n.size≤1000000)(hx:x.size≤1000000):Calls Tryz.prog 151 #[v,.string n,.string x,.bool valued] w fun e w'=>∃a b fs os,e=.returned (.tuple #[a,b])∧OwnP w' w.heap.size a fs∧OwnP w' w.heap.size b os∧Sep a b∧fs.map tl2=(ps.map tl2).filter (ZhF (clean (tl n)) (clean (tl x)) valued)∧os.map tl2=(ps.map tl2).filter (fun p=>!ZhF (clean (tl n)) (clean (tl x)) valued p)∧fs.length≤ps.length∧os.length≤ps.length∧Nx w w':=by
 have HP:=Za hp;obtain⟨ao,cap,rfl,hlc,hcap,hnone,hsome⟩:=hp;unfold maxLen at hcap
 go_enter Tryz.func151,Tryz.ntmps151
 go_wp2_with fail
 refine(ZeB n _ hn).mono ?_
 rintro e w1 ⟨nm,rfl,hnm,hn1⟩;have HN1:=Za hn1;have HNM:=Za hnm;clear hn1 hnm;go_wp2_with fail
 refine(ZeB x _ hx).mono ?_
 rintro e w2 ⟨vl,rfl,hvl,hn2⟩;have HN2:=Za (HN1.out.then hn2);have HVL:=Za hvl;have hz2:=HN2.out.size;clear hn2 hvl HN1;go_wp2
 go_loopw [12,13,14] (fun o1 o2 i wr=>∃k:Nat,k≤ps.length∧i=.int .i64 k∧OwnP wr w.heap.size o1 ((ps.take k).filter (Zi8 nm vl valued))∧OwnP wr w.heap.size o2 ((ps.take k).filter (fun p=>!Zi8 nm vl valued p))∧Sep o1 o2∧Nx w wr) (fun _ _ i _=>ps.length-(intOf i).toNat)
 case atStart=>
  refine⟨0,Xd _,rfl,World.ownsRow.alloc (Zkx w2 _ hz2) _,(by have h:=Zkx (w2.alloc (.cells #[] 113)) w.heap.size (Xe hz2 (Nx.rfl.alloc _).size);rw[show(w2.alloc (.cells #[] 113)).heap.size=w2.heap.size+1 by simp]at h;exact h),?_,(HN2.out.then (Nx.rfl.alloc _)).then (Nx.rfl.alloc _)⟩
  intro k h1 h2;simp only[Value.ownBlock,Option.some.injEq]at h1 h2
  omega
 case round=>
  obtain⟨k,hk,rfl,hO1,hO2,hsep,hnx⟩:=hrel;have HO1:=Za hO1;have HO2:=Za hO2;have HSP:=Za hsep;have HN:=Za hnx;have hzr:=hnx.size;clear hO1 hO2 hsep
  by_cases hlt:k<ps.length
  ·obtain⟨a,ha⟩:=Zc2 hlt hnone
   subst ha;obtain⟨b,off,rfl,hr⟩:=hsome a rfl;obtain⟨c0,c1⟩:=(hr.on hnx).cell hlt;have HS1:=Za (Zen (Zi8 nm vl valued) ps k hlt)
   have HS2:=Za (Zen (fun p=>!Zi8 nm vl valued p) ps k hlt)
   have hl1:((ps.take k).filter (Zi8 nm vl valued)).length<1000000000000:=by
    have h1:=Xf (Zi8 nm vl valued) (ps.take k);have h2:=Xs k ps
    omega
   have hl2:((ps.take k).filter (fun p=>!Zi8 nm vl valued p)).length<1000000000000:=by
    have h1:=Xf (fun p=>!Zi8 nm vl valued p) (ps.take k)
    have h2:=Xs k ps
    omega
   clear hnone hsome hr hnx;generalize ps[k]=c at *;obtain⟨cn,cv⟩:=c;simp only at c0 c1
   have HQ:=Za (show Zi8 nm vl valued (cn,cv)=(cn.toList==nm.toList&&(!valued||cv.toList==vl.toList))from rfl)
   cases hd1:(cn.toList==nm.toList)
   ·cases valued
    ·skip
     have HM:=Za (show Zi8 nm vl false (cn,cv)=false by rw[HQ.out,hd1];rfl)
     clear HQ
     go_wp2_with (at_builtin;go_must (refine Zi9 wr (cn,cv) rfl _ _ rfl w.heap.size _ _ rfl HO2.out _ _ HO1.out HSP.out.symm rfl hl2 hzr ?_;intro v' w3 ho2 ho1 hsp hb3;have HA:=Za ho2;have HB:=Za ho1;have HC:=Za hsp;clear ho2 ho1 hsp))
     go_roundw
     case rel=>exact⟨k+1,by omega,by go_num,by rw[HS1.out,HM.out,if_neg (by decide),Xc];exact HB.out,by rw[HS2.out,HM.out,if_pos (by decide)];exact HA.out,HC.out.symm,HN.out.trans hb3⟩
     case measure=>simp[intOf];omega
    ·skip
     have HM:=Za (show Zi8 nm vl true (cn,cv)=false by rw[HQ.out,hd1];rfl)
     clear HQ
     go_wp2_with (at_builtin;go_must (refine Zi9 wr (cn,cv) rfl _ _ rfl w.heap.size _ _ rfl HO2.out _ _ HO1.out HSP.out.symm rfl hl2 hzr ?_;intro v' w3 ho2 ho1 hsp hb3;have HA:=Za ho2;have HB:=Za ho1;have HC:=Za hsp;clear ho2 ho1 hsp))
     go_roundw
     case rel=>exact⟨k+1,by omega,by go_num,by rw[HS1.out,HM.out,if_neg (by decide),Xc];exact HB.out,by rw[HS2.out,HM.out,if_pos (by decide)];exact HA.out,HC.out.symm,HN.out.trans hb3⟩
     case measure=>simp[intOf];omega
   ·cases valued
    ·skip
     have HM:=Za (show Zi8 nm vl false (cn,cv)=true by rw[HQ.out,hd1];rfl)
     clear HQ
     go_wp2_with (at_builtin;go_must (refine Zi9 wr (cn,cv) rfl _ _ rfl w.heap.size _ _ rfl HO1.out _ _ HO2.out HSP.out rfl hl1 hzr ?_;intro v' w3 ho1 ho2 hsp hb3;have HA:=Za ho1;have HB:=Za ho2;have HC:=Za hsp;clear ho2 ho1 hsp))
     go_roundw
     case rel=>exact⟨k+1,by omega,by go_num,by rw[HS1.out,HM.out,if_pos rfl];exact HA.out,by rw[HS2.out,HM.out,if_neg (by decide),Xc];exact HB.out,HC.out,HN.out.trans hb3⟩
     case measure=>simp[intOf];omega
    ·cases hd2:(cv.toList==vl.toList)
     ·skip
      have HM:=Za (show Zi8 nm vl true (cn,cv)=false by rw[HQ.out,hd1,hd2];rfl)
      clear HQ
      go_wp2_with (at_builtin;go_must (refine Zi9 wr (cn,cv) rfl _ _ rfl w.heap.size _ _ rfl HO2.out _ _ HO1.out HSP.out.symm rfl hl2 hzr ?_;intro v' w3 ho2 ho1 hsp hb3;have HA:=Za ho2;have HB:=Za ho1;have HC:=Za hsp;clear ho2 ho1 hsp))
      go_roundw
      case rel=>exact⟨k+1,by omega,by go_num,by rw[HS1.out,HM.out,if_neg (by decide),Xc];exact HB.out,by rw[HS2.out,HM.out,if_pos (by decide)];exact HA.out,HC.out.symm,HN.out.trans hb3⟩
      case measure=>simp[intOf];omega
     ·skip
      have HM:=Za (show Zi8 nm vl true (cn,cv)=true by rw[HQ.out,hd1,hd2];rfl)
      clear HQ
      go_wp2_with (at_builtin;go_must (refine Zi9 wr (cn,cv) rfl _ _ rfl w.heap.size _ _ rfl HO1.out _ _ HO2.out HSP.out rfl hl1 hzr ?_;intro v' w3 ho1 ho2 hsp hb3;have HA:=Za ho1;have HB:=Za ho2;have HC:=Za hsp;clear ho2 ho1 hsp))
      go_roundw
      case rel=>exact⟨k+1,by omega,by go_num,by rw[HS1.out,HM.out,if_pos rfl];exact HA.out,by rw[HS2.out,HM.out,if_neg (by decide),Xc];exact HB.out,HC.out,HN.out.trans hb3⟩
      case measure=>simp[intOf];omega
  ·have e:ps.take k=ps:=Xb (by omega)
   have HF1:=Za (show OwnP wr w.heap.size _ (ps.filter (Zi8 nm vl valued))by have h:=HO1.out;rw[e]at h;exact h)
   have HF2:=Za (show OwnP wr w.heap.size _ (ps.filter (fun p=>!Zi8 nm vl valued p))by have h:=HO2.out;rw[e]at h;exact h)
   have HG1:=Za ((filter_tl2 nm vl valued ps).trans (by rw[HNM.out,HVL.out]))
   have HG2:=Za ((ZoC nm vl valued ps).trans (by rw[HNM.out,HVL.out]))
   clear hnone hsome hnx e;go_wp2;go_ret2;exact⟨_,_,_,_,rfl,HF1.out,HF2.out,HSP.out,HG1.out,HG2.out,Xf _ _,Xf _ _,HN.out⟩
theorem Zxc(v:Value)(ps:List Pq)(n x:BA)(valued:Bool)(w:World)(hp:PlAt w v ps)(hl:ps.length≤1000000)(hn:n.size≤1000000)(hx:x.size≤1000000):Calls Tryz.prog 100 #[v,.string n,.string x,.bool valued] w fun e w'=>e=.returned (.bool (decide (0<((ps.map tl2).filter (ZhF (clean (tl n)) (clean (tl x)) valued)).length)))∧Nx w w':=by
 obtain⟨ao,cap,hve,-⟩:=id hp;subst hve
 go_enter Tryz.func100,Tryz.ntmps100
 go_wp2_with fail
 refine(Zg6 _ ps n x valued _ hp hl hn hx).mono ?_
 rintro e w1 ⟨a,b,fs,os,rfl,h1,h2,-,h3,-,h5,-,hn1⟩;obtain⟨ao1,cp1,rfl⟩:=Za7 h1;obtain⟨ao2,cp2,rfl⟩:=Za7 h2;have HN:=Za hn1
 have HE:=Za (show fs.length=((ps.map tl2).filter (ZhF (clean (tl n)) (clean (tl x)) valued)).length by rw[←h3,Xk])
 clear h1 h2 h3 hn1 hp;go_wp2;go_ret
 exact⟨Zj (by rw[HE.out,Xp]<;>simp),HN.out⟩
def Zqa(l:List (List UInt8×List UInt8)):List UInt8:=match l with | []=>[]|p::_=>p.2
theorem ZrM(v:Value)(ps:List Pq)(n:BA)(w:World)(hp:PlAt w v ps)(hl:ps.length≤1000000)(hn:n.size≤1000000):Calls Tryz.prog 98 #[v,.string n] w fun e w'=>∃r:BA,e=.returned (.tuple #[.string r,.bool (decide (0<((ps.map tl2).filter (ZhF (clean (tl n)) [] false)).length))])∧tl r=Zqa ((ps.map tl2).filter (ZhF (clean (tl n)) [] false))∧Nx w w':=by
 obtain⟨ao,cap,hve,-⟩:=id hp;subst hve;generalize hF:(ps.map tl2).filter (ZhF (clean (tl n)) [] false)=F;have HFF:=Za hF;clear hF
 go_enter Tryz.func98,Tryz.ntmps98
 go_wp2_with fail
 refine(Zg6 _ ps n ⟨#[]⟩ false _ hp hl hn (by decide)).mono ?_
 rintro e w1 ⟨a,b,fs,os,rfl,h1,h2,-,h3,-,h5,-,hn1⟩;rw[show clean (tl (⟨#[]⟩:BA))=[]from clean_nil,HFF.out]at h3;obtain⟨ao2,cp2,rfl⟩:=Za7 h2;have hpl:=OwnP.at h1;obtain⟨ao1,cp1,rfl,hlc,hcap,hnone,hsome⟩:=hpl;unfold maxLen at hcap;have HN:=Za hn1
 cases fs with
 | nil=>
  have HF:=Za (show F=[]from h3.symm);clear h1 h2 h3 hn1 hp hnone hsome;simp only[Xo];go_wp2;go_ret2
  exact⟨⟨#[]⟩,by rw[HF.out];rfl,by rw[HF.out];rfl,HN.out⟩
 | cons p r=>
  have HF:=Za (show F=tl2 p::r.map tl2 from h3.symm)
  have hpos:0<(p::r).length:=by simp
  obtain⟨a,ha⟩:=Zc2 hpos hnone;subst ha;obtain⟨b,off,rfl,hr⟩:=hsome a rfl;obtain⟨c0,c1⟩:=hr.cell hpos
  have h0':(((p::r).length:Int)==0)=false:=beq_eq_false_iff_ne.2 (by omega)
  simp only[Nat.zero_mul,Nat.add_zero,List.getElem_cons_zero]at c0 c1;clear h1 h2 h3 hn1 hp hnone hsome hr;generalize (p::r).length=m at *;go_wp2;go_ret2
  exact⟨p.2,by rw[HF.out,decide_eq_true (show 0<(tl2 p::r.map tl2).length by simp)];rfl,by rw[HF.out];rfl,HN.out⟩
def FullS(w:World)(nb:Nat)(ss:List ByteArray):Prop:=w.heap[nb]?=some (Obj.cells (ss.map Value.string).toArray 9 (0,0))
theorem FullS.on{w w':World}{nb:Nat}{ss:LA}(h:FullS w nb ss)(hb:Nx w w'):FullS w' nb ss:=(hb.block nb (Xq.1 h).1).trans h
theorem FullS.lt{w:World}{nb:Nat}{ss:LA}(h:FullS w nb ss):nb<w.heap.size:=(Xq.1 h).1
theorem FullS.cell{w:World}{nb:Nat}{ss:LA}(h:FullS w nb ss){k:Nat}(hk:k<ss.length):w.cell? ⟨nb,k,none⟩=some (.string ss[k]):=by
 unfold FullS at h
 simp[World.cell?,h,hk]
theorem FullS.free{w:World}{nb:Nat}{ss:LA}(h:FullS w nb ss)(i:Nat):w.frozen? ⟨nb,i,none⟩=false:=by
 unfold FullS at h
 simp[World.frozen?,h]
theorem FullS.set{w:World}{nb:Nat}{ss:LA}(h:FullS w nb ss)(k:Nat)(n:BA):FullS (w.setCell ⟨nb,k,none⟩ (.string n)) nb (ss.set k n):=by
 unfold FullS at *;simp only[World.setCell,Array.getElem?_modify,if_pos,h]
 simp[List.map_set]
def StrIs(w:World)(base:Nat)(v:Value)(ss:List ByteArray):Prop:=(ss=[]∧v=.slice none 0 0)∨(0<ss.length∧∃nb,base≤nb∧v=.slice (some ⟨nb,0,none⟩) ss.length ss.length∧FullS w nb ss)
theorem Zlr:(Tryz.prog.info? 9).map (fun i=>(i.zero,i.size,i.bytes))=some (some (.string ByteArray.empty),1,16):=by kernel_rfl
theorem ZuF(n:Nat):madeCells #[Value.string ByteArray.empty] (n*1)=((List.replicate n ByteArray.empty).map Value.string).toArray:=by
 apply Array.toList_inj.1
 apply List.ext_getElem?
 intro i;rw[Array.getElem?_toList]
 by_cases hi:i<n*1
 ·have hi':i<n:=by omega
  rw[show(madeCells #[Value.string ByteArray.empty] (n*1))[i]?=some (.string ByteArray.empty)by simp[madeCells,hi',Nat.mod_one]]
  simp[hi']
 ·rw[Array.getElem?_eq_none (by rw[size_madeCells];omega),List.getElem?_eq_none (by simp;omega)]
theorem ZuG(n:Nat)(hn:n≤1000000)(w:World):(Instr.makeSlice 78 (.int .i64 (n:Int)) (.int .i64 (n:Int))).run Tryz.prog w=.ok (.slice (some ⟨w.heap.size,0,none⟩) n n) (w.alloc (.cells ((List.replicate n ByteArray.empty).map Value.string).toArray 9)):=by
 obtain⟨i,hi,hzz⟩:=Option.map_eq_some_iff.1 Zlr;simp only[Prod.mk.injEq]at hzz;obtain⟨hz,hs,hb⟩:=hzz
 have hr:=run_make (P:=Tryz.prog) w 78 9 i _ Tryz.underlying78 hi hz .i64 .i64 n n (by omega) (Int.le_refl _) (by rw[hb];omega) (by omega)
 rw[hs]at hr;simp only[Int.toNat_natCast]at hr;rw[hr,←ZuF]
 rfl
theorem ZrN(ss:LA)(n k:Nat)(hk:ss.length=k)(h:k<n)(x:BA):(ss++List.replicate (n-k) ByteArray.empty).set k x=(ss++[x])++List.replicate (n-(k+1)) ByteArray.empty:=by
 subst hk
 rw[List.set_append_right _ _ (Xh _),Nat.sub_self,show n-ss.length=(n-(ss.length+1))+1 by omega,List.replicate_succ,List.set_cons_zero,List.append_assoc]
 rfl
theorem ZoD(v:Value)(ps:List Pq)(n:BA)(w:World)(hp:PlAt w v ps)(hl:ps.length≤1000000)(hn:n.size≤1000000):Calls Tryz.prog 99 #[v,.string n] w fun e w'=>∃r ss,e=.returned r∧StrIs w' w.heap.size r ss∧ss.map tl=((ps.map tl2).filter (ZhF (clean (tl n)) [] false)).map (·.2)∧Nx w w':=by
 obtain⟨ao,cap,hve,-⟩:=id hp;subst hve;generalize hF:(ps.map tl2).filter (ZhF (clean (tl n)) [] false)=F;have HFF:=Za hF;clear hF
 go_enter Tryz.func99,Tryz.ntmps99
 go_wp2_with fail
 refine(Zg6 _ ps n ⟨#[]⟩ false _ hp hl hn (by decide)).mono ?_
 rintro e w1 ⟨a,b,fs,os,rfl,h1,h2,-,h3,-,h5,-,hn1⟩;rw[show clean (tl (⟨#[]⟩:BA))=[]from clean_nil,HFF.out]at h3;obtain⟨ao2,cp2,rfl⟩:=Za7 h2;have hpl:=OwnP.at h1;obtain⟨ao1,cp1,rfl,hlc,hcap,hnone,hsome⟩:=hpl;unfold maxLen at hcap;have HN:=Za hn1;have hz1:=hn1.size
 have HF:=Za (show F.map (·.2)=fs.map (fun p=>tl p.2)by rw[←h3,Xm];rfl)
 clear h1 h2 h3 hn1 hp;rcases Nat.eq_zero_or_pos fs.length with h0|hpos
 ·have h0':((fs.length:Int)==0)=true:=by rw[h0];rfl
  have HE:=Za (show F.map (·.2)=[]by rw[HF.out,List.eq_nil_of_length_eq_zero h0];rfl)
  clear h0 hnone hsome;go_wp2;go_ret
  exact⟨_,[],rfl,Or.inl ⟨rfl,rfl⟩,by rw[HE.out];rfl,HN.out⟩
 ·have h0':((fs.length:Int)==0)=false:=beq_eq_false_iff_ne.2 (by omega)
  have hmk:=ZuG fs.length (by omega)
  go_wp2;clear hmk
  go_loopw [8] (fun i wr=>∃(k:Nat) (ss:LA),k≤fs.length∧ss.length=k∧i=.int .i64 k∧FullS wr w1.heap.size (ss++List.replicate (fs.length-k) ByteArray.empty)∧ss.map tl=(fs.take k).map (fun p=>tl p.2)∧Nx w1 wr) (fun i _=>fs.length-(intOf i).toNat)
  case atStart=>exact⟨0,[],Xd _,rfl,rfl,by unfold FullS;rw[heap_alloc_new];simp,rfl,Nx.rfl.alloc _⟩
  case round=>
   obtain⟨k,ss,hk,hpl,rfl,hrow,hE,hnx⟩:=hrel
   by_cases hlt:k<fs.length
   ·obtain⟨a,ha⟩:=Zc2 hlt hnone
    subst ha;obtain⟨b,off,rfl,hr⟩:=hsome a rfl;obtain⟨c0,c1⟩:=(hr.on hnx).cell hlt;have HR:=Za hrow;have HE:=Za hE;have HPL:=Za hpl;have HNX:=Za hnx
    have hkl:k<(ss++List.replicate (fs.length-k) ByteArray.empty).length:=by rw[Xl,Xr,hpl];omega
    have d0:=hrow.cell hkl;have f0:=hrow.free k
    have HS:=Za (show(fs.take (k+1)).map (fun p=>tl p.2)=(fs.take k).map (fun p=>tl p.2)++[tl fs[k].2]by rw[Xa hlt,Xg];rfl)
    clear hnone hsome hr hrow hnx hE hpl;generalize fs[k]=c at *;obtain⟨cn,cv⟩:=c;simp only at c0 c1;go_wp2
    go_roundw
    case rel=>
     have hf:=HR.out.set k cv;rw[ZrN ss fs.length k HPL.out hlt cv]at hf
     refine⟨k+1,ss++[cv],by omega,by simp[HPL.out],by go_num,hf,?_,Below.setCell HNX.out (Xh _) _⟩
     rw[Xg,HE.out,HS.out]
     rfl
    case measure=>simp[intOf];omega
   ·have hk2:fs.length=k:=by omega
    rw[show fs.length-k=0 by omega,Xt,Xc]at hrow
    rw[Xb (by omega)]at hE
    have HR:=Za hrow;have HNX:=Za hnx
    have HE:=Za (show ss.map tl=F.map (·.2)by rw[hE,HF.out])
    have HPL:=Za (show ss.length=fs.length by omega)
    clear hrow hE hnx hnone hsome hk2;go_wp2;go_ret
    exact⟨_,ss,rfl,Or.inr ⟨by rw[HPL.out];exact hpos,_,hz1,by rw[HPL.out];rfl,HR.out⟩,HE.out,HN.out.then HNX.out⟩
theorem ZF(w:World)(k:Nat):Nx w (w.drewN k):=⟨rfl,rfl,rfl,Xh _,fun _ _=>rfl⟩
theorem Zm1(n:Int)(w:World)(h0:0≤n)(h1:n≤255):Calls Tryz.prog 155 #[.int .u8 n] w fun e w'=>e=.returned (.int .u8 (ZcC n))∧w=w':=by
 by_cases c1:240≤n
 ·have HR:=Za (show ZcC n=n-2 from if_pos c1)
  go_enter Tryz.func155,Tryz.ntmps155
  go_wp2;go_ret
  exact⟨Z0 (by rw[HR.out]),rfl⟩
 ·by_cases c2:238≤n
  ·have HR:=Za (show ZcC n=n+5 from(if_neg c1).trans (if_pos c2))
   go_enter Tryz.func155,Tryz.ntmps155
   go_wp2;go_ret
   exact⟨Z0 (by rw[HR.out]),rfl⟩
  ·have HR:=Za (show ZcC n=n from(if_neg c1).trans (if_neg c2))
   go_enter Tryz.func155,Tryz.ntmps155
   go_wp2;go_ret
   exact⟨Z0 (by rw[HR.out]),rfl⟩
theorem ZoE{a b:LB}{x y:UInt8}(h:x=y):ZbJ (x::a) (y::b)=ZbJ a b:=by unfold ZbJ;simp only[Xw,aheadK,h,if_pos]
theorem ZuH{a b:LB}{x y:UInt8}(h:¬(x.toNat:Int)=(y.toNat:Int)):ZbJ (x::a) (y::b)=decide (ZcC x.toNat<ZcC y.toNat):=by unfold ZbJ;simp only[Xw,aheadK,if_neg h]
theorem Zky{a b:LB}(h:a=[]∨b=[]):ZbJ a b=decide (a.length<b.length):=by
 unfold ZbJ;rcases h with rfl|rfl
 ·cases b<;>rfl
 ·cases a<;>rfl
theorem Zkz(a b:BA)(w:World)(ha:a.size≤1000000):Calls Tryz.prog 106 #[.string a,.string b] w fun e w'=>e=.returned (.bool (ZbJ (tl a) (tl b)))∧∃m,w'=w.drewN m:=by
 go_enter Tryz.func106,Tryz.ntmps106
 go_wp2
 go_loopw [5] (fun i wr=>∃k:Nat,k≤a.size∧k≤b.size∧i=.int .i64 k∧ZbJ (tl a) (tl b)=ZbJ ((tl a).drop k) ((tl b).drop k)∧∃m,wr=w.drewN m) (fun i _=>a.size-(intOf i).toNat)
 case atStart=>exact⟨0,Xd _,Xd _,rfl,rfl,0,rfl⟩
 case round=>
  obtain⟨k,hka,hkb,rfl,hE,m,rfl⟩:=hrel;have HE:=Za hE;clear hE
  by_cases h1:k<a.size
  ·by_cases h2:k<b.size
   ·have HA:=Za (ZD a k h1)
    have HB:=Za (ZD b k h2)
    have t1:decide ((k:Int)<(a.size:Int))=true:=decide_eq_true (by omega)
    have t2:decide ((k:Int)<(b.size:Int))=true:=decide_eq_true (by omega)
    have z1:((k:Int)==(a.size:Int))=false:=beq_eq_false_iff_ne.2 (by omega)
    have z2:((k:Int)==(b.size:Int))=false:=beq_eq_false_iff_ne.2 (by omega)
    have b1:=bb a[k];have b2:=bb b[k]
    cases hc:((a[k].toNat:Int)==(b[k].toNat:Int))
    ·have HF:=Za (show ZbJ (tl a) (tl b)=decide (ZcC a[k].toNat<ZcC b[k].toNat)by rw[HE.out,HA.out,HB.out];exact ZuH (beq_eq_false_iff_ne.1 hc))
     go_wp2
     go_quiet (fail)
     go_wp2_with fail
     refine(Zm1 _ _ (by omega) (by omega)).mono ?_
     rintro e w' ⟨rfl,rfl⟩;go_wp2_with fail
     refine(Zm1 _ _ (by omega) (by omega)).mono ?_
     rintro e w' ⟨rfl,rfl⟩;go_wp2;go_ret
     exact⟨Zj (by rw[HF.out]),_,rfl⟩
    ·have HF:=Za (show ZbJ (tl a) (tl b)=ZbJ ((tl a).drop (k+1)) ((tl b).drop (k+1))by
      rw[HE.out,HA.out,HB.out]
      exact ZoE (UInt8.toNat_inj.1 (by have:=beq_iff_eq.1 hc;omega)))
     go_wp2
     go_quiet (fail)
     go_wp2
     go_roundw
     case rel=>exact⟨k+1,by omega,by omega,by go_num,HF.out,_,rfl⟩
     case measure=>simp[intOf];omega
   ·have t1:decide ((k:Int)<(a.size:Int))=true:=decide_eq_true (by omega)
    have t2:decide ((k:Int)<(b.size:Int))=false:=decide_eq_false (by omega)
    have z1:((k:Int)==(a.size:Int))=false:=beq_eq_false_iff_ne.2 (by omega)
    have z2:((k:Int)==(b.size:Int))=true:=beq_iff_eq.2 (by omega)
    have HF:=Za (show ZbJ (tl a) (tl b)=decide (a.size<b.size)by
     rw[HE.out,Zky (Or.inr (Zu b k (by omega))),Xj,Xj,tl_length,tl_length,decide_eq_decide]
     omega)
    go_wp2
    go_quiet (fail)
    go_wp2;go_ret
    exact⟨Zj (by rw[HF.out,Xp]<;>simp),_,rfl⟩
  ·have t1:decide ((k:Int)<(a.size:Int))=false:=decide_eq_false (by omega)
   have z1:((k:Int)==(a.size:Int))=true:=beq_iff_eq.2 (by omega)
   have HF:=Za (show ZbJ (tl a) (tl b)=decide (a.size<b.size)by
    rw[HE.out,Zky (Or.inl (Zu a k (by omega))),Xj,Xj,tl_length,tl_length,decide_eq_decide]
    omega)
   go_wp2
   go_quiet (fail)
   go_wp2;go_ret
   exact⟨Zj (by rw[HF.out,Xp]<;>simp),_,rfl⟩
theorem Zxd(v:Value)(ps:List Pq)(w:World)(hp:PlAt w v ps)(hl:ps.length≤1000000):Calls Tryz.prog 105 #[v] w fun e w'=>∃nb,w.heap.size≤nb∧e=.returned (.slice (some ⟨nb,0,none⟩) ps.length ps.length)∧FullP w' nb ps∧Nx w w':=by
 obtain⟨ao,cap,rfl,hlc,hcap,hnone,hsome⟩:=hp;unfold maxLen at hcap;have hmk:=ZjH ps.length hl
 go_enter Tryz.func105,Tryz.ntmps105
 go_wp2;clear hmk
 go_loopw [4] (fun i wr=>∃k:Nat,k≤ps.length∧i=.int .i64 k∧FullP wr w.heap.size (ps.take k++List.replicate (ps.length-k) Zsm)∧Nx w wr) (fun i _=>ps.length-(intOf i).toNat)
 case atStart=>exact⟨0,Xd _,rfl,heap_alloc_new w _,Nx.rfl.alloc _⟩
 case round=>
  obtain⟨k,hk,rfl,hrow,hnx⟩:=hrel
  by_cases hlt:k<ps.length
  ·obtain⟨a,ha⟩:=Zc2 hlt hnone
   subst ha;obtain⟨b,off,rfl,hr⟩:=hsome a rfl;obtain⟨c0,c1⟩:=(hr.on hnx).cell hlt
   have hkl:k<(ps.take k++List.replicate (ps.length-k) Zsm).length:=by rw[Xl,Xr,Xi];omega
   obtain⟨d0,d1⟩:=hrow.cell hkl;have f0:=hrow.free (k*2);have f1:=hrow.free (k*2+1);have hlt2:=hrow.lt;have HR:=Za hrow;have HNX:=Za hnx
   have HS:=Za (ZjI (ps.take k) ps.length k (by rw[Xi];omega) hlt ps[k])
   have HT:=Za (Xa hlt);clear hnone hsome hr hrow hnx;generalize ps[k]=c at *;obtain⟨cn,cv⟩:=c;simp only at c0 c1;go_wp2
   go_roundw
   case rel=>
    have hf:=HR.out.set hkl cn cv;rw[HS.out,←HT.out]at hf
    exact⟨k+1,by omega,by go_num,hf,Below.setCell (Below.setCell HNX.out (Xh _) _) (Xh _) _⟩
   case measure=>simp[intOf];omega
  ·rw[show ps.length-k=0 by omega,Xt,Xc,Xb (by omega)]at hrow
   have HR:=Za hrow;have HNX:=Za hnx;clear hrow hnx hnone hsome;go_wp2;go_ret;exact⟨_,Xh _,rfl,HR.out,HNX.out⟩
end Go.Proofs.YtchkhibgbnhjpabGreatDoor
