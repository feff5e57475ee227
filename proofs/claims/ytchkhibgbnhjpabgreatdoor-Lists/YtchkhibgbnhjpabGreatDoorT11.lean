import Derived.Test.YtchkhibgbnhjpabGreatDoorT09
import Derived.Test.YtchkhibgbnhjpabGreatDoorT10
import Derived.Maps.AppendAt
import Derived.Deep.QuietTactic
import Derived.BigQuiet
open Array renaming getElem?_eq_some_iff→Xg,getElem?_modify→Xr
open List renaming take_succ_eq_append_getElem→Xa,length_take→Xb,take_of_length_le→Xc,length_map→Xd,map_append→Xi,append_nil→Xj,length_filter_le→Xk,getElem_mem→Xl,length_nil→Xm,map_cons→Xn,length_drop→Xo,mem_map→Xp,drop_of_length_le→Xq,length_append→Xs,map_map→Xt,map_reverse→Xu,eq_nil_of_length_eq_zero→Xv,drop_eq_getElem_cons→Xw,set_append_right→Xx,length_replicate→Xz,length_take_le→XC,replicate_zero→XD,takeWhile_cons→XE,dropWhile_cons→XF,filter_congr→XG,append_assoc→XH,filter_map→XJ,foldl_cons→XL
open Nat renaming le_refl→Xe,zero_le→Xf,le_trans→Xh,sub_self→Xy,eq_zero_or_pos→XI,min_eq_left→XM
open Or renaming inl→XA,inr→XB
open Go.Value renaming string→J,bool→C,int→I
open Go.IntKind renaming i64→X
open Go.Ending renaming returned→Y
open Go.Obj renaming cells→O
namespace Go.Proofs.YtchkhibgbnhjpabGreatDoor
open Tryz
open Go.RowKit
set_option maxHeartbeats 8000000
set_option maxRecDepth 8000
variable [Fl]
set_option linter.all false
theorem ZDC(s:BA)(w:World)(hs:s.size<=1000000):Calls prog 204 #[J s] w fun e w'=>∃r:BA,e=Y (J r)/\tl r=ZzP (tl s)/\Nx w w':=by
 go_enter func204,ntmps204
 go_wp2_with fail
 refine(ZeG s 32 _ (by omega)).mono ?_
 rintro e w1 ⟨v,cs,rfl,hv,hcs,hn1⟩
 have hcl:cs.length<=1000001:=by have h:=ZBF 32 (tl s);rw[<-hcs,Xd,Za]at h;omega
 have HCM:Hid (∀c∈cs,c.size<=1000000):=A (fun c hc=>by
  have h:=ZD4 32 (tl s) (tl c) (by rw[<-hcs];exact Xp.2 ⟨c,hc,rfl⟩)
  rw[Za,Za]at h
  omega)
 have HN1:=A hn1
 have HW:=A (show ZzP (tl s)=ZzV 43 (cs.map fun c=>encB formB (clean (tl c)))by unfold ZzP;rw[<-hcs,Xt];rfl)
 have HL:Hid (∀k,ZCG ((cs.take k).map fun c=>encB formB (clean (tl c)))<=9000009):=A (fun k=>by
  have h:=ZFH (tl s);rw[<-hcs,Xt,Za]at h
  have h2:=ZFG (cs.map fun c=>encB formB (clean (tl c))) k
  rw[<-List.map_take]at h2
  have h3:ZCG (cs.map fun c=>encB formB (clean (tl c)))<=9*s.size+9:=h
  omega)
 clear hn1 hcs;obtain⟨ao,cap,rfl,hlc,hcap,hnone,hsome⟩:=hv;unfold maxLen at hcap;go_wp2
 go_loopw [4,5] (fun o i wr=>∃(k:Nat) (t:BA),k<=cs.length/\i=I X k/\o=J t/\tl t=ZzV 43 ((cs.take k).map fun c=>encB formB (clean (tl c)))/\t.size<=9000009/\Nx w1 wr) (fun _ i _=>cs.length-(intOf i).toNat)
 case atStart=>exact⟨0,_,Xf _,rfl,rfl,rfl,by decide,Nx.rfl⟩
 case round=>
  obtain⟨k,t,hk,rfl,rfl,hE,htl,hnx⟩:=hrel;have HE:=A hE;have HN:=A hnx;clear hE
  by_cases hlt:k<cs.length
  .obtain⟨a,ha⟩:=Zv hlt hnone
   subst ha;obtain⟨b,off,rfl,hr⟩:=hsome a rfl;have hck:=(hr.on hnx).cell hlt
   have HS:=A (show(cs.take (k+1)).map (fun c=>encB formB (clean (tl c)))=(cs.take k).map (fun c=>encB formB (clean (tl c)))++[encB formB (clean (tl cs[k]))]by rw[Xa hlt,Xi];rfl)
   have hsz:=HCM.o cs[k] (Xl hlt);have HL1:=A (HL.o (k+1))
   have HT0:=A (show((cs.take k).map fun c=>encB formB (clean (tl c)))=[]↔k=0 by
    constructor
    .intro g
     have:=congrArg List.length g;rw[Xd,Xb]at this;simp only[Xm]at this
     omega
    .rintro rfl;rfl)
   clear hnone hsome hr hnx;generalize cs[k]=c at *
   by_cases h0:0<k
   .have h0':decide ((0:Int)<(k:Int))=true:=decide_eq_true (by omega)
    go_wp2_with (go_at_call 143;refine(Za1 c 7 _ hsz).mono ?_;rintro e w2 ⟨r,rfl,hr,hn2⟩;have HR:=A hr;have HN2:=A (HN.o.then hn2);have hrl:r.size<=9000000:=(by rw[<-Za,hr];have:=ZCH (tl c);rw[Za]at this;exact Xh this (by omega));clear hr hn2)
    go_roundw
    case rel=>exact⟨k+1,t++(⟨#[43]⟩:BA)++r,by omega,by go_num,rfl,by rw[HS.o,joinW_snoc,ifN (fun g=>by have:=HT0.o.1 g;omega),Zd,Zd,HE.o,HR.o];simp[tl];rfl,by
     have e:tl (t++(⟨#[43]⟩:BA)++r)=ZzV 43 ((cs.take (k+1)).map fun c=>encB formB (clean (tl c))):=by rw[HS.o,joinW_snoc,ifN (fun g=>by have:=HT0.o.1 g;omega),Zd,Zd,HE.o,HR.o];simp[tl];rfl
     rw[<-Za,e]
     exact Xh (ZAu _ _) HL1.o,HN2.o⟩
    case measure=>simp[intOf];omega
   .have h0':decide ((0:Int)<(k:Int))=false:=decide_eq_false (by omega)
    go_wp2_with (go_at_call 143;refine(Za1 c 7 _ hsz).mono ?_;rintro e w2 ⟨r,rfl,hr,hn2⟩;have HR:=A hr;have HN2:=A (HN.o.then hn2);have hrl:r.size<=9000000:=(by rw[<-Za,hr];have:=ZCH (tl c);rw[Za]at this;exact Xh this (by omega));clear hr hn2)
    go_roundw
    case rel=>
     have e:tl (t++r)=ZzV 43 ((cs.take (k+1)).map fun c=>encB formB (clean (tl c))):=by
      have hk0:k=0:=by omega
      rw[HS.o,joinW_snoc,ifP (HT0.o.2 hk0),Zd,HE.o,HR.o,HT0.o.2 hk0]
      rfl
     exact⟨k+1,t++r,by omega,by go_num,rfl,e,by rw[<-Za,e];exact Xh (ZAu _ _) HL1.o,HN2.o⟩
    case measure=>simp[intOf];omega
  .have HF:=A (show tl t=ZzP (tl s)by rw[HE.o,HW.o,Xc (by omega)])
   clear hnx hnone hsome;go_wp2;go_ret;exact⟨t,rfl,HF.o,HN1.o.then HN.o⟩
theorem ZDD(n v:BA)(w:World)(hn:n.size<=1000000)(hv:v.size<=1000000):Calls prog 157 #[.agg #[J n,J v]] w fun e w'=>∃r:BA,e=Y (J r)/\tl r=writePr (tl n,tl v)/\Nx w w':=by
 have hpb:PB (w.alloc (O #[J n,J v] 113)) w.heap.size (J n) (J v):=heap_alloc_new w _;have HPB:=A hpb;clear hpb
 go_enter func157,ntmps157
 go_wp2_with fail
 refine(ZDC n _ hn).mono ?_
 rintro e w1 ⟨r1,rfl,hr1,hn1⟩;have HN1:=A (show Nx w w1 from(Nx.rfl.alloc _).then hn1);have HR1:=A hr1
 have hl1:r1.size<=9000009:=by rw[<-Za,hr1];have:=ZBs (tl n);rw[Za]at this;omega
 obtain⟨-,p1,-⟩:=(HPB.o.on hn1).facts;clear hr1 hn1;go_wp2_with fail
 refine(ZDC v _ hv).mono ?_
 rintro e w2 ⟨r2,rfl,hr2,hn2⟩;have HN2:=A (HN1.o.then hn2);have HR2:=A hr2
 have hl2:r2.size<=9000009:=by rw[<-Za,hr2];have:=ZBs (tl v);rw[Za]at this;omega
 clear hr2 hn2 p1;go_wp2;go_ret
 exact⟨_,rfl,by rw[Zd,Zd,HR1.o,HR2.o];show _=ZzP (tl n)++61::ZzP (tl v);simp[tl],HN2.o⟩
theorem ZCY(v:Value)(ps:List Pq)(w:World)(hp:PlAt w v ps)(hl:ps.length<=1000000)(hz:∀p∈ps,p.1.size<=1000000/\p.2.size<=1000000):Calls prog 108 #[v] w fun e w'=>∃r:BA,e=Y (J r)/\tl r=ZzA (ps.map tl2)/\Nx w w':=by
 have HZ:=A hz;clear hz
 have HLN:Hid (∀k,k<=ps.length->ZCG ((ps.take k).map fun p=>writePr (tl2 p))<=18000020*k):=A (fun k hk=>by
  induction k with
  | zero=>exact Xf _
  | succ k ih=>
   rw[Xa (show k<ps.length by omega),Xi,ZEO]
   have h1:=ih (by omega)
   have h2:=ZB9 (tl2 ps[k]);have h3:=HZ.o ps[k] (Xl _);have h4:(tl2 ps[k]).1.length=ps[k].1.size:=Za _;have h5:(tl2 ps[k]).2.length=ps[k].2.size:=Za _
   show _+ZCG [writePr (tl2 ps[k])]<=_
   rw[sumL_cons]
   show _+((writePr (tl2 ps[k])).length+1+0)<=_
   omega)
 obtain⟨ao,cap,rfl,hlc,hcap,hnone,hsome⟩:=hp;unfold maxLen at hcap
 go_enter func108,ntmps108
 go_wp2
 go_loopw [3,4] (fun o i wr=>∃(k:Nat) (t:BA),k<=ps.length/\i=I X k/\o=J t/\tl t=ZzV 38 ((ps.take k).map fun p=>writePr (tl2 p))/\t.size<=18000020000000/\Nx w wr) (fun _ i _=>ps.length-(intOf i).toNat)
 case atStart=>exact⟨0,_,Xf _,rfl,rfl,rfl,by decide,Nx.rfl⟩
 case round=>
  obtain⟨k,t,hk,rfl,rfl,hE,htl,hnx⟩:=hrel;have HE:=A hE;have HN:=A hnx;clear hE
  by_cases hlt:k<ps.length
  .obtain⟨a,ha⟩:=ZAh hlt hnone
   subst ha;obtain⟨b,off,rfl,hr⟩:=hsome a rfl;obtain⟨c0,c1⟩:=(hr.on hnx).cell hlt
   have HS:=A (show(ps.take (k+1)).map (fun p=>writePr (tl2 p))=(ps.take k).map (fun p=>writePr (tl2 p))++[writePr (tl2 ps[k])]by rw[Xa hlt,Xi];rfl)
   obtain⟨hz1,hz2⟩:=HZ.o ps[k] (Xl hlt)
   have HL1:=A (show ZCG ((ps.take (k+1)).map fun p=>writePr (tl2 p))<=18000020000000 by have:=HLN.o (k+1) (by omega);omega)
   have HT0:=A (show((ps.take k).map fun p=>writePr (tl2 p))=[]↔k=0 by
    constructor
    .intro g
     have:=congrArg List.length g;rw[Xd,Xb]at this;simp only[Xm]at this
     omega
    .rintro rfl;rfl)
   clear hnone hsome hr hnx;generalize ps[k]=c at *;obtain⟨cn,cv⟩:=c;simp only at c0 c1 hz1 hz2
   by_cases h0:0<k
   .have h0':decide ((0:Int)<(k:Int))=true:=decide_eq_true (by omega)
    go_wp2_with fail
    refine(ZDD cn cv _ hz1 hz2).mono ?_
    rintro e w2 ⟨r,rfl,hr,hn2⟩;have HN2:=A (HN.o.then hn2)
    have e1:tl (t++(⟨#[38]⟩:BA)++r)=ZzV 38 ((ps.take (k+1)).map fun p=>writePr (tl2 p)):=by
     rw[HS.o,joinW_snoc,ifN (fun g=>by have:=HT0.o.1 g;omega),Zd,Zd,HE.o,hr]
     show _=_++38::writePr (tl cn,tl cv)
     simp[tl]
    have e2:(t++(⟨#[38]⟩:BA)++r).size<=18000020000000:=by rw[<-Za,e1];exact Xh (ZAu _ _) HL1.o
    have hrl:r.size<=18000019:=by rw[<-Za,hr];have:=ZB9 (tl cn,tl cv);simp only[Za]at this;omega
    have HE1:=A e1;have HE2:=A e2;clear hr hn2 e1 e2;go_wp2
    go_roundw
    exact⟨k+1,t++(⟨#[38]⟩:BA)++r,by omega,by go_num,rfl,HE1.o,HE2.o,HN2.o⟩
    simp[intOf];omega
   .have h0':decide ((0:Int)<(k:Int))=false:=decide_eq_false (by omega)
    go_wp2_with fail
    refine(ZDD cn cv _ hz1 hz2).mono ?_
    rintro e w2 ⟨r,rfl,hr,hn2⟩;have HN2:=A (HN.o.then hn2)
    have e1:tl (t++r)=ZzV 38 ((ps.take (k+1)).map fun p=>writePr (tl2 p)):=by
     have hk0:k=0:=by omega
     rw[HS.o,joinW_snoc,ifP (HT0.o.2 hk0),Zd,HE.o,hr,HT0.o.2 hk0]
     rfl
    have e2:(t++r).size<=18000020000000:=by rw[<-Za,e1];exact Xh (ZAu _ _) HL1.o
    have hrl:r.size<=18000019:=by rw[<-Za,hr];have:=ZB9 (tl cn,tl cv);simp only[Za]at this;omega
    have HE1:=A e1;have HE2:=A e2;clear hr hn2 e1 e2;go_wp2
    go_roundw
    exact⟨k+1,t++r,by omega,by go_num,rfl,HE1.o,HE2.o,HN2.o⟩
    simp[intOf];omega
  .have HF:=A (show tl t=ZzA (ps.map tl2)by
    rw[HE.o,Xc (by omega)]
    unfold ZzA;rw[Xt]
    rfl)
   clear hnx hnone hsome;go_wp2;go_ret;exact⟨t,rfl,HF.o,HN.o⟩
def ZBZ(n v:List UInt8)(valued:Bool)(p:List UInt8×List UInt8):Bool:=p.1==n&&(!valued||p.2==v)
def ZBy(n v:ByteArray)(valued:Bool)(p:Pq):Bool:=p.1.toList==n.toList&&(!valued||p.2.toList==v.toList)
theorem hitQ_eq(n v:BA)(valued:Bool)(p:Pq):ZBy n v valued p=ZBZ (tl n) (tl v) valued (tl2 p):=by
 unfold ZBy ZBZ tl2;rw[ByteArray.toList_eq,ByteArray.toList_eq,ByteArray.toList_eq,ByteArray.toList_eq]
 rfl
theorem filter_tl2(n v:BA)(valued:Bool)(ps:List Pq):(ps.filter (ZBy n v valued)).map tl2=(ps.map tl2).filter (ZBZ (tl n) (tl v) valued):=by
 rw[XJ]
 congr 1
 apply XG
 intro p _;exact hitQ_eq n v valued p
theorem ZGI(n v:BA)(valued:Bool)(ps:List Pq):(ps.filter (fun p=>!ZBy n v valued p)).map tl2=(ps.map tl2).filter (fun p=>!ZBZ (tl n) (tl v) valued p):=by
 rw[XJ]
 congr 1
 apply XG
 intro p _
 show(!ZBy n v valued p)=!ZBZ (tl n) (tl v) valued (tl2 p)
 rw[hitQ_eq n v valued p]
theorem ZAY{α:Type}(f:α->Bool)(l:List α)(k:Nat)(h:k<l.length):(l.take (k+1)).filter f=(l.take k).filter f++if f l[k]then [l[k]]else []:=by
 rw[Xa h,List.filter_append]
 cases hf:f l[k]<;>simp[hf]
def Sep(v v2:Value):Prop:=∀k,v.ownBlock=some k->v2.ownBlock≠some k
theorem Sep.symm{v v2:Value}(h:Sep v v2):Sep v2 v:=fun k h1 h2=>h k h2 h1
theorem ZGJ{ops:Array Oper}{rest:List Oper}{o:Oper}{a:Act}{Q:Exit->Act->World->Prop}(w:World)(p:Pq)
  (hgd:o.guard=none) (s x:Operand) (ho:o.op=.call { callee:=.builtin .append,args:=#[s,x],argTypes:=#[68,68] })
  (base:Nat) (v:Value) (ps:List Pq) (hs:a.eval s=v) (hown:OwnP w base v ps) (v2:Value) (qs:List Pq) (hown2:OwnP w base v2 qs) (hsep:Sep v v2) (hx:a.eval x=.slice (some ⟨w.heap.size,0,none⟩) 1 1)
  (hn:ps.length<1000000000000) (hbase:base<=w.heap.size)
  (h:∀v' w',OwnP w' base v' (ps++[p])->OwnP w' base v2 qs->Sep v' v2->Below base w w'->wpList prog ops Q rest (a.put o.dst v') w'):
  wpList prog ops Q (o::rest) a (w.alloc (.cells #[J p.1,J p.2] 113)):=by
 obtain⟨i,hi,hz0,hz1,hz2⟩:=info_parts ZAK;have own1:=World.ownsRow.alloc hown (.cells #[J p.1,J p.2] 113);have own2:=World.ownsRow.alloc hown2 (.cells #[J p.1,J p.2] 113)
 refine wpList_append_own_at _ hgd s x 68 ho base 113 i _ 2 32 underlying68 hi hz0 hz1 hz2 rfl (by decide) v ps.length _ hs own1 ⟨w.heap.size,0,none⟩ 1 1 [J p.1,J p.2] hx rfl (ZBK (by simp) (by simp)) (by simp[Value.oneCell']) (by unfold maxLen;omega) (by omega) (by simp;omega) ?_
 intro v' w' q1 q2 _ q3
 have hlt2:∀k,v2.ownBlock=some k->k<(w.alloc (.cells #[J p.1,J p.2] 113)).heap.size:=fun k hk=>(own2.lt k hk).2
 refine h v' w' ?_ (own2.kept q2 ?_) ?_ (((Below.refl base w).alloc hbase _).trans ((Below.refl base _).grown q2 (by simp;omega) (fun k hk=>(own1.lt k hk).1)))
 .unfold OwnP
  rw[Xs,ZBk];exact q1
 .cases hv:v2.ownBlock with
  | none=>exact XA rfl
  | some k=>exact XB (fun e=>hsep k e.symm hv)
 .intro k h1 h2
  rcases q3 with q3|q3
  .exact hsep k (q3 ▸ h1) h2
  .rw[q3]at h1
   have:=hlt2 k h2;have:=Option.some.inj h1
   omega
theorem ZCI(w:World)(base:Nat)(h:base<=w.heap.size):OwnP (w.alloc (.cells #[] 113)) base (.slice (some ⟨w.heap.size,0,none⟩) 0 0) []:=
 World.ownsRow_made w #[] 0 h (Xf _) rfl
theorem ZBW(v:Value)(ps:List Pq)(n x:BA)(valued:Bool)(w:World)(hp:PlAt w v ps)(hl:ps.length<=1000000)(hn:n.size<=1000000)(hx:x.size<=1000000):Calls prog 151 #[v,J n,J x,C valued] w fun e w'=>∃a b fs os,e=Y (.tuple #[a,b])/\OwnP w' w.heap.size a fs/\OwnP w' w.heap.size b os/\Sep a b/\fs.map tl2=(ps.map tl2).filter (ZBZ (clean (tl n)) (clean (tl x)) valued)/\os.map tl2=(ps.map tl2).filter (fun p=>!ZBZ (clean (tl n)) (clean (tl x)) valued p)/\fs.length<=ps.length/\os.length<=ps.length/\Nx w w':=by
 have HP:=A hp;obtain⟨ao,cap,rfl,hlc,hcap,hnone,hsome⟩:=hp;unfold maxLen at hcap
 go_enter func151,ntmps151
 go_wp2_with fail
 refine(ZbZ n _ hn).mono ?_
 rintro e w1 ⟨nm,rfl,hnm,hn1⟩;have HN1:=A hn1;have HNM:=A hnm;clear hn1 hnm;go_wp2_with fail
 refine(ZbZ x _ hx).mono ?_
 rintro e w2 ⟨vl,rfl,hvl,hn2⟩;have HN2:=A (HN1.o.then hn2);have HVL:=A hvl;have hz2:=HN2.o.size;clear hn2 hvl HN1;go_wp2
 go_loopw [12,13,14] (fun o1 o2 i wr=>∃k:Nat,k<=ps.length/\i=I X k/\OwnP wr w.heap.size o1 ((ps.take k).filter (ZBy nm vl valued))/\OwnP wr w.heap.size o2 ((ps.take k).filter (fun p=>!ZBy nm vl valued p))/\Sep o1 o2/\Nx w wr) (fun _ _ i _=>ps.length-(intOf i).toNat)
 case atStart=>
  refine⟨0,Xf _,rfl,World.ownsRow.alloc (ZCI w2 _ hz2) _,(by have h:=ZCI (w2.alloc (.cells #[] 113)) w.heap.size (Xh hz2 (Nx.rfl.alloc _).size);rw[show(w2.alloc (.cells #[] 113)).heap.size=w2.heap.size+1 by simp]at h;exact h),?_,(HN2.o.then (Nx.rfl.alloc _)).then (Nx.rfl.alloc _)⟩
  intro k h1 h2;simp only[Value.ownBlock,Option.some.injEq]at h1 h2
  omega
 case round=>
  obtain⟨k,hk,rfl,hO1,hO2,hsep,hnx⟩:=hrel;have HO1:=A hO1;have HO2:=A hO2;have HSP:=A hsep;have HN:=A hnx;have hzr:=hnx.size;clear hO1 hO2 hsep
  by_cases hlt:k<ps.length
  .obtain⟨a,ha⟩:=ZAh hlt hnone
   subst ha;obtain⟨b,off,rfl,hr⟩:=hsome a rfl;obtain⟨c0,c1⟩:=(hr.on hnx).cell hlt;have HS1:=A (ZAY (ZBy nm vl valued) ps k hlt)
   have HS2:=A (ZAY (fun p=>!ZBy nm vl valued p) ps k hlt)
   have hl1:((ps.take k).filter (ZBy nm vl valued)).length<1000000000000:=by
    have h1:=Xk (ZBy nm vl valued) (ps.take k);have h2:=XC k ps
    omega
   have hl2:((ps.take k).filter (fun p=>!ZBy nm vl valued p)).length<1000000000000:=by
    have h1:=Xk (fun p=>!ZBy nm vl valued p) (ps.take k)
    have h2:=XC k ps
    omega
   clear hnone hsome hr hnx;generalize ps[k]=c at *;obtain⟨cn,cv⟩:=c;simp only at c0 c1
   have HQ:=A (show ZBy nm vl valued (cn,cv)=(cn.toList==nm.toList&&(!valued||cv.toList==vl.toList))from rfl)
   cases hd1:(cn.toList==nm.toList)
   focus
    cases valued
    focus
     skip
     have HM:=A (show ZBy nm vl false (cn,cv)=false by rw[HQ.o,hd1];rfl)
    rotate_left
    focus
     skip
     have HM:=A (show ZBy nm vl true (cn,cv)=false by rw[HQ.o,hd1];rfl)
   rotate_left 2
   focus
    cases valued
    .skip
     have HM:=A (show ZBy nm vl false (cn,cv)=true by rw[HQ.o,hd1];rfl)
     clear HQ
     go_wp2_with (at_builtin;go_must (refine ZGJ wr (cn,cv) rfl _ _ rfl w.heap.size _ _ rfl HO1.o _ _ HO2.o HSP.o rfl hl1 hzr ?_;intro v' w3 ho1 ho2 hsp hb3;have HA:=A ho1;have HB:=A ho2;have HC:=A hsp;clear ho2 ho1 hsp))
     go_roundw
     exact⟨k+1,by omega,by go_num,by rw[HS1.o,HM.o,ifP rfl];exact HA.o,by rw[HS2.o,HM.o,ifN (by decide),Xj];exact HB.o,HC.o,HN.o.trans hb3⟩
     simp[intOf];omega
    focus
     cases hd2:(cv.toList==vl.toList)
     focus
      skip
      have HM:=A (show ZBy nm vl true (cn,cv)=false by rw[HQ.o,hd1,hd2];rfl)
     rotate_left
     .skip
      have HM:=A (show ZBy nm vl true (cn,cv)=true by rw[HQ.o,hd1,hd2];rfl)
      clear HQ
      go_wp2_with (at_builtin;go_must (refine ZGJ wr (cn,cv) rfl _ _ rfl w.heap.size _ _ rfl HO1.o _ _ HO2.o HSP.o rfl hl1 hzr ?_;intro v' w3 ho1 ho2 hsp hb3;have HA:=A ho1;have HB:=A ho2;have HC:=A hsp;clear ho2 ho1 hsp))
      go_roundw
      exact⟨k+1,by omega,by go_num,by rw[HS1.o,HM.o,ifP rfl];exact HA.o,by rw[HS2.o,HM.o,ifN (by decide),Xj];exact HB.o,HC.o,HN.o.trans hb3⟩
      simp[intOf];omega
   all_goals
    clear HQ
    go_wp2_with (at_builtin;go_must (refine ZGJ wr (cn,cv) rfl _ _ rfl w.heap.size _ _ rfl HO2.o _ _ HO1.o HSP.o.symm rfl hl2 hzr ?_;intro v' w3 ho2 ho1 hsp hb3;have HA:=A ho2;have HB:=A ho1;have HC:=A hsp;clear ho2 ho1 hsp))
    go_roundw
    exact⟨k+1,by omega,by go_num,by rw[HS1.o,HM.o,ifN (by decide),Xj];exact HB.o,by rw[HS2.o,HM.o,ifP (by decide)];exact HA.o,HC.o.symm,HN.o.trans hb3⟩
    simp[intOf];omega
  .have e:ps.take k=ps:=Xc (by omega)
   have HF1:=A (show OwnP wr w.heap.size _ (ps.filter (ZBy nm vl valued))by have h:=HO1.o;rw[e]at h;exact h)
   have HF2:=A (show OwnP wr w.heap.size _ (ps.filter (fun p=>!ZBy nm vl valued p))by have h:=HO2.o;rw[e]at h;exact h)
   have HG1:=A ((filter_tl2 nm vl valued ps).trans (by rw[HNM.o,HVL.o]))
   have HG2:=A ((ZGI nm vl valued ps).trans (by rw[HNM.o,HVL.o]))
   clear hnone hsome hnx e;go_wp2;go_ret2;exact⟨_,_,_,_,rfl,HF1.o,HF2.o,HSP.o,HG1.o,HG2.o,Xk _ _,Xk _ _,HN.o⟩
theorem ZLJ(v:Value)(ps:List Pq)(n x:BA)(valued:Bool)(w:World)(hp:PlAt w v ps)(hl:ps.length<=1000000)(hn:n.size<=1000000)(hx:x.size<=1000000):Calls prog 100 #[v,J n,J x,C valued] w fun e w'=>e=Y (C (decide (0<((ps.map tl2).filter (ZBZ (clean (tl n)) (clean (tl x)) valued)).length)))/\Nx w w':=by
 obtain⟨ao,cap,hve,-⟩:=id hp;subst hve
 go_enter func100,ntmps100
 go_wp2_with fail
 refine(ZBW _ ps n x valued _ hp hl hn hx).mono ?_
 rintro e w1 ⟨a,b,fs,os,rfl,h1,h2,-,h3,-,h5,-,hn1⟩;obtain⟨ao1,cp1,rfl⟩:=ZzC h1;obtain⟨ao2,cp2,rfl⟩:=ZzC h2;have HN:=A hn1
 have HE:=A (show fs.length=((ps.map tl2).filter (ZBZ (clean (tl n)) (clean (tl x)) valued)).length by rw[<-h3,Xd])
 clear h1 h2 h3 hn1 hp;go_wp2;go_ret
 exact⟨Zm (by rw[HE.o,Bool.eq_iff_iff]<;>simp),HN.o⟩
def ZFL(l:List (List UInt8×List UInt8)):List UInt8:=match l with | []=>[]|p::_=>p.2
theorem ZIK(v:Value)(ps:List Pq)(n:BA)(w:World)(hp:PlAt w v ps)(hl:ps.length<=1000000)(hn:n.size<=1000000):Calls prog 98 #[v,J n] w fun e w'=>∃r:BA,e=Y (.tuple #[J r,C (decide (0<((ps.map tl2).filter (ZBZ (clean (tl n)) [] false)).length))])/\tl r=ZFL ((ps.map tl2).filter (ZBZ (clean (tl n)) [] false))/\Nx w w':=by
 obtain⟨ao,cap,hve,-⟩:=id hp;subst hve;generalize hF:(ps.map tl2).filter (ZBZ (clean (tl n)) [] false)=F;have HFF:=A hF;clear hF
 go_enter func98,ntmps98
 go_wp2_with fail
 refine(ZBW _ ps n ⟨#[]⟩ false _ hp hl hn (by decide)).mono ?_
 rintro e w1 ⟨a,b,fs,os,rfl,h1,h2,-,h3,-,h5,-,hn1⟩;rw[show clean (tl (⟨#[]⟩:BA))=[]from ZbC,HFF.o]at h3;obtain⟨ao2,cp2,rfl⟩:=ZzC h2;have hpl:=OwnP.at h1;obtain⟨ao1,cp1,rfl,hlc,hcap,hnone,hsome⟩:=hpl;unfold maxLen at hcap;have HN:=A hn1
 cases fs with
 | nil=>
  have HF:=A (show F=[]from h3.symm);clear h1 h2 h3 hn1 hp hnone hsome;simp only[Xm];go_wp2;go_ret2
  exact⟨⟨#[]⟩,by rw[HF.o];rfl,by rw[HF.o];rfl,HN.o⟩
 | cons p r=>
  have HF:=A (show F=tl2 p::r.map tl2 from h3.symm)
  have hpos:0<(p::r).length:=by simp
  obtain⟨a,ha⟩:=ZAh hpos hnone;subst ha;obtain⟨b,off,rfl,hr⟩:=hsome a rfl;obtain⟨c0,c1⟩:=hr.cell hpos
  have h0':(((p::r).length:Int)==0)=false:=beq_eq_false_iff_ne.2 (by omega)
  simp only[Nat.zero_mul,Nat.add_zero,List.getElem_cons_zero]at c0 c1;clear h1 h2 h3 hn1 hp hnone hsome hr;generalize (p::r).length=m at *;go_wp2;go_ret2
  exact⟨p.2,by rw[HF.o,decide_eq_true (show 0<(tl2 p::r.map tl2).length by simp)];rfl,by rw[HF.o];rfl,HN.o⟩
def FullS(w:World)(nb:Nat)(ss:List ByteArray):Prop:=w.heap[nb]?=some (O (ss.map Value.string).toArray 9 (0,0))
theorem FullS.on{w w':World}{nb:Nat}{ss:LA}(h:FullS w nb ss)(hb:Nx w w'):FullS w' nb ss:=(hb.block nb (Xg.1 h).1).trans h
theorem FullS.lt{w:World}{nb:Nat}{ss:LA}(h:FullS w nb ss):nb<w.heap.size:=(Xg.1 h).1
theorem FullS.cell{w:World}{nb:Nat}{ss:LA}(h:FullS w nb ss){k:Nat}(hk:k<ss.length):w.cell? ⟨nb,k,none⟩=some (J ss[k]):=by
 unfold FullS at h
 simp[World.cell?,h,hk]
theorem FullS.free{w:World}{nb:Nat}{ss:LA}(h:FullS w nb ss)(i:Nat):w.frozen? ⟨nb,i,none⟩=false:=by
 unfold FullS at h
 simp[World.frozen?,h]
theorem FullS.set{w:World}{nb:Nat}{ss:LA}(h:FullS w nb ss)(k:Nat)(n:BA):FullS (w.setCell ⟨nb,k,none⟩ (J n)) nb (ss.set k n):=by
 unfold FullS at *;simp only[World.setCell,Xr,ifP,h]
 simp[List.map_set]
def StrIs(w:World)(base:Nat)(v:Value)(ss:List ByteArray):Prop:=(ss=[]/\v=.slice none 0 0)∨(0<ss.length/\∃nb,base<=nb/\v=.slice (some ⟨nb,0,none⟩) ss.length ss.length/\FullS w nb ss)
theorem ZEQ:(prog.info? 9).map (fun i=>(i.zero,i.size,i.bytes))=some (some (J ByteArray.empty),1,16):=by kernel_rfl
theorem ZKj(n:Nat):madeCells #[Value.string ByteArray.empty] (n*1)=((List.replicate n ByteArray.empty).map Value.string).toArray:=by
 apply Array.toList_inj.1
 apply List.ext_getElem?
 intro i;rw[Array.getElem?_toList]
 by_cases hi:i<n*1
 .have hi':i<n:=by omega
  rw[show(madeCells #[Value.string ByteArray.empty] (n*1))[i]?=some (J ByteArray.empty)by simp[madeCells,hi',Nat.mod_one]]
  simp[hi']
 .rw[Array.getElem?_eq_none (by rw[size_madeCells];omega),List.getElem?_eq_none (by simp;omega)]
theorem ZKk(n:Nat)(hn:n<=1000000)(w:World):(Instr.makeSlice 78 (I X (n:Int)) (I X (n:Int))).run prog w=.ok (.slice (some ⟨w.heap.size,0,none⟩) n n) (w.alloc (.cells ((List.replicate n ByteArray.empty).map Value.string).toArray 9)):=by
 obtain⟨i,hi,hzz⟩:=Option.map_eq_some_iff.1 ZEQ;simp only[Prod.mk.injEq]at hzz;obtain⟨hz,hs,hb⟩:=hzz
 have hr:=run_make (P:=prog) w 78 9 i _ underlying78 hi hz .i64 .i64 n n (by omega) (Int.le_refl _) (by rw[hb];omega) (by omega)
 rw[hs]at hr;simp only[Int.toNat_natCast]at hr;rw[hr,<-ZKj]
 rfl
theorem ZIL(ss:LA)(n k:Nat)(hk:ss.length=k)(h:k<n)(x:BA):(ss++List.replicate (n-k) ByteArray.empty).set k x=(ss++[x])++List.replicate (n-(k+1)) ByteArray.empty:=by
 subst hk
 rw[Xx _ _ (Xe _),Xy,show n-ss.length=(n-(ss.length+1))+1 by omega,List.replicate_succ,List.set_cons_zero,XH]
 rfl
theorem ZGK(v:Value)(ps:List Pq)(n:BA)(w:World)(hp:PlAt w v ps)(hl:ps.length<=1000000)(hn:n.size<=1000000):Calls prog 99 #[v,J n] w fun e w'=>∃r ss,e=Y r/\StrIs w' w.heap.size r ss/\ss.map tl=((ps.map tl2).filter (ZBZ (clean (tl n)) [] false)).map (·.2)/\Nx w w':=by
 obtain⟨ao,cap,hve,-⟩:=id hp;subst hve;generalize hF:(ps.map tl2).filter (ZBZ (clean (tl n)) [] false)=F;have HFF:=A hF;clear hF
 go_enter func99,ntmps99
 go_wp2_with fail
 refine(ZBW _ ps n ⟨#[]⟩ false _ hp hl hn (by decide)).mono ?_
 rintro e w1 ⟨a,b,fs,os,rfl,h1,h2,-,h3,-,h5,-,hn1⟩;rw[show clean (tl (⟨#[]⟩:BA))=[]from ZbC,HFF.o]at h3;obtain⟨ao2,cp2,rfl⟩:=ZzC h2;have hpl:=OwnP.at h1;obtain⟨ao1,cp1,rfl,hlc,hcap,hnone,hsome⟩:=hpl;unfold maxLen at hcap;have HN:=A hn1;have hz1:=hn1.size
 have HF:=A (show F.map (·.2)=fs.map (fun p=>tl p.2)by rw[<-h3,Xt];rfl)
 clear h1 h2 h3 hn1 hp;rcases XI fs.length with h0|hpos
 .have h0':((fs.length:Int)==0)=true:=by rw[h0];rfl
  have HE:=A (show F.map (·.2)=[]by rw[HF.o,Xv h0];rfl)
  clear h0 hnone hsome;go_wp2;go_ret
  exact⟨_,[],rfl,XA ⟨rfl,rfl⟩,by rw[HE.o];rfl,HN.o⟩
 .have h0':((fs.length:Int)==0)=false:=beq_eq_false_iff_ne.2 (by omega)
  have hmk:=ZKk fs.length (by omega)
  go_wp2;clear hmk
  go_loopw [8] (fun i wr=>∃(k:Nat) (ss:LA),k<=fs.length/\ss.length=k/\i=I X k/\FullS wr w1.heap.size (ss++List.replicate (fs.length-k) ByteArray.empty)/\ss.map tl=(fs.take k).map (fun p=>tl p.2)/\Nx w1 wr) (fun i _=>fs.length-(intOf i).toNat)
  case atStart=>exact⟨0,[],Xf _,rfl,rfl,by unfold FullS;rw[heap_alloc_new];simp,rfl,Nx.rfl.alloc _⟩
  case round=>
   obtain⟨k,ss,hk,hpl,rfl,hrow,hE,hnx⟩:=hrel
   by_cases hlt:k<fs.length
   .obtain⟨a,ha⟩:=ZAh hlt hnone
    subst ha;obtain⟨b,off,rfl,hr⟩:=hsome a rfl;obtain⟨c0,c1⟩:=(hr.on hnx).cell hlt;have HR:=A hrow;have HE:=A hE;have HPL:=A hpl;have HNX:=A hnx
    have hkl:k<(ss++List.replicate (fs.length-k) ByteArray.empty).length:=by rw[Xs,Xz,hpl];omega
    have d0:=hrow.cell hkl;have f0:=hrow.free k
    have HS:=A (show(fs.take (k+1)).map (fun p=>tl p.2)=(fs.take k).map (fun p=>tl p.2)++[tl fs[k].2]by rw[Xa hlt,Xi];rfl)
    clear hnone hsome hr hrow hnx hE hpl;generalize fs[k]=c at *;obtain⟨cn,cv⟩:=c;simp only at c0 c1;go_wp2
    go_roundw
    case rel=>
     have hf:=HR.o.set k cv;rw[ZIL ss fs.length k HPL.o hlt cv]at hf
     refine⟨k+1,ss++[cv],by omega,by simp[HPL.o],by go_num,hf,?_,Below.setCell HNX.o (Xe _) _⟩
     rw[Xi,HE.o,HS.o]
     rfl
    case measure=>simp[intOf];omega
   .have hk2:fs.length=k:=by omega
    rw[show fs.length-k=0 by omega,XD,Xj]at hrow
    rw[Xc (by omega)]at hE
    have HR:=A hrow;have HNX:=A hnx
    have HE:=A (show ss.map tl=F.map (·.2)by rw[hE,HF.o])
    have HPL:=A (show ss.length=fs.length by omega)
    clear hrow hE hnx hnone hsome hk2;go_wp2;go_ret
    exact⟨_,ss,rfl,XB ⟨by rw[HPL.o];exact hpos,_,hz1,by rw[HPL.o];rfl,HR.o⟩,HE.o,HN.o.then HNX.o⟩
theorem ZAm(w:World)(k:Nat):Nx w (w.drewN k):=⟨rfl,rfl,rfl,Xe _,fun _ _=>rfl⟩
theorem ZFM(n:Int)(w:World)(h0:0<=n)(h1:n<=255):Calls prog 155 #[.int .u8 n] w fun e w'=>e=Y (.int .u8 (ZAW n))/\w=w':=by
 by_cases c1:240<=n
 focus
  have HR:=A (show ZAW n=n-2 from ifP c1)
 rotate_left
 focus
  by_cases c2:238<=n
  focus
   have HR:=A (show ZAW n=n+5 from(ifN c1).trans (ifP c2))
  rotate_left
  focus
   have HR:=A (show ZAW n=n from(ifN c1).trans (ifN c2))
 all_goals
  go_enter func155,ntmps155
  go_wp2;go_ret
  exact⟨Zaw (by rw[HR.o]),rfl⟩
theorem ZGL{a b:LB}{x y:UInt8}(h:x=y):Zz8 (x::a) (y::b)=Zz8 a b:=by unfold Zz8;simp only[Xn,aheadK,h,ifP]
theorem ZKl{a b:LB}{x y:UInt8}(h:¬(x.toNat:Int)=(y.toNat:Int)):Zz8 (x::a) (y::b)=decide (ZAW x.toNat<ZAW y.toNat):=by unfold Zz8;simp only[Xn,aheadK,ifN h]
theorem ZEl{a b:LB}(h:a=[]∨b=[]):Zz8 a b=decide (a.length<b.length):=by
 unfold Zz8;rcases h with rfl|rfl
 .cases b<;>rfl
 .cases a<;>rfl
theorem ZEm(a b:BA)(w:World)(ha:a.size<=1000000):Calls prog 106 #[J a,J b] w fun e w'=>e=Y (C (Zz8 (tl a) (tl b)))/\∃m,w'=w.drewN m:=by
 go_enter func106,ntmps106
 go_wp2
 go_loopw [5] (fun i wr=>∃k:Nat,k<=a.size/\k<=b.size/\i=I X k/\Zz8 (tl a) (tl b)=Zz8 ((tl a).drop k) ((tl b).drop k)/\∃m,wr=w.drewN m) (fun i _=>a.size-(intOf i).toNat)
 case atStart=>exact⟨0,Xf _,Xf _,rfl,rfl,0,rfl⟩
 case round=>
  obtain⟨k,hka,hkb,rfl,hE,m,rfl⟩:=hrel;have HE:=A hE;clear hE
  by_cases h1:k<a.size
  focus
   by_cases h2:k<b.size
   .have HA:=A (ZB a k h1)
    have HB:=A (ZB b k h2)
    have t1:decide ((k:Int)<(a.size:Int))=true:=decide_eq_true (by omega)
    have t2:decide ((k:Int)<(b.size:Int))=true:=decide_eq_true (by omega)
    have z1:((k:Int)==(a.size:Int))=false:=beq_eq_false_iff_ne.2 (by omega)
    have z2:((k:Int)==(b.size:Int))=false:=beq_eq_false_iff_ne.2 (by omega)
    have b1:=bb a[k];have b2:=bb b[k]
    cases hc:((a[k].toNat:Int)==(b[k].toNat:Int))
    .have HF:=A (show Zz8 (tl a) (tl b)=decide (ZAW a[k].toNat<ZAW b[k].toNat)by rw[HE.o,HA.o,HB.o];exact ZKl (beq_eq_false_iff_ne.1 hc))
     go_wp2
     go_quiet (fail)
     go_wp2_with fail
     refine(ZFM _ _ (by omega) (by omega)).mono ?_
     rintro e w' ⟨rfl,rfl⟩;go_wp2_with fail
     refine(ZFM _ _ (by omega) (by omega)).mono ?_
     rintro e w' ⟨rfl,rfl⟩;go_wp2;go_ret
     exact⟨Zm (by rw[HF.o]),_,rfl⟩
    .have HF:=A (show Zz8 (tl a) (tl b)=Zz8 ((tl a).drop (k+1)) ((tl b).drop (k+1))by
      rw[HE.o,HA.o,HB.o]
      exact ZGL (UInt8.toNat_inj.1 (by have:=beq_iff_eq.1 hc;omega)))
     go_wp2
     go_quiet (fail)
     go_wp2
     go_roundw
     exact⟨k+1,by omega,by omega,by go_num,HF.o,_,rfl⟩
     simp[intOf];omega
   focus
    have t1:decide ((k:Int)<(a.size:Int))=true:=decide_eq_true (by omega)
    have t2:decide ((k:Int)<(b.size:Int))=false:=decide_eq_false (by omega)
    have z1:((k:Int)==(a.size:Int))=false:=beq_eq_false_iff_ne.2 (by omega)
    have z2:((k:Int)==(b.size:Int))=true:=beq_iff_eq.2 (by omega)
    have HF:=A (show Zz8 (tl a) (tl b)=decide (a.size<b.size)by
     rw[HE.o,ZEl (XB (Zu b k (by omega))),Xo,Xo,Za,Za,decide_eq_decide]
     omega)
  rotate_left
  focus
   have t1:decide ((k:Int)<(a.size:Int))=false:=decide_eq_false (by omega)
   have z1:((k:Int)==(a.size:Int))=true:=beq_iff_eq.2 (by omega)
   have HF:=A (show Zz8 (tl a) (tl b)=decide (a.size<b.size)by
    rw[HE.o,ZEl (XA (Zu a k (by omega))),Xo,Xo,Za,Za,decide_eq_decide]
    omega)
  all_goals
   go_wp2
   go_quiet (fail)
   go_wp2;go_ret
   exact⟨Zm (by rw[HF.o,Bool.eq_iff_iff]<;>simp),_,rfl⟩
theorem ZHI(v:Value)(ps:List Pq)(w:World)(hp:PlAt w v ps)(hl:ps.length<=1000000):Calls prog 105 #[v] w fun e w'=>∃nb,w.heap.size<=nb/\e=Y (.slice (some ⟨nb,0,none⟩) ps.length ps.length)/\FullP w' nb ps/\Nx w w':=by
 obtain⟨ao,cap,rfl,hlc,hcap,hnone,hsome⟩:=hp;unfold maxLen at hcap;have hmk:=ZD7 ps.length hl
 go_enter func105,ntmps105
 go_wp2;clear hmk
 go_loopw [4] (fun i wr=>∃k:Nat,k<=ps.length/\i=I X k/\FullP wr w.heap.size (ps.take k++List.replicate (ps.length-k) ZJI)/\Nx w wr) (fun i _=>ps.length-(intOf i).toNat)
 case atStart=>exact⟨0,Xf _,rfl,heap_alloc_new w _,Nx.rfl.alloc _⟩
 case round=>
  obtain⟨k,hk,rfl,hrow,hnx⟩:=hrel
  by_cases hlt:k<ps.length
  .obtain⟨a,ha⟩:=ZAh hlt hnone
   subst ha;obtain⟨b,off,rfl,hr⟩:=hsome a rfl;obtain⟨c0,c1⟩:=(hr.on hnx).cell hlt
   have hkl:k<(ps.take k++List.replicate (ps.length-k) ZJI).length:=by rw[Xs,Xz,Xb];omega
   obtain⟨d0,d1⟩:=hrow.cell hkl;have f0:=hrow.free (k*2);have f1:=hrow.free (k*2+1);have hlt2:=hrow.lt;have HR:=A hrow;have HNX:=A hnx
   have HS:=A (ZD8 (ps.take k) ps.length k (by rw[Xb];omega) hlt ps[k])
   have HT:=A (Xa hlt);clear hnone hsome hr hrow hnx;generalize ps[k]=c at *;obtain⟨cn,cv⟩:=c;simp only at c0 c1;go_wp2
   go_roundw
   case rel=>
    have hf:=HR.o.set hkl cn cv;rw[HS.o,<-HT.o]at hf
    exact⟨k+1,by omega,by go_num,hf,Below.setCell (Below.setCell HNX.o (Xe _) _) (Xe _) _⟩
   case measure=>simp[intOf];omega
  .rw[show ps.length-k=0 by omega,XD,Xj,Xc (by omega)]at hrow
   have HR:=A hrow;have HNX:=A hnx;clear hrow hnx hnone hsome;go_wp2;go_ret;exact⟨_,Xe _,rfl,HR.o,HNX.o⟩
def ltQ(p q:Pq):Bool:=Zz8 (tl p.1) (tl q.1)
theorem ZLK{α β:Type}(f:α->β){lt:α->α->Bool}{lt':β->β->Bool}(h:∀x y,lt x y=lt' (f x) (f y))(S:List α)(x:α):(insP lt S x).map f=insP lt' (S.map f) (f x):=by
 have key:∀t:List α,(t.takeWhile (lt x)).map f=(t.map f).takeWhile (lt' (f x))/\(t.dropWhile (lt x)).map f=(t.map f).dropWhile (lt' (f x)):=by
  intro t
  induction t with
  | nil=>exact⟨rfl,rfl⟩
  | cons y t ih=>
   rw[Xn,XE,XE,XF,XF,<-h x y]
   cases lt x y
   .exact⟨rfl,rfl⟩
   .exact⟨by simp[ih.1],by simp[ih.2]⟩
 unfold insP;rw[Xi,Xn,Xu,Xu,(key _).1,(key _).2,Xu]
theorem ZFN{α β:Type}(f:α->β){lt:α->α->Bool}{lt':β->β->Bool}(h:∀x y,lt x y=lt' (f x) (f y))(l:List α):(ZzB lt l).map f=ZzB lt' (l.map f):=by
 have key:∀(l S:List α),(l.foldl (insP lt) S).map f=(l.map f).foldl (insP lt') (S.map f):=by
  intro l
  induction l with
  | nil=>intro S;rfl
  | cons x r ih=>intro S;rw[XL,ih,ZLK f h,Xn,XL]
 exact key l []
theorem ZLL(ps:List Pq):(ZzB ltQ ps).map tl2=ZzB ltB (ps.map tl2):=ZFN (lt:=ltQ) (lt':=ltB) tl2 (fun _ _=>rfl) ps
theorem ZLM{α:Type}(lt:α->α->Bool)(l:List α):ZzB lt (l.take 1)++l.drop 1=l:=by
 cases l with
 | nil=>rfl
 | cons x r=>rfl
theorem ZER{S R:List Pq}{h:Pq}{j:Nat}(hj:j<=S.length):(S.take j++h::(S.drop j++R))[j]?=some h:=by
 rw[List.getElem?_append_right (by rw[Xb];omega),Xb,XM hj,Xy]
 rfl
theorem ZMP{S R:List Pq}{h:Pq}{j:Nat}(hj:j<=S.length){i:Nat}(hi:i<j):(S.take j++h::(S.drop j++R))[i]?=some (S[i]'(by omega)):=by rw[List.getElem?_append_left (by rw[Xb];omega),List.getElem?_take,ifP hi,List.getElem?_eq_getElem (by omega)]
theorem ZKm{S R:List Pq}{h x:Pq}{j:Nat}(hj:j<=S.length):(S.take j++h::(S.drop j++R)).set j x=S.take j++x::(S.drop j++R):=by
 rw[Xx _ _ (by rw[Xb];omega),Xb,XM hj,Xy]
 rfl
theorem ZFO{l:List Pq}{i:Nat}{p:Pq}(h:l[i]?=some p):∃hi:i<l.length,l[i]=p:=by rw[List.getElem?_eq_some_iff]at h;exact h
theorem PB.of_alloc(w:World)(p:Pq):PB (w.alloc (O #[J p.1,J p.2] 113)) w.heap.size (J p.1) (J p.2):=heap_alloc_new w _
theorem ZKn(v:Value)(ps:List Pq)(w:World)(hp:PlAt w v ps)(hl:ps.length<=1000000)(hz:∀p∈ps,p.1.size<=1000000):Calls prog 48 #[v] w fun e w'=>∃nb qs,w.heap.size<=nb/\e=Y (.slice (some ⟨nb,0,none⟩) qs.length qs.length)/\FullP w' nb qs/\qs.map tl2=ZzB ltB (ps.map tl2)/\Nx w w':=by
 have HZ:=A hz;clear hz;obtain⟨ao,cap,hve,-⟩:=id hp;subst hve
 go_enter func48,ntmps48
 go_wp2_with fail
 refine(ZHI _ ps _ hp hl).mono ?_
 rintro e w1 ⟨nb,hnb,rfl,hf1,hn1⟩;have HF1:=A hf1;have HN1:=A hn1;have hw1:=hn1.size;clear hf1 hn1 hp;go_wp2
 go_loopw [4,5,6] (fun i _ _ wr=>∃k:Nat,1<=k/\(k<=ps.length∨k=1)/\i=I X k/\FullP wr nb (ZzB ltQ (ps.take k)++ps.drop k)/\Nx w wr) (fun i _ _ _=>ps.length-(intOf i).toNat)
 case atStart=>exact⟨1,Xe _,XB rfl,rfl,by rw[ZLM];exact HF1.o,HN1.o⟩
 case round=>
  obtain⟨k,hk1,hk2,rfl,hrow,hnx⟩:=hrel
  by_cases hlt:k<ps.length
  .have HX:=A (show ZzB ltQ (ps.take k)++ps.drop k=(ZzB ltQ (ps.take k)).take k++ps[k]::((ZzB ltQ (ps.take k)).drop k++ps.drop (k+1))by
    have e:(ZzB ltQ (ps.take k)).length=k:=by rw[sortI_len,Xb];omega
    have e1:=Xc (l:=ZzB ltQ (ps.take k)) (i:=k) (by omega)
    have e2:=Xq (l:=ZzB ltQ (ps.take k)) (i:=k) (by omega)
    rw[e1,e2,Xw hlt]
    rfl)
   have HSL:=A (show(ZzB ltQ (ps.take k)).length=k by rw[sortI_len,Xb];omega)
   have HNEXT:=A (show ZzB ltQ (ps.take (k+1))=insP ltQ (ZzB ltQ (ps.take k)) ps[k]by rw[Xa hlt,ZIA])
   have HSZ:Hid (∀p∈ZzB ltQ (ps.take k),p.1.size<=1000000):=A (fun p hp=>HZ.o p (List.mem_of_mem_take (ZDB hp)))
   have hxz:=HZ.o ps[k] (Xl hlt);rw[HX.o]at hrow;generalize hS:ZzB ltQ (ps.take k)=S at *;generalize hR:ps.drop (k+1)=R at *;generalize ps[k]=x at *;clear hS HX;have HRR:=A hR;clear hR;have HR:=A hrow;have HN:=A hnx;have hzr:=hnx.size
   obtain⟨hi,hg⟩:=ZFO (ZER (S:=S) (R:=R) (h:=x) (j:=k) (by rw[HSL.o];exact Xe _))
   obtain⟨c0,c1⟩:=hrow.cell hi;rw[hg]at c0 c1;have hnbl:=hrow.lt;clear hrow hnx hg;obtain⟨xn,xv⟩:=x;simp only at c0 c1 hxz;go_upto_region 6 with fail;have HPB:=A (PB.of_alloc wr (xn,xv));have HR2:=A (HR.o.on (Nx.rfl.alloc (O #[J xn,J xv] 113)));have HN2:=A (HN.o.then (Nx.rfl.alloc (O #[J xn,J xv] 113)));have hpb:nb<wr.heap.size:=hnbl;generalize hpq:wr.heap.size=pb at *;generalize hw2:wr.alloc (O #[J xn,J xv] 113)=w2 at *;clear hw2 c0 c1;clear hpq;simp only at HPB
   have hnp:nb≠pb:=by omega
   go_wp2
   go_loopw [6] (fun q wi=>∃(j:Nat) (h:Pq),j<=k/\q=I X j/\FullP wi nb (S.take j++h::(S.drop j++R))/\(∀y∈S.drop j,ltQ (xn,xv) y=true)/\PB wi pb (J xn) (J xv)/\Nx w wi) (fun q _=>(intOf q).toNat)
   case atStart=>exact⟨k,(xn,xv),Xe _,rfl,HR2.o,(by rw[Xq (by rw[HSL.o];exact Xe _)];intro y hy;cases hy),HPB.o,HN2.o⟩
   case round=>
    obtain⟨j,h,hj,rfl,hrow,hall,hpbf,hnx⟩:=hrel
    have hjS:j<=S.length:=by rw[HSL.o];exact hj
    have HR3:=A hrow;have HAL:=A hall;have HPB3:=A hpbf;have HN3:=A hnx;obtain⟨p0,p1,-⟩:=hpbf.facts;clear hall hpbf hnx HR HR2 HN HN2 HPB HF1 HN1
    by_cases h0:0<j
    focus
     have h0':decide ((0:Int)<(j:Int))=true:=decide_eq_true (by omega)
     have hj1:j-1<S.length:=by omega
     have hwrp:IntKind.i64.wrap ((j:Int)-1)=((j-1:Nat):Int):=by
      rw[IntKind.wrap_i64,show(j:Int)-1=((j-1:Nat):Int)by omega]
      have:j<=1000000:=by omega
      omega
     have hq1:j-1<ps.length:=by omega
     have hq2:((j-1:Nat):Int)<(ps.length:Int):=by omega
     have hq3:(0:Int)<=((j-1:Nat):Int):=by omega
     obtain⟨hi1,hg1⟩:=ZFO (ZMP (S:=S) (R:=R) (h:=h) (j:=j) hjS (i:=j - 1) (by omega))
     obtain⟨d0,d1⟩:=hrow.cell hi1;rw[hg1]at d0 d1;have hyz:=HSZ.o (S[j-1]'hj1) (Xl _)
     have HTK:=A (show S.take j=S.take (j-1)++[S[j-1]'hj1]by
      have e:=Xa hj1
      rw[show j-1+1=j by omega]at e
      exact e)
     have HDK:=A (show S.drop (j-1)=(S[j-1]'hj1)::S.drop j by
      have e:=Xw hj1
      rw[show j-1+1=j by omega]at e
      exact e)
     have HST:Hid (Zz8 (tl xn) (tl (S[j-1]'hj1).1)=false->ltQ (xn,xv) (S[j-1]'hj1)=false):=A id;have HGO:Hid (Zz8 (tl xn) (tl (S[j-1]'hj1).1)=true->ltQ (xn,xv) (S[j-1]'hj1)=true):=A id;clear hg1
     cases hc:Zz8 (tl xn) (tl (S[j-1]'hj1).1)
     focus
      have HFF:=A (HST.o hc);clear HST HGO;have HCC:=A hc;clear hc;generalize hyy:S[j-1]'hj1=y at *;obtain⟨yn,yv⟩:=y;simp only at d0 d1 hyz HCC;obtain⟨hi2,-⟩:=ZFO (ZER (S:=S) (R:=R) (h:=h) (j:=j) hjS);obtain⟨e0,e1⟩:=hrow.cell hi2;have g0:=hrow.free (j*2);have g1:=hrow.free (j*2+1)
      have HINS:=A (ZGA (lt:=ltQ) (S:=S) (x:=(xn,xv)) (k:=j) hjS HAL.o (fun _=>by rw[hyy];exact HFF.o))
      clear hrow;go_wp2;have hcc:=HCC.o
      go_quiet ((go_at_call 106;exact Calls.quiet_of (ZEm xn yn _ hxz)))
     rotate_left
     .have HFF:=A (HGO.o hc)
      clear HST HGO;have HCC:=A hc;clear hc;generalize hyy:S[j-1]'hj1=y at *;obtain⟨yn,yv⟩:=y;simp only at d0 d1 hyz HCC;clear hyy;obtain⟨hi2,-⟩:=ZFO (ZER (S:=S) (R:=R) (h:=h) (j:=j) hjS);obtain⟨e0,e1⟩:=hrow.cell hi2;have g0:=hrow.free (j*2);have g1:=hrow.free (j*2+1);clear hrow;go_wp2;have hcc:=HCC.o
      go_quiet ((go_at_call 106;exact Calls.quiet_of (ZEm xn yn _ hxz)))
      go_wp2
      go_roundw
      case rel=>
       have hf:=(HR3.o.on (ZAm _ nq)).set hi2 yn yv;rw[ZKm hjS]at hf
       refine⟨j-1,(yn,yv),by omega,by rw[show((j-1:Nat):Int)=(j:Int)-1 by omega],?_,?_,((HPB3.o.on (ZAm _ nq)).far hnp _ _).far hnp _ _,Below.setCell (Below.setCell (HN3.o.then (ZAm _ nq)) hnb _) hnb _⟩
       .rw[HDK.o,show S.take (j-1)++(yn,yv)::((yn,yv)::S.drop j++R)=S.take j++(yn,yv)::(S.drop j++R)by rw[HTK.o];simp]
        exact hf
       .rw[HDK.o]
        intro z hz;rcases List.mem_cons.1 hz with g|g
        .rw[g];exact HFF.o
        .exact HAL.o z g
      case measure=>simp[intOf];omega
    rotate_left
    focus
     have h0':decide ((0:Int)<(j:Int))=false:=decide_eq_false (by omega)
     obtain⟨hi2,-⟩:=ZFO (ZER (S:=S) (R:=R) (h:=h) (j:=j) hjS);obtain⟨e0,e1⟩:=hrow.cell hi2;have g0:=hrow.free (j*2);have g1:=hrow.free (j*2+1)
     have HINS:=A (ZGA (lt:=ltQ) (S:=S) (x:=(xn,xv)) (k:=j) hjS HAL.o (fun g=>absurd g h0))
     clear hrow;go_wp2
     go_quiet (fail)
    all_goals
     go_wp2
     go_roundw
     case rel=>
      have hf:=(HR3.o.on (ZAm _ nq)).set hi2 xn xv;rw[ZKm hjS]at hf
      exact⟨k+1,by omega,XA (by omega),by go_num,by rw[HNEXT.o,HINS.o,HRR.o,XH];exact hf,Below.setCell (Below.setCell (HN3.o.then (ZAm _ nq)) hnb _) hnb _⟩
     case measure=>simp[intOf];omega
  .have e:ZzB ltQ (ps.take k)++ps.drop k=ZzB ltQ ps:=by
    by_cases e0:k<=ps.length
    rotate_left
    all_goals
     rw[Xc (by omega),Xq (by omega),Xj]
   rw[e]at hrow;have HR:=A hrow;have HN:=A hnx;have HL:=A (show(ZzB ltQ ps).length=ps.length from sortI_len _ _);clear hrow hnx e;go_wp2;go_ret
   exact⟨nb,ZzB ltQ ps,hnb,by rw[HL.o];rfl,HR.o,ZLL ps,HN.o⟩
theorem ZBX{s:BA}(h:s.size<=160):s.size<=maxLen:=by unfold maxLen;omega
theorem ZDG{ps:List Pq}{l:LB}(h:ps.map tl2=Zzs l)(hl:l.length<=300000):∀p∈ps,p.1.size<=1000000/\p.2.size<=1000000:=by
 intro p hp
 have hm:tl2 p∈Zzs l:=by rw[<-h];exact Xp.2 ⟨p,hp,rfl⟩
 obtain⟨a,ha,he⟩:=Xp.1 hm;have h1:=ZId a;have h2:=ZD5 ha;rw[he]at h1;obtain⟨g1,g2⟩:=h1;have e1:(tl2 p).1.length=p.1.size:=Za _;have e2:(tl2 p).2.length=p.2.size:=Za _
 omega
theorem PrsIs.slice{w:World}{base:Nat}{v:Value}{ps:List Pq}(h:PrsIs w base v ps):∃ao cap,v=.slice ao ps.length cap:=by
 rcases h with⟨rfl,rfl⟩|⟨-,nb,-,rfl,-⟩
 .exact⟨none,0,rfl⟩
 .exact⟨_,_,rfl⟩
theorem ZAn(a b:BA)(w:World)(ha:a.size<=maxLen)(hb:b.size<=maxLen):Calls prog 97 #[J a,J b] w fun e w'=>e=Y (C (decide (160<a.size∨160<b.size)))/\w=w':=by
 unfold maxLen at ha hb
 by_cases h1:160<a.size
 .have h1':decide ((160:Int)<(a.size:Int))=true:=decide_eq_true (by omega)
  go_enter func97,ntmps97
  go_wp2;go_ret
  exact⟨Zm (by rw[decide_eq_true (XA h1)]),rfl⟩
 .have h1':decide ((160:Int)<(a.size:Int))=false:=decide_eq_false (by omega)
  by_cases h2:160<b.size
  .have h2':decide ((160:Int)<(b.size:Int))=true:=decide_eq_true (by omega)
   go_enter func97,ntmps97
   go_wp2;go_ret
   exact⟨Zm (by rw[decide_eq_true (XB h2)]),rfl⟩
  .have h2':decide ((160:Int)<(b.size:Int))=false:=decide_eq_false (by omega)
   go_enter func97,ntmps97
   go_wp2;go_ret
   exact⟨Zm (by rw[decide_eq_false (by omega)]),rfl⟩
theorem ZFP(pb:Nat)(r:Rc)(u:U)(bs:LA)(w:World)(h0:UrlB w pb r)(h:RcIs w r u bs):Calls prog 55 #[.pointer (some ⟨pb,0,none⟩)] w fun e w'=>e=Y (I X ((Zzs u.q).length:Int))/\Nx w w':=by
 go_enter func55,ntmps55
 go_wp2_with fail
 refine(ZAv pb r u bs _ h0 h).mono ?_
 rintro e w1 ⟨v,ps,rfl,h1,h2,h3⟩;obtain⟨ao,cap,rfl⟩:=h1.slice
 have HL:=A (show ps.length=(Zzs u.q).length by rw[<-h2,Xd])
 have HN:=A h3;clear h1 h2 h3 h0 h;go_wp2;go_ret
 exact⟨Zaw (by rw[HL.o]),HN.o⟩
theorem ZCJ{w:World}{r:Rc}{u:U}{bs:LA}(h:RcIs w r u bs):u.q.length<=300000:=by
 have e:tl r.q=u.q:=by rw[<-h.eq];rfl
 rw[<-e,Za];exact h.lq
theorem ZHJ(pb:Nat)(r:Rc)(u:U)(bs:LA)(w:World)(h0:UrlB w pb r)(h:RcIs w r u bs):Calls prog 56 #[.pointer (some ⟨pb,0,none⟩)] w fun e w'=>∃t:BA,e=Y (J t)/\tl t=ZzA (Zzs u.q)/\Nx w w':=by
 go_enter func56,ntmps56
 go_wp2_with fail
 refine(ZAv pb r u bs _ h0 h).mono ?_
 rintro e w1 ⟨v,ps,rfl,h1,h2,h3⟩;have hc:=ZzF h2 (ZCJ h);have hz:=ZDG h2 (ZCJ h);have HA:=A (h1.at hc);have HZ:=A hz;have H2:=A h2;have HN:=A h3;obtain⟨ao,cap,rfl⟩:=h1.slice;clear h1 h2 h3 h0 h hz;go_wp2_with fail
 refine(ZCY _ ps _ HA.o hc HZ.o).mono ?_
 rintro e w2 ⟨t,rfl,ht,hn⟩;have HT:=A ht;have HN2:=A (HN.o.then hn);clear ht hn;go_wp2;go_ret
 exact⟨t,rfl,by rw[HT.o,H2.o],HN2.o⟩
theorem ZIM(pb:Nat)(r:Rc)(u:U)(bs:LA)(n:BA)(w:World)(h0:UrlB w pb r)(h:RcIs w r u bs)(hn:n.size<=160):Calls prog 41 #[.pointer (some ⟨pb,0,none⟩),J n] w fun e w'=>∃t:BA,e=Y (.tuple #[J t,C (decide (0<((Zzs u.q).filter (ZBZ (clean (tl n)) [] false)).length))])/\tl t=ZFL ((Zzs u.q).filter (ZBZ (clean (tl n)) [] false))/\Nx w w':=by
 go_enter func41,ntmps41
 go_wp2_with fail
 refine(ZAn n ⟨#[]⟩ _ (ZBX hn) (Ze (by decide))).mono ?_
 rintro e w' ⟨rfl,rfl⟩
 rw[decide_eq_false (show ¬(160<n.size∨160<(⟨#[]⟩:BA).size)by rintro(g|g);omega;exact absurd g (by decide))]
 go_wp2_with fail
 refine(ZAv pb r u bs _ h0 h).mono ?_
 rintro e w1 ⟨v,ps,rfl,h1,h2,h3⟩;have hc:=ZzF h2 (ZCJ h);have HA:=A (h1.at hc);have H2:=A h2;have HN:=A h3;obtain⟨ao,cap,rfl⟩:=h1.slice;clear h1 h2 h3 h0 h;go_wp2_with fail
 refine(ZIK _ ps n _ HA.o hc (by omega)).mono ?_
 rintro e w2 ⟨t,rfl,ht,hn2⟩;have HT:=A ht;have HN2:=A (HN.o.then hn2);clear ht hn2;go_wp2;go_ret2
 exact⟨t,by rw[H2.o];rfl,by rw[HT.o,H2.o],HN2.o⟩
theorem ZGM(pb:Nat)(r:Rc)(u:U)(bs:LA)(n:BA)(w:World)(h0:UrlB w pb r)(h:RcIs w r u bs)(hn:n.size<=160):Calls prog 42 #[.pointer (some ⟨pb,0,none⟩),J n] w fun e w'=>∃v ss,e=Y v/\StrIs w' w.heap.size v ss/\ss.map tl=((Zzs u.q).filter (ZBZ (clean (tl n)) [] false)).map (·.2)/\Nx w w':=by
 go_enter func42,ntmps42
 go_wp2_with fail
 refine(ZAn n ⟨#[]⟩ _ (ZBX hn) (Ze (by decide))).mono ?_
 rintro e w' ⟨rfl,rfl⟩
 rw[decide_eq_false (show ¬(160<n.size∨160<(⟨#[]⟩:BA).size)by rintro(g|g);omega;exact absurd g (by decide))]
 go_wp2_with fail
 refine(ZAv pb r u bs _ h0 h).mono ?_
 rintro e w1 ⟨v,ps,rfl,h1,h2,h3⟩;have hc:=ZzF h2 (ZCJ h);have HA:=A (h1.at hc);have H2:=A h2;have HN:=A h3;have hzz:=h3.size;obtain⟨ao,cap,rfl⟩:=h1.slice;clear h1 h2 h3 h0 h;go_wp2_with fail
 refine(ZGK _ ps n _ HA.o hc (by omega)).mono ?_
 rintro e w2 ⟨x,ss,rfl,hss,ht,hn2⟩;have HT:=A ht;have HS:=A hss;have HN2:=A (HN.o.then hn2);clear ht hn2 hss;go_wp2;go_ret
 refine⟨x,ss,rfl,?_,by rw[HT.o,H2.o],HN2.o⟩
 rcases HS.o with g|⟨g1,nb,g2,g3,g4⟩
 .exact XA g
 .exact XB ⟨g1,nb,Xh hzz g2,g3,g4⟩
theorem ZLN(pb:Nat)(r:Rc)(u:U)(bs:LA)(n x:BA)(valued:Bool)(w:World)(h0:UrlB w pb r)(h:RcIs w r u bs)(hn:n.size<=160)(hx:x.size<=160):Calls prog 43 #[.pointer (some ⟨pb,0,none⟩),J n,J x,C valued] w fun e w'=>e=Y (C (decide (0<((Zzs u.q).filter (ZBZ (clean (tl n)) (clean (tl x)) valued)).length)))/\Nx w w':=by
 go_enter func43,ntmps43
 go_wp2_with fail
 refine(ZAn n x _ (ZBX hn) (ZBX hx)).mono ?_
 rintro e w' ⟨rfl,rfl⟩
 rw[decide_eq_false (show ¬(160<n.size∨160<x.size)by omega)]
 go_wp2_with fail
 refine(ZAv pb r u bs _ h0 h).mono ?_
 rintro e w1 ⟨v,ps,rfl,h1,h2,h3⟩;have hc:=ZzF h2 (ZCJ h);have HA:=A (h1.at hc);have H2:=A h2;have HN:=A h3;obtain⟨ao,cap,rfl⟩:=h1.slice;clear h1 h2 h3 h0 h;go_wp2_with fail
 refine(ZLJ _ ps n x valued _ HA.o hc (by omega) (by omega)).mono ?_
 rintro e w2 ⟨rfl,hn2⟩;have HN2:=A (HN.o.then hn2);clear hn2;go_wp2;go_ret
 exact⟨Zm (by rw[H2.o]),HN2.o⟩
theorem UrlB.s10{w:World}{b:Nat}{r:Rc}(h:UrlB w b r)(x:Bool):UrlB (w.setCell ⟨b,10,none⟩ (C x)) b { r with hq:=x }:=by
 unfold UrlB at *;simp only[World.setCell,Xr,ifP,h]
 rfl
theorem UrlB.s11{w:World}{b:Nat}{r:Rc}(h:UrlB w b r)(x:BA):UrlB (w.setCell ⟨b,11,none⟩ (J x)) b { r with q:=x }:=by
 unfold UrlB at *;simp only[World.setCell,Xr,ifP,h]
 rfl
theorem But.ksU{w w':World}{pb:Nat}{r:Rc}(hb:But pb w w')(hu:UrlB w pb r):Ks w w':=fun k cs fz hk=>by
 refine(hb.block k (Xg.1 hk).1 fun e=>?_).trans hk
 subst e;unfold UrlB at hu;rw[hk]at hu;simp only[Option.some.injEq,Obj.cells.injEq]at hu
 exact absurd hu.2.1 (by decide)
theorem RowP.butU{w w':World}{pb b off:Nat}{r:Rc}{ps:List Pq}(h:RowP w b off ps)(hb:But pb w w')(hu:UrlB w pb r):RowP w' b off ps:=by
 obtain⟨cs,fz,h1,h2⟩:=h
 refine⟨cs,fz,(hb.block b (Xg.1 h1).1 fun e=>?_).trans h1,h2⟩
 subst e;unfold UrlB at hu;rw[h1]at hu;simp only[Option.some.injEq,Obj.cells.injEq]at hu
 exact absurd hu.2.1 (by decide)
theorem PlAt.butU{w w':World}{pb:Nat}{r:Rc}{v:Value}{ps:List Pq}(h:PlAt w v ps)(hb:But pb w w')(hu:UrlB w pb r):PlAt w' v ps:=by
 obtain⟨ao,cap,h1,h2,h3,h4,h5⟩:=h
 exact⟨ao,cap,h1,h2,h3,h4,fun a ha=>by obtain⟨b,off,e,hr⟩:=h5 a ha;exact⟨b,off,e,hr.butU hb hu⟩⟩
def ZzR(u:U)(l:List (List UInt8×List UInt8)):U:=if l=[]then ZBT u else { u with hq:=true,q:=ZzA l }
theorem ZGN(pb:Nat)(r:Rc)(u:U)(bs:LA)(v:Value)(ps:List Pq)(w:World)(hu:UrlB w pb r)(hr:RcIs w r u bs)(hp:PlAt w v ps)(h0:ps.length=0):Calls prog 49 #[.pointer (some ⟨pb,0,none⟩),v] w fun e w'=>e=Y (.tuple #[])/\(∃r',UrlB w' pb r'/\RcIs w' r' (ZzR u (ps.map tl2)) bs)/\But pb w w':=by
 have HU:=A hu;have HR:=A hr;obtain⟨ao,cap,rfl,-⟩:=hp;obtain⟨u0,u1,u2,u3,u4,u5,u6,u7,u8,u9,u10,u11,u12,u13⟩:=hu.cells;obtain rfl:=Xv h0;have HE:=A (show ZzR u []=ZBT u from ifP rfl)
 have HQ:=A (fun wz=>ZGt r bs wz hr.lopath)
 have HRE:=A hr.eq;simp only[Xm];clear hu hr h0
 go_enter func49,ntmps49
 go_wp2_with fail
 refine(HQ.o _).mono ?_
 rintro e w1 ⟨r1,rfl,⟨p,hr1,hpl,hru⟩,hn1⟩;have HU1:=A (HU.o.on hn1);have HN1:=A hn1;have HR1:=A hr1;have HRU:=A hru;obtain⟨v0,v1,v2,v3,v4,v5,v6,v7,v8,v9,v10,v11,v12,v13⟩:=HU1.o.cells;obtain⟨f0,f1,f2,f3,f4,f5,f6,f7,f8,f9,f10,f11,f12,f13⟩:=ZaF HU1.o.free;clear hn1 hr1 hru u0 u1 u2 u3 u4 u5 u6 u7 u8 u9 u10 u11 u12 u13;go_wp2
 refine bodyPost_ret (results_none rfl _ _ _) rfl ⟨rfl,⟨r1,UrlB.put HU1.o r1,?_⟩,ZNC (But.nx HN1.o) _ _ _ _ _ _ _ _ _ _ _ _ _ _⟩
 refine RcIs.ks ?_ (ZH HU1.o.ty (by decide) _ _ _ _ _ _ _ _ _ _ _ _ _ _)
 rw[List.map_nil,HE.o,<-HRE.o,<-HRU.o];have hk:=HR.o.on HN1.o;rw[HR1.o]
 exact { hk with eq:=rfl,lopath:=hpl,lq:=Xf _ }
theorem ZFQ(pb:Nat)(r:Rc)(u:U)(bs:LA)(v:Value)(ps:List Pq)(w:World)(hu:UrlB w pb r)(hr:RcIs w r u bs)(hp:PlAt w v ps)(hl:ps.length<=1000000)(hz:∀p∈ps,p.1.size<=1000000/\p.2.size<=1000000)(hq:(ZzA (ps.map tl2)).length<=300000)(hpos:0<ps.length):Calls prog 49 #[.pointer (some ⟨pb,0,none⟩),v] w fun e w'=>e=Y (.tuple #[])/\(∃r',UrlB w' pb r'/\RcIs w' r' (ZzR u (ps.map tl2)) bs)/\But pb w w':=by
 have HU:=A hu;have HR:=A hr;have HP:=A hp;have HZ:=A hz;obtain⟨ao,cap,rfl,-⟩:=hp;obtain⟨u0,u1,u2,u3,u4,u5,u6,u7,u8,u9,u10,u11,u12,u13⟩:=hu.cells
 have HE:=A (show ZzR u (ps.map tl2)={ u with hq:=true,q:=ZzA (ps.map tl2) }from ifN (fun e=>by
  have:=congrArg List.length e;rw[Xd]at this;simp only[Xm]at this
  omega))
 have h0':((ps.length:Int)==0)=false:=beq_eq_false_iff_ne.2 (by omega)
 have f10:=hu.free 10;have HB1:=A ((But.refl pb w).set 10 (C true));have HU1:=A (hu.s10 true);have HP1:=A (HP.o.butU ((But.refl pb w).set 10 (C true)) hu);clear hu hr hz
 go_enter func49,ntmps49
 go_upto_region 4 with fail;clear u0 u1 u2 u3 u4 u5 u6 u7 u8 u9 u10 u11 u12 u13 f10;generalize w.setCell ⟨pb,10,none⟩ (C true)=w1 at *;obtain⟨v0,v1,v2,v3,v4,v5,v6,v7,v8,v9,v10,v11,v12,v13⟩:=HU1.o.cells;go_wp2_with fail
 refine(ZCY _ ps w1 HP1.o hl HZ.o).mono ?_
 rintro e w2 ⟨t,rfl,ht,hn2⟩;have HT:=A ht;have HU2:=A (HU1.o.on hn2);have HB2:=A (HB1.o.then (But.nx hn2));have f11:=HU2.o.free 11;have c11:=HU2.o.cells.2.2.2.2.2.2.2.2.2.2.2.1;clear ht hn2 v0 v1 v2 v3 v4 v5 v6 v7 v8 v9 v10 v11 v12 v13;go_wp2;have hbt:=HB2.o.set 11 (J t)
 refine bodyPost_end (results_none rfl _ _ _) rfl ⟨rfl,⟨_,HU2.o.s11 t,?_⟩,hbt⟩
 rw[HE.o,<-HT.o];have hk:=HR.o.ks (But.ksU hbt HU.o)
 exact { hk with eq:=by rw[<-HR.o.eq];rfl,lq:=by show t.size<=300000;rw[<-Za,HT.o];exact hq }
theorem ZBt(pb:Nat)(r:Rc)(u:U)(bs:LA)(v:Value)(ps:List Pq)(w:World)(hu:UrlB w pb r)(hr:RcIs w r u bs)(hp:PlAt w v ps)(hl:ps.length<=1000000)(hz:∀p∈ps,p.1.size<=1000000/\p.2.size<=1000000)(hq:(ZzA (ps.map tl2)).length<=300000):Calls prog 49 #[.pointer (some ⟨pb,0,none⟩),v] w fun e w'=>e=Y (.tuple #[])/\(∃r',UrlB w' pb r'/\RcIs w' r' (ZzR u (ps.map tl2)) bs)/\But pb w w':=by
 rcases XI ps.length with h0|hpos
 .exact ZGN pb r u bs v ps w hu hr hp h0
 .exact ZFQ pb r u bs v ps w hu hr hp hl hz hq hpos
theorem ZNm(pb:Nat)(r:Rc)(u:U)(bs:LA)(w:World)(hu:UrlB w pb r)(hr:RcIs w r u bs)(hq:(ZzA (ZzB ltB (Zzs u.q))).length<=300000):Calls prog 19 #[.pointer (some ⟨pb,0,none⟩)] w fun e w'=>e=Y (.tuple #[])/\(∃r',UrlB w' pb r'/\RcIs w' r' (ZzR u (ZzB ltB (Zzs u.q))) bs)/\But pb w w':=by
 have HU:=A hu;have HR:=A hr;have HLQ:=A (ZCJ hr)
 have HL:=A (fun w' h1 h2=>ZAv pb r u bs w' h1 h2)
 have HQ:=A hq;clear hu hr hq
 go_enter func19,ntmps19
 go_wp2_with fail
 refine(HL.o _ HU.o HR.o).mono ?_
 rintro e w1 ⟨v,ps,rfl,h1,h2,h3⟩;have hc:=ZzF h2 HLQ.o;have HZ:=A (ZDG h2 HLQ.o);have HA:=A (h1.at hc);have H2:=A h2;have HN:=A h3;obtain⟨ao,cap,rfl⟩:=h1.slice;clear h1 h2 h3;go_wp2_with fail
 refine(ZKn _ ps _ HA.o hc (fun p hp=>(HZ.o p hp).1)).mono ?_
 rintro e w2 ⟨nb,qs,hnb,rfl,hf,hqs,hn2⟩
 have HQS:=A (show qs.map tl2=ZzB ltB (Zzs u.q)by rw[hqs,H2.o])
 have hql:qs.length<=1000000:=by
  have e:=congrArg List.length hqs;rw[Xd,sortI_len,Xd]at e
  omega
 have HF:=A (show PlAt w2 (.slice (some ⟨nb,0,none⟩) qs.length qs.length) qs from⟨some ⟨nb,0,none⟩,qs.length,rfl,Xe _,by unfold maxLen;omega,(fun g=>by cases g),fun a ha=>⟨nb,0,(Option.some.inj ha).symm,hf.row⟩⟩)
 have HQZ:=A (show ∀p∈qs,p.1.size<=1000000/\p.2.size<=1000000 from fun p hp=>by
  have hm:tl2 p∈ps.map tl2:=ZDB (by rw[<-hqs];exact Xp.2 ⟨p,hp,rfl⟩)
  obtain⟨p',hp',e⟩:=Xp.1 hm;rw[<-ZGs e]
  exact HZ.o p' hp')
 have HN2:=A (HN.o.then hn2);clear hf hqs hn2;go_wp2_with fail
 refine(ZBt pb r u bs _ qs _ (HU.o.on HN2.o) (HR.o.on HN2.o) HF.o hql HQZ.o (by rw[HQS.o];exact HQ.o)).mono ?_
 rintro e w3 ⟨rfl,hx,hbt⟩;rw[HQS.o]at hx;have HX:=A hx;have HBT:=A ((But.nx HN2.o).then hbt);clear hx hbt;go_wp2;exact bodyPost_end (results_none rfl _ _ _) rfl ⟨rfl,HX.o,HBT.o⟩
end Go.Proofs.YtchkhibgbnhjpabGreatDoor
