import Derived.Test.YtchkhibgbnhjpabGreatDoorW07
open Array renaming getElem?_modify→Xa,getElem?_eq_some_iff→Xc,toList_inj→Xt
open List renaming length_cons→Xb,take_succ_eq_append_getElem→Xe,getElem?_cons_succ→Xf,length_map→Xg,set_cons_succ→Xh,map_append→Xi,length_replicate→Xj,eq_nil_of_length_eq_zero→Xk,take_of_length_le→Xn,reverse_append→Xq,mem_singleton→Xr,length_append→Xs,length_drop→Xu,append_nil→Xv,mem_cons→Xw,map_take→Xx
open Nat renaming le_refl→Xd,zero_le→Xl,le_trans→Xo
open Or renaming inl→Xm,inr→Xp
open Go.Value renaming string→J,bool→C,int→I
open Go.IntKind renaming i64→X
open Go.Ending renaming returned→Y
open Go.Obj renaming cells→O
namespace Go.Proofs.YtchkhibgbnhjpabGreatDoor
open Tryz
open Go.RowKit
set_option maxHeartbeats 32000000
set_option maxRecDepth 8000
variable [Fl]
set_option linter.all false
def plusB(c:UInt8):UInt8:=if c.toNat=43 then 32 else c
def ZBY(l:List UInt8):List UInt8:=l.map plusB
theorem ZIc(l:LB)(c:UInt8):ZBY (l++[c])=ZBY l++[plusB c]:=by simp[ZBY]
theorem ZDq(l:LB):(ZBY l).length=l.length:=by simp[ZBY]
theorem ZJH(s:BA)(w:World)(hs:s.size<=1000000):Calls prog 235 #[J s] w fun e w'=>∃r:BA,e=Y (J r)/\tl r=ZBY (tl s)/\Nx w w':=by
 go_enter func235,ntmps235
 go_wp2
 go_loopw [3,4] (fun o i wr=>∃k:Nat,k<=s.size/\i=I X k/\Zgy wr w.heap.size o (ZBY ((tl s).take k))/\Nx w wr) (fun _ i _=>s.size-(intOf i).toNat)
 case atStart=>exact⟨0,Xl _,rfl,ZdR w,Nx.rfl.alloc _⟩
 case round=>
  obtain⟨k,hk,rfl,hown,hnx⟩:=hrel
  by_cases hlt:k<s.size
  .have hb:=bb s[k]
   have HTK:=A ((congrArg ZBY (Zt s k hlt)).trans (ZIc _ _));have hz:=hnx.size
   have hsz:(ZBY ((tl s).take k)).length<1099511627776:=by simp only[ZDq,List.length_take];omega
   have HO:=A hown;have HN:=A hnx;clear hown hnx
   cases hit:((s[k].toNat:Int)==43)
   .have HT:=A (show plusB s[k]=s[k]by unfold plusB;rw[ifN (fun h=>by rw[h]at hit;cases hit)])
    have HT2:=A (Ze6 s[k])
    go_wp2_with (at_builtin;go_must (refine ZbA wr (s[k].toNat:Int) rfl _ _ rfl w.heap.size _ _ rfl HO.o rfl (by omega) (by omega) hsz hz ?_;intro v' w1 ho1 hb1 hk1;have HO1:=A ho1;clear ho1))
    go_roundw
    exact⟨k+1,by omega,by go_num,by rw[HTK.o,HT.o];have h:=HO1.o;rw[HT2.o]at h;exact h,HN.o.trans hb1⟩
    simp[intOf];omega
   .have HT:=A (show plusB s[k]=toB 32 by unfold plusB;rw[ifP (by simp only[beq_iff_eq]at hit;omega)];rfl)
    go_wp2_with (at_builtin;go_must (refine ZbA wr (32:Int) rfl _ _ rfl w.heap.size _ _ rfl HO.o rfl (by omega) (by omega) hsz hz ?_;intro v' w1 ho1 hb1 hk1;have HO1:=A ho1;clear ho1))
    go_roundw
    exact⟨k+1,by omega,by go_num,by rw[HTK.o,HT.o];exact HO1.o,HN.o.trans hb1⟩
    simp[intOf];omega
  .rw[ZQ s k (by omega)]at hown
   have hcv:=Zdp hown;clear hown;go_wp2;go_ret;exact⟨_,rfl,tl_mk _,hnx⟩
def ZAA(l:List UInt8):List UInt8:=clean (ZD (ZBY l))
theorem ZD2(n:Nat):∀l:LB,l.length<=n->(ZD l).length<=l.length:=by
 induction n with
 | zero=>intro l hl;have:l=[]:=Xk (by omega);subst this;rw[Zch];simp
 | succ n ih=>
  intro l hl
  cases l with
  | nil=>rw[Zch];simp
  | cons c r=>
   rw[ZbQ];simp only[Xb]at hl
   split
   .have h:=ih (r.drop 2) (by rw[Xu];omega)
    rw[Xu]at h;simp only[Xb]
    omega
   .have h:=ih r (by omega)
    simp only[Xb]
    omega
theorem ZBR(l:LB):(ZAA l).length<=3*l.length:=by
 have h1:=ZaJ (ZD (ZBY l));have h2:=ZD2 _ (ZBY l) (Xd _);rw[ZDq]at h2;unfold ZAA
 omega
theorem ZD3(s:BA)(w:World)(hs:s.size<=300000):Calls prog 203 #[J s] w fun e w'=>∃r:BA,e=Y (J r)/\tl r=ZAA (tl s)/\Nx w w':=by
 go_enter func203,ntmps203
 go_wp2_with fail
 refine(ZJH s _ (by omega)).mono ?_
 rintro e w1 ⟨a,rfl,ha,hn1⟩
 have hal:a.size<=300000:=by rw[<-Za,ha,ZDq,Za];exact hs
 go_wp2_with fail
 refine(Zjs a _ (by omega)).mono ?_
 rintro e w2 ⟨b,rfl,hb,hn2⟩
 have hbl:b.size<=300000:=by rw[<-Za,hb];exact Xo (ZD2 _ _ (Xd _)) (by rw[Za];exact hal)
 go_wp2_with fail
 refine(ZbZ b _ (by omega)).mono ?_
 rintro e w3 ⟨c,rfl,hc,hn3⟩
 have HC:=A (show tl c=ZAA (tl s)by rw[hc,hb,ha];rfl)
 have HN:=A ((hn1.then hn2).then hn3);clear ha hb hc hn1 hn2 hn3;go_wp2;go_ret;exact⟨c,rfl,HC.o,HN.o⟩
def PB(w:World)(b:Nat)(x y:Value):Prop:=w.heap[b]?=some (O #[x,y] 113 (0,0))
theorem PB.on{w w':World}{b:Nat}{x y:Value}(h:PB w b x y)(hb:Nx w w'):PB w' b x y:=(hb.block b (Xc.1 h).1).trans h
theorem PB.facts{w:World}{b:Nat}{x y:Value}(h:PB w b x y):w.cell? ⟨b,0,none⟩=some x/\w.cell? ⟨b,1,none⟩=some y/\w.frozen? ⟨b,0,none⟩=false/\w.frozen? ⟨b,1,none⟩=false/\b<w.heap.size:=by
 have hl:=(Xc.1 h).1;unfold PB at h
 refine⟨?_,?_,?_,?_,hl⟩<;>simp[World.cell?,World.frozen?,h]
theorem PB.s0{w:World}{b:Nat}{x y:Value}(h:PB w b x y)(u:Value):PB (w.setCell ⟨b,0,none⟩ u) b u y:=by
 unfold PB at *;simp only[World.setCell,Xa,ifP,h]
 rfl
theorem PB.s1{w:World}{b:Nat}{x y:Value}(h:PB w b x y)(u:Value):PB (w.setCell ⟨b,1,none⟩ u) b x u:=by
 unfold PB at *;simp only[World.setCell,Xa,ifP,h]
 rfl
theorem PB.far{w:World}{b q:Nat}{x y:Value}(h:PB w b x y)(hq:q≠b)(i:Nat)(u:Value):PB (w.setCell ⟨q,i,none⟩ u) b x y:=by unfold PB at *;simp only[World.setCell,Xa,ifN hq,h]
theorem ZNL{fn:Func}{R:Ending->World->Prop}{a:Act}{W:World}{c:Tmp}{rb:Nat}{x y:Value}(hres:fn.results=#[.cell c 113])(hc:a.tmps[c]?.getD undef=.pointer (some ⟨rb,0,none⟩))
  (hC:PB W rb x y) (hd:a.defers=[]) (hR:R (Y (.agg #[x,y])) W):bodyPost prog fn R .ret a W:=by
 obtain⟨y0,y1,-,-,-⟩:=hC.facts
 exact bodyPost_ret (v:=.agg #[x,y]) (by simp[results,hres,hc,go_sem,y0,y1]) hd hR
def ZAb(l:List UInt8):List UInt8×List UInt8:=(ZAA (bcut (isB 61) l).1,ZAA (bcut (isB 61) l).2.1)
theorem ZId(l:LB):(ZAb l).1.length<=3*l.length/\(ZAb l).2.length<=3*l.length:=by
 have h:=(Z9 (isB 61) l).1;have h1:=ZBR (bcut (isB 61) l).1;have h2:=ZBR (bcut (isB 61) l).2.1;unfold ZAb;simp only
 omega
theorem ZIe(s:BA)(w:World)(hs:s.size<=300000):Calls prog 154 #[J s] w fun e w'=>∃n v:BA,e=Y (.agg #[J n,J v])/\(tl n,tl v)=ZAb (tl s)/\Nx w w':=by
 go_enter func154,ntmps154
 go_wp2_with fail
 refine(Zd9 s 61 _ (Ze (by omega))).mono ?_
 rintro e w1 ⟨⟨a,b,rfl,ha,hb⟩,hn1⟩;have hlen:=(Z9 (isB 61) (tl s)).1;rw[<-ha,<-hb,Za,Za,Za]at hlen;have HR1:=A (PB.on (show PB (w.alloc (.cells #[J ⟨#[]⟩,J ⟨#[]⟩] 113)) w.heap.size _ _ from heap_alloc_new w _) hn1);have HN1:=A (show Nx w w1 from(Nx.rfl.alloc _).then hn1);have hw1:=HN1.o.size;have hrb:=HR1.o.facts.2.2.2.2;have HA:=A ha;have HB:=A hb;clear ha hb hn1;go_upto_region 3 with fail;have HP2:=A (show PB (w1.alloc (O #[Value.string ⟨#[]⟩,Value.string ⟨#[]⟩] 113)) w1.heap.size _ _ from heap_alloc_new w1 _);have HR2:=A (HR1.o.on (Nx.rfl.alloc (O #[Value.string ⟨#[]⟩,Value.string ⟨#[]⟩] 113)));have HN2:=A (show Nx w (w1.alloc (O #[Value.string ⟨#[]⟩,Value.string ⟨#[]⟩] 113))from HN1.o.alloc _);obtain⟨pb,hpb⟩:∃pb,pb=w1.heap.size:=⟨_,rfl⟩
 have hrp:w.heap.size<pb:=by rw[hpb];exact hrb
 rw[<-hpb]at HP2 ⊢;clear hw1 hrb;generalize (w1.alloc (O #[Value.string ⟨#[]⟩,Value.string ⟨#[]⟩] 113))=w2 at *;clear hpb HR1 HN1;go_wp2_with fail
 refine(ZD3 a _ (by omega)).mono ?_
 rintro e w3 ⟨n,rfl,hn,hn3⟩;have HP3:=A (HP2.o.on hn3);have HR3:=A (HR2.o.on hn3);have HN3:=A (HN2.o.then hn3);have HNM:=A (hn.trans (congrArg ZAA HA.o));clear hn hn3 HP2 HR2 HN2 HA;obtain⟨c0,c1,f0,f1,hl⟩:=HP3.o.facts;go_upto_region 4 with fail;have HP4:=A (HP3.o.s0 (J n))
 have HR4:=A (HR3.o.far (show pb≠w.heap.size by omega) 0 (J n))
 have HN4:=A (show Nx w (w3.setCell ⟨pb,0,none⟩ (J n))from Below.setCell HN3.o (by show w.heap.size<=pb;omega) _)
 clear c0 c1 f0 f1 hl;generalize w3.setCell ⟨pb,0,none⟩ (J n)=w4 at *;clear HP3 HR3 HN3;go_wp2_with fail
 refine(ZD3 b _ (by omega)).mono ?_
 rintro e w5 ⟨v,rfl,hv,hn5⟩;have HP5:=A (HP4.o.on hn5);have HR5:=A (HR4.o.on hn5);have HN5:=A (HN4.o.then hn5);have HVM:=A (hv.trans (congrArg ZAA HB.o));clear hv hn5 HP4 HR4 HN4 HB;obtain⟨c0,c1,f0,f1,hl⟩:=HP5.o.facts;go_upto_region 5 with fail;have HP6:=A (HP5.o.s1 (J v))
 have HR6:=A (HR5.o.far (show pb≠w.heap.size by omega) 1 (J v))
 have HN6:=A (show Nx w (w5.setCell ⟨pb,1,none⟩ (J v))from Below.setCell HN5.o (by show w.heap.size<=pb;omega) _)
 clear c0 c1 f0 f1 hl;generalize w5.setCell ⟨pb,1,none⟩ (J v)=w6 at *;clear HP5 HR5 HN5;obtain⟨c0,c1,f0,f1,hl⟩:=HP6.o.facts;obtain⟨d0,d1,g0,g1,hl2⟩:=HR6.o.facts;go_wp2
 exact ZNL (rb:=w.heap.size) results154 rfl ((HR6.o.s0 _).s1 _) rfl ⟨n,v,rfl,by unfold ZAb;rw[HNM.o,HVM.o],Below.setCell (Below.setCell HN6.o (Xd _) _) (Xd _) _⟩
theorem ZD4(n:Int):∀(l p:LB),p∈bsplit n l->p.length<=l.length:=by
 intro l
 induction l with
 | nil=>intro p hp;simp only[bsplit,Xr]at hp;subst hp;simp
 | cons c r ih=>
  intro p hp;rw[bsplit]at hp
  split at hp
  .rcases Xw.1 hp with rfl|hp
   .simp
   .have:=ih p hp;simp only[Xb];omega
  .split at hp
   .rw[Xr]at hp;subst hp;simp
   .next a q he=>
    rcases Xw.1 hp with rfl|hp
    .have:=ih a (by rw[he];simp);simp only[Xb];omega
    .have:=ih p (by rw[he];simp[hp]);simp only[Xb];omega
theorem ZBF(n:Int):∀l:LB,(bsplit n l).length<=l.length+1:=by
 intro l
 induction l with
 | nil=>simp[bsplit]
 | cons c r ih=>
  rw[bsplit]
  split
  .simp only[Xb];omega
  .split
   .simp
   .next a q he=>rw[he]at ih;simp only[Xb]at ih ⊢;omega
def ZCl(ps:List (List UInt8)):List (List UInt8):=ps.filter fun p=>!p.isEmpty
def ZBq(l:List UInt8):List (List UInt8):=ZCl (bsplit 38 l)
theorem ZIf(ps:List LB)(p:LB):ZCl (ps++[p])=ZCl ps++(if p.isEmpty then []else [p]):=by
 simp only[ZCl,List.filter_append]
 cases h:p.isEmpty<;>simp[List.filter,h]
theorem ZD5{l p:LB}(h:p∈ZBq l):p.length<=l.length:=ZD4 38 l p (List.mem_filter.1 h).1
theorem ZCU(l:LB):(ZBq l).length<=l.length+1:=Xo (List.length_filter_le _ _) (ZBF 38 l)
theorem ZEK(cs:LA)(k:Nat)(h:k<cs.length):(cs.map tl).take (k+1)=(cs.map tl).take k++[tl cs[k]]:=by rw[<-Xx,<-Xx,Xe h,Xi];rfl
theorem ZIg(s:BA)(w:World)(hs:s.size<=300000):Calls prog 153 #[J s] w fun e w'=>∃v bs,e=Y v/\ZbP w' v bs/\bs.map tl=ZBq (tl s)/\Nx w w':=by
 go_enter func153,ntmps153
 go_wp2_with fail
 refine(ZeG s 38 _ (by omega)).mono ?_
 rintro e w1 ⟨v,cs,rfl,hv,hcs,hn1⟩
 have hcl:cs.length<=300001:=by have h:=ZBF 38 (tl s);rw[<-hcs,Xg,Za]at h;omega
 have HN1:=A hn1;have HCS:=A hcs;clear hn1 hcs;obtain⟨ao,cap,rfl,hlc,hcap,hnone,hsome⟩:=hv;unfold maxLen at hcap;go_wp2
 go_loopw [4,5] (fun o i wr=>∃(k:Nat) (bs:LA),k<=cs.length/\i=I X k/\ZbK wr w1.heap.size o bs/\bs.map tl=ZCl ((cs.map tl).take k)/\bs.length<=k/\Nx w1 wr) (fun _ i _=>cs.length-(intOf i).toNat)
 case atStart=>exact⟨0,[],Xl _,rfl,Zju w1,rfl,by simp,Nx.rfl.alloc _⟩
 case round=>
  obtain⟨k,bs,hk,rfl,hown,hE,hbl,hnx⟩:=hrel
  by_cases hlt:k<cs.length
  .obtain⟨a,ha⟩:=Zv hlt hnone
   subst ha;obtain⟨b,off,rfl,hr⟩:=hsome a rfl;have hck:=(hr.on hnx).cell hlt;have HSN:=A ((congrArg ZCl (ZEK cs k hlt)).trans (ZIf _ _));have HO:=A hown;have HN:=A hnx;have HE:=A hE;have hz:=hnx.size
   have hbl2:bs.length<1099511627776:=by omega
   clear hnone hsome hr hown hnx hE
   by_cases h0:cs[k].size=0
   .have h0':=Zo h0
    have HT:=A (show(tl cs[k]).isEmpty=true by rw[Zz h0];rfl)
    clear h0;go_wp2
    go_roundw
    exact⟨k+1,bs,by omega,by go_num,HO.o,by rw[HSN.o,HT.o,ifP rfl,Xv];exact HE.o,by omega,HN.o⟩
    simp[intOf];omega
   .have h0':=Zj h0
    have HT:=A (show(tl cs[k]).isEmpty=false by have h:=ZdF h0;cases he:tl cs[k]<;>simp_all)
    clear h0
    go_wp2_with (at_builtin;go_must (refine Zds wr cs[k] rfl _ _ rfl w1.heap.size _ bs rfl HO.o rfl hbl2 hz ?_;intro v' w2 ho2 hb2 _;have HO2:=A ho2;clear ho2))
    go_roundw
    exact⟨k+1,bs++[cs[k]],by omega,by go_num,HO2.o,by rw[HSN.o,HT.o,ifN (by decide),Xi,HE.o];rfl,by simp;omega,HN.o.trans hb2⟩
    simp[intOf];omega
  .rw[Xn (by rw[Xg];omega)]at hE
   have HE:=A (show bs.map tl=ZBq (tl s)by rw[hE,HCS.o];rfl)
   have HO:=A hown;have HN:=A hnx;clear hE hown hnx hnone hsome;go_wp2;go_ret;exact⟨_,_,rfl,Zcf HO.o,HE.o,HN1.o.then HN.o⟩
abbrev Pq:=ByteArray×ByteArray
def cellsP(ps:List Pq):List Value:=ps.flatMap fun p=>[Value.string p.1,Value.string p.2]
theorem cellsP_len(ps:List Pq):(cellsP ps).length=2*ps.length:=by
 induction ps with
 | nil=>rfl
 | cons p q ih=>show(_::_::cellsP q).length=_;simp only[Xb,ih];omega
theorem ZAO(ps:List Pq):∀(k:Nat) (h:k<ps.length),(cellsP ps)[k*2]?=some (J ps[k].1)/\(cellsP ps)[k*2+1]?=some (J ps[k].2):=by
 induction ps with
 | nil=>intro k h;simp at h
 | cons p q ih=>
  intro k h
  cases k with
  | zero=>exact⟨rfl,rfl⟩
  | succ k=>
   have h':=ih k (by simp only[Xb]at h;omega)
   have e:(k+1)*2=k*2+1+1:=by omega
   rw[e]
   show(_::_::cellsP q)[k*2+1+1]?=_/\(_::_::cellsP q)[k*2+1+1+1]?=_
   rw[Xf,Xf,Xf,Xf];exact h'
theorem ZD6(ps:List Pq):∀(k:Nat) (n v:BA),k<ps.length->((cellsP ps).set (k*2) (J n)).set (k*2+1) (J v)=cellsP (ps.set k (n,v)):=by
 induction ps with
 | nil=>intro k n v h;simp at h
 | cons p q ih=>
  intro k n v h
  cases k with
  | zero=>rfl
  | succ k=>
   have h':=ih k n v (by simp only[Xb]at h;omega)
   have e:(k+1)*2=k*2+1+1:=by omega
   rw[e]
   show((_::_::cellsP q).set (k*2+1+1) _).set (k*2+1+1+1) _=_
   rw[Xh,Xh,Xh,Xh,h']
   rfl
def FullP(w:World)(nb:Nat)(ps:List Pq):Prop:=w.heap[nb]?=some (O (cellsP ps).toArray 113 (0,0))
theorem FullP.on{w w':World}{nb:Nat}{ps:List Pq}(h:FullP w nb ps)(hb:Nx w w'):FullP w' nb ps:=(hb.block nb (Xc.1 h).1).trans h
theorem FullP.lt{w:World}{nb:Nat}{ps:List Pq}(h:FullP w nb ps):nb<w.heap.size:=(Xc.1 h).1
theorem FullP.cell{w:World}{nb:Nat}{ps:List Pq}(h:FullP w nb ps){k:Nat}(hk:k<ps.length):w.cell? ⟨nb,k*2,none⟩=some (J ps[k].1)/\w.cell? ⟨nb,k*2+1,none⟩=some (J ps[k].2):=by
 obtain⟨h1,h2⟩:=ZAO ps k hk;unfold FullP at h
 constructor<;>simp only[World.cell?,h]<;>simpa using by first|exact h1|exact h2
theorem FullP.free{w:World}{nb:Nat}{ps:List Pq}(h:FullP w nb ps)(i:Nat):w.frozen? ⟨nb,i,none⟩=false:=by
 unfold FullP at h
 simp[World.frozen?,h]
theorem FullP.set{w:World}{nb:Nat}{ps:List Pq}(h:FullP w nb ps){k:Nat}(hk:k<ps.length)(n v:BA):FullP ((w.setCell ⟨nb,k*2,none⟩ (J n)).setCell ⟨nb,k*2+1,none⟩ (J v)) nb (ps.set k (n,v)):=by
 unfold FullP at *
 have h1:(w.setCell ⟨nb,k*2,none⟩ (J n)).heap[nb]?=some (O ((cellsP ps).set (k*2) (J n)).toArray 113 (0,0)):=by
  simp only[World.setCell,Xa,ifP,h]
  simp
 rw[<-ZD6 ps k n v hk];generalize w.setCell ⟨nb,k*2,none⟩ (J n)=w1 at *;simp only[World.setCell,Xa,ifP,h1]
 simp
def ZJI:Pq:=(ByteArray.empty,ByteArray.empty)
theorem ZAK:(prog.info? 113).map (fun i=>(i.zero,i.size,i.bytes))=some (some (.agg #[J ByteArray.empty,J ByteArray.empty]),2,32):=by kernel_rfl
theorem ZIh(n:Nat):madeCells #[Value.string ByteArray.empty,Value.string ByteArray.empty] (n*2)=(cellsP (List.replicate n ZJI)).toArray:=by
 apply Xt.1
 apply List.ext_getElem?
 intro i;rw[Array.getElem?_toList]
 by_cases hi:i<n*2
 .obtain⟨h1,h2⟩:=ZAO (List.replicate n ZJI) (i/2) (by rw[Xj];omega)
  have hz:(madeCells #[Value.string ByteArray.empty,Value.string ByteArray.empty] (n*2))[i]?=some (J ByteArray.empty):=by
   have hm:i%2=0∨i%2=1:=by omega
   rcases hm with hm|hm<;>simp[madeCells,hi,hm]
  rw[hz]
  have hm:i=i/2*2∨i=i/2*2+1:=by omega
  rcases hm with hm|hm
  .rw[hm,h1];simp[ZJI]
  .rw[hm,h2];simp[ZJI]
 .rw[Array.getElem?_eq_none (by rw[size_madeCells];omega),List.getElem?_eq_none (by rw[List.toList_toArray,cellsP_len,Xj];omega)]
theorem ZD7(n:Nat)(hn:n<=1000000)(w:World):(Instr.makeSlice 68 (I X (n:Int)) (I X (n:Int))).run prog w=.ok (.slice (some ⟨w.heap.size,0,none⟩) n n) (w.alloc (.cells (cellsP (List.replicate n ZJI)).toArray 113)):=by
 obtain⟨i,hi,hzz⟩:=Option.map_eq_some_iff.1 ZAK;simp only[Prod.mk.injEq]at hzz;obtain⟨hz,hs,hb⟩:=hzz
 have hr:=run_make (P:=prog) w 68 113 i _ underlying68 hi hz .i64 .i64 n n (by omega) (Int.le_refl _) (by rw[hb];omega) (by omega)
 rw[hs]at hr;simp only[Int.toNat_natCast]at hr;rw[hr,<-ZIh]
 rfl
def Zzs(l:List UInt8):List (List UInt8×List UInt8):=(ZBq l).map ZAb
def tl2(p:Pq):List UInt8×List UInt8:=(tl p.1,tl p.2)
def PrsIs(w:World)(base:Nat)(v:Value)(ps:List Pq):Prop:=(ps=[]/\v=.slice none 0 0)∨(0<ps.length/\∃nb,base<=nb/\v=.slice (some ⟨nb,0,none⟩) ps.length ps.length/\FullP w nb ps)
theorem ZD8(ps:List Pq)(n k:Nat)(hk:ps.length=k)(h:k<n)(p:Pq):(ps++List.replicate (n-k) ZJI).set k p=(ps++[p])++List.replicate (n-(k+1)) ZJI:=by
 subst hk
 rw[List.set_append_right _ _ (Xd _),Nat.sub_self,show n-ps.length=(n-(ps.length+1))+1 by omega,List.replicate_succ,List.set_cons_zero,List.append_assoc]
 rfl
theorem ZGo(s:BA)(w:World)(hs:s.size<=300000):Calls prog 104 #[J s] w fun e w'=>∃v ps,e=Y v/\PrsIs w' w.heap.size v ps/\ps.map tl2=Zzs (tl s)/\Nx w w':=by
 go_enter func104,ntmps104
 go_wp2_with fail
 refine(ZIg s _ hs).mono ?_
 rintro e w1 ⟨v,cs,rfl,hv,hcs,hn1⟩
 have hcl:cs.length<=300001:=by have h:=ZCU (tl s);rw[<-hcs,Xg,Za]at h;omega
 have hcm:∀c∈cs,c.size<=300000:=fun c hc=>by
  have h:=ZD5 (l:=tl s) (p:=tl c) (by rw[<-hcs];exact List.mem_map.2 ⟨c,hc,rfl⟩)
  rw[Za,Za]at h
  omega
 have HCM:=A hcm;have HN1:=A hn1
 have HCS:=A (show Zzs (tl s)=cs.map (fun c=>ZAb (tl c))by unfold Zzs;rw[<-hcs,List.map_map];rfl)
 have hw1:=hn1.size;clear hn1 hcs hcm;obtain⟨ao,cap,rfl,hlc,hcap,hnone,hsome⟩:=hv;unfold maxLen at hcap;rcases Nat.eq_zero_or_pos cs.length with h0|hpos
 .have h0':((cs.length:Int)==0)=true:=by rw[h0];rfl
  have HE:=A (show Zzs (tl s)=[]by rw[HCS.o,Xk h0];rfl)
  clear h0 hnone hsome;go_wp2;go_ret;exact⟨_,[],rfl,Xm ⟨rfl,rfl⟩,HE.o.symm,HN1.o⟩
 .have h0':((cs.length:Int)==0)=false:=beq_eq_false_iff_ne.2 (by omega)
  have hmk:=ZD7 cs.length (by omega)
  go_wp2;clear hmk
  go_loopw [5] (fun i wr=>∃(k:Nat) (ps:List Pq),k<=cs.length/\ps.length=k/\i=I X k/\FullP wr w1.heap.size (ps++List.replicate (cs.length-k) ZJI)/\ps.map tl2=(cs.take k).map (fun c=>ZAb (tl c))/\Nx w1 wr) (fun i _=>cs.length-(intOf i).toNat)
  case atStart=>exact⟨0,[],Xl _,rfl,rfl,heap_alloc_new w1 _,rfl,Nx.rfl.alloc _⟩
  case round=>
   obtain⟨k,ps,hk,hpl,rfl,hrow,hE,hnx⟩:=hrel
   by_cases hlt:k<cs.length
   .obtain⟨a,ha⟩:=Zv hlt hnone
    subst ha;obtain⟨b,off,rfl,hr⟩:=hsome a rfl;have hck:=(hr.on hnx).cell hlt;have hsz:=HCM.o cs[k] (List.getElem_mem hlt);have HR:=A hrow;have HN:=A hnx;have HE:=A hE;have HPL:=A hpl;clear hnone hsome hr hrow hnx hE hpl;go_wp2_with fail
    refine(ZIe cs[k] _ hsz).mono ?_
    rintro e w2 ⟨n,v,rfl,hnv,hn2⟩;have HR2:=A (HR.o.on hn2);have HN2:=A (HN.o.then hn2);have HNV:=A hnv;clear hnv hn2 HR HN
    have hkl:k<(ps++List.replicate (cs.length-k) ZJI).length:=by rw[Xs,Xj,HPL.o];omega
    obtain⟨d0,d1⟩:=HR2.o.cell hkl;have f0:=HR2.o.free (k*2);have f1:=HR2.o.free (k*2+1);have hlt2:=HR2.o.lt;go_wp2
    go_roundw
    case rel=>
     have hf:=HR2.o.set hkl n v;rw[ZD8 ps cs.length k HPL.o hlt (n,v)]at hf
     refine⟨k+1,ps++[(n,v)],by omega,by simp[HPL.o],by go_num,hf,?_,Below.setCell (Below.setCell HN2.o (Xd _) _) (Xd _) _⟩
     rw[Xi,HE.o,Xe hlt,Xi]
     show _++[(tl n,tl v)]=_
     rw[HNV.o]
     rfl
    case measure=>simp[intOf];omega
   .have hk2:cs.length=k:=by omega
    rw[show cs.length-k=0 by omega,List.replicate_zero,Xv]at hrow
    rw[Xn (by omega)]at hE
    have HR:=A hrow;have HN:=A hnx
    have HE:=A (show ps.map tl2=Zzs (tl s)by rw[hE,HCS.o])
    have HPL:=A (show ps.length=cs.length by omega)
    clear hrow hnx hE hpl hk2 hnone hsome;go_wp2;go_ret
    exact⟨_,ps,rfl,Xp ⟨by rw[HPL.o];exact hpos,w1.heap.size,hw1,by rw[HPL.o];rfl,HR.o⟩,HE.o,HN1.o.then HN.o⟩
def Zzy(u:U):List UInt8:=u.sch++[58,47,47]++ZaA u
theorem ZBG(r:Rc)(u:U)(bs:LA)(w:World)(h:RcIs w r u bs)(ht:Tb w):Calls prog 145 #[.agg #[J r.sch,J r.nam,J r.pw,C r.hh,J r.host,C r.hp,I X (r.port:Int),C r.op,J r.opath,.slice r.so r.sn r.sc,C r.hq,J r.q,C r.hf,J r.fr]] w fun e w'=>∃t:BA,e=Y (J t)/\tl t=Zzy u/\t.size<=1000000/\Nx w w':=by
 have hs:=h.lsch
 have HE:=A (show Zzy u=tl r.sch++[58,47,47]++ZaA u by rw[<-h.eq];rfl)
 have HTB:=A ht;have HRC:=A h;have HB:=A (ZbL w r)
 have HPT:=A (fun w1 (hn:Nx w w1)=>ZeI r u bs w1 (HRC.o.on hn) (HTB.o.on hn))
 clear h ht
 go_enter func145,ntmps145
 go_wp2
 go_region_with (go_at_call 84;refine(HPT.o _ ((Nx.rfl.alloc _).drew)).mono ?_;rintro e w1 ⟨x,rfl,hx,hxs,hn⟩;obtain⟨hc0,-⟩:=(RecB.on (RecB.on HB.o Nx.rfl.drew) hn).cells;have HX:=A hx;have HN:=A (show Nx w w1 from((Nx.rfl.alloc _).drew).then hn);clear hx hn)
 all_goals go_wp2
 all_goals go_ret
 all_goals exact⟨r.sch++(⟨#[58,47,47]⟩:BA)++x,rfl,by rw[HE.o,Zd,Zd,HX.o];rfl,by rw[Zk,Zk];show r.sch.size+3+x.size<=_;omega,HN.o⟩
def ZIk:List UInt8:=[110,117,108,108]
def ZAU(u:U):List UInt8:=
 if(ZbN (ZaL u)).2≠0 then ZIk
 else if(ZbN (ZaL u)).1.sch≠[104,116,116,112]/\(ZbN (ZaL u)).1.sch≠[104,116,116,112,115]then ZIk else Zzy (ZbN (ZaL u)).1
theorem ZDQ(r:Rc)(u:U)(bs:LA)(w:World)(h:RcIs w r u bs)(ht:Tb w)(hpl:(ZaL u).length<=9000):Calls prog 146 #[.agg #[J r.sch,J r.nam,J r.pw,C r.hh,J r.host,C r.hp,I X (r.port:Int),C r.op,J r.opath,.slice r.so r.sn r.sc,C r.hq,J r.q,C r.hf,J r.fr]] w fun e w'=>∃t:BA,e=Y (J t)/\tl t=ZAU u/\t.size<=1000000/\Nx w w':=by
 have HTB:=A ht;have HRC:=A h;have HPL:=A hpl
 have HD:=A (show ZAU u=if(ZbN (ZaL u)).2≠0 then ZIk else if(ZbN (ZaL u)).1.sch≠[104,116,116,112]/\(ZbN (ZaL u)).1.sch≠[104,116,116,112,115]then ZIk else Zzy (ZbN (ZaL u)).1 from rfl)
 clear h ht hpl
 go_enter func146,ntmps146
 go_wp2_with fail
 refine(ZeJ r u bs _ (HRC.o.on (Nx.rfl.alloc _))).mono ?_
 rintro e w1 ⟨x,rfl,hx,hxs,hn⟩
 have hxl:x.size<=9000:=by rw[<-Za,hx];exact HPL.o
 have HN:=A (show Nx w w1 from(Nx.rfl.alloc _).then hn);rw[<-hx]at HD;clear hx hn hxs HPL;go_wp2_with fail
 refine(ZlC x _ hxl (HTB.o.on HN.o)).mono ?_
 rintro e w2 ⟨⟨r2,ds,rfl,hr,hdl⟩,hn⟩;have HR:=A hr;have HN2:=A (show Nx w w2 from HN.o.then hn);clear hr hn HN;generalize ZbN (tl x)=q at *;obtain⟨qu,err⟩:=q;simp only at HR HD
 by_cases he:err=0
 .subst he
  have HD2:=A (HD.o.trans (ifN (by decide)))
  clear HD
  have HS:=A (show tl r2.sch=qu.sch from by rw[HR.o.usch])
  by_cases h1:tl r2.sch=[104,116,116,112]
  focus
   have HE:=A (HD2.o.trans (ifN (fun k=>k.1 (HS.o.symm.trans h1))))
   have h1':=eqB h1;clear HD2 h1
  rotate_left
  focus
   have h1':=neB h1
   by_cases h2:tl r2.sch=[104,116,116,112,115]
   focus
    have HE:=A (HD2.o.trans (ifN (fun k=>k.2 (HS.o.symm.trans h2))))
    have h2':=eqB h2;clear HD2 h1 h2
   rotate_left
   .have HE:=A (HD2.o.trans (ifP ⟨fun k=>h1 (HS.o.trans k),fun k=>h2 (HS.o.trans k)⟩))
    have h2':=neB h2;clear HD2 h1 h2;go_wp2;go_ret
    exact⟨⟨#[110,117,108,108]⟩,rfl,HE.o.symm,by decide,HN2.o.alloc _⟩
  all_goals
   go_wp2_with fail
   refine(ZBG r2 qu ds _ (HR.o.on (Nx.rfl.alloc _)) (HTB.o.on (HN2.o.alloc _))).mono ?_
   rintro e w3 ⟨t,rfl,ht,hts,hn⟩;have HT:=A ht;have HN3:=A (show Nx w w3 from(HN2.o.alloc _).then hn);clear ht hn;go_wp2;go_ret
   exact⟨t,rfl,by rw[HE.o,HT.o],hts,HN3.o⟩
 .have HE:=A (HD.o.trans (ifP he))
  have he':(err != 0)=true:=Zjv (beq_eq_false_iff_ne.2 he);clear HD he;go_wp2;go_ret
  exact⟨⟨#[110,117,108,108]⟩,rfl,HE.o.symm,by decide,HN2.o.alloc _⟩
def ZAV(s:List UInt8):Bool:=s == [104,116,116,112]||s == [104,116,116,112,115]||s == [119,115]||s == [119,115,115]||s == [102,116,112]
def ZAs(u:U):List UInt8:=if ZAV u.sch=true then Zzy u else if u.sch=[98,108,111,98]then ZAU u else ZIk
theorem ZD9(r:Rc)(u:U)(bs:LA)(w:World)(h:RcIs w r u bs)(ht:Tb w)(hpl:u.sch=[98,108,111,98]->(ZaL u).length<=9000):Calls prog 82 #[.agg #[J r.sch,J r.nam,J r.pw,C r.hh,J r.host,C r.hp,I X (r.port:Int),C r.op,J r.opath,.slice r.so r.sn r.sc,C r.hq,J r.q,C r.hf,J r.fr]] w fun e w'=>∃t:BA,e=Y (J t)/\tl t=ZAs u/\t.size<=1000000/\Nx w w':=by
 have HTB:=A ht;have HRC:=A h
 have HS:=A (show tl r.sch=u.sch from by rw[h.usch])
 have HPL:=A hpl;clear h ht hpl
 by_cases h0:tl r.sch=[104,116,116,112]
 focus
  have HE:=A (show ZAs u=Zzy u from ifP (by unfold ZAV;rw[<-HS.o,h0];decide))
  have h0':=eqB h0;clear HPL HS h0
 rotate_left
 focus
  have h0':=neB h0
  by_cases h1:tl r.sch=[104,116,116,112,115]
  focus
   have HE:=A (show ZAs u=Zzy u from ifP (by unfold ZAV;rw[<-HS.o,h1];decide))
   have h1':=eqB h1;clear HPL HS h0 h1
  rotate_left
  focus
   have h1':=neB h1
   by_cases h2:tl r.sch=[119,115]
   focus
    have HE:=A (show ZAs u=Zzy u from ifP (by unfold ZAV;rw[<-HS.o,h2];decide))
    have h2':=eqB h2;clear HPL HS h0 h1 h2
   rotate_left
   focus
    have h2':=neB h2
    by_cases h3:tl r.sch=[119,115,115]
    focus
     have HE:=A (show ZAs u=Zzy u from ifP (by unfold ZAV;rw[<-HS.o,h3];decide))
     have h3':=eqB h3;clear HPL HS h0 h1 h2 h3
    rotate_left
    focus
     have h3':=neB h3
     by_cases h4:tl r.sch=[102,116,112]
     focus
      have HE:=A (show ZAs u=Zzy u from ifP (by unfold ZAV;rw[<-HS.o,h4];decide))
      have h4':=eqB h4;clear HPL HS h0 h1 h2 h3 h4
     rotate_left
     .have h4':=neB h4
      have HNP:=A (show ¬ZAV u.sch=true by unfold ZAV;rw[<-HS.o];simp[h0,h1,h2,h3,h4])
      clear h0 h1 h2 h3 h4
      by_cases h5:tl r.sch=[98,108,111,98]
      .have HE:=A (show ZAs u=ZAU u from(ifN HNP.o).trans (ifP (HS.o.symm.trans h5)))
       have HL:=A (HPL.o (HS.o.symm.trans h5));have h5':=eqB h5;clear HPL HS HNP h5
       go_enter func82,ntmps82
       go_wp2_with fail
       refine(ZDQ r u bs _ (HRC.o.on (Nx.rfl.alloc _)) (HTB.o.on (Nx.rfl.alloc _)) HL.o).mono ?_
       rintro e w1 ⟨t,rfl,ht,hts,hn⟩;have HT:=A ht;have HN:=A (show Nx w w1 from(Nx.rfl.alloc _).then hn);clear ht hn;go_wp2;go_ret
       exact⟨t,rfl,by rw[HE.o,HT.o],hts,HN.o⟩
      have HE:=A (show ZAs u=ZIk from(ifN HNP.o).trans (ifN (fun k=>h5 (HS.o.trans k))))
      have h5':=neB h5;clear HPL HS HNP h5
      go_enter func82,ntmps82
      go_wp2;go_ret
      exact⟨⟨#[110,117,108,108]⟩,rfl,HE.o.symm,by decide,Nx.rfl.alloc _⟩
 all_goals
  go_enter func82,ntmps82
  go_wp2_with fail
  refine(ZBG r u bs _ (HRC.o.on (Nx.rfl.alloc _)) (HTB.o.on (Nx.rfl.alloc _))).mono ?_
  rintro e w1 ⟨t,rfl,ht,hts,hn⟩;have HT:=A ht;have HN:=A (show Nx w w1 from(Nx.rfl.alloc _).then hn);clear ht hn;go_wp2;go_ret
  exact⟨t,rfl,by rw[HE.o,HT.o],hts,HN.o⟩
def RowP(w:World)(b off:Nat)(ps:List Pq):Prop:=∃(cs:Array Value) (fz:Nat×Nat),w.heap[b]?=some (O cs 113 fz)/\∀i,(h:i<ps.length)->cs[off+i*2]?=some (J ps[i].1)/\cs[off+i*2+1]?=some (J ps[i].2)
def PlAt(w:World)(v:Value)(ps:List Pq):Prop:=∃ao cap,v=.slice ao ps.length cap/\ps.length<=cap/\cap<=maxLen/\(ao=none->ps=[]/\cap=0)/\∀a,ao=some a->∃b off,a=⟨b,off,none⟩/\RowP w b off ps
theorem RowP.cell{w:World}{b off:Nat}{ps:List Pq}(h:RowP w b off ps){i:Nat}(hi:i<ps.length):w.cell? ⟨b,off+i*2,none⟩=some (J ps[i].1)/\w.cell? ⟨b,off+i*2+1,none⟩=some (J ps[i].2):=by
 obtain⟨cs,fz,hh,hc⟩:=h;obtain⟨h1,h2⟩:=hc i hi
 constructor<;>simp only[World.cell?,hh]
 .exact h1
 .exact h2
theorem RowP.on{w w':World}{b off:Nat}{ps:List Pq}(h:RowP w b off ps)(hb:Nx w w'):RowP w' b off ps:=by obtain⟨cs,fz,hh,hc⟩:=h;exact⟨cs,fz,(hb.block b (Xc.1 hh).1).trans hh,hc⟩
theorem FullP.row{w:World}{nb:Nat}{ps:List Pq}(h:FullP w nb ps):RowP w nb 0 ps:=⟨_,_,h,fun i hi=>by rw[Nat.zero_add];simpa using ZAO ps i hi⟩
theorem PlAt.on{w w':World}{v:Value}{ps:List Pq}(h:PlAt w v ps)(hb:Nx w w'):PlAt w' v ps:=by
 obtain⟨ao,cap,rfl,hlc,hcap,hnone,hsome⟩:=h
 refine⟨ao,cap,rfl,hlc,hcap,hnone,fun a ha=>?_⟩
 obtain⟨b,off,rfl,hr⟩:=hsome a ha;exact⟨b,off,rfl,hr.on hb⟩
theorem PlAt.nil(w:World):PlAt w (.slice none 0 0) []:=⟨none,0,rfl,by simp,Xl _,fun _=>⟨rfl,rfl⟩,nofun⟩
theorem PrsIs.on{w w':World}{base:Nat}{v:Value}{ps:List Pq}(h:PrsIs w base v ps)(hb:Nx w w'):PrsIs w' base v ps:=by
 rcases h with h|⟨h0,nb,h1,rfl,h2⟩
 .exact Xm h
 .exact Xp ⟨h0,nb,h1,rfl,h2.on hb⟩
theorem PrsIs.at{w:World}{base:Nat}{v:Value}{ps:List Pq}(h:PrsIs w base v ps)(hl:ps.length<=1000000):PlAt w v ps:=by
 rcases h with⟨rfl,rfl⟩|⟨h0,nb,h1,rfl,h2⟩
 .exact PlAt.nil w
 .exact⟨_,_,rfl,Xd _,Ze hl,nofun,fun a ha=>⟨nb,0,(Option.some.inj ha).symm,h2.row⟩⟩
theorem ZAh{ao:Option Addr}{cap k:Nat}{ps:List Pq}(hk:k<ps.length)(hnone:ao=none->ps=[]/\cap=0):∃a,ao=some a:=by
 cases ao with
 | none=>have:=(hnone rfl).1;subst this;simp at hk
 | some a=>exact⟨a,rfl⟩
theorem ZDt{a b:BA}(h:tl a=tl b):a=b:=by cases a;cases b;simp only[tl]at h;congr 1;exact Xt.1 h
theorem ZGs{p q:Pq}(h:tl2 p=tl2 q):p=q:=by obtain⟨a,b⟩:=p;obtain⟨c,d⟩:=q;simp only[tl2,Prod.mk.injEq]at h;rw[ZDt h.1,ZDt h.2]
theorem ZLr{ps qs:List Pq}(h:ps.map tl2=qs.map tl2):ps=qs:=by
 induction ps generalizing qs with
 | nil=>cases qs with
  | nil=>rfl
  | cons q r=>cases h
 | cons p r ih=>cases qs with
  | nil=>cases h
  | cons q t=>
   simp only[List.map_cons,List.cons.injEq]at h;rw[ZGs h.1,ih h.2]
theorem ZFv{ps qs:List Pq}{k:Nat}(h:ps.take k=qs.take k)(h1:k<ps.length)(h2:k<qs.length)(e:ps[k]=qs[k]):ps.take (k+1)=qs.take (k+1):=by rw[Xe h1,Xe h2,h,e]
theorem ZDu{a b:BA}(h:¬a=b):¬a.toList=b.toList:=fun e=>h (Zcs (by rw[ByteArray.toList_eq,ByteArray.toList_eq]at e;exact e))
def ZAi(l:List UInt8):List UInt8:=(l.reverse.dropWhile fun b=>(b.toNat:Int)==32).reverse
def ZAj(u:U):U:=if u.hq=true∨u.hf=true then u else { u with opath:=ZAi u.opath }
theorem ZEc{l:LB}{c:UInt8}(h:(c.toNat:Int)=32):ZAi (l++[c])=ZAi l:=by
 unfold ZAi;rw[Xq]
 show(List.dropWhile _ (c::l.reverse)).reverse=_
 rw[List.dropWhile_cons_of_pos (by simpa using h)]
theorem ZDw{l:LB}{c:UInt8}(h:¬(c.toNat:Int)=32):ZAi (l++[c])=l++[c]:=by
 unfold ZAi;rw[Xq]
 show(List.dropWhile _ (c::l.reverse)).reverse=_
 rw[List.dropWhile_cons_of_neg (by simpa using h)]
 simp
theorem dropBl_nil:ZAi []=[]:=rfl
theorem ZFw(ru:Rc)(bs:LA)(w:World)(hl:ru.opath.size<=300000):Calls prog 156 #[.agg #[J ru.sch,J ru.nam,J ru.pw,C ru.hh,J ru.host,C ru.hp,I X (ru.port:Int),C ru.op,J ru.opath,.slice ru.so ru.sn ru.sc,C ru.hq,J ru.q,C ru.hf,J ru.fr]] w fun e w'=>∃r:Rc,e=Y (.agg #[J r.sch,J r.nam,J r.pw,C r.hh,J r.host,C r.hp,I X (r.port:Int),C r.op,J r.opath,.slice r.so r.sn r.sc,C r.hq,J r.q,C r.hf,J r.fr])/\(∃p:BA,r={ ru with opath:=p }/\p.size<=300000/\(r.u bs)=ZAj (ru.u bs))/\Nx w w':=by
 obtain⟨sch,nam,pw,hh,host,hp,port,op,opath,so,sn,sc,hq,q,hf,fr⟩:=ru;simp only at *
 cases hq
 .cases hf
  .go_enter func156,ntmps156
   go_upto_region 1 with fail;obtain⟨g1,g2,g3⟩:=Zda (w:=w) (ru:=⟨sch,nam,pw,hh,host,hp,port,op,opath,so,sn,sc,false,q,false,fr⟩) Nx.rfl;have HUB:=A g1;have HZ:=A g2;have HN:=A g3;clear g1 g2 g3;generalize ((w.alloc (O #[J sch,J nam,J pw,C hh,J host,C hp,I X (port:Int),C op,J opath,.slice so sn sc,C false,J q,C false,J fr] 101)).alloc (O #[J ⟨#[]⟩,J ⟨#[]⟩,J ⟨#[]⟩,C false,J ⟨#[]⟩,C false,I X 0,C false,J ⟨#[]⟩,.slice none 0 0,C false,J ⟨#[]⟩,C false,J ⟨#[]⟩] 101))=w1 at *;obtain⟨a0,a1,a2,a3,a4,a5,a6,a7,a8,a9,a10,a11,a12,a13⟩:=HUB.o.cells;have af8:=HUB.o.free 8;obtain⟨z0,z1,z2,z3,z4,z5,z6,z7,z8,z9,z10,z11,z12,z13⟩:=HZ.o.cells;obtain⟨zf0,zf1,zf2,zf3,zf4,zf5,zf6,zf7,zf8,zf9,zf10,zf11,zf12,zf13⟩:=ZaF HZ.o.free;simp only at a0 a1 a2 a3 a4 a5 a6 a7 a8 a9 a10 a11 a12 a13;go_wp2
   go_loop [4] (fun i=>∃k:Nat,k<=opath.size/\i=I X k/\ZAi (tl opath)=ZAi ((tl opath).take k)) (fun i=>(intOf i).toNat)
   case atStart=>exact⟨opath.size,Xd _,rfl,by rw[ZQ _ _ (Xd _)]⟩
   case round=>
    obtain⟨k,hk,rfl,hE⟩:=hrel;have HK:=A hE;clear hE
    by_cases h0:0<k
    focus
     have hk1:k-1<opath.size:=by omega
     have HT:=A (show(tl opath).take k=(tl opath).take (k-1)++[opath[k-1]'hk1]by
      have:=Zt opath (k-1) hk1
      rw[show k-1+1=k by omega]at this
      exact this)
     have hb1:=bb (opath[k-1]'hk1)
     cases hc:(((opath[k-1]'hk1).toNat:Int)==32)
     focus
      have HF:=A (show tl (opath.extract 0 k)=ZAi (tl opath)by rw[HK.o,HT.o,ZDw (by simpa using hc),<-HT.o,tl_extract];rfl)
     rotate_left
     .have HN2:=A (show ZAi (tl opath)=ZAi ((tl opath).take (k-1))by rw[HK.o,HT.o,ZEc (by simpa using hc)])
      go_wp2
      go_round
      exact⟨k-1,by omega,by rw[show((k-1:Nat):Int)=(k:Int)-1 by omega],HN2.o⟩
      simp[intOf];omega
    rotate_left
    focus
     have HF:=A (show tl (opath.extract 0 k)=ZAi (tl opath)by
      have hk0:k=0:=by omega
      subst hk0;rw[HK.o,List.take_zero,dropBl_nil,tl_extract]
      rfl)
    all_goals
     go_wp2;have hez:=Zf4 opath 0 k
     exact Zfv (rb:=w.heap.size+1) results156 rfl (RecB.put (HZ.o.far (by omega) 8 _) _ _ _ _ _ _ _ _ _ _ _ _ _ _) rfl ⟨⟨sch,nam,pw,hh,host,hp,port,op,opath.extract 0 k,so,sn,sc,false,q,false,fr⟩,rfl,⟨_,rfl,by show(opath.extract 0 k).size<=_;omega,by show _=ZAj _;unfold ZAj;rw[ifN (by rintro(x|x)<;>cases x)];show _=({ (Rc.u ⟨sch,nam,pw,hh,host,hp,port,op,opath,so,sn,sc,false,q,false,fr⟩ bs)with opath:=ZAi (tl opath) }:U);rw[<-HF.o];rfl⟩,(Zi (Below.setCell HN.o (Xd _) _) (by omega) _ _ _ _ _ _ _ _ _ _ _ _ _ _)⟩
  .go_enter func156,ntmps156
   go_upto_region 1 with fail;obtain⟨g1,g2,g3⟩:=Zda (w:=w) (ru:=⟨sch,nam,pw,hh,host,hp,port,op,opath,so,sn,sc,false,q,true,fr⟩) Nx.rfl;have HUB:=A g1;have HZ:=A g2;have HN:=A g3;clear g1 g2 g3;generalize ((w.alloc (O #[J sch,J nam,J pw,C hh,J host,C hp,I X (port:Int),C op,J opath,.slice so sn sc,C false,J q,C true,J fr] 101)).alloc (O #[J ⟨#[]⟩,J ⟨#[]⟩,J ⟨#[]⟩,C false,J ⟨#[]⟩,C false,I X 0,C false,J ⟨#[]⟩,.slice none 0 0,C false,J ⟨#[]⟩,C false,J ⟨#[]⟩] 101))=w1 at *;obtain⟨a0,a1,a2,a3,a4,a5,a6,a7,a8,a9,a10,a11,a12,a13⟩:=HUB.o.cells;have af8:=HUB.o.free 8;obtain⟨z0,z1,z2,z3,z4,z5,z6,z7,z8,z9,z10,z11,z12,z13⟩:=HZ.o.cells;obtain⟨zf0,zf1,zf2,zf3,zf4,zf5,zf6,zf7,zf8,zf9,zf10,zf11,zf12,zf13⟩:=ZaF HZ.o.free;simp only at a0 a1 a2 a3 a4 a5 a6 a7 a8 a9 a10 a11 a12 a13;go_wp2
   exact Zfv (rb:=w.heap.size+1) results156 rfl (RecB.put HZ.o _ _ _ _ _ _ _ _ _ _ _ _ _ _) rfl ⟨⟨sch,nam,pw,hh,host,hp,port,op,opath,so,sn,sc,false,q,true,fr⟩,rfl,⟨opath,rfl,hl,(ifP (Xp rfl)).symm⟩,(Zi HN.o (by omega) _ _ _ _ _ _ _ _ _ _ _ _ _ _)⟩
 .go_enter func156,ntmps156
  go_upto_region 1 with fail;obtain⟨g1,g2,g3⟩:=Zda (w:=w) (ru:=⟨sch,nam,pw,hh,host,hp,port,op,opath,so,sn,sc,true,q,hf,fr⟩) Nx.rfl;have HUB:=A g1;have HZ:=A g2;have HN:=A g3;clear g1 g2 g3;generalize ((w.alloc (O #[J sch,J nam,J pw,C hh,J host,C hp,I X (port:Int),C op,J opath,.slice so sn sc,C true,J q,C hf,J fr] 101)).alloc (O #[J ⟨#[]⟩,J ⟨#[]⟩,J ⟨#[]⟩,C false,J ⟨#[]⟩,C false,I X 0,C false,J ⟨#[]⟩,.slice none 0 0,C false,J ⟨#[]⟩,C false,J ⟨#[]⟩] 101))=w1 at *;obtain⟨a0,a1,a2,a3,a4,a5,a6,a7,a8,a9,a10,a11,a12,a13⟩:=HUB.o.cells;have af8:=HUB.o.free 8;obtain⟨z0,z1,z2,z3,z4,z5,z6,z7,z8,z9,z10,z11,z12,z13⟩:=HZ.o.cells;obtain⟨zf0,zf1,zf2,zf3,zf4,zf5,zf6,zf7,zf8,zf9,zf10,zf11,zf12,zf13⟩:=ZaF HZ.o.free;simp only at a0 a1 a2 a3 a4 a5 a6 a7 a8 a9 a10 a11 a12 a13;go_wp2
  exact Zfv (rb:=w.heap.size+1) results156 rfl (RecB.put HZ.o _ _ _ _ _ _ _ _ _ _ _ _ _ _) rfl ⟨⟨sch,nam,pw,hh,host,hp,port,op,opath,so,sn,sc,true,q,hf,fr⟩,rfl,⟨opath,rfl,hl,(ifP (Xm rfl)).symm⟩,(Zi HN.o (by omega) _ _ _ _ _ _ _ _ _ _ _ _ _ _)⟩
def ZBT(u:U):U:=ZAj { u with hq:=false,q:=[] }
theorem ZGt(ru:Rc)(bs:LA)(w:World)(hl:ru.opath.size<=300000):Calls prog 107 #[.agg #[J ru.sch,J ru.nam,J ru.pw,C ru.hh,J ru.host,C ru.hp,I X (ru.port:Int),C ru.op,J ru.opath,.slice ru.so ru.sn ru.sc,C ru.hq,J ru.q,C ru.hf,J ru.fr]] w fun e w'=>∃r:Rc,e=Y (.agg #[J r.sch,J r.nam,J r.pw,C r.hh,J r.host,C r.hp,I X (r.port:Int),C r.op,J r.opath,.slice r.so r.sn r.sc,C r.hq,J r.q,C r.hf,J r.fr])/\(∃p:BA,r={ ru with hq:=false,q:=⟨#[]⟩,opath:=p }/\p.size<=300000/\(r.u bs)=ZBT (ru.u bs))/\Nx w w':=by
 have HB:=A (fun w'=>ZFw { ru with hq:=false,q:=⟨#[]⟩ } bs w' hl)
 go_enter func107,ntmps107
 go_upto_region 1 with fail;obtain⟨g1,g2,g3⟩:=Zda (w:=w) (ru:=ru) Nx.rfl;have HUB:=A g1;have HZ:=A g2;have HN:=A g3;clear g1 g2 g3;generalize ((w.alloc (O #[J ru.sch,J ru.nam,J ru.pw,C ru.hh,J ru.host,C ru.hp,I X (ru.port:Int),C ru.op,J ru.opath,.slice ru.so ru.sn ru.sc,C ru.hq,J ru.q,C ru.hf,J ru.fr] 101)).alloc (O #[J ⟨#[]⟩,J ⟨#[]⟩,J ⟨#[]⟩,C false,J ⟨#[]⟩,C false,I X 0,C false,J ⟨#[]⟩,.slice none 0 0,C false,J ⟨#[]⟩,C false,J ⟨#[]⟩] 101))=w1 at *;obtain⟨a0,a1,a2,a3,a4,a5,a6,a7,a8,a9,a10,a11,a12,a13⟩:=HUB.o.cells;have af10:=HUB.o.free 10;have af11:=HUB.o.free 11;go_wp2_with fail
 refine(HB.o _).mono ?_
 rintro e w2 ⟨r,rfl,⟨p,hp1,hp2,hp3⟩,hn2⟩;have HP1:=A hp1;have HP3:=A hp3
 have HZ2:=A (RecB.on ((HZ.o.far (by omega) 10 _).far (by omega) 11 _) hn2)
 have HN2:=A (show Nx w w2 from Nx.then (show Nx w _ from(Below.setCell (p:=⟨w.heap.size,11,none⟩) (Below.setCell (p:=⟨w.heap.size,10,none⟩) HN.o (Xd _) _) (Xd _) _)) hn2);clear hp1 hp3 hn2;clear a0 a1 a2 a3 a4 a5 a6 a7 a8 a9 a10 a11 a12 a13 af10 af11;obtain⟨z0,z1,z2,z3,z4,z5,z6,z7,z8,z9,z10,z11,z12,z13⟩:=HZ2.o.cells;obtain⟨zf0,zf1,zf2,zf3,zf4,zf5,zf6,zf7,zf8,zf9,zf10,zf11,zf12,zf13⟩:=ZaF HZ2.o.free;go_wp2
 exact Zfv (rb:=w.heap.size+1) results107 rfl (RecB.put HZ2.o _ _ _ _ _ _ _ _ _ _ _ _ _ _) rfl ⟨r,rfl,⟨p,HP1.o,hp2,HP3.o⟩,(Zi HN2.o (by omega) _ _ _ _ _ _ _ _ _ _ _ _ _ _)⟩
theorem UrlB.ty{w:World}{b:Nat}{r:Rc}(h:UrlB w b r):TyB w b 106:=⟨_,_,h⟩
theorem UrlB.free{w:World}{b:Nat}{r:Rc}(h:UrlB w b r)(i:Nat):w.frozen? ⟨b,i,none⟩=false:=by
 unfold UrlB at h
 simp[World.frozen?,h]
theorem UrlB.put{w:World}{b:Nat}{q:Rc}(h:UrlB w b q)(r:Rc):UrlB ((((((((((((((w.setCell ⟨b,0,none⟩ (J r.sch)).setCell ⟨b,1,none⟩ (J r.nam)).setCell ⟨b,2,none⟩ (J r.pw)).setCell ⟨b,3,none⟩ (C r.hh)).setCell ⟨b,4,none⟩ (J r.host)).setCell ⟨b,5,none⟩ (C r.hp)).setCell ⟨b,6,none⟩ (I X (r.port:Int))).setCell ⟨b,7,none⟩ (C r.op)).setCell ⟨b,8,none⟩ (J r.opath)).setCell ⟨b,9,none⟩ (.slice r.so r.sn r.sc)).setCell ⟨b,10,none⟩ (C r.hq)).setCell ⟨b,11,none⟩ (J r.q)).setCell ⟨b,12,none⟩ (C r.hf)).setCell ⟨b,13,none⟩ (J r.fr)) b r:=by
 unfold UrlB at *
 simp[World.setCell,Xa,h]
theorem ZNC{b:Nat}{a w:World}(h:But b a w)(v0 v1 v2 v3 v4 v5 v6 v7 v8 v9 v10 v11 v12 v13:Value):But b a ((((((((((((((w.setCell ⟨b,0,none⟩ v0).setCell ⟨b,1,none⟩ v1).setCell ⟨b,2,none⟩ v2).setCell ⟨b,3,none⟩ v3).setCell ⟨b,4,none⟩ v4).setCell ⟨b,5,none⟩ v5).setCell ⟨b,6,none⟩ v6).setCell ⟨b,7,none⟩ v7).setCell ⟨b,8,none⟩ v8).setCell ⟨b,9,none⟩ v9).setCell ⟨b,10,none⟩ v10).setCell ⟨b,11,none⟩ v11).setCell ⟨b,12,none⟩ v12).setCell ⟨b,13,none⟩ v13):=
 (But.set (But.set (But.set (But.set (But.set (But.set (But.set (But.set (But.set (But.set (But.set (But.set (But.set (But.set h 0 _) 1 _) 2 _) 3 _) 4 _) 5 _) 6 _) 7 _) 8 _) 9 _) 10 _) 11 _) 12 _) 13 _)
theorem ZGF{a:BA}(h:a.size=0):tl a=[]:=Zz h
def C11(w:World)(b:Nat)(v0 v1 v2 v3 v4 v5 v6 v7 v8 v9 v10:Value):Prop:=w.heap[b]?=some (O #[v0,v1,v2,v3,v4,v5,v6,v7,v8,v9,v10] 66 (0,0))
theorem C11.on{w w':World}{b:Nat}{v0 v1 v2 v3 v4 v5 v6 v7 v8 v9 v10:Value}(h:C11 w b v0 v1 v2 v3 v4 v5 v6 v7 v8 v9 v10)(hb:Nx w w'):C11 w' b v0 v1 v2 v3 v4 v5 v6 v7 v8 v9 v10:=(hb.block b (Xc.1 h).1).trans h
theorem C11.far{w:World}{b q:Nat}{v0 v1 v2 v3 v4 v5 v6 v7 v8 v9 v10:Value}(h:C11 w b v0 v1 v2 v3 v4 v5 v6 v7 v8 v9 v10)(hq:q≠b)(i:Nat)(u:Value):C11 (w.setCell ⟨q,i,none⟩ u) b v0 v1 v2 v3 v4 v5 v6 v7 v8 v9 v10:=by unfold C11 at *;simp only[World.setCell,Xa,ifN hq];exact h
theorem C11.cells{w:World}{b:Nat}{v0 v1 v2 v3 v4 v5 v6 v7 v8 v9 v10:Value}(h:C11 w b v0 v1 v2 v3 v4 v5 v6 v7 v8 v9 v10):w.cell? ⟨b,0,none⟩=some v0/\w.cell? ⟨b,1,none⟩=some v1/\w.cell? ⟨b,2,none⟩=some v2/\w.cell? ⟨b,3,none⟩=some v3/\w.cell? ⟨b,4,none⟩=some v4/\w.cell? ⟨b,5,none⟩=some v5/\w.cell? ⟨b,6,none⟩=some v6/\w.cell? ⟨b,7,none⟩=some v7/\w.cell? ⟨b,8,none⟩=some v8/\w.cell? ⟨b,9,none⟩=some v9/\w.cell? ⟨b,10,none⟩=some v10:=by
 unfold C11 at h
 refine⟨?_,?_,?_,?_,?_,?_,?_,?_,?_,?_,?_⟩<;>simp[World.cell?,h]
theorem C11.free{w:World}{b:Nat}{v0 v1 v2 v3 v4 v5 v6 v7 v8 v9 v10:Value}(h:C11 w b v0 v1 v2 v3 v4 v5 v6 v7 v8 v9 v10)(i:Nat):w.frozen? ⟨b,i,none⟩=false:=by
 unfold C11 at h
 simp[World.frozen?,h]
theorem C11.set0{w:World}{b:Nat}{v0 v1 v2 v3 v4 v5 v6 v7 v8 v9 v10:Value}(h:C11 w b v0 v1 v2 v3 v4 v5 v6 v7 v8 v9 v10)(u:Value):C11 (w.setCell ⟨b,0,none⟩ u) b u v1 v2 v3 v4 v5 v6 v7 v8 v9 v10:=by
 unfold C11 at *
 simp[World.setCell,Xa,h]
theorem C11.set1{w:World}{b:Nat}{v0 v1 v2 v3 v4 v5 v6 v7 v8 v9 v10:Value}(h:C11 w b v0 v1 v2 v3 v4 v5 v6 v7 v8 v9 v10)(u:Value):C11 (w.setCell ⟨b,1,none⟩ u) b v0 u v2 v3 v4 v5 v6 v7 v8 v9 v10:=by
 unfold C11 at *
 simp[World.setCell,Xa,h]
theorem C11.set2{w:World}{b:Nat}{v0 v1 v2 v3 v4 v5 v6 v7 v8 v9 v10:Value}(h:C11 w b v0 v1 v2 v3 v4 v5 v6 v7 v8 v9 v10)(u:Value):C11 (w.setCell ⟨b,2,none⟩ u) b v0 v1 u v3 v4 v5 v6 v7 v8 v9 v10:=by
 unfold C11 at *
 simp[World.setCell,Xa,h]
theorem C11.set3{w:World}{b:Nat}{v0 v1 v2 v3 v4 v5 v6 v7 v8 v9 v10:Value}(h:C11 w b v0 v1 v2 v3 v4 v5 v6 v7 v8 v9 v10)(u:Value):C11 (w.setCell ⟨b,3,none⟩ u) b v0 v1 v2 u v4 v5 v6 v7 v8 v9 v10:=by
 unfold C11 at *
 simp[World.setCell,Xa,h]
theorem C11.set4{w:World}{b:Nat}{v0 v1 v2 v3 v4 v5 v6 v7 v8 v9 v10:Value}(h:C11 w b v0 v1 v2 v3 v4 v5 v6 v7 v8 v9 v10)(u:Value):C11 (w.setCell ⟨b,4,none⟩ u) b v0 v1 v2 v3 u v5 v6 v7 v8 v9 v10:=by
 unfold C11 at *
 simp[World.setCell,Xa,h]
theorem C11.set5{w:World}{b:Nat}{v0 v1 v2 v3 v4 v5 v6 v7 v8 v9 v10:Value}(h:C11 w b v0 v1 v2 v3 v4 v5 v6 v7 v8 v9 v10)(u:Value):C11 (w.setCell ⟨b,5,none⟩ u) b v0 v1 v2 v3 v4 u v6 v7 v8 v9 v10:=by
 unfold C11 at *
 simp[World.setCell,Xa,h]
theorem C11.set6{w:World}{b:Nat}{v0 v1 v2 v3 v4 v5 v6 v7 v8 v9 v10:Value}(h:C11 w b v0 v1 v2 v3 v4 v5 v6 v7 v8 v9 v10)(u:Value):C11 (w.setCell ⟨b,6,none⟩ u) b v0 v1 v2 v3 v4 v5 u v7 v8 v9 v10:=by
 unfold C11 at *
 simp[World.setCell,Xa,h]
theorem C11.set7{w:World}{b:Nat}{v0 v1 v2 v3 v4 v5 v6 v7 v8 v9 v10:Value}(h:C11 w b v0 v1 v2 v3 v4 v5 v6 v7 v8 v9 v10)(u:Value):C11 (w.setCell ⟨b,7,none⟩ u) b v0 v1 v2 v3 v4 v5 v6 u v8 v9 v10:=by
 unfold C11 at *
 simp[World.setCell,Xa,h]
theorem C11.set8{w:World}{b:Nat}{v0 v1 v2 v3 v4 v5 v6 v7 v8 v9 v10:Value}(h:C11 w b v0 v1 v2 v3 v4 v5 v6 v7 v8 v9 v10)(u:Value):C11 (w.setCell ⟨b,8,none⟩ u) b v0 v1 v2 v3 v4 v5 v6 v7 u v9 v10:=by
 unfold C11 at *
 simp[World.setCell,Xa,h]
theorem C11.set9{w:World}{b:Nat}{v0 v1 v2 v3 v4 v5 v6 v7 v8 v9 v10:Value}(h:C11 w b v0 v1 v2 v3 v4 v5 v6 v7 v8 v9 v10)(u:Value):C11 (w.setCell ⟨b,9,none⟩ u) b v0 v1 v2 v3 v4 v5 v6 v7 v8 u v10:=by
 unfold C11 at *
 simp[World.setCell,Xa,h]
theorem C11.set10{w:World}{b:Nat}{v0 v1 v2 v3 v4 v5 v6 v7 v8 v9 v10:Value}(h:C11 w b v0 v1 v2 v3 v4 v5 v6 v7 v8 v9 v10)(u:Value):C11 (w.setCell ⟨b,10,none⟩ u) b v0 v1 v2 v3 v4 v5 v6 v7 v8 v9 u:=by
 unfold C11 at *
 simp[World.setCell,Xa,h]
theorem C11.put{w:World}{b:Nat}{v0 v1 v2 v3 v4 v5 v6 v7 v8 v9 v10:Value}(h:C11 w b v0 v1 v2 v3 v4 v5 v6 v7 v8 v9 v10)(x0 x1 x2 x3 x4 x5 x6 x7 x8 x9 x10:Value):C11 (((((((((((w.setCell ⟨b,0,none⟩ x0).setCell ⟨b,1,none⟩ x1).setCell ⟨b,2,none⟩ x2).setCell ⟨b,3,none⟩ x3).setCell ⟨b,4,none⟩ x4).setCell ⟨b,5,none⟩ x5).setCell ⟨b,6,none⟩ x6).setCell ⟨b,7,none⟩ x7).setCell ⟨b,8,none⟩ x8).setCell ⟨b,9,none⟩ x9).setCell ⟨b,10,none⟩ x10) b x0 x1 x2 x3 x4 x5 x6 x7 x8 x9 x10:=(((((((((((h.set0 x0).set1 x1).set2 x2).set3 x3).set4 x4).set5 x5).set6 x6).set7 x7).set8 x8).set9 x9).set10 x10)
theorem ZDF{B:Nat}{a w:World}{b:Nat}(h:Below B a w)(hb:B<=b)(x0 x1 x2 x3 x4 x5 x6 x7 x8 x9 x10:Value):Below B a (((((((((((w.setCell ⟨b,0,none⟩ x0).setCell ⟨b,1,none⟩ x1).setCell ⟨b,2,none⟩ x2).setCell ⟨b,3,none⟩ x3).setCell ⟨b,4,none⟩ x4).setCell ⟨b,5,none⟩ x5).setCell ⟨b,6,none⟩ x6).setCell ⟨b,7,none⟩ x7).setCell ⟨b,8,none⟩ x8).setCell ⟨b,9,none⟩ x9).setCell ⟨b,10,none⟩ x10):=((((((((((((h.setCell hb _).setCell hb _).setCell hb _).setCell hb _).setCell hb _).setCell hb _).setCell hb _).setCell hb _).setCell hb _).setCell hb _).setCell hb _))
theorem ZNl{fn:Func}{R:Ending->World->Prop}{a:Act}{W:World}{c:Tmp}{rb:Nat}{v0 v1 v2 v3 v4 v5 v6 v7 v8 v9 v10:Value}(hres:fn.results=#[.cell c 66])(hc:a.tmps[c]?.getD undef=.pointer (some ⟨rb,0,none⟩))
  (hC:C11 W rb v0 v1 v2 v3 v4 v5 v6 v7 v8 v9 v10) (hd:a.defers=[]) (hR:R (Y (.agg #[v0,v1,v2,v3,v4,v5,v6,v7,v8,v9,v10])) W):bodyPost prog fn R .ret a W:=by
 obtain⟨y0,y1,y2,y3,y4,y5,y6,y7,y8,y9,y10⟩:=hC.cells
 exact bodyPost_ret (v:=.agg #[v0,v1,v2,v3,v4,v5,v6,v7,v8,v9,v10]) (by simp[results,hres,hc,go_sem,y0,y1,y2,y3,y4,y5,y6,y7,y8,y9,y10]) hd hR
theorem ZKh(w:World)(r:Rc):C11 (((w.alloc (O #[J ⟨#[]⟩,J ⟨#[]⟩,J ⟨#[]⟩,J ⟨#[]⟩,J ⟨#[]⟩,J ⟨#[]⟩,J ⟨#[]⟩,J ⟨#[]⟩,J ⟨#[]⟩,J ⟨#[]⟩,J ⟨#[]⟩] 66)).alloc (O #[J r.sch,J r.nam,J r.pw,C r.hh,J r.host,C r.hp,I X (r.port:Int),C r.op,J r.opath,.slice r.so r.sn r.sc,C r.hq,J r.q,C r.hf,J r.fr] 101)).alloc (O #[J ⟨#[]⟩,J ⟨#[]⟩,J ⟨#[]⟩,J ⟨#[]⟩,J ⟨#[]⟩,J ⟨#[]⟩,J ⟨#[]⟩,J ⟨#[]⟩,J ⟨#[]⟩,J ⟨#[]⟩,J ⟨#[]⟩] 66)) w.heap.size (J ⟨#[]⟩) (J ⟨#[]⟩) (J ⟨#[]⟩) (J ⟨#[]⟩) (J ⟨#[]⟩) (J ⟨#[]⟩) (J ⟨#[]⟩) (J ⟨#[]⟩) (J ⟨#[]⟩) (J ⟨#[]⟩) (J ⟨#[]⟩)/\RecB (((w.alloc (O #[J ⟨#[]⟩,J ⟨#[]⟩,J ⟨#[]⟩,J ⟨#[]⟩,J ⟨#[]⟩,J ⟨#[]⟩,J ⟨#[]⟩,J ⟨#[]⟩,J ⟨#[]⟩,J ⟨#[]⟩,J ⟨#[]⟩] 66)).alloc (O #[J r.sch,J r.nam,J r.pw,C r.hh,J r.host,C r.hp,I X (r.port:Int),C r.op,J r.opath,.slice r.so r.sn r.sc,C r.hq,J r.q,C r.hf,J r.fr] 101)).alloc (O #[J ⟨#[]⟩,J ⟨#[]⟩,J ⟨#[]⟩,J ⟨#[]⟩,J ⟨#[]⟩,J ⟨#[]⟩,J ⟨#[]⟩,J ⟨#[]⟩,J ⟨#[]⟩,J ⟨#[]⟩,J ⟨#[]⟩] 66)) (w.heap.size+1) r/\C11 (((w.alloc (O #[J ⟨#[]⟩,J ⟨#[]⟩,J ⟨#[]⟩,J ⟨#[]⟩,J ⟨#[]⟩,J ⟨#[]⟩,J ⟨#[]⟩,J ⟨#[]⟩,J ⟨#[]⟩,J ⟨#[]⟩,J ⟨#[]⟩] 66)).alloc (O #[J r.sch,J r.nam,J r.pw,C r.hh,J r.host,C r.hp,I X (r.port:Int),C r.op,J r.opath,.slice r.so r.sn r.sc,C r.hq,J r.q,C r.hf,J r.fr] 101)).alloc (O #[J ⟨#[]⟩,J ⟨#[]⟩,J ⟨#[]⟩,J ⟨#[]⟩,J ⟨#[]⟩,J ⟨#[]⟩,J ⟨#[]⟩,J ⟨#[]⟩,J ⟨#[]⟩,J ⟨#[]⟩,J ⟨#[]⟩] 66)) (w.heap.size+1+1) (J ⟨#[]⟩) (J ⟨#[]⟩) (J ⟨#[]⟩) (J ⟨#[]⟩) (J ⟨#[]⟩) (J ⟨#[]⟩) (J ⟨#[]⟩) (J ⟨#[]⟩) (J ⟨#[]⟩) (J ⟨#[]⟩) (J ⟨#[]⟩)/\Nx w (((w.alloc (O #[J ⟨#[]⟩,J ⟨#[]⟩,J ⟨#[]⟩,J ⟨#[]⟩,J ⟨#[]⟩,J ⟨#[]⟩,J ⟨#[]⟩,J ⟨#[]⟩,J ⟨#[]⟩,J ⟨#[]⟩,J ⟨#[]⟩] 66)).alloc (O #[J r.sch,J r.nam,J r.pw,C r.hh,J r.host,C r.hp,I X (r.port:Int),C r.op,J r.opath,.slice r.so r.sn r.sc,C r.hq,J r.q,C r.hf,J r.fr] 101)).alloc (O #[J ⟨#[]⟩,J ⟨#[]⟩,J ⟨#[]⟩,J ⟨#[]⟩,J ⟨#[]⟩,J ⟨#[]⟩,J ⟨#[]⟩,J ⟨#[]⟩,J ⟨#[]⟩,J ⟨#[]⟩,J ⟨#[]⟩] 66)):=by
 refine⟨C11.on (C11.on (heap_alloc_new w _) (Nx.rfl.alloc _)) (Nx.rfl.alloc _),RecB.on ?_ (Nx.rfl.alloc _),?_,((Nx.rfl.alloc _).alloc _).alloc _⟩
 .have h:=ZbL (w.alloc (O #[J ⟨#[]⟩,J ⟨#[]⟩,J ⟨#[]⟩,J ⟨#[]⟩,J ⟨#[]⟩,J ⟨#[]⟩,J ⟨#[]⟩,J ⟨#[]⟩,J ⟨#[]⟩,J ⟨#[]⟩,J ⟨#[]⟩] 66)) r
  rw[show((w.alloc (O #[J ⟨#[]⟩,J ⟨#[]⟩,J ⟨#[]⟩,J ⟨#[]⟩,J ⟨#[]⟩,J ⟨#[]⟩,J ⟨#[]⟩,J ⟨#[]⟩,J ⟨#[]⟩,J ⟨#[]⟩,J ⟨#[]⟩] 66))).heap.size=w.heap.size+1 by simp]at h
  exact h
 .have h:C11 (((w.alloc (O #[J ⟨#[]⟩,J ⟨#[]⟩,J ⟨#[]⟩,J ⟨#[]⟩,J ⟨#[]⟩,J ⟨#[]⟩,J ⟨#[]⟩,J ⟨#[]⟩,J ⟨#[]⟩,J ⟨#[]⟩,J ⟨#[]⟩] 66)).alloc (O #[J r.sch,J r.nam,J r.pw,C r.hh,J r.host,C r.hp,I X (r.port:Int),C r.op,J r.opath,.slice r.so r.sn r.sc,C r.hq,J r.q,C r.hf,J r.fr] 101)).alloc (O #[J ⟨#[]⟩,J ⟨#[]⟩,J ⟨#[]⟩,J ⟨#[]⟩,J ⟨#[]⟩,J ⟨#[]⟩,J ⟨#[]⟩,J ⟨#[]⟩,J ⟨#[]⟩,J ⟨#[]⟩,J ⟨#[]⟩] 66)) (((w.alloc (O #[J ⟨#[]⟩,J ⟨#[]⟩,J ⟨#[]⟩,J ⟨#[]⟩,J ⟨#[]⟩,J ⟨#[]⟩,J ⟨#[]⟩,J ⟨#[]⟩,J ⟨#[]⟩,J ⟨#[]⟩,J ⟨#[]⟩] 66)).alloc (O #[J r.sch,J r.nam,J r.pw,C r.hh,J r.host,C r.hp,I X (r.port:Int),C r.op,J r.opath,.slice r.so r.sn r.sc,C r.hq,J r.q,C r.hf,J r.fr] 101))).heap.size (J ⟨#[]⟩) (J ⟨#[]⟩) (J ⟨#[]⟩) (J ⟨#[]⟩) (J ⟨#[]⟩) (J ⟨#[]⟩) (J ⟨#[]⟩) (J ⟨#[]⟩) (J ⟨#[]⟩) (J ⟨#[]⟩) (J ⟨#[]⟩):=heap_alloc_new _ _
  rw[show(((w.alloc (O #[J ⟨#[]⟩,J ⟨#[]⟩,J ⟨#[]⟩,J ⟨#[]⟩,J ⟨#[]⟩,J ⟨#[]⟩,J ⟨#[]⟩,J ⟨#[]⟩,J ⟨#[]⟩,J ⟨#[]⟩,J ⟨#[]⟩] 66)).alloc (O #[J r.sch,J r.nam,J r.pw,C r.hh,J r.host,C r.hp,I X (r.port:Int),C r.op,J r.opath,.slice r.so r.sn r.sc,C r.hq,J r.q,C r.hf,J r.fr] 101))).heap.size=w.heap.size+1+1 by simp]at h
  exact h
def ZND(e:Ending)(u:U):Prop:=∃t0 t1 t2 t3 t4 t5 t6 t7 t8 t9 t10:ByteArray,e=Y (.agg #[J t0,J t1,J t2,J t3,J t4,J t5,J t6,J t7,J t8,J t9,J t10])/\tl t0=Zjc u/\tl t1=ZAs u/\tl t2=Zb2 u/\tl t3=u.nam/\tl t4=u.pw/\tl t5=ZaA u/\tl t6=u.host/\tl t7=ZbE u/\tl t8=ZaL u/\tl t9=Zky u/\tl t10=Zvb u/\t5.size<=200000000000/\t8.size<=200000000000
theorem ZKi(pb:Nat)(r:Rc)(u:U)(bs:LA)(w:World)(h0:UrlB w pb r)(h:RcIs w r u bs)(ht:Tb w)(hpl:u.sch=[98,108,111,98]->(ZaL u).length<=9000):Calls prog 30 #[.pointer (some ⟨pb,0,none⟩)] w fun e w'=>ZND e u/\Nx w w':=by
 have HRC:=A h;have HTB:=A ht;have HPL:=A hpl;have HU:=A h0
 have HM3:=A (show tl r.nam=u.nam by rw[<-h.eq];rfl)
 have HM4:=A (show tl r.pw=u.pw by rw[<-h.eq];rfl)
 have HM6:=A (show tl r.host=u.host by rw[<-h.eq];rfl)
 have HUN:=A (UrlB.on h0 (Nx.rfl.alloc (O #[J ⟨#[]⟩,J ⟨#[]⟩,J ⟨#[]⟩,J ⟨#[]⟩,J ⟨#[]⟩,J ⟨#[]⟩,J ⟨#[]⟩,J ⟨#[]⟩,J ⟨#[]⟩,J ⟨#[]⟩,J ⟨#[]⟩] 66)));obtain⟨a0,a1,a2,a3,a4,a5,a6,a7,a8,a9,a10,a11,a12,a13⟩:=HUN.o.cells;clear h ht h0 hpl
 go_enter func30,ntmps30
 go_upto_region 5 with fail;obtain⟨hz,hb,ha,hn⟩:=ZKh w r;generalize (((w.alloc (O #[J ⟨#[]⟩,J ⟨#[]⟩,J ⟨#[]⟩,J ⟨#[]⟩,J ⟨#[]⟩,J ⟨#[]⟩,J ⟨#[]⟩,J ⟨#[]⟩,J ⟨#[]⟩,J ⟨#[]⟩,J ⟨#[]⟩] 66)).alloc (O #[J r.sch,J r.nam,J r.pw,C r.hh,J r.host,C r.hp,I X (r.port:Int),C r.op,J r.opath,.slice r.so r.sn r.sc,C r.hq,J r.q,C r.hf,J r.fr] 101)).alloc (O #[J ⟨#[]⟩,J ⟨#[]⟩,J ⟨#[]⟩,J ⟨#[]⟩,J ⟨#[]⟩,J ⟨#[]⟩,J ⟨#[]⟩,J ⟨#[]⟩,J ⟨#[]⟩,J ⟨#[]⟩,J ⟨#[]⟩] 66))=w0 at *;have HZ0:=A hz;have HB0:=A hb;have HA0:=A ha;have HN0:=A hn;clear hz hb ha hn HU HUN a0 a1 a2 a3 a4 a5 a6 a7 a8 a9 a10 a11 a12 a13;obtain⟨c0,c1,c2,c3,c4,c5,c6,c7,c8,c9,c10,c11,c12,c13⟩:=HB0.o.cells
 go_upto_region 6 with(go_at_call 81;refine(Zo0 r u bs _ (HRC.o.on HN0.o) (HTB.o.on HN0.o)).mono ?_;rintro e w' ⟨t0,rfl,hti,hn⟩;have HT0:=A hti;have HA':=A (HA0.o.on hn);have HB':=A (RecB.on HB0.o hn);have HZ':=A (HZ0.o.on hn);have HN':=A (show Nx w w' from HN0.o.then hn);have fr:=HA'.o.free 0;obtain⟨b0,b1,b2,b3,b4,b5,b6,b7,b8,b9,b10⟩:=HA'.o.cells;clear hti hn c0 c1 c2 c3 c4 c5 c6 c7 c8 c9 c10 c11 c12 c13 HA0 HB0 HZ0 HN0)
 have HA1:=A (HA'.o.set0 (J t0))
 have HB1:=A (RecB.far HB'.o (show w.heap.size+1+1≠w.heap.size+1 by omega) 0 (J t0))
 have HZ1:=A (HZ'.o.far (show w.heap.size+1+1≠w.heap.size by omega) 0 (J t0))
 have HN1:=A (show Nx w (w'.setCell ⟨w.heap.size+1+1,0,none⟩ (J t0))from HN'.o.setCell (show w.heap.size<=w.heap.size+1+1 by omega) _)
 clear fr b0 b1 b2 b3 b4 b5 b6 b7 b8 b9 b10 HA' HB' HZ' HN';generalize w'.setCell ⟨w.heap.size+1+1,0,none⟩ (J t0)=w1 at *;obtain⟨c0,c1,c2,c3,c4,c5,c6,c7,c8,c9,c10,c11,c12,c13⟩:=HB1.o.cells
 go_upto_region 7 with(go_at_call 82;refine(ZD9 r u bs _ (HRC.o.on HN1.o) (HTB.o.on HN1.o) HPL.o).mono ?_;rintro e w' ⟨t1,rfl,hti,hs1,hn⟩;have HT1:=A hti;have HA':=A (HA1.o.on hn);have HB':=A (RecB.on HB1.o hn);have HZ':=A (HZ1.o.on hn);have HN':=A (show Nx w w' from HN1.o.then hn);have fr:=HA'.o.free 1;obtain⟨b0,b1,b2,b3,b4,b5,b6,b7,b8,b9,b10⟩:=HA'.o.cells;clear hti hn hs1 c0 c1 c2 c3 c4 c5 c6 c7 c8 c9 c10 c11 c12 c13 HA1 HB1 HZ1 HN1)
 have HA2:=A (HA'.o.set1 (J t1))
 have HB2:=A (RecB.far HB'.o (show w.heap.size+1+1≠w.heap.size+1 by omega) 1 (J t1))
 have HZ2:=A (HZ'.o.far (show w.heap.size+1+1≠w.heap.size by omega) 1 (J t1))
 have HN2:=A (show Nx w (w'.setCell ⟨w.heap.size+1+1,1,none⟩ (J t1))from HN'.o.setCell (show w.heap.size<=w.heap.size+1+1 by omega) _)
 clear fr b0 b1 b2 b3 b4 b5 b6 b7 b8 b9 b10 HA' HB' HZ' HN';generalize w'.setCell ⟨w.heap.size+1+1,1,none⟩ (J t1)=w2 at *;obtain⟨c0,c1,c2,c3,c4,c5,c6,c7,c8,c9,c10,c11,c12,c13⟩:=HB2.o.cells
 go_upto_region 8 with(go_at_call 83;refine(Zhg r u bs _ (HRC.o.on HN2.o)).mono ?_;rintro e w' ⟨t2,rfl,hti,hn⟩;have HT2:=A hti;have HA':=A (HA2.o.on hn);have HB':=A (RecB.on HB2.o hn);have HZ':=A (HZ2.o.on hn);have HN':=A (show Nx w w' from HN2.o.then hn);have fr:=HA'.o.free 2;obtain⟨b0,b1,b2,b3,b4,b5,b6,b7,b8,b9,b10⟩:=HA'.o.cells;clear hti hn c0 c1 c2 c3 c4 c5 c6 c7 c8 c9 c10 c11 c12 c13 HA2 HB2 HZ2 HN2)
 have HA3:=A (HA'.o.set2 (J t2))
 have HB3:=A (RecB.far HB'.o (show w.heap.size+1+1≠w.heap.size+1 by omega) 2 (J t2))
 have HZ3:=A (HZ'.o.far (show w.heap.size+1+1≠w.heap.size by omega) 2 (J t2))
 have HN3:=A (show Nx w (w'.setCell ⟨w.heap.size+1+1,2,none⟩ (J t2))from HN'.o.setCell (show w.heap.size<=w.heap.size+1+1 by omega) _)
 clear fr b0 b1 b2 b3 b4 b5 b6 b7 b8 b9 b10 HA' HB' HZ' HN';generalize w'.setCell ⟨w.heap.size+1+1,2,none⟩ (J t2)=w3 at *;obtain⟨c0,c1,c2,c3,c4,c5,c6,c7,c8,c9,c10,c11,c12,c13⟩:=HB3.o.cells;have fr:=HA3.o.free 3;obtain⟨b0,b1,b2,b3,b4,b5,b6,b7,b8,b9,b10⟩:=HA3.o.cells;go_upto_region 9 with fail;have HA':=HA3;have HB':=HB3;have HZ':=HZ3;have HN':=HN3;clear c0 c1 c2 c3 c4 c5 c6 c7 c8 c9 c10 c11 c12 c13 HA3 HB3 HZ3 HN3;have HA4:=A (HA'.o.set3 (J r.nam))
 have HB4:=A (RecB.far HB'.o (show w.heap.size+1+1≠w.heap.size+1 by omega) 3 (J r.nam))
 have HZ4:=A (HZ'.o.far (show w.heap.size+1+1≠w.heap.size by omega) 3 (J r.nam))
 have HN4:=A (show Nx w (w3.setCell ⟨w.heap.size+1+1,3,none⟩ (J r.nam))from HN'.o.setCell (show w.heap.size<=w.heap.size+1+1 by omega) _)
 clear fr b0 b1 b2 b3 b4 b5 b6 b7 b8 b9 b10 HA' HB' HZ' HN';generalize w3.setCell ⟨w.heap.size+1+1,3,none⟩ (J r.nam)=w4 at *;obtain⟨c0,c1,c2,c3,c4,c5,c6,c7,c8,c9,c10,c11,c12,c13⟩:=HB4.o.cells;have fr:=HA4.o.free 4;obtain⟨b0,b1,b2,b3,b4,b5,b6,b7,b8,b9,b10⟩:=HA4.o.cells;go_upto_region 10 with fail;have HA':=HA4;have HB':=HB4;have HZ':=HZ4;have HN':=HN4;clear c0 c1 c2 c3 c4 c5 c6 c7 c8 c9 c10 c11 c12 c13 HA4 HB4 HZ4 HN4;have HA5:=A (HA'.o.set4 (J r.pw))
 have HB5:=A (RecB.far HB'.o (show w.heap.size+1+1≠w.heap.size+1 by omega) 4 (J r.pw))
 have HZ5:=A (HZ'.o.far (show w.heap.size+1+1≠w.heap.size by omega) 4 (J r.pw))
 have HN5:=A (show Nx w (w4.setCell ⟨w.heap.size+1+1,4,none⟩ (J r.pw))from HN'.o.setCell (show w.heap.size<=w.heap.size+1+1 by omega) _)
 clear fr b0 b1 b2 b3 b4 b5 b6 b7 b8 b9 b10 HA' HB' HZ' HN';generalize w4.setCell ⟨w.heap.size+1+1,4,none⟩ (J r.pw)=w5 at *;obtain⟨c0,c1,c2,c3,c4,c5,c6,c7,c8,c9,c10,c11,c12,c13⟩:=HB5.o.cells
 go_upto_region 11 with(go_at_call 84;refine(ZeI r u bs _ (HRC.o.on HN5.o) (HTB.o.on HN5.o)).mono ?_;rintro e w' ⟨t5,rfl,hti,hs5,hn⟩;have HT5:=A hti;have HA':=A (HA5.o.on hn);have HB':=A (RecB.on HB5.o hn);have HZ':=A (HZ5.o.on hn);have HN':=A (show Nx w w' from HN5.o.then hn);have fr:=HA'.o.free 5;obtain⟨b0,b1,b2,b3,b4,b5,b6,b7,b8,b9,b10⟩:=HA'.o.cells;clear hti hn c0 c1 c2 c3 c4 c5 c6 c7 c8 c9 c10 c11 c12 c13 HA5 HB5 HZ5 HN5)
 have HA6:=A (HA'.o.set5 (J t5))
 have HB6:=A (RecB.far HB'.o (show w.heap.size+1+1≠w.heap.size+1 by omega) 5 (J t5))
 have HZ6:=A (HZ'.o.far (show w.heap.size+1+1≠w.heap.size by omega) 5 (J t5))
 have HN6:=A (show Nx w (w'.setCell ⟨w.heap.size+1+1,5,none⟩ (J t5))from HN'.o.setCell (show w.heap.size<=w.heap.size+1+1 by omega) _)
 clear fr b0 b1 b2 b3 b4 b5 b6 b7 b8 b9 b10 HA' HB' HZ' HN';generalize w'.setCell ⟨w.heap.size+1+1,5,none⟩ (J t5)=w6 at *;obtain⟨c0,c1,c2,c3,c4,c5,c6,c7,c8,c9,c10,c11,c12,c13⟩:=HB6.o.cells;have fr:=HA6.o.free 6;obtain⟨b0,b1,b2,b3,b4,b5,b6,b7,b8,b9,b10⟩:=HA6.o.cells;go_upto_region 12 with fail;have HA':=HA6;have HB':=HB6;have HZ':=HZ6;have HN':=HN6;clear c0 c1 c2 c3 c4 c5 c6 c7 c8 c9 c10 c11 c12 c13 HA6 HB6 HZ6 HN6;have HA7:=A (HA'.o.set6 (J r.host))
 have HB7:=A (RecB.far HB'.o (show w.heap.size+1+1≠w.heap.size+1 by omega) 6 (J r.host))
 have HZ7:=A (HZ'.o.far (show w.heap.size+1+1≠w.heap.size by omega) 6 (J r.host))
 have HN7:=A (show Nx w (w6.setCell ⟨w.heap.size+1+1,6,none⟩ (J r.host))from HN'.o.setCell (show w.heap.size<=w.heap.size+1+1 by omega) _)
 clear fr b0 b1 b2 b3 b4 b5 b6 b7 b8 b9 b10 HA' HB' HZ' HN';generalize w6.setCell ⟨w.heap.size+1+1,6,none⟩ (J r.host)=w7 at *;obtain⟨c0,c1,c2,c3,c4,c5,c6,c7,c8,c9,c10,c11,c12,c13⟩:=HB7.o.cells
 go_upto_region 13 with(go_at_call 85;refine(Zhh r u bs _ (HRC.o.on HN7.o) (HTB.o.on HN7.o)).mono ?_;rintro e w' ⟨t7,rfl,hti,hs7,hn⟩;have HT7:=A hti;have HA':=A (HA7.o.on hn);have HB':=A (RecB.on HB7.o hn);have HZ':=A (HZ7.o.on hn);have HN':=A (show Nx w w' from HN7.o.then hn);have fr:=HA'.o.free 7;obtain⟨b0,b1,b2,b3,b4,b5,b6,b7,b8,b9,b10⟩:=HA'.o.cells;clear hti hn hs7 c0 c1 c2 c3 c4 c5 c6 c7 c8 c9 c10 c11 c12 c13 HA7 HB7 HZ7 HN7)
 have HA8:=A (HA'.o.set7 (J t7))
 have HB8:=A (RecB.far HB'.o (show w.heap.size+1+1≠w.heap.size+1 by omega) 7 (J t7))
 have HZ8:=A (HZ'.o.far (show w.heap.size+1+1≠w.heap.size by omega) 7 (J t7))
 have HN8:=A (show Nx w (w'.setCell ⟨w.heap.size+1+1,7,none⟩ (J t7))from HN'.o.setCell (show w.heap.size<=w.heap.size+1+1 by omega) _)
 clear fr b0 b1 b2 b3 b4 b5 b6 b7 b8 b9 b10 HA' HB' HZ' HN';generalize w'.setCell ⟨w.heap.size+1+1,7,none⟩ (J t7)=w8 at *;obtain⟨c0,c1,c2,c3,c4,c5,c6,c7,c8,c9,c10,c11,c12,c13⟩:=HB8.o.cells
 go_upto_region 14 with(go_at_call 86;refine(ZeJ r u bs _ (HRC.o.on HN8.o)).mono ?_;rintro e w' ⟨t8,rfl,hti,hs8,hn⟩;have HT8:=A hti;have HA':=A (HA8.o.on hn);have HB':=A (RecB.on HB8.o hn);have HZ':=A (HZ8.o.on hn);have HN':=A (show Nx w w' from HN8.o.then hn);have fr:=HA'.o.free 8;obtain⟨b0,b1,b2,b3,b4,b5,b6,b7,b8,b9,b10⟩:=HA'.o.cells;clear hti hn c0 c1 c2 c3 c4 c5 c6 c7 c8 c9 c10 c11 c12 c13 HA8 HB8 HZ8 HN8)
 have HA9:=A (HA'.o.set8 (J t8))
 have HB9:=A (RecB.far HB'.o (show w.heap.size+1+1≠w.heap.size+1 by omega) 8 (J t8))
 have HZ9:=A (HZ'.o.far (show w.heap.size+1+1≠w.heap.size by omega) 8 (J t8))
 have HN9:=A (show Nx w (w'.setCell ⟨w.heap.size+1+1,8,none⟩ (J t8))from HN'.o.setCell (show w.heap.size<=w.heap.size+1+1 by omega) _)
 clear fr b0 b1 b2 b3 b4 b5 b6 b7 b8 b9 b10 HA' HB' HZ' HN';generalize w'.setCell ⟨w.heap.size+1+1,8,none⟩ (J t8)=w9 at *;obtain⟨c0,c1,c2,c3,c4,c5,c6,c7,c8,c9,c10,c11,c12,c13⟩:=HB9.o.cells
 go_upto_region 15 with(go_at_call 87;refine(Zqq r u bs _ (HRC.o.on HN9.o)).mono ?_;rintro e w' ⟨t9,rfl,hti,hn⟩;have HT9:=A hti;have HA':=A (HA9.o.on hn);have HB':=A (RecB.on HB9.o hn);have HZ':=A (HZ9.o.on hn);have HN':=A (show Nx w w' from HN9.o.then hn);have fr:=HA'.o.free 9;obtain⟨b0,b1,b2,b3,b4,b5,b6,b7,b8,b9,b10⟩:=HA'.o.cells;clear hti hn c0 c1 c2 c3 c4 c5 c6 c7 c8 c9 c10 c11 c12 c13 HA9 HB9 HZ9 HN9)
 have HA10:=A (HA'.o.set9 (J t9))
 have HB10:=A (RecB.far HB'.o (show w.heap.size+1+1≠w.heap.size+1 by omega) 9 (J t9))
 have HZ10:=A (HZ'.o.far (show w.heap.size+1+1≠w.heap.size by omega) 9 (J t9))
 have HN10:=A (show Nx w (w'.setCell ⟨w.heap.size+1+1,9,none⟩ (J t9))from HN'.o.setCell (show w.heap.size<=w.heap.size+1+1 by omega) _)
 clear fr b0 b1 b2 b3 b4 b5 b6 b7 b8 b9 b10 HA' HB' HZ' HN';generalize w'.setCell ⟨w.heap.size+1+1,9,none⟩ (J t9)=w10 at *;obtain⟨c0,c1,c2,c3,c4,c5,c6,c7,c8,c9,c10,c11,c12,c13⟩:=HB10.o.cells
 go_upto_region 16 with(go_at_call 88;refine(Zvc r u bs _ (HRC.o.on HN10.o)).mono ?_;rintro e w' ⟨t10,rfl,hti,hn⟩;have HT10:=A hti;have HA':=A (HA10.o.on hn);have HB':=A (RecB.on HB10.o hn);have HZ':=A (HZ10.o.on hn);have HN':=A (show Nx w w' from HN10.o.then hn);have fr:=HA'.o.free 10;obtain⟨b0,b1,b2,b3,b4,b5,b6,b7,b8,b9,b10⟩:=HA'.o.cells;clear hti hn c0 c1 c2 c3 c4 c5 c6 c7 c8 c9 c10 c11 c12 c13 HA10 HB10 HZ10 HN10)
 have HA11:=A (HA'.o.set10 (J t10))
 have HB11:=A (RecB.far HB'.o (show w.heap.size+1+1≠w.heap.size+1 by omega) 10 (J t10))
 have HZ11:=A (HZ'.o.far (show w.heap.size+1+1≠w.heap.size by omega) 10 (J t10))
 have HN11:=A (show Nx w (w'.setCell ⟨w.heap.size+1+1,10,none⟩ (J t10))from HN'.o.setCell (show w.heap.size<=w.heap.size+1+1 by omega) _)
 clear fr b0 b1 b2 b3 b4 b5 b6 b7 b8 b9 b10 HA' HB' HZ' HN';generalize w'.setCell ⟨w.heap.size+1+1,10,none⟩ (J t10)=w11 at *;obtain⟨b0,b1,b2,b3,b4,b5,b6,b7,b8,b9,b10⟩:=HA11.o.cells;obtain⟨z0,z1,z2,z3,z4,z5,z6,z7,z8,z9,z10⟩:=HZ11.o.cells;have zf0:=HZ11.o.free 0;have zf1:=HZ11.o.free 1;have zf2:=HZ11.o.free 2;have zf3:=HZ11.o.free 3;have zf4:=HZ11.o.free 4;have zf5:=HZ11.o.free 5;have zf6:=HZ11.o.free 6;have zf7:=HZ11.o.free 7;have zf8:=HZ11.o.free 8;have zf9:=HZ11.o.free 9;have zf10:=HZ11.o.free 10;go_wp2
 exact ZNl (rb:=w.heap.size) results30 rfl (C11.put HZ11.o _ _ _ _ _ _ _ _ _ _ _) rfl ⟨⟨t0,t1,t2,r.nam,r.pw,t5,r.host,t7,t8,t9,t10,rfl,HT0.o,HT1.o,HT2.o,HM3.o,HM4.o,HT5.o,HM6.o,HT7.o,HT8.o,HT9.o,HT10.o,by omega,by omega⟩,ZDF HN11.o (Xd _) _ _ _ _ _ _ _ _ _ _ _⟩
theorem ZES(l:LB):(Zzs l).length<=l.length+1:=by unfold Zzs;rw[Xg];exact ZCU l
theorem ZzF{ps:List Pq}{l:LB}(h:ps.map tl2=Zzs l)(hl:l.length<=300000):ps.length<=1000000:=by
 have h1:=ZES l;rw[<-h,Xg]at h1
 omega
def ZKo(e:Ending)(w w':World)(q:List UInt8):Prop:=∃v ps,e=Y v/\PrsIs w' w.heap.size v ps/\ps.map tl2=Zzs q/\Nx w w'
theorem ZAv(pb:Nat)(r:Rc)(u:U)(bs:LA)(w:World)(h0:UrlB w pb r)(h:RcIs w r u bs):Calls prog 47 #[.pointer (some ⟨pb,0,none⟩)] w fun e w'=>ZKo e w w' u.q:=by
 obtain⟨-,-,-,-,-,-,-,-,-,-,-,a11,-,-⟩:=h0.cells;have hl:=h.lq
 have HQ:=A (show tl r.q=u.q by rw[<-h.eq];rfl)
 clear h h0
 go_enter func47,ntmps47
 go_wp2_with fail
 refine(ZGo r.q _ hl).mono ?_
 rintro e w1 ⟨v,ps,rfl,h1,h2,h3⟩;have H1:=A h1;have H2:=A h2;have H3:=A h3;clear h1 h2 h3;go_wp2;go_ret
 exact⟨v,ps,rfl,H1.o,by rw[H2.o,HQ.o],H3.o⟩
theorem ZKp(pb:Nat)(r:Rc)(u:U)(bs:LA)(w:World)(h0:UrlB w pb r)(h:RcIs w r u bs):Calls prog 31 #[.pointer (some ⟨pb,0,none⟩)] w fun e w'=>ZKo e w w' u.q:=by
 go_enter func31,ntmps31
 go_wp2_with fail
 refine(ZAv pb r u bs _ h0 h).mono ?_
 rintro e w1 ⟨v,ps,rfl,h1,h2,h3⟩;have H1:=A h1;have H2:=A h2;have H3:=A h3;clear h1 h2 h3 h0 h;go_wp2;go_ret;exact⟨v,ps,rfl,H1.o,H2.o,H3.o⟩
def ZKB(n:Nat)(e:Ending)(w':World)(x:U×Int):Prop:=
 (x.2≠0/\e=Y (.tuple #[.pointer none,I X x.2]))∨(x.2=0/\∃(pb:Nat) (r:Rc) (bs:List ByteArray),e=Y (.tuple #[.pointer (some ⟨pb,0,none⟩),I X 0])/\UrlB w' pb r/\RcIs w' r x.1 bs/\n<=pb)
theorem ZIU(s base:BA)(based:Bool)(w:World)(hs:s.size<=maxLen)(hb:base.size<=maxLen)(ht:Tb w):Calls prog 28 #[J s,J base,C based] w fun e w'=>ZKB w.heap.size e w' (ZcN (tl s) (tl base) based)/\Nx w w':=by
 have HTB:=A ht;clear ht;unfold maxLen at hs hb
 have HD:=A (show ZcN (tl s) (tl base) based=if 160<s.size∨(based=true/\160<base.size)then(zeroU,1)
  else if(ZcO (tl base) based).2≠0 then(zeroU,(ZcO (tl base) based).2)else Zaa (tl s) (ZcO (tl base) based).1 by rw[<-Za s,<-Za base];rfl)
 by_cases h1:160<s.size
 focus
  have HE:=A (HD.o.trans (ifP (Xm h1)))
 rotate_left
 focus
  by_cases h2:based=true/\160<base.size
  focus
   have HE:=A (HD.o.trans (ifP (Xp h2)));obtain⟨rfl,h3⟩:=h2
  rotate_left
  .have HD2:=A (HD.o.trans (ifN (by rintro(h|h);exact h1 h;exact h2 h)))
   clear HD
   have HBC:=A (fun w1 (hn:Nx w w1)=>ZsB base based w1 (fun hb=>by have:¬160<base.size:=fun h=>h2 ⟨hb,h⟩;omega) (HTB.o.on hn))
   have two:based=false∨(based=true/\¬160<base.size):=by
    cases based
    .exact Xm rfl
    .exact Xp ⟨rfl,fun h=>h2 ⟨rfl,h⟩⟩
   clear h2;rcases two with rfl|⟨rfl,h3⟩
   focus
    go_enter func28,ntmps28
    go_wp2_with fail
    refine(HBC.o _ Nx.rfl).mono ?_
    rintro e w1 ⟨⟨r,ds,rfl,hr,hdl⟩,hn1⟩;have HR:=A hr;have HN1:=A hn1;clear hr hn1;generalize ZcO (tl base) false=q at *
   rotate_left
   focus
    go_enter func28,ntmps28
    go_wp2_with fail
    refine(HBC.o _ Nx.rfl).mono ?_
    rintro e w1 ⟨⟨r,ds,rfl,hr,hdl⟩,hn1⟩;have HR:=A hr;have HN1:=A hn1;clear hr hn1;generalize ZcO (tl base) true=q at *
   all_goals
    obtain⟨qu,err⟩:=q;simp only at HR HD2
    by_cases he:err=0
    .subst he
     have HE:=A (HD2.o.trans (ifN (by decide)))
     clear HD2;go_wp2_with fail
     refine(Zhq s r qu ds _ (HR.o.on (Nx.rfl.alloc _)) (by omega) (by omega) (HTB.o.on (HN1.o.alloc _))).mono ?_
     rintro e w2 ⟨⟨r2,ds2,rfl,hr2,hdl2⟩,hn2⟩;have HR2:=A hr2;have HN2:=A ((HN1.o.alloc _).then hn2);clear hr2 hn2;generalize Zaa (tl s) qu=q2 at *;obtain⟨qu2,err2⟩:=q2;simp only at HR2
     by_cases he2:err2=0
     .subst he2
      go_wp2;go_ret2
      refine⟨Xp ⟨by rw[HE.o],w2.heap.size+1,r2,ds2,rfl,?_,by rw[HE.o];exact HR2.o.on ((Nx.rfl.alloc _).alloc _),Xo HN2.o.size (Nat.le_succ _)⟩,(HN2.o.alloc _).alloc _⟩
      have h:=Zvh (w2.alloc (O #[J r2.sch,J r2.nam,J r2.pw,C r2.hh,J r2.host,C r2.hp,I X (r2.port:Int),C r2.op,J r2.opath,.slice r2.so r2.sn r2.sc,C r2.hq,J r2.q,C r2.hf,J r2.fr] 101)) r2
      rw[show(w2.alloc (O #[J r2.sch,J r2.nam,J r2.pw,C r2.hh,J r2.host,C r2.hp,I X (r2.port:Int),C r2.op,J r2.opath,.slice r2.so r2.sn r2.sc,C r2.hq,J r2.q,C r2.hf,J r2.fr] 101)).heap.size=w2.heap.size+1 by simp]at h
      exact h
     .have he':(err2 != 0)=true:=Zjv (beq_eq_false_iff_ne.2 he2)
      have HE2:=A he2;clear he2;go_wp2;go_ret2
      exact⟨Xm ⟨by rw[HE.o];exact HE2.o,by rw[HE.o];rfl⟩,HN2.o.alloc _⟩
    .have HE:=A (HD2.o.trans (ifP he))
     have he':(err != 0)=true:=Zjv (beq_eq_false_iff_ne.2 he);have HE2:=A he;clear HD2 he;go_wp2;go_ret2
     exact⟨Xm ⟨by rw[HE.o];exact HE2.o,by rw[HE.o];rfl⟩,HN1.o.alloc _⟩
 all_goals
  clear HD
  go_enter func28,ntmps28
  go_wp2;go_ret2
  exact⟨Xm ⟨by rw[HE.o];decide,by rw[HE.o];rfl⟩,Nx.rfl⟩
theorem ZNp{s:BA}{l:LB}(h:(s.toList==l)=false):(s.toList != l)=true:=by simp only[bne,h];rfl
theorem ZNq{s:BA}{l:LB}(h:(s.toList==l)=true):(s.toList != l)=false:=by simp only[bne,h];rfl
theorem ZL3(u:U):(Zkz u).length<=u.nam.length+u.pw.length+2:=by
 unfold Zkz
 split
 .simp
 split
 .simp;omega
 .simp;omega
theorem ZL4(u:U):(Zjc u).length<=u.sch.length+10+u.nam.length+u.pw.length+(ZaA u).length+(ZaL u).length+u.q.length+u.fr.length:=by
 have h1:=ZL3 u
 have h2:(Zhi u).length<=2+(Zkz u).length+(ZaA u).length:=by
  unfold Zhi
  split
  .simp;omega
  split
  .simp;omega
  .simp
 have h3:(if u.hq=true then [63]++u.q else []).length<=1+u.q.length:=by split<;>simp<;>omega
 have h4:(if u.hf=true then [35]++u.fr else []).length<=1+u.fr.length:=by split<;>simp<;>omega
 unfold Zjc Zb2;simp only[Xs,Xb,List.length_nil]at *
 omega
end Go.Proofs.YtchkhibgbnhjpabGreatDoor
