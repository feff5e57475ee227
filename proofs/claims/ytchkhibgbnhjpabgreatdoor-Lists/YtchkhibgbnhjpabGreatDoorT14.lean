import Derived.Test.YtchkhibgbnhjpabGreatDoorT13
open Array renaming getElem?_eq_some_iff→Xd
open Int renaming emod_nonneg→Xm,emod_lt_of_pos→Xs,tmod_eq_emod_of_nonneg→Xv
open List renaming length_map→Xf,length_cons→Xg,mem_singleton→Xh,foldl_cons→Xi,mem_append→Xj,take_of_length_le→Xl,map_cons→Xn,map_append→Xo,mem_cons_of_mem→Xp,length_take_le→Xq,getElem?_eq_some_iff→Xu,sum_cons→Xw,length_filter_le→Xx,getElem?_set→Xy,any_eq_true→Xz,length_set→XB,append_nil→XC,mem_filter→XD,mem_map→XE
open Nat renaming le_trans→Xb,le_refl→Xe,zero_le→Xk,lt_of_lt_of_le→Xr,le_succ_of_le→XA,zero_add→XF
open Option renaming bind_some→Xt
open Or renaming inr→Xa,inl→Xc
open Go.Value renaming string→J,bool→C,int→I
open Go.IntKind renaming i64→X
open Go.Ending renaming returned→Y
open Go.Obj renaming cells→O
namespace Go.Proofs.YtchkhibgbnhjpabGreatDoor
open Tryz
open Go.RowKit
set_option maxHeartbeats 16000000
set_option maxRecDepth 8000
variable [Fl]
set_option linter.all false
def ZzL(n:ByteArray)(p:Pq):Bool:=p.1.toList==n.toList
theorem FullP.far{w:World}{nb q:Nat}{ps:List Pq}(h:FullP w nb ps)(hq:nb≠q)(i:Nat)(u:Value):FullP (w.setCell ⟨q,i,none⟩ u) nb ps:=(Below.heap_setCell _ _ _ _ hq).trans h
theorem FullP.own{w:World}{nb base:Nat}{ps:List Pq}(h:FullP w nb ps)(hb:base<=nb)(hl:ps.length<=1000000):OwnP w base (.slice (some ⟨nb,0,none⟩) ps.length ps.length) ps:=by
 have hlen:=cellsP_len ps
 refine⟨by omega,Xa ⟨nb,ps.length,(cellsP ps).toArray,rfl,hb,h,Xe _,by unfold maxLen;omega,by simp;omega,?_⟩⟩
 exact Xl (by show(cellsP ps).length<=_;omega)
theorem ZGV(v:Value)(ps:List Pq)(n x:BA)(valued:Bool)(w:World)(hp:PlAt w v ps)(hl:ps.length<=1000000)(hn:n.size<=1000000)(hx:x.size<=1000000):Calls prog 119 #[v,J n,J x,C valued] w fun e w'=>∃r os,e=Y r/\PlAt w' r os/\os.map tl2=(ps.map tl2).filter (fun p=>!ZBZ (clean (tl n)) (clean (tl x)) valued p)/\os.length<=ps.length/\Nx w w':=by
 have HD:=A (ZBW v ps n x valued w hp hl hn hx);obtain⟨ao,cap,hve,-⟩:=id hp;subst hve;clear hp
 go_enter func119,ntmps119
 go_wp2_with fail
 refine HD.o.mono ?_
 rintro e w1 ⟨a,b,fs,os,rfl,-,ho,-,-,hm,-,hlo,hn1⟩;have HO:=A (OwnP.at ho);have HM:=A hm;have HN:=A hn1;obtain⟨ao2,cp2,hv2⟩:=ZzC ho;subst hv2;clear ho hm hn1 HD;go_wp2;go_ret;exact⟨_,os,rfl,HO.o,HM.o,hlo,HN.o⟩
theorem ZDJ(v:Value)(ps:List Pq)(n x:BA)(w:World)(hp:PlAt w v ps)(hl:ps.length<=1000000)(hn:n.size<=1000000)(hx:x.size<=1000000):Calls prog 118 #[v,J n,J x] w fun e w'=>(16<=ps.length/\e=Y (.tuple #[.slice none 0 0,I X 5])/\Nx w w')∨(¬16<=ps.length/\∃r qs,e=Y (.tuple #[r,I X 0])/\PlAt w' r qs/\qs.map tl2=ps.map tl2++[(clean (tl n),clean (tl x))]/\Nx w w'):=by
 have HD:=A (ZHI v ps · · hl);have HP:=A hp;obtain⟨ao,cap,hve,-⟩:=id hp;subst hve;clear hp
 by_cases h16:16<=ps.length
 .go_enter func118,ntmps118
  go_wp2;go_ret2;exact Xc ⟨h16,rfl,Nx.rfl⟩
 .go_enter func118,ntmps118
  go_wp2_with fail
  refine(HD.o _ HP.o).mono ?_
  rintro e w1 ⟨nb,hnb,rfl,hf,hn1⟩;have HF:=A hf;have HN1:=A hn1;have hz1:=hn1.size;have hnl:=hf.lt;clear hf hn1 HD HP;have HPB:=A (PB.of_alloc w1 (⟨#[]⟩,⟨#[]⟩));have HN2:=A (HN1.o.then (show Nx w1 (w1.alloc (O #[J ⟨#[]⟩,J ⟨#[]⟩] 113))from Nx.rfl.alloc _));have HF2:=A (HF.o.on (show Nx w1 (w1.alloc (O #[J ⟨#[]⟩,J ⟨#[]⟩] 113))from Nx.rfl.alloc _));go_upto_region 5 with fail;generalize w1.alloc (O #[J ⟨#[]⟩,J ⟨#[]⟩] 113)=w2 at *;generalize w1.heap.size=pb at *;go_wp2_with fail
  refine(ZbZ n _ hn).mono ?_
  rintro e w3 ⟨nm,rfl,hnm,hn3⟩;have HNM:=A hnm;have HN3:=A (HN2.o.then hn3);have HF3:=A (HF2.o.on hn3);have HPB3:=A (HPB.o.on hn3);clear hnm hn3;obtain⟨k0,k1,f0,f1,hpl⟩:=HPB3.o.facts;have HPB4:=A (HPB3.o.s0 (J nm))
  have HF4:=A (HF3.o.far (q:=pb) (by omega) 0 (J nm))
  have HN4:=A (show Nx w (w3.setCell ⟨pb,0,none⟩ (J nm))from Below.setCell (p:=⟨pb,0,none⟩) HN3.o (by show w.heap.size<=pb;omega) _)
  go_upto_region 6 with fail;generalize w3.setCell ⟨pb,0,none⟩ (J nm)=w4 at *;clear k0 k1 f0 f1;go_wp2_with fail
  refine(ZbZ x _ hx).mono ?_
  rintro e w5 ⟨vl,rfl,hvl,hn5⟩;have HVL:=A hvl;have HN5:=A (HN4.o.then hn5);have HF5:=A (HF4.o.on hn5);have HPB5:=A (HPB4.o.on hn5);clear hvl hn5;obtain⟨k0,k1,f0,f1,hpl5⟩:=HPB5.o.facts;have HPB6:=A (HPB5.o.s1 (J vl))
  have HF6:=A (HF5.o.far (q:=pb) (by omega) 1 (J vl))
  have HN6:=A (show Nx w (w5.setCell ⟨pb,1,none⟩ (J vl))from Below.setCell (p:=⟨pb,1,none⟩) HN5.o (by show w.heap.size<=pb;omega) _)
  go_upto_region 7 with fail;generalize w5.setCell ⟨pb,1,none⟩ (J vl)=w6 at *;clear k0 k1 f0 f1;obtain⟨k0,k1,f0,f1,hpl6⟩:=HPB6.o.facts;have hz6:=HN6.o.size;have HO:=A (HF6.o.own (base:=w.heap.size) hnb hl)
  go_wp2_with (at_builtin;go_must (refine ZAD w6 (nm,vl) rfl _ _ rfl w.heap.size _ ps rfl HO.o rfl (by omega) hz6 ?_;intro v' w7 ho7 hb7 _;have H7:=A ho7;clear ho7))
  obtain⟨ao7,cp7,hv7⟩:=ZzC H7.o;subst hv7;go_ret2
  exact Xa ⟨h16,_,ps++[(nm,vl)],rfl,OwnP.at H7.o,by rw[Xo,Xn,List.map_nil];show _=_++[(clean (tl n),clean (tl x))];rw[<-HNM.o,<-HVL.o];rfl,HN6.o.trans hb7⟩
def Zzv{α:Type}(hit:α->Bool)(x:α)(acc:List α×Bool)(p:α):List α×Bool:=if hit p=true then(if acc.2=true then acc else(acc.1++[x],true))else(acc.1++[p],acc.2)
def ZA2{α:Type}(hit:α->Bool)(x:α)(l:List α):List α×Bool:=l.foldl (Zzv hit x) ([],false)
theorem ZFZ{α:Type}(hit:α->Bool)(x:α)(l:List α)(k:Nat)(h:k<l.length):ZA2 hit x (l.take (k+1))=Zzv hit x (ZA2 hit x (l.take k)) l[k]:=by
 unfold ZA2;rw[List.take_succ_eq_append_getElem h,List.foldl_append]
 rfl
theorem ZHM{α β:Type}(f:α->β)(hit:α->Bool)(hit':β->Bool)(h:∀p,hit p=hit' (f p))(x:α)(l:List α):((ZA2 hit x l).1.map f,(ZA2 hit x l).2)=ZA2 hit' (f x) (l.map f):=by
 have key:∀(l:List α) (acc:List α×Bool),((l.foldl (Zzv hit x) acc).1.map f,(l.foldl (Zzv hit x) acc).2)=(l.map f).foldl (Zzv hit' (f x)) (acc.1.map f,acc.2):=by
  intro l
  induction l with
  | nil=>intro acc;rfl
  | cons p r ih=>
   intro acc;rw[Xi,ih,Xn,Xi]
   congr 1
   unfold Zzv;rw[<-h p]
   cases hit p
   .simp
   .obtain⟨g,b⟩:=acc
    cases b<;>simp
 exact key l ([],false)
theorem ZEU{α:Type}(hit:α->Bool)(x:α)(l:List α):(ZA2 hit x l).1.length<=l.length:=by
 have key:∀(l:List α) (acc:List α×Bool),(l.foldl (Zzv hit x) acc).1.length<=acc.1.length+l.length:=by
  intro l
  induction l with
  | nil=>intro acc;exact Xe _
  | cons p r ih=>
   intro acc;rw[Xi]
   refine Xb (ih _) ?_
   unfold Zzv
   split
   .split
    .simp
    .simp;omega
   .simp;omega
 have h:=key l ([],false)
 rw[show([]:List α).length+l.length=l.length by simp]at h
 exact h
theorem ZLW(v:Value)(ps:List Pq)(n x:BA)(w:World)(hp:PlAt w v ps)(hl:ps.length<=1000000)(hn:n.size<=1000000)(hx:x.size<=1000000):
  Calls prog 120 #[v,J n,J x] w fun e w'=>
   ((ZA2 (fun p=>p.1==clean (tl n)) (clean (tl n),clean (tl x)) (ps.map tl2)).2=true/\∃r qs,e=Y (.tuple #[r,I X 0])/\PlAt w' r qs/\qs.map tl2=(ZA2 (fun p=>p.1==clean (tl n)) (clean (tl n),clean (tl x)) (ps.map tl2)).1/\Nx w w') ∨
   ((ZA2 (fun p=>p.1==clean (tl n)) (clean (tl n),clean (tl x)) (ps.map tl2)).2=false/\((16<=ps.length/\e=Y (.tuple #[.slice none 0 0,I X 5])/\Nx w w')∨(¬16<=ps.length/\∃r qs,e=Y (.tuple #[r,I X 0])/\PlAt w' r qs/\qs.map tl2=ps.map tl2++[(clean (tl n),clean (tl x))]/\Nx w w'))):=by
 have HAP:=A (fun w' h=>ZDJ v ps n x w' h hl hn hx)
 have HP:=A hp;obtain⟨ao,cap,rfl,hlc,hcap,hnone,hsome⟩:=hp;unfold maxLen at hcap
 go_enter func120,ntmps120
 go_wp2_with fail
 refine(ZbZ n _ hn).mono ?_
 rintro e w1 ⟨nm,rfl,hnm,hn1⟩;have HN1:=A hn1;have HNM:=A hnm;clear hn1 hnm;go_wp2_with fail
 refine(ZbZ x _ hx).mono ?_
 rintro e w2 ⟨vl,rfl,hvl,hn2⟩;have HN2:=A (HN1.o.then hn2);have HVL:=A hvl;have hz2:=HN2.o.size
 have HG:=A ((ZHM tl2 (ZzL nm) (fun p=>p.1==clean (tl n)) (fun p=>by unfold ZzL tl2;rw[ByteArray.toList_eq,ByteArray.toList_eq,<-HNM.o];rfl) (nm,vl) ps).trans (show ZA2 _ (tl2 (nm,vl)) _=ZA2 (fun p=>p.1==clean (tl n)) (clean (tl n),clean (tl x)) (ps.map tl2)by rw[show tl2 (nm,vl)=(clean (tl n),clean (tl x))by rw[<-HNM.o,<-hvl];rfl]))
 clear hn2 hvl HN1;go_wp2
 go_loopw [10,11,12] (fun o f i wr=>∃k:Nat,k<=ps.length/\i=I X k/\OwnP wr w.heap.size o (ZA2 (ZzL nm) (nm,vl) (ps.take k)).1/\f=C (ZA2 (ZzL nm) (nm,vl) (ps.take k)).2/\Nx w wr) (fun _ _ i _=>ps.length-(intOf i).toNat)
 case atStart=>exact⟨0,Xk _,rfl,ZCI w2 _ hz2,rfl,HN2.o.then (Nx.rfl.alloc _)⟩
 case round=>
  obtain⟨k,hk,rfl,hO1,rfl,hnx⟩:=hrel;have HO1:=A hO1;have HN:=A hnx;have hzr:=hnx.size;clear hO1
  by_cases hlt:k<ps.length
  .obtain⟨a,ha⟩:=ZAh hlt hnone
   subst ha;obtain⟨b,off,rfl,hr⟩:=hsome a rfl;obtain⟨c0,c1⟩:=(hr.on hnx).cell hlt;have HS1:=A (ZFZ (ZzL nm) (nm,vl) ps k hlt)
   have hl1:(ZA2 (ZzL nm) (nm,vl) (ps.take k)).1.length<1000000000000:=by
    have h1:=ZEU (ZzL nm) (nm,vl) (ps.take k);have h2:=Xq k ps
    omega
   clear hnone hsome hr hnx;generalize ps[k]=c at *;obtain⟨cn,cv⟩:=c;simp only at c0 c1;generalize ZA2 (ZzL nm) (nm,vl) (ps.take k)=G at *;obtain⟨gl,gf⟩:=G;simp only at HO1 hl1;have HQ:=A (show ZzL nm (cn,cv)=(cn.toList==nm.toList)from rfl)
   cases hd1:(cn.toList==nm.toList)
   focus
    have hd1':(cn.toList != nm.toList)=true:=ZNp hd1
    have HM:=A (show Zzv (ZzL nm) (nm,vl) (gl,gf) (cn,cv)=(gl++[(cn,cv)],gf)from ifN (by rw[HQ.o,hd1];decide))
    clear HQ
    go_wp2_with (at_builtin;go_must (refine ZAD wr (cn,cv) rfl _ _ rfl w.heap.size _ _ rfl HO1.o rfl hl1 hzr ?_;intro v' w3 ho1 hb3 _;have HA:=A ho1;clear ho1))
   rotate_left
   focus
    have hd1':(cn.toList != nm.toList)=false:=ZNq hd1
    cases gf
    focus
     have HM:=A (show Zzv (ZzL nm) (nm,vl) (gl,false) (cn,cv)=(gl++[(nm,vl)],true)by unfold Zzv;rw[ifP (by rw[HQ.o,hd1]),ifN (by intro x;cases x)])
     clear HQ
     go_wp2_with (at_builtin;go_must (refine ZAD wr (nm,vl) rfl _ _ rfl w.heap.size _ _ rfl HO1.o rfl hl1 hzr ?_;intro v' w3 ho1 hb3 _;have HA:=A ho1;clear ho1))
    rotate_left
    .have HM:=A (show Zzv (ZzL nm) (nm,vl) (gl,true) (cn,cv)=(gl,true)by unfold Zzv;rw[ifP (by rw[HQ.o,hd1]),ifP rfl])
     clear HQ;go_wp2
     go_roundw
     exact⟨k+1,by omega,by go_num,by rw[HS1.o,HM.o];exact HO1.o,by rw[HS1.o,HM.o],HN.o⟩
     simp[intOf];omega
   all_goals
    go_roundw
    exact⟨k+1,by omega,by go_num,by rw[HS1.o,HM.o];exact HA.o,by rw[HS1.o,HM.o],HN.o.trans hb3⟩
    simp[intOf];omega
  .have e:ps.take k=ps:=Xl (by omega)
   rw[e]
   have HF1:=A (show OwnP wr w.heap.size _ (ZA2 (ZzL nm) (nm,vl) ps).1 by have h:=HO1.o;rw[e]at h;exact h)
   clear hnone hsome hnx e HO1;generalize ZA2 (ZzL nm) (nm,vl) ps=G at *;obtain⟨gl,gf⟩:=G;simp only at HF1
   cases gf
   .go_wp2_with fail
    refine(HAP.o _ (HP.o.on HN.o)).mono ?_
    rintro e w4 h4;rcases h4 with⟨h16,rfl,hn4⟩|⟨h16,r4,qs4,rfl,hp4,hq4,hn4⟩
    .have HN4:=A (HN.o.then hn4)
     clear hn4;go_wp2;go_ret2
     exact Xa ⟨by rw[<-HG.o],Xc ⟨h16,rfl,HN4.o⟩⟩
    .have HN4:=A (HN.o.then hn4)
     have HP4:=A hp4;have HQ4:=A hq4;obtain⟨ao4,cp4,hv4,-⟩:=id hp4;subst hv4;clear hn4 hp4 hq4;go_wp2;go_ret2
     exact Xa ⟨by rw[<-HG.o],Xa ⟨h16,_,qs4,rfl,HP4.o,HQ4.o,HN4.o⟩⟩
   .obtain⟨ao4,cp4,hv4⟩:=ZzC HF1.o
    subst hv4;go_wp2;go_ret2
    refine Xc ⟨?_,?_⟩
    .rw[<-HG.o]
    .refine⟨_,rfl,gl,OwnP.at HF1.o,?_,HN.o⟩
     rw[<-HG.o]
abbrev Lp:=List (List UInt8×List UInt8)
def ZIW(n v:List UInt8)(L:Lp):Except Int Lp:=if 160<n.length∨160<v.length then .error 1 else if 16<=L.length then .error 5 else .ok (L++[(clean n,clean v)])
def ZI6(n v:List UInt8)(valued:Bool)(L:Lp):Except Int Lp:=if 160<n.length∨160<v.length then .error 1 else .ok (L.filter (fun p=>!ZBZ (clean n) (clean v) valued p))
def ZGW(n v:List UInt8)(L:Lp):Except Int Lp:=if 160<n.length∨160<v.length then .error 1 else if(ZA2 (fun p=>p.1==clean n) (clean n,clean v) L).2=true then .ok (ZA2 (fun p=>p.1==clean n) (clean n,clean v) L).1 else if 16<=L.length then .error 5 else .ok (L++[(clean n,clean v)])
def LstIs(e:Ending)(w w':World)(pb:Nat)(bs:List ByteArray)(u:U):Except Int Lp->Prop
 | .error k=>e=Y (I X k)/\Nx w w'
 | .ok S=>e=Y (I X 0)/\(∃r',UrlB w' pb r'/\RcIs w' r' (ZzR u S) bs)/\But pb w w'
def ZCb(f:List UInt8×List UInt8->Nat)(S:Lp):Nat:=(S.map f).sum
theorem sumP_cons(f:LB×LB->Nat)(p:LB×LB)(S:Lp):ZCb f (p::S)=f p+ZCb f S:=by simp[ZCb]
theorem ZEV(f:LB×LB->Nat)(a b:Lp):ZCb f (a++b)=ZCb f a+ZCb f b:=by simp[ZCb]
theorem ZF0(f:LB×LB->Nat){a b:Lp}(h:a.Perm b):ZCb f a=ZCb f b:=(h.map f).sum_nat
abbrev ex1(p:List UInt8×List UInt8):Nat:=(p.1.length-480)+(p.2.length-480)
abbrev ex2(p:List UInt8×List UInt8):Nat:=p.1.length+(p.2.length-480)
structure FitL (S:Lp):Prop where
 cl:∀p∈S,ZGw p
 ln:S.length<=161
 e1:ZCb ex1 S<=12960
 e2:ZCb ex2 S<=20640
theorem ZF1(p:LB×LB)(S:Lp):ZKP (p::S)=3*(p.1.length+p.2.length)+2+ZKP S:=by simp[ZKP]
theorem FitL.wd{S:Lp}(h:FitL S):ZKP S<=295000:=by
 have key:∀S:Lp,ZKP S<=3*ZCb ex2 S+1442*S.length:=by
  intro S
  induction S with
  | nil=>exact Xk _
  | cons p r ih=>rw[ZF1,sumP_cons,Xg];simp only[ex2];omega
 have:=key S;have:=h.e2;have:=h.ln
 omega
theorem FitL.each{S:Lp}(h:FitL S):∀p∈S,p.1.length<=300000/\p.2.length<=300000:=by
 have key:∀S:Lp,∀p∈S,3*(p.1.length+p.2.length)+2<=ZKP S:=by
  intro S
  induction S with
  | nil=>intro p hp;cases hp
  | cons q r ih=>
   intro p hp;rw[ZF1];rcases List.mem_cons.1 hp with rfl|hp
   .omega
   .have:=ih p hp;omega
 intro p hp;have:=key S p hp;have:=h.wd
 omega
theorem FitL.written{S:Lp}(h:FitL S):(ZzA S).length<=295000:=Xb (ZET h.cl) h.wd
theorem ZIX(l:LB):(bsplit 38 l).length=l.countP (isB 38)+1:=by
 induction l with
 | nil=>rfl
 | cons c r ih=>
  rw[bsplit,List.countP_cons]
  split
  .rw[Xg,ih]
  .obtain⟨p,q,e⟩:=ZeF 38 r
   rw[e]at ih ⊢;exact ih
theorem ZLX{l:LB}(h:l.length<=4320/\amp l<=160):FitL (Zzs l):=by
 have key:∀ls:List LB,((ZCl ls).map ZAb).length<=ls.length/\ZCb (fun p=>p.1.length+p.2.length) ((ZCl ls).map ZAb)<=3*(ls.map List.length).sum:=by
  intro ls
  induction ls with
  | nil=>exact⟨Xe _,Xe _⟩
  | cons a r ih=>
   cases a with
   | nil=>rw[show ZCl ([]::r)=ZCl r from rfl,Xg,Xn,Xw];exact⟨by omega,by simp only[List.length_nil];omega⟩
   | cons c p=>
    rw[show(ZCl ((c::p)::r)).map ZAb=ZAb (c::p)::(ZCl r).map ZAb from rfl,sumP_cons,Xg,Xg,Xn,Xw];generalize c::p=a;have h1:=ZBR (bcut (isB 61) a).1;have h2:=ZBR (bcut (isB 61) a).2.1;have h3:=ZLV 61 a;have e1:(ZAb a).1=ZAA (bcut (isB 61) a).1:=rfl;have e2:(ZAb a).2=ZAA (bcut (isB 61) a).2.1:=rfl;rw[e1,e2]
    exact⟨by omega,by omega⟩
 have hle:∀(f g:LB×LB->Nat) (S:Lp),(∀p,f p<=g p)->ZCb f S<=ZCb g S:=by
  intro f g S hfg
  induction S with
  | nil=>exact Xe _
  | cons p r ih=>rw[sumP_cons,sumP_cons];have:=hfg p;omega
 have hs:∀ls:List LB,(ls.map List.length).sum+ls.length=ZCG ls:=by
  intro ls
  induction ls with
  | nil=>rfl
  | cons a r ih=>rw[sumL_cons,Xn,Xw,Xg];omega
 obtain⟨k1,k2⟩:=key (bsplit 38 l);have k3:=hs (bsplit 38 l);have k4:=ZEh 38 l;have k5:=ZIX l;have k6:l.countP (isB 38)<=160:=h.2
 have k7:ZCb (fun p=>p.1.length+p.2.length) (Zzs l)<=12960:=by
  have h1:=h.1;unfold Zzs ZBq
  omega
 refine⟨ZBU l,?_,Xb (hle _ _ _ fun p=>?_) k7,Xb (hle _ _ _ fun p=>?_) (Xb k7 (by decide))⟩
 .unfold Zzs ZBq
  omega
 .simp only[ex1];omega
 .simp only[ex2];omega
theorem FitL.sub{S T:Lp}(h:FitL S)(hs:T.Sublist S):FitL T:=by
 have key:∀(f:LB×LB->Nat) {T S:Lp},T.Sublist S->ZCb f T<=ZCb f S:=fun f T S hs=>by
  induction hs with
  | slnil=>exact Xe _
  | cons p _ ih=>rw[sumP_cons];omega
  | cons_cons p _ ih=>rw[sumP_cons,sumP_cons];omega
 exact⟨fun p hp=>h.cl p (hs.subset hp),Xb hs.length_le h.ln,Xb (key _ hs) h.e1,Xb (key _ hs) h.e2⟩
theorem FitL.perm{S T:Lp}(h:FitL S)(hs:T.Perm S):FitL T:=
 ⟨fun p hp=>h.cl p (hs.mem_iff.1 hp),by rw[hs.length_eq];exact h.ln,by rw[ZF0 _ hs];exact h.e1,by rw[ZF0 _ hs];exact h.e2⟩
theorem ZEW{n v:LB}{L:Lp}(hn:n.length<=160)(hv:v.length<=160)(h:FitL L)(hw:¬16<=L.length):FitL (L++[(clean n,clean v)]):=by
 have h1:=ZaJ n;have h2:=ZaJ v
 have key:∀S:Lp,ZCb ex2 S<=ZCb ex1 S+480*S.length:=by
  intro S
  induction S with
  | nil=>exact Xk _
  | cons p r ih=>rw[sumP_cons,sumP_cons,Xg];simp only[ex1,ex2];omega
 have k:=key (L++[(clean n,clean v)])
 have e:ZCb ex1 (L++[(clean n,clean v)])<=12960:=by
  rw[ZEV,show ZCb ex1 [(clean n,clean v)]=ex1 (clean n,clean v)by simp[ZCb]]
  have:=h.e1
  have e0:ex1 (clean n,clean v)=0:=by simp only[ex1];omega
  omega
 have hl:(L++[(clean n,clean v)]).length=L.length+1:=by simp
 refine⟨fun p hp=>?_,by omega,e,by omega⟩
 rcases Xj.1 hp with hp|hp
 .exact h.cl p hp
 .rw[Xh]at hp
  subst hp;exact⟨ZCn _,ZCn _⟩
theorem ZHN{n v:LB}{L:Lp}(hv:v.length<=160)(h:FitL L):FitL (ZA2 (fun p=>p.1==clean n) (clean n,clean v) L).1:=by
 have h2:=ZaJ v
 have key:∀(f:LB×LB->Nat) (L:Lp) (acc:Lp×Bool),(∀p∈L,p.1=clean n->f (clean n,clean v)<=f p)->ZCb f (L.foldl (Zzv (fun p=>p.1==clean n) (clean n,clean v)) acc).1<=ZCb f acc.1+ZCb f L:=by
  intro f L
  induction L with
  | nil=>intro acc _;exact Xe _
  | cons p r ih=>
   intro acc hl;rw[Xi,sumP_cons]
   have hr:∀q∈r,q.1=clean n->f (clean n,clean v)<=f q:=fun q hq=>hl q (Xp _ hq)
   refine Xb (ih _ hr) ?_
   unfold Zzv
   split
   .next hp=>
    have:=hl p (by simp) (by simpa using hp)
    split
    .omega
    .simp only[ZEV,sumP_cons]
     have:ZCb f []=0:=rfl
     omega
   .simp only[ZEV,sumP_cons]
    have:ZCb f []=0:=rfl
    omega
 have mem:∀(L:Lp) (acc:Lp×Bool),(∀p∈acc.1,ZGw p)->(∀p∈L,ZGw p)->∀p∈(L.foldl (Zzv (fun p=>p.1==clean n) (clean n,clean v)) acc).1,ZGw p:=by
  intro L
  induction L with
  | nil=>intro acc ha _;exact ha
  | cons p r ih=>
   intro acc ha hl;rw[Xi]
   refine ih _ ?_ (fun q hq=>hl q (Xp _ hq))
   unfold Zzv
   split
   .split
    .exact ha
    .intro q hq
     rcases Xj.1 hq with hq|hq
     .exact ha q hq
     .rw[Xh]at hq
      subst hq;exact⟨ZCn _,ZCn _⟩
   .intro q hq
    rcases Xj.1 hq with hq|hq
    .exact ha q hq
    .rw[Xh]at hq
     subst hq
     exact hl q (by simp)
 have one:=key (fun _=>1) L ([],false) (fun _ _ _=>Xe _)
 have a1:=key ex1 L ([],false) (fun p _ hp=>by simp only[ex1,hp];omega)
 have a2:=key ex2 L ([],false) (fun p _ hp=>by simp only[ex2,hp];omega)
 have len:∀S:Lp,ZCb (fun _=>1) S=S.length:=by
  intro S
  induction S with
  | nil=>rfl
  | cons p r ih=>rw[sumP_cons,Xg];omega
 have z:∀f,ZCb f ([]:Lp)=0:=fun _=>rfl
 rw[z,XF]at one a1 a2;rw[len,len]at one
 exact⟨mem L ([],false) (fun p hp=>by cases hp) h.cl,Xb one h.ln,Xb a1 h.e1,Xb a2 h.e2⟩
theorem ZCr{qs:List Pq}{S:Lp}(h:FitL S)(e:qs.map tl2=S):qs.length<=1000000/\∀p∈qs,p.1.size<=1000000/\p.2.size<=1000000:=by
 refine⟨by rw[<-Xf (f:=tl2),e];exact Xb h.ln (by decide),fun p hp=>?_⟩
 have:=h.each (tl2 p) (by rw[<-e];exact XE.2 ⟨p,hp,rfl⟩)
 rw[<-Za,<-Za]
 exact⟨Xb this.1 (by decide),Xb this.2 (by decide)⟩
theorem ZGX(pb:Nat)(r:Rc)(u:U)(bs:LA)(n x:BA)(w:World)(hu:UrlB w pb r)(hr:RcIs w r u bs)(hq:FitL (Zzs u.q))(hn:n.size<=maxLen)(hx:x.size<=maxLen):Calls prog 60 #[.pointer (some ⟨pb,0,none⟩),J n,J x] w fun e w'=>LstIs e w w' pb bs u (ZIW (tl n) (tl x) (Zzs u.q)):=by
 have HU:=A hu;have HR:=A hr;have HLQ:=A (ZCJ hr);have HFT:=A hq
 have HL:=A (fun w' h1 h2=>ZAv pb r u bs w' h1 h2)
 clear hu hr hq
 go_enter func60,ntmps60
 go_wp2_with fail
 refine(ZAn n x _ hn hx).mono ?_
 rintro e w' ⟨rfl,rfl⟩
 by_cases hlong:160<n.size∨160<x.size
 .rw[decide_eq_true hlong]
  have HM:=A (show ZIW (tl n) (tl x) (Zzs u.q)=.error 1 from ifP (by rw[Za,Za];exact hlong))
  clear hlong;go_wp2;go_ret;rw[HM.o];exact⟨rfl,Nx.rfl⟩
 .rw[decide_eq_false hlong]
  have HNL:=A (show n.size<=160/\x.size<=160 by omega)
  have HM:=A (show ZIW (tl n) (tl x) (Zzs u.q)=if 16<=(Zzs u.q).length then .error 5 else .ok (Zzs u.q++[(clean (tl n),clean (tl x))])from ifN (by rw[Za,Za];exact hlong))
  clear hlong;go_wp2_with fail
  refine(HL.o _ HU.o HR.o).mono ?_
  rintro e w1 ⟨v,ps,rfl,h1,h2,h3⟩;have hc:=ZzF h2 HLQ.o;have HA:=A (h1.at hc)
  have HLN:=A (show(Zzs u.q).length=ps.length by rw[<-h2,Xf])
  have H2:=A h2;have HN:=A h3;obtain⟨ao,cap,rfl⟩:=h1.slice;clear h1 h2 h3;go_wp2_with fail
  refine(ZDJ _ ps n x _ HA.o hc (Xb HNL.o.1 (by decide)) (Xb HNL.o.2 (by decide))).mono ?_
  rintro e w2 h4;rcases h4 with⟨h16,rfl,hn4⟩|⟨h16,r4,qs,rfl,hp4,hq4,hn4⟩
  .have HM2:=A (show ZIW (tl n) (tl x) (Zzs u.q)=.error 5 by rw[HM.o,ifP (by rw[HLN.o];exact h16)])
   have HN4:=A (HN.o.then hn4);clear hn4 h16 HM;go_wp2;go_ret;rw[HM2.o];exact⟨rfl,HN4.o⟩
  .have HM2:=A (show ZIW (tl n) (tl x) (Zzs u.q)=.ok (Zzs u.q++[(clean (tl n),clean (tl x))])by rw[HM.o,ifN (by rw[HLN.o];exact h16)])
   have HN4:=A (HN.o.then hn4);have HP4:=A hp4
   have HQ4:=A (show qs.map tl2=Zzs u.q++[(clean (tl n),clean (tl x))]by rw[hq4,H2.o])
   have HFA:=A (ZEW (n:=tl n) (v:=tl x) (by rw[Za];exact HNL.o.1) (by rw[Za];exact HNL.o.2) HFT.o (by rw[HLN.o];exact h16))
   obtain⟨hql,hqz⟩:=ZCr HFA.o HQ4.o;have HQZ:=A hqz;obtain⟨ao4,cp4,hv4,-⟩:=id hp4;subst hv4;clear hn4 hp4 hq4 h16 HM hqz;go_wp2_with fail
   refine(ZBt pb r u bs _ qs _ (HU.o.on HN4.o) (HR.o.on HN4.o) HP4.o hql HQZ.o (by rw[HQ4.o];exact Xb HFA.o.written (by decide))).mono ?_
   rintro e w3 ⟨rfl,hx3,hbt⟩;rw[HQ4.o]at hx3;have HX:=A hx3;have HBT:=A ((But.nx HN4.o).then hbt);clear hx3 hbt;go_wp2;go_ret;rw[HM2.o];exact⟨rfl,HX.o,HBT.o⟩
theorem ZGY(pb:Nat)(r:Rc)(u:U)(bs:LA)(n x:BA)(valued:Bool)(w:World)(hu:UrlB w pb r)(hr:RcIs w r u bs)(hq:FitL (Zzs u.q))(hn:n.size<=maxLen)(hx:x.size<=maxLen):Calls prog 61 #[.pointer (some ⟨pb,0,none⟩),J n,J x,C valued] w fun e w'=>LstIs e w w' pb bs u (ZI6 (tl n) (tl x) valued (Zzs u.q)):=by
 have HU:=A hu;have HR:=A hr;have HLQ:=A (ZCJ hr);have HFT:=A hq
 have HL:=A (fun w' h1 h2=>ZAv pb r u bs w' h1 h2)
 clear hu hr hq
 go_enter func61,ntmps61
 go_wp2_with fail
 refine(ZAn n x _ hn hx).mono ?_
 rintro e w' ⟨rfl,rfl⟩
 by_cases hlong:160<n.size∨160<x.size
 .rw[decide_eq_true hlong]
  have HM:=A (show ZI6 (tl n) (tl x) valued (Zzs u.q)=.error 1 from ifP (by rw[Za,Za];exact hlong))
  clear hlong;go_wp2;go_ret;rw[HM.o];exact⟨rfl,Nx.rfl⟩
 .rw[decide_eq_false hlong]
  have HNL:=A (show n.size<=160/\x.size<=160 by omega)
  have HM:=A (show ZI6 (tl n) (tl x) valued (Zzs u.q)=.ok ((Zzs u.q).filter (fun p=>!ZBZ (clean (tl n)) (clean (tl x)) valued p))from ifN (by rw[Za,Za];exact hlong))
  clear hlong;go_wp2_with fail
  refine(HL.o _ HU.o HR.o).mono ?_
  rintro e w1 ⟨v,ps,rfl,h1,h2,h3⟩;have hc:=ZzF h2 HLQ.o;have HA:=A (h1.at hc);have H2:=A h2;have HN:=A h3;obtain⟨ao,cap,rfl⟩:=h1.slice;clear h1 h2 h3;go_wp2_with fail
  refine(ZGV _ ps n x valued _ HA.o hc (Xb HNL.o.1 (by decide)) (Xb HNL.o.2 (by decide))).mono ?_
  rintro e w2 ⟨r4,qs,rfl,hp4,hq4,-,hn4⟩;have HN4:=A (HN.o.then hn4);have HP4:=A hp4
  have HQ4:=A (show qs.map tl2=(Zzs u.q).filter (fun p=>!ZBZ (clean (tl n)) (clean (tl x)) valued p)by rw[hq4,H2.o])
  have HFA:=A (show FitL ((Zzs u.q).filter (fun p=>!ZBZ (clean (tl n)) (clean (tl x)) valued p))from HFT.o.sub List.filter_sublist)
  obtain⟨hql,hqz⟩:=ZCr HFA.o HQ4.o;have HQZ:=A hqz;obtain⟨ao4,cp4,hv4,-⟩:=id hp4;subst hv4;clear hn4 hp4 hq4 hqz;go_wp2_with fail
  refine(ZBt pb r u bs _ qs _ (HU.o.on HN4.o) (HR.o.on HN4.o) HP4.o hql HQZ.o (by rw[HQ4.o];exact Xb HFA.o.written (by decide))).mono ?_
  rintro e w3 ⟨rfl,hx3,hbt⟩;rw[HQ4.o]at hx3;have HX:=A hx3;have HBT:=A ((But.nx HN4.o).then hbt);clear hx3 hbt;go_wp2;go_ret;rw[HM.o];exact⟨rfl,HX.o,HBT.o⟩
theorem ZLY(pb:Nat)(r:Rc)(u:U)(bs:LA)(n x:BA)(w:World)(hu:UrlB w pb r)(hr:RcIs w r u bs)(hq:FitL (Zzs u.q))(hn:n.size<=maxLen)(hx:x.size<=maxLen):Calls prog 62 #[.pointer (some ⟨pb,0,none⟩),J n,J x] w fun e w'=>LstIs e w w' pb bs u (ZGW (tl n) (tl x) (Zzs u.q)):=by
 have HU:=A hu;have HR:=A hr;have HLQ:=A (ZCJ hr);have HFT:=A hq
 have HL:=A (fun w' h1 h2=>ZAv pb r u bs w' h1 h2)
 clear hu hr hq
 go_enter func62,ntmps62
 go_wp2_with fail
 refine(ZAn n x _ hn hx).mono ?_
 rintro e w' ⟨rfl,rfl⟩
 by_cases hlong:160<n.size∨160<x.size
 .rw[decide_eq_true hlong]
  have HM:=A (show ZGW (tl n) (tl x) (Zzs u.q)=.error 1 from ifP (by rw[Za,Za];exact hlong))
  clear hlong;go_wp2;go_ret;rw[HM.o];exact⟨rfl,Nx.rfl⟩
 .rw[decide_eq_false hlong]
  have HNL:=A (show n.size<=160/\x.size<=160 by omega)
  have HM:=A (show ZGW (tl n) (tl x) (Zzs u.q)=if(ZA2 (fun p=>p.1==clean (tl n)) (clean (tl n),clean (tl x)) (Zzs u.q)).2=true then .ok (ZA2 (fun p=>p.1==clean (tl n)) (clean (tl n),clean (tl x)) (Zzs u.q)).1 else if 16<=(Zzs u.q).length then .error 5 else .ok (Zzs u.q++[(clean (tl n),clean (tl x))])from ifN (by rw[Za,Za];exact hlong))
  clear hlong;go_wp2_with fail
  refine(HL.o _ HU.o HR.o).mono ?_
  rintro e w1 ⟨v,ps,rfl,h1,h2,h3⟩;have hc:=ZzF h2 HLQ.o;have HA:=A (h1.at hc)
  have HLN:=A (show(Zzs u.q).length=ps.length by rw[<-h2,Xf])
  have H2:=A h2;have HN:=A h3;obtain⟨ao,cap,rfl⟩:=h1.slice;clear h1 h2 h3;go_wp2_with fail
  refine(ZLW _ ps n x _ HA.o hc (Xb HNL.o.1 (by decide)) (Xb HNL.o.2 (by decide))).mono ?_
  rintro e w2 h4;rw[H2.o]at h4;rcases h4 with⟨hgf,r4,qs,rfl,hp4,hq4,hn4⟩|⟨hgf,⟨h16,rfl,hn4⟩|⟨h16,r4,qs,rfl,hp4,hq4,hn4⟩⟩
  focus
   have HM2:=A (show ZGW (tl n) (tl x) (Zzs u.q)=.ok (ZA2 (fun p=>p.1==clean (tl n)) (clean (tl n),clean (tl x)) (Zzs u.q)).1 by rw[HM.o,ifP hgf])
   have HN4:=A (HN.o.then hn4);have HP4:=A hp4;have HQ4:=A hq4
   have HFA:=A (ZHN (n:=tl n) (v:=tl x) (by rw[Za];exact HNL.o.2) HFT.o)
   obtain⟨hql,hqz⟩:=ZCr HFA.o HQ4.o;have HQZ:=A hqz;obtain⟨ao4,cp4,hv4,-⟩:=id hp4;subst hv4;clear hn4 hp4 hq4 HM hqz hgf
  rotate_left
  .have HM2:=A (show ZGW (tl n) (tl x) (Zzs u.q)=.error 5 by rw[HM.o,ifN (by rw[hgf];decide),ifP (by rw[HLN.o];exact h16)])
   have HN4:=A (HN.o.then hn4);clear hn4 h16 HM hgf;go_wp2;go_ret;rw[HM2.o];exact⟨rfl,HN4.o⟩
  focus
   have HM2:=A (show ZGW (tl n) (tl x) (Zzs u.q)=.ok (Zzs u.q++[(clean (tl n),clean (tl x))])by rw[HM.o,ifN (by rw[hgf];decide),ifN (by rw[HLN.o];exact h16)])
   have HN4:=A (HN.o.then hn4);have HP4:=A hp4
   have HQ4:=A (show qs.map tl2=Zzs u.q++[(clean (tl n),clean (tl x))]by rw[hq4])
   have HFA:=A (ZEW (n:=tl n) (v:=tl x) (by rw[Za];exact HNL.o.1) (by rw[Za];exact HNL.o.2) HFT.o (by rw[HLN.o];exact h16))
   obtain⟨hql,hqz⟩:=ZCr HFA.o HQ4.o;have HQZ:=A hqz;obtain⟨ao4,cp4,hv4,-⟩:=id hp4;subst hv4;clear hn4 hp4 hq4 h16 HM hqz hgf
  all_goals
   go_wp2_with fail
   refine(ZBt pb r u bs _ qs _ (HU.o.on HN4.o) (HR.o.on HN4.o) HP4.o hql HQZ.o (by rw[HQ4.o];exact Xb HFA.o.written (by decide))).mono ?_
   rintro e w3 ⟨rfl,hx3,hbt⟩;rw[HQ4.o]at hx3;have HX:=A hx3;have HBT:=A ((But.nx HN4.o).then hbt);clear hx3 hbt;go_wp2;go_ret;rw[HM2.o];exact⟨rfl,HX.o,HBT.o⟩
structure Out (G:Nat->Prop) (w w':World):Prop where
 os:w'.os=w.os
 tape:w'.tape=w.tape
 output:w'.output=w.output
 size:w.heap.size<=w'.heap.size
 block:∀k,k<w.heap.size->¬G k->w'.heap[k]?=w.heap[k]?
theorem Out.nx{G:Nat->Prop}{w w':World}(h:Nx w w'):Out G w w':=⟨h.os,h.tape,h.output,h.size,fun k hk _=>h.block k hk⟩
theorem Out.of_but{G:Nat->Prop}{b:Nat}{w w':World}(h:But b w w')(hg:G b):Out G w w':=⟨h.os,h.tape,h.output,h.size,fun k hk hn=>h.block k hk (fun e=>hn (e ▸ hg))⟩
theorem Out.then{G:Nat->Prop}{a b c:World}(h:Out G a b)(k:Out G b c):Out G a c:=
 ⟨k.os.trans h.os,k.tape.trans h.tape,k.output.trans h.output,Xb h.size k.size,fun i hi hn=>(k.block i (Xr hi h.size) hn).trans (h.block i hi hn)⟩
theorem Out.mono{G H:Nat->Prop}{a b:World}(h:Out G a b)(hg:∀k,k<a.heap.size->G k->H k):Out H a b:=⟨h.os,h.tape,h.output,h.size,fun k hk hn=>h.block k hk (fun g=>hn (hg k hk g))⟩
def At(v:Value)(k:Nat):Prop:=v.ownBlock=some k
theorem SlAt.lt{α:Type}{e:TypeId}{f:α->Value}{w:World}{v:Value}{l:List α}(h:SlAt e f w v l){k:Nat}(hk:At v k):k<w.heap.size:=by
 obtain⟨ao,cap,rfl,h1,h2,h3,h4⟩:=h
 cases ao with
 | none=>cases hk
 | some a=>
  obtain⟨b,off,rfl,hr⟩:=h4 a rfl
  cases hk
  exact hr.lt
theorem SlAt.same{α:Type}{e:TypeId}{f:α->Value}{w w':World}{v:Value}{l:List α}(h:SlAt e f w v l)(hs:∀k,At v k->w'.heap[k]?=w.heap[k]?):SlAt e f w' v l:=by
 obtain⟨ao,cap,rfl,h1,h2,h3,h4⟩:=h
 refine⟨ao,cap,rfl,h1,h2,h3,fun a ha=>?_⟩
 obtain⟨b,off,rfl,cs,fz,hh,hc⟩:=h4 a ha;subst ha;exact⟨b,off,rfl,cs,fz,(hs b rfl).trans hh,hc⟩
theorem PlAt.lt{w:World}{v:Value}{ps:List Pq}(h:PlAt w v ps){k:Nat}(hk:At v k):k<w.heap.size:=by
 obtain⟨ao,cap,rfl,h1,h2,h3,h4⟩:=h
 cases ao with
 | none=>cases hk
 | some a=>
  obtain⟨b,off,rfl,cs,fz,hh,-⟩:=h4 a rfl
  cases hk
  exact(Xd.1 hh).1
theorem PlAt.same{w w':World}{v:Value}{ps:List Pq}(h:PlAt w v ps)(hs:∀k,At v k->w'.heap[k]?=w.heap[k]?):PlAt w' v ps:=by
 obtain⟨ao,cap,rfl,h1,h2,h3,h4⟩:=h
 refine⟨ao,cap,rfl,h1,h2,h3,fun a ha=>?_⟩
 obtain⟨b,off,rfl,cs,fz,hh,hc⟩:=h4 a ha;subst ha;exact⟨b,off,rfl,cs,fz,(hs b rfl).trans hh,hc⟩
theorem ZzU{w w':World}{e:TypeId}{s n b:Nat}{v:Value}{xs:List Value}(h:w.ownsRow b e s v n xs)(hs:∀k,At v k->w'.heap[k]?=w.heap[k]?):w'.ownsRow b e s v n xs:=by
 obtain⟨h1,h2|⟨g,cap,cur,rfl,h4,h5,h6⟩⟩:=h
 .exact⟨h1,Xc h2⟩
 .exact⟨h1,Xa ⟨g,cap,cur,rfl,h4,(hs g rfl).trans h5,h6⟩⟩
structure UE where
 u:U
 pp:Nat
 pb:Nat
 ub:Nat
 rb:Nat
 r:Rc
 bs:List ByteArray
 R:RR
 rs:List ByteArray
 v:Value
 ps:List Pq
structure UOk (w:World) (e:UE):Prop where
 pair:PairB w e.pp e.pb e.ub
 both:Both w e.u e.pb e.ub e.rb e.r e.bs e.R e.rs e.v e.ps
 vo:OwnP w 0 e.v e.ps
 fit:FitL (Zzs e.u.q)
def UE.F(e:UE)(k:Nat):Prop:=k=e.pp∨k=e.pb∨k=e.ub∨k=e.rb∨At (.slice e.r.so e.r.sn e.r.sc) k∨At (.slice e.R.po e.R.pn e.R.pc) k∨At e.v k
theorem UOk.lt{w:World}{e:UE}(h:UOk w e){k:Nat}(hk:e.F k):k<w.heap.size:=by
 rcases hk with rfl|rfl|rfl|rfl|hk|hk|hk
 .exact h.pair.lt
 .exact(Xd.1 h.both.url).1
 .exact(Xd.1 h.both.ref).1
 .exact h.both.rcd.lt
 .exact h.both.rc.seg.1.lt hk
 .exact h.both.ris.seg.1.lt hk
 .exact h.both.pl.lt hk
theorem UOk.o{w w':World}{e:UE}{G:Nat->Prop}(h:UOk w e)(ho:Out G w w')(hd:∀k,e.F k->¬G k):UOk w' e:=by
 have hs:∀k,e.F k->w'.heap[k]?=w.heap[k]?:=fun k hk=>ho.block k (h.lt hk) (hd k hk)
 have hb:=h.both
 refine⟨(hs _ (Xc rfl)).trans h.pair,{ hb with url:=(hs _ (Xa (Xc rfl))).trans hb.url,rc:={ hb.rc with seg:=⟨hb.rc.seg.1.same fun k hk=>hs k (Xa (Xa (Xa (Xa (Xc hk))))),hb.rc.seg.2⟩ },ref:=(hs _ (Xa (Xa (Xc rfl)))).trans hb.ref,rcd:=(hs _ (Xa (Xa (Xa (Xc rfl))))).trans hb.rcd,ris:={ hb.ris with seg:=⟨hb.ris.seg.1.same fun k hk=>hs k (Xa (Xa (Xa (Xa (Xa (Xc hk)))))),hb.ris.seg.2⟩,fw:=Xb hb.ris.fw ho.size },pl:=hb.pl.same fun k hk=>hs k (Xa (Xa (Xa (Xa (Xa (Xa hk)))))) },ZzU h.vo fun k hk=>hs k (Xa (Xa (Xa (Xa (Xa (Xa hk)))))),h.fit⟩
structure HP where
 nb:Nat
 mb:Nat
 cap:Nat
 l:List Pq
structure HT where
 nb:Nat
 mb:Nat
 cap:Nat
 l:List ByteArray
structure HPOk (w:World) (h:HP):Prop where
 pos:0<h.l.length
 len:h.l.length<=1000000
 real:OwnP w 0 (.slice (some ⟨h.nb,0,none⟩) h.l.length h.l.length) h.l
 want:OwnP w 0 (.slice (some ⟨h.mb,0,none⟩) h.l.length h.cap) h.l
 ne:h.nb≠h.mb
structure HTOk (w:World) (h:HT):Prop where
 pos:0<h.l.length
 len:h.l.length<=1000000
 real:ZbK w 0 (.slice (some ⟨h.nb,0,none⟩) h.l.length h.l.length) h.l
 want:ZbK w 0 (.slice (some ⟨h.mb,0,none⟩) h.l.length h.cap) h.l
 ne:h.nb≠h.mb
def HP.F(h:HP)(k:Nat):Prop:=k=h.nb∨k=h.mb
def HT.F(h:HT)(k:Nat):Prop:=k=h.nb∨k=h.mb
theorem ZLZ{w w':World}{name:String}{k:IntKind}{zs:LI}(h:Lib.TabIs prog w name k zs)(hb:∀g,prog.globalNamed name=some g->w'.heap[g]?=w.heap[g]?):Lib.TabIs prog w' name k zs:=by
 unfold Lib.TabIs World.var? at *
 cases hg:prog.globalNamed name with
 | none=>rw[hg]at h;cases h
 | some g=>
  rw[hg]at h;simp only[Xt]at h ⊢;rw[hb g hg];exact h
theorem Tb.o{G:Nat->Prop}{w w':World}(h:Tb w)(ho:Out G w w')(h0:¬G 0)(h2:¬G 2):Tb w':=by
 have h2':=World.block_lt_of_cell? w _ h.2.1;have s2:=ho.block 2 h2' h2
 refine⟨ZLZ h.1 fun g hg=>?_,(World.cell?_of_block s2).trans h.2.1,Xb h.2.2 ho.size⟩
 rw[Zzj]at hg
 cases hg
 exact ho.block 0 (Nat.lt_trans (by decide) h2') h0
structure Scr where
 us:List UE
 ps:List HP
 ts:List HT
def UE.p(e:UE):Value:=.pointer (some ⟨e.pp,0,none⟩)
def HP.c(h:HP):List Value:=[.slice (some ⟨h.nb,0,none⟩) h.l.length h.l.length,.slice (some ⟨h.mb,0,none⟩) h.l.length h.cap]
def HT.c(h:HT):List Value:=[.slice (some ⟨h.nb,0,none⟩) h.l.length h.l.length,.slice (some ⟨h.mb,0,none⟩) h.l.length h.cap]
structure Inv (w0:World) (n:Nat) (w:World) (wb:Nat) (q:Bool) (us ps ts:Value) (own:Nat->Nat×Nat) (S:Scr):Prop where
 wbk:WB w wb q us ps ts
 ru:w.ownsRow 0 35 1 us S.us.length (S.us.map UE.p)
 rp:w.ownsRow 0 92 2 ps S.ps.length (S.ps.flatMap HP.c)
 rt:w.ownsRow 0 83 2 ts S.ts.length (S.ts.flatMap HT.c)
 lo:∀k,k=wb∨At us k∨At ps k∨At ts k->own k=(0,0)
 uo:∀(i:Nat) (e:UE),S.us[i]?=some e->UOk w e/\∀k,e.F k->own k=(1,i)
 po:∀(i:Nat) (h:HP),S.ps[i]?=some h->HPOk w h/\∀k,h.F k->own k=(2,i)
 to_:∀(i:Nat) (h:HT),S.ts[i]?=some h->HTOk w h/\∀k,h.F k->own k=(3,i)
 tb:Tb w
 all:∀k,Fl.ok k
 nx:Nx w0 w
 low:∀k,k<w0.heap.size->own k=(4,0)
 two:2<w0.heap.size
 cnt:S.us.length<=n/\S.ps.length<=n/\S.ts.length<=n
theorem ZBv{w w':World}{e:TypeId}{s n:Nat}{v:Value}{xs:List Value}(h:w.ownsRow 0 e s v n xs)(hs:∀k,At v k->w'.heap[k]?=w.heap[k]?):w'.ownsRow 0 e s v n xs:=by
 obtain⟨h1,h2|⟨g,cap,cur,rfl,h4,h5,h6⟩⟩:=h
 .exact⟨h1,Xc h2⟩
 .exact⟨h1,Xa ⟨g,cap,cur,rfl,h4,(hs g rfl).trans h5,h6⟩⟩
theorem ZAd{w:World}{e:TypeId}{s n:Nat}{v:Value}{xs:List Value}(h:w.ownsRow 0 e s v n xs){k:Nat}(hk:At v k):k<w.heap.size:=(h.lt k hk).2
theorem HPOk.lt{w:World}{h:HP}(g:HPOk w h){k:Nat}(hk:h.F k):k<w.heap.size:=by
 rcases hk with rfl|rfl
 .exact(g.real.lt _ rfl).2
 .exact(g.want.lt _ rfl).2
theorem HTOk.lt{w:World}{h:HT}(g:HTOk w h){k:Nat}(hk:h.F k):k<w.heap.size:=by
 rcases hk with rfl|rfl
 .exact(g.real.lt _ rfl).2
 .exact(g.want.lt _ rfl).2
theorem HPOk.o{w w':World}{h:HP}{G:Nat->Prop}(g:HPOk w h)(ho:Out G w w')(hd:∀k,h.F k->¬G k):HPOk w' h:=by
 have hs:∀k,h.F k->w'.heap[k]?=w.heap[k]?:=fun k hk=>ho.block k (g.lt hk) (hd k hk)
 exact⟨g.pos,g.len,ZzU g.real (fun k hk=>by cases hk;exact hs _ (Xc rfl)),ZzU g.want fun k hk=>by cases hk;exact hs _ (Xa rfl),g.ne⟩
theorem HTOk.o{w w':World}{h:HT}{G:Nat->Prop}(g:HTOk w h)(ho:Out G w w')(hd:∀k,h.F k->¬G k):HTOk w' h:=by
 have hs:∀k,h.F k->w'.heap[k]?=w.heap[k]?:=fun k hk=>ho.block k (g.lt hk) (hd k hk)
 exact⟨g.pos,g.len,ZzU g.real (fun k hk=>by cases hk;exact hs _ (Xc rfl)),ZzU g.want fun k hk=>by cases hk;exact hs _ (Xa rfl),g.ne⟩
theorem Both.to{F G:Fl}{w:World}{u:U}{pb ub rb:Nat}{r:Rc}{bs:LA}{R:RR}{rs:LA}{v:Value}{ps:List Pq}(h:@Both F w u pb ub rb r bs R rs v ps)(h1:∀k,At (.slice r.so r.sn r.sc) k->@Fl.ok G k)(h2:∀k,At (.slice R.po R.pn R.pc) k->@Fl.ok G k)(hn:@Fl.n G<=w.heap.size):@Both G w u pb ub rb r bs R rs v ps:=by obtain⟨b1,⟨c1,⟨c2,-⟩,c3,c4,c5,c6,c7,c8,c9,c10,c11,c12⟩,b3,b4,⟨d1,⟨d2,-⟩,d3,d4,d5,-⟩,b6,b7,b8⟩:=h;exact @Both.mk G _ _ _ _ _ _ _ _ _ _ _ b1 (@RcIs.mk G _ _ _ _ c1 (@Sg.mk G _ _ _ c2 h1) c3 c4 c5 c6 c7 c8 c9 c10 c11 c12) b3 b4 (@RIs.mk G _ _ _ _ d1 (@Sg.mk G _ _ _ d2 h2) d3 d4 d5 hn) b6 b7 b8
theorem Tb.to{F G:Fl}{w:World}(h:@Tb F w)(hn:@Fl.n G<=w.heap.size):@Tb G w:=⟨h.1,h.2.1,hn⟩
abbrev flo(w:World)(own:Nat->Nat×Nat)(t:Nat×Nat):Fl:=⟨⟨w.heap.size,fun k=>own k=t∨w.heap.size<=k,fun _ h=>Xa h⟩⟩
theorem Inv.on{w0 w w':World}{n wb:Nat}{q:Bool}{us ps ts:Value}{own:Nat->Nat×Nat}{S:Scr}(h:Inv w0 n w wb q us ps ts own S)(hn:Nx w w'):Inv w0 n w' wb q us ps ts own S:=
 have o:Out (fun _=>False) w w':=Out.nx hn
 have s:∀k,k<w.heap.size->w'.heap[k]?=w.heap[k]?:=fun k hk=>hn.block k hk
 { h with wbk:=h.wbk.on hn,ru:=ZBv h.ru fun k hk=>s k (ZAd h.ru hk),rp:=ZBv h.rp fun k hk=>s k (ZAd h.rp hk),rt:=ZBv h.rt fun k hk=>s k (ZAd h.rt hk),uo:=fun i e he=>⟨(h.uo i e he).1.o o fun _ _ f=>f,(h.uo i e he).2⟩,po:=fun i e he=>⟨(h.po i e he).1.o o fun _ _ f=>f,(h.po i e he).2⟩,to_:=fun i e he=>⟨(h.to_ i e he).1.o o fun _ _ f=>f,(h.to_ i e he).2⟩,tb:=h.tb.on hn,nx:=h.nx.then hn }
theorem Inv.wlt{w0 w:World}{n wb:Nat}{q:Bool}{us ps ts:Value}{own:Nat->Nat×Nat}{S:Scr}(h:Inv w0 n w wb q us ps ts own S):∀k,k=wb∨At us k∨At ps k∨At ts k->k<w.heap.size:=fun k hk=>by
 rcases hk with rfl|hk|hk|hk
 .exact(Xd.1 h.wbk).1
 .exact ZAd h.ru hk
 .exact ZAd h.rp hk
 .exact ZAd h.rt hk
theorem Inv.rows{w0 w w':World}{n wb:Nat}{q:Bool}{us ps ts:Value}{own:Nat->Nat×Nat}{S:Scr}(h:Inv w0 n w wb q us ps ts own S){t:Nat×Nat}(ht:t≠(0,0))(ho:Out (fun k=>own k=t) w w'):WB w' wb q us ps ts/\w'.ownsRow 0 35 1 us S.us.length (S.us.map UE.p)/\w'.ownsRow 0 92 2 ps S.ps.length (S.ps.flatMap HP.c)/\w'.ownsRow 0 83 2 ts S.ts.length (S.ts.flatMap HT.c)/\∀k,At us k∨At ps k∨At ts k->(if k<w.heap.size then own k else t)=(0,0):=by
 have s:∀k,k=wb∨At us k∨At ps k∨At ts k->w'.heap[k]?=w.heap[k]?:=fun k hk=>ho.block k (h.wlt k hk) fun e=>ht (e.symm.trans (h.lo k hk))
 exact⟨(s wb (Xc rfl)).trans h.wbk,ZBv h.ru fun k hk=>s k (Xa (Xc hk)),ZBv h.rp fun k hk=>s k (Xa (Xa (Xc hk))),ZBv h.rt fun k hk=>s k (Xa (Xa (Xa hk))),fun k hk=>by rw[ifP (h.wlt k (Xa hk))];exact h.lo k (Xa hk)⟩
theorem Inv.gen{w0 w w':World}{n n' wb:Nat}{q q':Bool}{us ps ts us' ps' ts':Value}{own:Nat->Nat×Nat}{S S':Scr}(h:Inv w0 n w wb q us ps ts own S)(t:Nat×Nat)(f:Nat->Nat×Nat)(ht:t≠(4,0))(ho:Out (fun k=>own k=t) w w')(hw:WB w' wb q' us' ps' ts')
  (ru:w'.ownsRow 0 35 1 us' S'.us.length (S'.us.map UE.p)) (rp:w'.ownsRow 0 92 2 ps' S'.ps.length (S'.ps.flatMap HP.c)) (rt:w'.ownsRow 0 83 2 ts' S'.ts.length (S'.ts.flatMap HT.c))
  (la:∀k,At us' k∨At ps' k∨At ts' k->(if k<w.heap.size then own k else f k)=(0,0))
  (uo:∀(i:Nat) (e:UE),S'.us[i]?=some e->(S.us[i]?=some e/\t≠(1,i))∨(UOk w' e/\∀k,e.F k->(if k<w.heap.size then own k else f k)=(1,i)))
  (po:∀(i:Nat) (e:HP),S'.ps[i]?=some e->(S.ps[i]?=some e/\t≠(2,i))∨(HPOk w' e/\∀k,e.F k->(if k<w.heap.size then own k else f k)=(2,i)))
  (to_:∀(i:Nat) (e:HT),S'.ts[i]?=some e->(S.ts[i]?=some e/\t≠(3,i))∨(HTOk w' e/\∀k,e.F k->(if k<w.heap.size then own k else f k)=(3,i)))
  (cnt:S'.us.length<=n'/\S'.ps.length<=n'/\S'.ts.length<=n'):Inv w0 n' w' wb q' us' ps' ts' (fun k=>if k<w.heap.size then own k else f k) S':=by
 have ne:∀ {k:Nat} {a:Nat×Nat},own k=a->t≠a->¬own k=t:=fun h1 h2 h3=>h2 (h3.symm.trans h1)
 have z:=h.nx.size;have two:=h.two
 have low:∀k,k<w0.heap.size->¬own k=t:=fun k hk=>ne (h.low k hk) ht
 refine⟨hw,ru,rp,rt,?_,?_,?_,?_,h.tb.o ho (low 0 (by omega)) (low 2 (by omega)),h.all,⟨ho.os.trans h.nx.os,ho.tape.trans h.nx.tape,ho.output.trans h.nx.output,Xb z ho.size,fun k hk=>(ho.block k (Xr hk z) (low k hk)).trans (h.nx.block k hk)⟩,fun k hk=>by rw[ifP (Xr hk z)];exact h.low k hk,two,cnt⟩
 .intro k hk
  rcases hk with rfl|hk
  .rw[ifP (h.wlt k (Xc rfl))];exact h.lo k (Xc rfl)
  .exact la k hk
 focus
  intro i e he;rcases uo i e he with⟨g,g'⟩|g
  focus
   obtain⟨g1,g2⟩:=h.uo i e g
  rotate_left
  .exact g
 rotate_left
 focus
  intro i e he;rcases po i e he with⟨g,g'⟩|g
  focus
   obtain⟨g1,g2⟩:=h.po i e g
  rotate_left
  .exact g
 rotate_left
 focus
  intro i e he;rcases to_ i e he with⟨g,g'⟩|g
  focus
   obtain⟨g1,g2⟩:=h.to_ i e g
  rotate_left
  .exact g
 all_goals
  exact⟨g1.o ho fun k hk=>ne (g2 k hk) g',fun k hk=>by rw[ifP (g1.lt hk)];exact g2 k hk⟩
theorem ZKH{α β:Type}{f:α->β}{l:List α}{i:Nat}{a b:α}(h:l[i]?=some a)(he:f b=f a):(l.set i b).map f=l.map f:=by
 rw[List.map_set,he]
 exact List.ext_getElem? fun j=>by
  rw[Xy]
  split
  .next hj=>subst hj;rw[List.getElem?_map,h,ifP (by rw[Xf];exact(Xu.1 h).1)];rfl
  .rfl
theorem get_set{α:Type}{l:List α}{i j:Nat}{a b:α}(h:(l.set i b)[j]?=some a):(l[j]?=some a/\j≠i)∨(j=i/\a=b):=by
 rw[Xy]at h
 split at h
 .next hj=>
  split at h
  .exact Xa ⟨hj.symm,(Option.some.inj h).symm⟩
  .cases h
 .next hj=>exact Xc ⟨h,fun e=>hj e.symm⟩
theorem Inv.url{w0 w w':World}{n wb:Nat}{q:Bool}{us ps ts:Value}{own:Nat->Nat×Nat}{S:Scr}(h:Inv w0 n w wb q us ps ts own S){i:Nat}{e e':UE}(he:S.us[i]?=some e)(ho:Out (fun k=>own k=(1,i)) w w')(hu:UOk w' e')(hp:e'.pp=e.pp)(hf:∀k,e'.F k->own k=(1,i)∨w.heap.size<=k):Inv w0 n w' wb q us ps ts (fun k=>if k<w.heap.size then own k else(1,i)) { S with us:=S.us.set i e' }:=by
 obtain⟨r0,r1,r2,r3,r4⟩:=h.rows (t:=(1,i)) (by simp) ho
 refine h.gen (S':={ S with us:=S.us.set i e' }) (1,i) (fun _=>(1,i)) (by simp) ho r0 ?_ r2 r3 r4 ?_ (fun j f hj=>Xc ⟨hj,by simp⟩) (fun j f hj=>Xc ⟨hj,by simp⟩) ⟨by rw[XB];exact h.cnt.1,h.cnt.2⟩
 .show w'.ownsRow 0 _ 1 us (S.us.set i e').length ((S.us.set i e').map UE.p)
  rw[XB,ZKH he (by unfold UE.p;rw[hp])]
  exact r1
 .intro j f hj
  rcases get_set hj with⟨g1,g2⟩|⟨rfl,rfl⟩
  .exact Xc ⟨g1,by simp;omega⟩
  .refine Xa ⟨hu,fun k hk=>?_⟩
   split
   .next hlt=>
    rcases hf k hk with g|g
    .exact g
    .omega
   .rfl
def ZAE(a:Int)(n:Nat):Nat:=((if a<0 then -(a+1)else a)%n).toNat
theorem ZBw(a:Int){n:Nat}(hn:0<n):ZAE a n<n:=by
 unfold ZAE
 have h1:=Xs (if a<0 then -(a+1)else a) (show(0:Int)<n by omega)
 have h2:=Xm (if a<0 then -(a+1)else a) (show(n:Int)≠0 by omega)
 omega
theorem ZA0(a:Int)(n:Nat)(h0:-9223372036854775808<=a)(h1:a<=9223372036854775807)(hn:0<n)(hm:n<=1000000000)(w:World):Calls prog 164 #[I X a,I X (n:Int)] w fun e w'=>e=Y (I X (ZAE a n:Nat))/\w=w':=by
 have hz:((n:Int)==0)=false:=beq_eq_false_iff_ne.2 (by omega)
 by_cases hg:a<0
 .have HE:=A (show((ZAE a n:Nat):Int)=-(a+1)%n by unfold ZAE;rw[ifP hg];have:=Xm (-(a+1)) (show(n:Int)≠0 by omega);omega)
  have HM:=A (show Int.tmod (-(a+1)) n=-(a+1)%n from Xv (by omega))
  have h2:=Xs (-(a+1)) (show(0:Int)<n by omega)
  have h3:=Xm (-(a+1)) (show(n:Int)≠0 by omega)
  go_enter func164,ntmps164
  go_wp2;go_ret
  exact⟨Zaw (by rw[HE.o];first|done|rfl|exact HM.o|(rw[<-HM.o,Int.neg_tmod])),rfl⟩
 .have HE:=A (show((ZAE a n:Nat):Int)=a%n by unfold ZAE;rw[ifN hg];have:=Xm a (show(n:Int)≠0 by omega);omega)
  have HM:=A (show Int.tmod a n=a%n from Xv (by omega))
  have h2:=Xs a (show(0:Int)<n by omega)
  have h3:=Xm a (show(n:Int)≠0 by omega)
  go_enter func164,ntmps164
  go_wp2;go_ret
  exact⟨Zaw (by rw[HE.o];first|done|rfl|exact HM.o|omega),rfl⟩
theorem ZL0{ops:Array Oper}{rest:List Oper}{o:Oper}{a:Act}{Q:Exit->Act->World->Prop}(w:World)(p:Pq)
  (hgd:o.guard=none) (s x:Operand) (ho:o.op=.call { callee:=.builtin .append,args:=#[s,x],argTypes:=#[68,68] })
  (v:Value) (ps:List Pq) (hs:a.eval s=v) (hown:OwnP w 0 v ps) (hx:a.eval x=.slice (some ⟨w.heap.size,0,none⟩) 1 1) (hn:ps.length<1000000000000)
  (h:∀g cap w',OwnP w' 0 (.slice (some ⟨g,0,none⟩) (ps++[p]).length cap) (ps++[p])->Out (At v) w w'->(At v g∨w.heap.size<=g)->wpList prog ops Q rest (a.put o.dst (.slice (some ⟨g,0,none⟩) (ps++[p]).length cap)) w'):
  wpList prog ops Q (o::rest) a (w.alloc (.cells #[J p.1,J p.2] 113)):=by
 obtain⟨i,hi,hz0,hz1,hz2⟩:=info_parts ZAK
 refine wpList_append_lies (w.alloc (.cells #[J p.1,J p.2] 113)) hgd s x 68 ho 0 113 i _ 2 32 underlying68 hi hz0 hz1 hz2 rfl (by decide) v ps.length _ hs (World.ownsRow.alloc hown _) ⟨w.heap.size,0,none⟩ 1 1 [J p.1,J p.2] hx rfl (ZBK (by simp) (by simp)) (by simp[Value.oneCell']) (by decide) (by unfold maxLen;omega) (by omega) (Xk _) _ rfl ?_
 intro g cap w' q1 q2 q3 _
 have e:(ps++[p]).length=ps.length+1:=by simp
 rw[<-e]at q1;rw[<-e]
 refine h g cap w' ?_ ⟨q2.os,q2.tape,q2.output,Xb (by simp) q2.size,fun k hk hg=>(q2.block k (by simp;omega) fun e=>hg e.symm).trans (heap_alloc_old w _ hk)⟩ ?_
 .unfold OwnP
  rw[ZBk];exact q1
 .rcases q3 with q3|rfl
  .exact Xc q3
  .right
   simp
theorem URB.notAt{w:World}{ub rb:Nat}{v v':Value}{ps:List Pq}(hu:URB w ub rb v')(hp:OwnP w 0 v ps):¬At v ub:=fun hk=>by
 obtain⟨-,⟨rfl,-⟩|⟨g,cap,cur,rfl,-,hg,-⟩⟩:=hp
 .cases hk
 .cases hk
  unfold URB at hu;rw[hg]at hu;simp only[Option.some.injEq,Obj.cells.injEq]at hu
  exact absurd hu.2.1 (by decide)
theorem RB.notAt{w:World}{rb:Nat}{R:RR}{v:Value}{ps:List Pq}(hu:RB w rb R)(hp:OwnP w 0 v ps):¬At v rb:=fun hk=>by
 obtain⟨-,⟨rfl,-⟩|⟨g,cap,cur,rfl,-,hg,-⟩⟩:=hp
 .cases hk
 .cases hk
  unfold RB at hu;rw[hg]at hu;simp only[Option.some.injEq,Obj.cells.injEq]at hu
  exact absurd hu.2.1 (by decide)
theorem Sg.notAt{w w':World}{v v':Value}{ps:List Pq}{l:LA}(h:Sg w v' l)(hp:OwnP w 0 v ps)(ho:Out (At v) w w'):Sg w' v' l:=⟨h.1.same fun k hk=>ho.block k (h.1.lt hk) fun hv=>by
 obtain⟨-,⟨rfl,-⟩|⟨g,cap,cur,rfl,-,hg,-⟩⟩:=hp
 .cases hv
 .cases hv
  obtain⟨ao,cap2,rfl,-,-,-,h4⟩:=h.1
  cases ao with
  | none=>cases hk
  | some a=>
   obtain⟨b,off,rfl,cs,fz,hh,-⟩:=h4 a rfl
   cases hk
   rw[hg]at hh;simp only[Option.some.injEq,Obj.cells.injEq]at hh
   exact absurd hh.2.1 (by decide),h.2⟩
def LstX(e:Ending)(w w':World)(ub rb:Nat)(v:Value)(bs:List ByteArray)(u:RU):Except Int Lp->Prop
 | .error k=>e=Y (I X k)/\Nx w w'
 | .ok S=>e=Y (I X 0)/\(∃R' v' qs,URB w' ub rb v'/\RB w' rb R'/\RIs w' R' (ZFW u S) bs/\OwnP w' 0 v' qs/\qs.map tl2=S/\∀k,At v' k->At v k∨w.heap.size<=k)/\Out (fun k=>k=ub∨k=rb∨At v k) w w'
theorem ZGZ(ub rb:Nat)(v:Value)(R:RR)(u:RU)(bs:LA)(ps:List Pq)(n x:BA)(w:World)(hu:URB w ub rb v)(h:RB w rb R)(hr:RIs w R u bs)(hl:R.bl.size<=300000)(hp:OwnP w 0 v ps)(hlp:ps.length<=1000000)(hz:∀p∈ps,p.1.size<=300000/\p.2.size<=300000)(hn:n.size<=maxLen)(hx:x.size<=maxLen):Calls prog 166 #[.pointer (some ⟨ub,0,none⟩),J n,J x] w fun e w'=>LstX e w w' ub rb v bs u (ZIW (tl n) (tl x) (ps.map tl2)):=by
 have HU:=A hu;have HB:=A h;have HR:=A hr;have HZ:=A hz;have HP:=A hp;have HNE:=A (hu.ne h);obtain⟨ao,cap,hve⟩:=ZzC hp;subst hve
 have HM:Hid (ZIW (tl n) (tl x) (ps.map tl2)=if 160<(tl n).length∨160<(tl x).length then .error 1 else if 16<=(ps.map tl2).length then .error 5 else .ok (ps.map tl2++[(clean (tl n),clean (tl x))])):=A rfl
 rw[Za,Za,Xf]at HM;generalize ZIW (tl n) (tl x) (ps.map tl2)=M at *;obtain⟨a0,a1⟩:=hu.cells;clear hu h hr hp hz
 by_cases hlong:160<n.size∨160<x.size
 .have HE:=A (HM.o.trans (ifP hlong))
  have hb:(decide (160<n.size)||decide (160<x.size))=true:=by simpa using hlong
  clear HM
  go_enter func166,ntmps166
  go_wp2_with (go_at_call 101;refine(ZzH _ _ (by assumption)).mono ?_;rintro e w' ⟨rfl,rfl⟩)
  all_goals go_ret
  all_goals (rw[HE.o];exact⟨rfl,Nx.rfl⟩)
 .have HD:=A (HM.o.trans (ifN hlong))
  have hb1:decide (160<n.size)=false:=decide_eq_false (fun g=>hlong (Xc g))
  have hb2:decide (160<x.size)=false:=decide_eq_false (fun g=>hlong (Xa g))
  have hn2:n.size<=100000:=by omega
  have hx2:x.size<=100000:=by omega
  clear HM hlong
  by_cases h16:16<=ps.length
  .have HE:=A (HD.o.trans (ifP h16))
   have hg:decide ((16:Int)<=(ps.length:Int))=true:=decide_eq_true (by omega)
   clear HD h16
   go_enter func166,ntmps166
   go_wp2_with (go_at_call 101;refine(ZzH _ _ (by assumption)).mono ?_;rintro e w' ⟨rfl,rfl⟩)
   go_ret;rw[HE.o];exact⟨rfl,Nx.rfl⟩
  .have HE:=A (HD.o.trans (ifN h16))
   have hg:decide ((16:Int)<=(ps.length:Int))=false:=decide_eq_false (by omega)
   have hc16:ps.length<16:=by omega
   clear HD h16
   go_enter func166,ntmps166
   go_wp2_with (first|(go_at_call 101;refine(ZzH _ _ (by assumption)).mono ?_;rintro e w' ⟨rfl,rfl⟩)|fail)
   refine(Zz7 n _ hn2).mono ?_
   rintro e w1 ⟨p,rfl,hpp,hn1⟩;have HPP:=A hpp;have HN1:=A hn1;clear hpp hn1 a0 a1;go_wp2_with fail
   refine(Zz7 x _ hx2).mono ?_
   rintro e w2 ⟨y,rfl,hy,hn2'⟩;have HY:=A hy;have HN2:=A (HN1.o.then hn2');have HU2:=A (HU.o.on HN2.o);have HP2:=A (Zbw HP.o HN2.o);obtain⟨b0,b1⟩:=HU2.o.cells;clear hy hn2'
   go_upto_region 3 with(at_builtin;go_must (refine ZL0 w2 (p,y) rfl _ _ rfl _ ps rfl HP2.o rfl (by omega) ?_;intro g cp w3 ho3 hout hg3;have HO3:=A ho3;have HOUT:=A hout;have HG3:=A hg3;have HU3:=A (show URB w3 ub rb _ from(hout.block ub (Xd.1 HU2.o).1 (HU2.o.notAt HP2.o)).trans HU2.o);obtain⟨d0,d1⟩:=HU3.o.cells;have f1:=HU3.o.free 1;clear ho3 hout hg3))
   have hlen:(ps++[(p,y)]).length=ps.length+1:=by simp
   have HO4:=A (show OwnP w3 0 (.slice (some ⟨g,0,none⟩) (ps.length+1) cp) (ps++[(p,y)])by have h:=HO3.o;rwa [show(Value.slice (some ⟨g,0,none⟩) (ps++[(p,y)]).length cp)=.slice (some ⟨g,0,none⟩) (ps.length+1) cp by rw[hlen]]at h)
   clear HO3 b0 b1 d0 d1 f1;have HBT:=A (show But ub w3 (w3.setCell ⟨ub,1,none⟩ (.slice (some ⟨g,0,none⟩) (ps.length+1) cp))from(But.refl ub w3).set 1 _);have HU4:=A (HU3.o.s1 (.slice (some ⟨g,0,none⟩) (ps.length+1) cp));have HB3:=A (show RB w3 rb R from(HOUT.o.block rb (HB.o.on HN2.o).lt ((HB.o.on HN2.o).notAt HP2.o)).trans (HB.o.on HN2.o))
   have HR3:=A (show RIs w3 R u bs from { HR.o.on HN2.o with seg:=(HR.o.on HN2.o).seg.notAt HP2.o HOUT.o,fw:=Xb (HR.o.on HN2.o).fw HOUT.o.size })
   have HB4:=A (HB3.o.but HBT.o (Ne.symm HNE.o));have HR4:=A (HR3.o.kpU (HBT.o.kpU HU3.o))
   have HO5:=A (OwnP.kp HO4.o (HBT.o.kpU HU3.o) (by decide) (Xe _))
   have HOW:=A (show Out (fun k=>k=ub∨k=rb∨At (.slice ao ps.length cap) k) w (w3.setCell ⟨ub,1,none⟩ (.slice (some ⟨g,0,none⟩) (ps.length+1) cp))from((Out.nx HN2.o).then (HOUT.o.mono fun k _ hk=>Xa (Xa hk))).then (Out.of_but HBT.o (Xc rfl)))
   have HQZ:=A (show ∀q∈ps++[(p,y)],q.1.size<=300000/\q.2.size<=300000 from fun q hq=>by
    rcases Xj.1 hq with hq|hq
    .exact HZ.o q hq
    .rw[Xh]at hq
     subst hq;have e1:=ZaJ (tl n);have e2:=ZaJ (tl x);rw[<-HPP.o,Za,Za]at e1;rw[<-HY.o,Za,Za]at e2
     exact⟨by show p.size<=300000;omega,by show y.size<=300000;omega⟩)
   generalize w3.setCell ⟨ub,1,none⟩ (.slice (some ⟨g,0,none⟩) (ps.length+1) cp)=w4 at *
   refine(ZCp ub rb _ R u bs (ps++[(p,y)]) w4 HU4.o HB4.o HR4.o hl (OwnP.at HO5.o) (by omega) HQZ.o).mono ?_
   rintro e w5 ⟨rfl,hx5,hbt⟩;have HX:=A hx5;have HB5:=A hbt;clear hx5 hbt hlen;go_wp2;go_ret;obtain⟨R',k1,k2⟩:=HX.o;rw[HE.o]
   have es:(ps++[(p,y)]).map tl2=ps.map tl2++[(clean (tl n),clean (tl x))]:=by rw[Xo,<-HPP.o,<-HY.o];rfl
   rw[es]at k2
   exact⟨rfl,⟨R',_,_,HU4.o.but HB5.o HNE.o,k1,k2,OwnP.kp HO5.o (HB5.o.kp HB4.o) (by decide) (Xe _),es,fun k hk=>by cases hk;rcases HG3.o with q|q;exact Xc q;exact Xa (Xb HN2.o.size q)⟩,HOW.o.then (Out.of_but HB5.o (Xa (Xc rfl)))⟩
theorem ZNr{w wr:World}{ub rb:Nat}{v x:Value}{R:RR}{u:RU}{bs:LA}{qs:List Pq}(hu:URB w ub rb v)(hb:RB w rb R)(hr:RIs w R u bs)(hn:Nx w wr)(ho:OwnP wr w.heap.size x qs):URB (wr.setCell ⟨ub,1,none⟩ x) ub rb x/\RB (wr.setCell ⟨ub,1,none⟩ x) rb R/\RIs (wr.setCell ⟨ub,1,none⟩ x) R u bs/\OwnP (wr.setCell ⟨ub,1,none⟩ x) w.heap.size x qs/\But ub wr (wr.setCell ⟨ub,1,none⟩ x):=by
 have hbt:But ub wr (wr.setCell ⟨ub,1,none⟩ x):=(But.refl ub wr).set 1 _;have hk:=hbt.kpU (hu.on hn)
 exact⟨(hu.on hn).s1 x,(hb.on hn).but hbt (Ne.symm (hu.ne hb)),(hr.on hn).kpU hk,OwnP.kp ho hk (by decide) (Xe _),hbt⟩
theorem ZNs{w wr w4 w5:World}{ub rb:Nat}{v x:Value}{R:RR}{u:RU}{bs:LA}{qs:List Pq}{S:Lp}(hn:Nx w wr)(hu:URB w4 ub rb x)(hb:RB w4 rb R)(ho:OwnP w4 w.heap.size x qs)(h4:But ub wr w4)(hs:qs.map tl2=S)
  (h5:∃R',RB w5 rb R'/\RIs w5 R' (ZFW u (qs.map tl2)) bs) (hb5:But rb w4 w5):LstX (Y (I X 0)) w w5 ub rb v bs u (.ok S):=by
 obtain⟨R',k1,k2⟩:=h5;rw[hs]at k2
 exact⟨rfl,⟨R',x,qs,hu.but hb5 (hu.ne hb),k1,k2,OwnP.kp ho (hb5.kp hb) (by decide) (Xk _),hs,fun k hk=>Xa (ho.lt k hk).1⟩,((Out.nx hn).then (Out.of_but h4 (Xc rfl))).then (Out.of_but hb5 (Xa (Xc rfl)))⟩
theorem ZG0(ub rb:Nat)(v:Value)(R:RR)(u:RU)(bs:LA)(ps:List Pq)(n x:BA)(valued:Bool)(w:World)(hu:URB w ub rb v)(h:RB w rb R)(hr:RIs w R u bs)(hl:R.bl.size<=300000)(hp:PlAt w v ps)(hlp:ps.length<=1000000)(hz:∀p∈ps,p.1.size<=300000/\p.2.size<=300000)(hn:n.size<=maxLen)(hx:x.size<=maxLen):Calls prog 167 #[.pointer (some ⟨ub,0,none⟩),J n,J x,C valued] w fun e w'=>LstX e w w' ub rb v bs u (ZI6 (tl n) (tl x) valued (ps.map tl2)):=by
 have HU:=A hu;have HB:=A h;have HR:=A hr;have HZ:=A hz;obtain⟨ao,cap,rfl,hlc,hcap,hnone,hsome⟩:=hp;unfold maxLen at hcap
 have HM:Hid (ZI6 (tl n) (tl x) valued (ps.map tl2)=if 160<n.size∨160<x.size then .error 1 else .ok ((ps.map tl2).filter (fun p=>!ZBZ (clean (tl n)) (clean (tl x)) valued p))):=A (by unfold ZI6;rw[Za,Za])
 generalize ZI6 (tl n) (tl x) valued (ps.map tl2)=M at *;clear hu h hr hz
 by_cases hlong:160<n.size∨160<x.size
 .have HE:=A (HM.o.trans (ifP hlong))
  have hb:(decide (160<n.size)||decide (160<x.size))=true:=by simpa using hlong
  clear HM hnone hsome
  go_enter func167,ntmps167
  go_wp2_with (go_at_call 101;refine(ZzH _ _ (by assumption)).mono ?_;rintro e w' ⟨rfl,rfl⟩)
  all_goals go_ret
  all_goals (rw[HE.o];exact⟨rfl,Nx.rfl⟩)
 .have HE:=A (HM.o.trans (ifN hlong))
  have hb1:decide (160<n.size)=false:=decide_eq_false (fun g=>hlong (Xc g))
  have hb2:decide (160<x.size)=false:=decide_eq_false (fun g=>hlong (Xa g))
  have hn2:n.size<=100000:=by omega
  have hx2:x.size<=100000:=by omega
  clear HM hlong
  go_enter func167,ntmps167
  go_wp2_with (first|(go_at_call 101;refine(ZzH _ _ (by assumption)).mono ?_;rintro e w' ⟨rfl,rfl⟩)|fail)
  refine(Zz7 n _ hn2).mono ?_
  rintro e w1 ⟨nm,rfl,hnm,hn1⟩;have HNM:=A hnm;have HN1:=A hn1;clear hnm hn1;go_wp2_with fail
  refine(Zz7 x _ hx2).mono ?_
  rintro e w2 ⟨vl,rfl,hvl,hn2'⟩;have HVL:=A hvl;have HN2:=A (HN1.o.then hn2');clear hvl hn2' HN1;go_wp2
  go_loopw [13,14] (fun o i wr=>∃k:Nat,k<=ps.length/\i=I X k/\OwnP wr w.heap.size o ((ps.take k).filter (fun p=>!ZBy nm vl valued p))/\Nx w wr) (fun _ i _=>ps.length-(intOf i).toNat)
  case atStart=>exact⟨0,Xk _,rfl,World.ownsRow_nil _ _ _ _,HN2.o⟩
  case round=>
   obtain⟨k,hk,rfl,hO1,hnx⟩:=hrel;have HO1:=A hO1;have HN:=A hnx;have hzr:=hnx.size;obtain⟨a0,a1⟩:=(HU.o.on hnx).cells;clear hO1
   by_cases hlt:k<ps.length
   .obtain⟨a,ha⟩:=ZAh hlt hnone
    subst ha;obtain⟨b,off,rfl,hr⟩:=hsome a rfl;obtain⟨c0,c1⟩:=(hr.on hnx).cell hlt
    have HS2:=A (ZAY (fun p=>!ZBy nm vl valued p) ps k hlt)
    have hl2:((ps.take k).filter (fun p=>!ZBy nm vl valued p)).length<1000000000000:=by
     have h1:=Xx (fun p=>!ZBy nm vl valued p) (ps.take k)
     have h2:=Xq k ps
     omega
    clear hnone hsome hr hnx;generalize ps[k]=c at *;obtain⟨cn,cv⟩:=c;simp only at c0 c1
    have HQ:=A (show ZBy nm vl valued (cn,cv)=(cn.toList==nm.toList&&(!valued||cv.toList==vl.toList))from rfl)
    cases hd1:(cn.toList==nm.toList)
    focus
     have HM:=A (show ZBy nm vl valued (cn,cv)=false by rw[HQ.o,hd1];rfl)
    rotate_left
    focus
     cases valued
     .have HM:=A (show ZBy nm vl false (cn,cv)=true by rw[HQ.o,hd1];rfl)
      clear HQ;go_wp2
      go_roundw
      exact⟨k+1,by omega,by go_num,by rw[HS2.o,HM.o,ifN (by decide),XC];exact HO1.o,HN.o⟩
      simp[intOf];omega
     focus
      cases hd2:(cv.toList==vl.toList)
      focus
       have HM:=A (show ZBy nm vl true (cn,cv)=false by rw[HQ.o,hd1,hd2];rfl)
      rotate_left
      .have HM:=A (show ZBy nm vl true (cn,cv)=true by rw[HQ.o,hd1,hd2];rfl)
       clear HQ;go_wp2
       go_roundw
       exact⟨k+1,by omega,by go_num,by rw[HS2.o,HM.o,ifN (by decide),XC];exact HO1.o,HN.o⟩
       simp[intOf];omega
    all_goals
     clear HQ
     go_wp2_with (at_builtin;go_must (refine ZAD wr (cn,cv) rfl _ _ rfl w.heap.size _ _ rfl HO1.o rfl hl2 hzr ?_;intro v' w3 ho1 hb3 _;have HA:=A ho1;clear ho1))
     go_roundw
     exact⟨k+1,by omega,by go_num,by rw[HS2.o,HM.o,ifP (by decide)];exact HA.o,HN.o.trans hb3⟩
     simp[intOf];omega
   .have HF:=A (show OwnP wr w.heap.size _ (ps.filter (fun p=>!ZBy nm vl valued p))by have h:=HO1.o;rw[Xl (by omega)]at h;exact h)
    have HSF:=A (show(ps.filter (fun p=>!ZBy nm vl valued p)).map tl2=(ps.map tl2).filter (fun p=>!ZBZ (clean (tl n)) (clean (tl x)) valued p)by rw[<-HNM.o,<-HVL.o,List.filter_map];congr 1;exact List.filter_congr fun p _=>by rw[hitQ_eq];rfl)
    have hql:(ps.filter (fun p=>!ZBy nm vl valued p)).length<=1000000:=Xb (Xx _ _) hlp
    have HQZ:=A (show ∀p∈ps.filter (fun p=>!ZBy nm vl valued p),p.1.size<=300000/\p.2.size<=300000 from fun p hp=>HZ.o p (XD.1 hp).1)
    clear hnone hsome hnx HO1
    generalize ps.filter (fun p=>!ZBy nm vl valued p)=qs at *
    obtain⟨ao1,cp1,hv1⟩:=ZzC HF.o;subst hv1;have f1:=(HU.o.on HN.o).free 1;obtain⟨h1,h2,h3,h4,h5⟩:=ZNr HU.o HB.o HR.o HN.o HF.o;have HU4:=A h1;have HB4:=A h2;have HR4:=A h3;have HO4:=A h4;have HBT:=A h5;clear h1 h2 h3 h4 h5;go_upto_region 15 with fail;clear a0 a1 f1;generalize wr.setCell ⟨ub,1,none⟩ (.slice ao1 qs.length cp1)=w4 at *;go_wp2_with fail
    refine(ZCp ub rb _ R u bs qs w4 HU4.o HB4.o HR4.o hl (OwnP.at HO4.o) hql HQZ.o).mono ?_
    rintro e w5 ⟨rfl,hx5,hbt⟩;have HX:=A hx5;have HB5:=A hbt;clear hx5 hbt;go_wp2;go_ret;rw[HE.o];exact ZNs HN.o HU4.o HB4.o HO4.o HBT.o HSF.o HX.o HB5.o
theorem ZKI{w:World}{base:Nat}{v:Value}{ps:List Pq}(h:OwnP w base v ps):∃ao n cp,v=.slice ao n cp:=(ZzC h).elim fun ao h=>h.elim fun cp e=>⟨ao,_,cp,e⟩
theorem ZL1{α:Type}(hit:α->Bool)(x:α)(l:List α):(ZA2 hit x l).2=l.any hit/\(l.any hit=false->(ZA2 hit x l).1=l):=by
 have key:∀(l:List α) (acc:List α×Bool),(l.foldl (Zzv hit x) acc).2=(acc.2||l.any hit)/\(l.any hit=false->(l.foldl (Zzv hit x) acc).1=acc.1++l):=by
  intro l
  induction l with
  | nil=>intro acc;exact⟨by simp,fun _=>by simp⟩
  | cons p r ih=>
   intro acc;obtain⟨g,b⟩:=acc;rw[Xi,List.any_cons]
   cases hp:hit p
   .have e:Zzv hit x (g,b) p=(g++[p],b):=ifN (by rw[hp];decide)
    obtain⟨h1,h2⟩:=ih (g++[p],b);rw[e,Bool.false_or]
    exact⟨h1,fun h=>by rw[h2 h];simp⟩
   .have e:(Zzv hit x (g,b) p).2=true:=by
     unfold Zzv;rw[ifP hp]
     split
     .next h=>exact h
     .rfl
    refine⟨by rw[(ih _).1,e];simp,fun h=>?_⟩
    simp at h
 have h:=key l ([],false)
 exact⟨by rw[show ZA2 hit x l=l.foldl (Zzv hit x) ([],false)from rfl,h.1];simp,fun g=>by rw[show ZA2 hit x l=l.foldl (Zzv hit x) ([],false)from rfl,h.2 g];simp⟩
theorem ZL2(ub rb:Nat)(v:Value)(R:RR)(u:RU)(bs:LA)(ps:List Pq)(n x:BA)(w:World)(hu:URB w ub rb v)(h:RB w rb R)(hr:RIs w R u bs)(hl:R.bl.size<=300000)(hp:PlAt w v ps)(hlp:ps.length<=900000)(hz:∀p∈ps,p.1.size<=300000/\p.2.size<=300000)(hn:n.size<=maxLen)(hx:x.size<=maxLen):Calls prog 168 #[.pointer (some ⟨ub,0,none⟩),J n,J x] w fun e w'=>LstX e w w' ub rb v bs u (ZGW (tl n) (tl x) (ps.map tl2)):=by
 have HU:=A hu;have HB:=A h;have HR:=A hr;have HZ:=A hz;have HP:=A hp;obtain⟨ao,cap,rfl,hlc,hcap,hnone,hsome⟩:=hp;unfold maxLen at hcap
 have HM:Hid (ZGW (tl n) (tl x) (ps.map tl2)=if 160<n.size∨160<x.size then .error 1 else if(ZA2 (fun p=>p.1==clean (tl n)) (clean (tl n),clean (tl x)) (ps.map tl2)).2=true then .ok (ZA2 (fun p=>p.1==clean (tl n)) (clean (tl n),clean (tl x)) (ps.map tl2)).1 else if 16<=ps.length then .error 5 else .ok (ps.map tl2++[(clean (tl n),clean (tl x))])):=A (by unfold ZGW;rw[Za,Za,Xf])
 generalize ZGW (tl n) (tl x) (ps.map tl2)=M at *;obtain⟨a0,a1⟩:=hu.cells;clear hu h hr hz
 by_cases hlong:160<n.size∨160<x.size
 .have HE:=A (HM.o.trans (ifP hlong))
  have hb:(decide (160<n.size)||decide (160<x.size))=true:=by simpa using hlong
  clear HM hnone hsome
  go_enter func168,ntmps168
  go_wp2_with (go_at_call 101;refine(ZzH _ _ (by assumption)).mono ?_;rintro e w' ⟨rfl,rfl⟩)
  all_goals go_ret
  all_goals (rw[HE.o];exact⟨rfl,Nx.rfl⟩)
 .have HD:=A (HM.o.trans (ifN hlong))
  have hb1:decide (160<n.size)=false:=decide_eq_false (fun g=>hlong (Xc g))
  have hb2:decide (160<x.size)=false:=decide_eq_false (fun g=>hlong (Xa g))
  have hn2:n.size<=100000:=by omega
  have hx2:x.size<=100000:=by omega
  clear HM hlong
  go_enter func168,ntmps168
  go_wp2_with (first|(go_at_call 101;refine(ZzH _ _ (by assumption)).mono ?_;rintro e w' ⟨rfl,rfl⟩)|fail)
  refine(Zz7 n _ hn2).mono ?_
  rintro e w1 ⟨nm,rfl,hnm,hn1⟩;have HNM:=A hnm;have HN1:=A hn1;clear hnm hn1;go_wp2_with fail
  refine(Zz7 x _ hx2).mono ?_
  rintro e w2 ⟨vl,rfl,hvl,hn2'⟩;have HVL:=A hvl;have HN2:=A (HN1.o.then hn2');clear hvl hn2' HN1;go_wp2_with fail
  refine(ZCa ub rb _ ps nm _ (HU.o.on HN2.o) (HP.o.on HN2.o) (by omega)).mono ?_
  rintro e w3 ⟨z,rfl,ho3,hn3⟩;have HN3:=A (HN2.o.then hn3);obtain⟨ao3,cp3,hz3⟩:=ZCL ho3;subst hz3;obtain⟨a0',a1'⟩:=(HU.o.on HN3.o).cells
  have HG:=A ((ZHM tl2 (ZzL nm) (fun p=>p.1==clean (tl n)) (fun p=>by unfold ZzL tl2;rw[ByteArray.toList_eq,ByteArray.toList_eq,<-HNM.o];rfl) (nm,vl) ps).trans (show ZA2 _ (tl2 (nm,vl)) _=ZA2 (fun p=>p.1==clean (tl n)) (clean (tl n),clean (tl x)) (ps.map tl2)by rw[show tl2 (nm,vl)=(clean (tl n),clean (tl x))by rw[<-HNM.o,<-HVL.o];rfl]))
  have HA:=A (ZL1 (ZzL nm) (nm,vl) ps)
  have HVE:=A (show(ZAZ nm ps).length=0↔ps.any (ZzL nm)=false by
   unfold ZAZ ZzL;rw[Xf]
   constructor
   .intro g
    rw[Bool.eq_false_iff];intro t;obtain⟨p,hp1,hp2⟩:=Xz.1 t
    have:=List.length_pos_of_mem (XD (p:=fun p:Pq=>p.1.toList==nm.toList).2 ⟨hp1,hp2⟩);omega
   .intro g
    rw[List.length_eq_zero_iff,List.filter_eq_nil_iff];intro p hp hq;rw[Xz.2 ⟨p,hp,hq⟩]at g
    cases g)
  clear ho3 hn3 HN2 a0 a1
  have HQF:Hid (M=if ps.any (ZzL nm)=true then .ok ((ZA2 (ZzL nm) (nm,vl) ps).1.map tl2)else if 16<=ps.length then .error 5 else .ok ((ps++[(nm,vl)]).map tl2)):=A (by
   rw[HD.o,<-HG.o,HA.o.1,Xo,<-HNM.o,<-HVL.o];rfl)
  generalize ZAZ nm ps=vs at *;clear HD HG
  by_cases hful:ps.any (ZzL nm)=false/\16<=ps.length
  .have HE:=A (show M=.error 5 by rw[HQF.o,ifN (by rw[hful.1];decide),ifP hful.2])
   have hv0:((vs.length:Int)==0)=true:=beq_iff_eq.2 (by have:=HVE.o.2 hful.1;omega)
   have hg:decide ((16:Int)<=(ps.length:Int))=true:=decide_eq_true (by have:=hful.2;omega)
   clear HQF hful hnone hsome HVE;go_wp2;go_ret;rw[HE.o];exact⟨rfl,HN3.o⟩
  .have HE:=A (show M=.ok ((if ps.any (ZzL nm)=true then(ZA2 (ZzL nm) (nm,vl) ps).1 else(ZA2 (ZzL nm) (nm,vl) ps).1++[(nm,vl)]).map tl2)by
    rw[HQF.o]
    cases ha:ps.any (ZzL nm)
    .rw[ifN (by decide:¬false=true),ifN (by decide:¬false=true),ifN (fun g=>hful ⟨ha,g⟩),HA.o.2 ha]
    .rw[ifP rfl,ifP rfl])
   have step:(((vs.length:Int)==0)=false)∨(((vs.length:Int)==0)=true/\decide ((16:Int)<=(ps.length:Int))=false):=by
    cases ha:ps.any (ZzL nm)
    .exact Xa ⟨beq_iff_eq.2 (by have:=HVE.o.2 ha;omega),decide_eq_false (fun g=>hful ⟨ha,by omega⟩)⟩
    .exact Xc (beq_eq_false_iff_ne.2 (fun g=>by have:=HVE.o.1 (by omega);rw[ha]at this;cases this))
   have HZX:=A (show nm.size<=300000/\vl.size<=300000 by
    have e1:=ZaJ (tl n);have e2:=ZaJ (tl x);rw[<-HNM.o,Za,Za]at e1;rw[<-HVL.o,Za,Za]at e2
    omega)
   have HSM:=A (show ∀p∈(ZA2 (ZzL nm) (nm,vl) ps).1,p.1.size<=300000/\p.2.size<=300000 from by
    have key:∀(l:List Pq) (acc:List Pq×Bool),(∀p∈acc.1,p.1.size<=300000/\p.2.size<=300000)->(∀p∈l,p.1.size<=300000/\p.2.size<=300000)->∀p∈(l.foldl (Zzv (ZzL nm) (nm,vl)) acc).1,p.1.size<=300000/\p.2.size<=300000:=by
     intro l
     induction l with
     | nil=>intro acc ha _;exact ha
     | cons p r ih=>
      intro acc ha hl;rw[Xi]
      refine ih _ ?_ (fun q hq=>hl q (Xp _ hq))
      unfold Zzv
      split
      .split
       .exact ha
       .intro q hq
        rcases Xj.1 hq with hq|hq
        .exact ha q hq
        .rw[Xh]at hq
         subst hq;exact HZX.o
      .intro q hq
       rcases Xj.1 hq with hq|hq
       .exact ha q hq
       .rw[Xh]at hq
        subst hq
        exact hl q (by simp)
    exact key ps ([],false) (fun p hp=>by cases hp) HZ.o)
   have hgl:=ZEU (ZzL nm) (nm,vl) ps;clear HQF hful HVE;rcases step with hv0|⟨hv0,hg⟩
   all_goals
    go_wp2
    go_loopw [12,13,14] (fun o f i wr=>∃k:Nat,k<=ps.length/\i=I X k/\OwnP wr w.heap.size o (ZA2 (ZzL nm) (nm,vl) (ps.take k)).1/\f=C (ZA2 (ZzL nm) (nm,vl) (ps.take k)).2/\Nx w wr) (fun _ _ i _=>ps.length-(intOf i).toNat)
    case atStart=>exact⟨0,Xk _,rfl,World.ownsRow_nil _ _ _ _,rfl,HN3.o⟩
    case round=>
     obtain⟨k,hk,rfl,hO1,rfl,hnx⟩:=hrel;have HO1:=A hO1;have HN:=A hnx;have hzr:=hnx.size;obtain⟨a0,a1⟩:=(HU.o.on hnx).cells;clear hO1
     by_cases hlt:k<ps.length
     .obtain⟨a,ha⟩:=ZAh hlt hnone
      subst ha;obtain⟨b,off,rfl,hr⟩:=hsome a rfl;obtain⟨c0,c1⟩:=(hr.on hnx).cell hlt;have HS1:=A (ZFZ (ZzL nm) (nm,vl) ps k hlt)
      have hl1:(ZA2 (ZzL nm) (nm,vl) (ps.take k)).1.length<1000000000000:=by
       have h1:=ZEU (ZzL nm) (nm,vl) (ps.take k);have h2:=Xq k ps
       omega
      clear hnone hsome hr hnx HE HA HSM hgl;generalize ps[k]=c at *;obtain⟨cn,cv⟩:=c;simp only at c0 c1;generalize ZA2 (ZzL nm) (nm,vl) (ps.take k)=G at *;obtain⟨gl,gf⟩:=G;simp only at HO1 hl1;have HQ:=A (show ZzL nm (cn,cv)=(cn.toList==nm.toList)from rfl)
      cases hd1:(cn.toList==nm.toList)
      .have hd1':(cn.toList != nm.toList)=true:=ZNp hd1
       have HM:=A (show Zzv (ZzL nm) (nm,vl) (gl,gf) (cn,cv)=(gl++[(cn,cv)],gf)from ifN (by rw[HQ.o,hd1];decide))
       clear HQ
       go_wp2_with (at_builtin;go_must (refine ZAD wr (cn,cv) rfl _ _ rfl w.heap.size _ _ rfl HO1.o rfl hl1 hzr ?_;intro v' w3 ho1 hb3 _;have HA:=A ho1;clear ho1))
       go_roundw
       exact⟨k+1,by omega,by go_num,by rw[HS1.o,HM.o];exact HA.o,by rw[HS1.o,HM.o],HN.o.trans hb3⟩
       simp[intOf];omega
      .have hd1':(cn.toList != nm.toList)=false:=ZNq hd1
       cases gf
       .have HM:=A (show Zzv (ZzL nm) (nm,vl) (gl,false) (cn,cv)=(gl++[(nm,vl)],true)by unfold Zzv;rw[ifP (by rw[HQ.o,hd1]),ifN (by intro x;cases x)])
        clear HQ
        go_wp2_with (at_builtin;go_must (refine ZAD wr (nm,vl) rfl _ _ rfl w.heap.size _ _ rfl HO1.o rfl hl1 hzr ?_;intro v' w3 ho1 hb3 _;have HA:=A ho1;clear ho1))
        go_roundw
        exact⟨k+1,by omega,by go_num,by rw[HS1.o,HM.o];exact HA.o,by rw[HS1.o,HM.o],HN.o.trans hb3⟩
        simp[intOf];omega
       .have HM:=A (show Zzv (ZzL nm) (nm,vl) (gl,true) (cn,cv)=(gl,true)by unfold Zzv;rw[ifP (by rw[HQ.o,hd1]),ifP rfl])
        clear HQ;go_wp2
        go_roundw
        exact⟨k+1,by omega,by go_num,by rw[HS1.o,HM.o];exact HO1.o,by rw[HS1.o,HM.o],HN.o⟩
        simp[intOf];omega
     .have e:ps.take k=ps:=Xl (by omega)
      rw[e]
      have HF1:=A (show OwnP wr w.heap.size _ (ZA2 (ZzL nm) (nm,vl) ps).1 by have h:=HO1.o;rw[e]at h;exact h)
      have HE2:=A (show M=.ok ((if(ZA2 (ZzL nm) (nm,vl) ps).2=true then(ZA2 (ZzL nm) (nm,vl) ps).1 else(ZA2 (ZzL nm) (nm,vl) ps).1++[(nm,vl)]).map tl2)by rw[HA.o.1];exact HE.o)
      clear hnone hsome hnx e HO1 HE HA hv0;generalize ZA2 (ZzL nm) (nm,vl) ps=G at *;obtain⟨gl,gf⟩:=G;simp only at HF1 HE2 HSM hgl
      cases gf
      focus
       go_upto_region 22 with(at_builtin;go_must (refine ZAD wr (nm,vl) rfl _ _ rfl w.heap.size _ _ rfl HF1.o rfl (by omega) hzr ?_;intro v' w4 ho4 hb4 _;have HF:=A ho4;have HN4:=A (HN.o.trans hb4);obtain⟨ao1,n1,cp1,hv1⟩:=ZKI ho4;subst hv1;clear ho4 hb4 HF1))
       have HQZ:=A (show ∀p∈gl++[(nm,vl)],p.1.size<=300000/\p.2.size<=300000 from fun p hp=>by
        rcases Xj.1 hp with hp|hp
        .exact HSM.o p hp
        .rw[Xh]at hp
         subst hp
         exact HZX.o)
       have hql:(gl++[(nm,vl)]).length<=1000000:=by simp;omega
       rw[ifN (by decide:¬false=true)]at HE2
       generalize gl++[(nm,vl)]=qs at *
      rotate_left
      focus
       obtain⟨ao1,n1,cp1,hv1⟩:=ZKI HF1.o;subst hv1;obtain⟨w4,hw4⟩:∃w4,w4=wr:=⟨_,rfl⟩;subst hw4;go_upto_region 22 with fail;have HF:=HF1;have HN4:=HN;have HQZ:=HSM
       have hql:gl.length<=1000000:=by omega
       rw[ifP rfl]at HE2;generalize gl=qs at *
      all_goals
       clear a0 a1;obtain⟨a0,a1⟩:=(HU.o.on HN4.o).cells;have f1:=(HU.o.on HN4.o).free 1;obtain⟨h1,h2,h3,h4,h5⟩:=ZNr HU.o HB.o HR.o HN4.o HF.o;have HU4:=A h1;have HB4:=A h2;have HR4:=A h3;have HO4:=A h4;have HBT:=A h5;clear h1 h2 h3 h4 h5;go_upto_region 23 with fail;clear a0 a1 f1;generalize w4.setCell ⟨ub,1,none⟩ (.slice ao1 n1 cp1)=w5 at *;go_wp2_with fail
       refine(ZCp ub rb _ R u bs qs w5 HU4.o HB4.o HR4.o hl (OwnP.at HO4.o) hql HQZ.o).mono ?_
       rintro e w6 ⟨rfl,hx5,hbt⟩;have HX:=A hx5;have HB5:=A hbt;clear hx5 hbt;go_wp2;go_ret;rw[HE2.o];exact ZNs HN4.o HU4.o HB4.o HO4.o HBT.o rfl HX.o HB5.o
theorem Out.kq{w w':World}{ub rb:Nat}{v v0:Value}{R:RR}{ps:List Pq}(h:Out (fun k=>k=ub∨k=rb∨At v k) w w')(hu:URB w ub rb v0)(hr:RB w rb R)(hv:OwnP w 0 v ps):∀(k:Nat) (cs:Array Value) (T:TypeId) (fz:Nat×Nat),w.heap[k]?=some (O cs T fz)->T≠88->T≠130->T≠113->w'.heap[k]?=some (O cs T fz):=by
 intro k cs T fz hk t1 t2 t3
 refine(h.block k (Xd.1 hk).1 ?_).trans hk
 have ty:∀ {c:Array Value} {T':TypeId} {z:Nat×Nat},w.heap[k]?=some (O c T' z)->T=T':=fun g=>by
  rw[hk]at g;simp only[Option.some.injEq,Obj.cells.injEq]at g;exact g.2.1
 rintro(rfl|rfl|hk')
 .exact t1 (ty hu)
 .exact t2 (ty hr)
 .obtain⟨-,⟨rfl,-⟩|⟨g,cap,cur,rfl,-,hg,-⟩⟩:=hv
  .cases hk'
  .cases hk'
   exact t3 (ty hg)
theorem Inv.both{w0 w:World}{n wb:Nat}{q:Bool}{us ps ts:Value}{own:Nat->Nat×Nat}{S:Scr}(h:Inv w0 n w wb q us ps ts own S){i:Nat}{e:UE}(he:S.us[i]?=some e):
  @Both (flo w own (1,i)) w e.u e.pb e.ub e.rb e.r e.bs e.R e.rs e.v e.ps:=
 have hf:=(h.uo i e he).2
 (h.uo i e he).1.both.to (G:=flo w own (1,i)) (fun k hk=>Xc (hf k (Xa (Xa (Xa (Xa (Xc hk))))))) (fun k hk=>Xc (hf k (Xa (Xa (Xa (Xa (Xa (Xc hk)))))))) (Xe _)
theorem Both.half{w w1:World}{u:U}{pb ub rb:Nat}{r:Rc}{bs:LA}{R:RR}{rs:LA}{v:Value}{ps:List Pq}(h:Both w u pb ub rb r bs R rs v ps)(hv:OwnP w 0 v ps)(hb:But pb w w1):URB w1 ub rb v/\RB w1 rb R/\RIs w1 R (toR u) rs/\OwnP w1 0 v ps:=
 have k:=hb.kpP h.url
 ⟨k.2 _ _ _ _ h.ref (by decide),k.2 _ _ _ _ h.rcd (by decide),{ h.ris with seg:=h.ris.seg.kp k (by decide),fw:=Xb h.ris.fw k.1 },OwnP.kp hv k (by decide) (Xe _)⟩
theorem Inv.list{w0 w w1 w2:World}{n wb:Nat}{q:Bool}{us ps ts:Value}{own:Nat->Nat×Nat}{S:Scr}(h:Inv w0 n w wb q us ps ts own S){i:Nat}{e:UE}(he:S.us[i]?=some e){L:Lp}(hfit:FitL L)
  (h1:∃r',UrlB w1 e.pb r'/\@RcIs (flo w own (1,i)) w1 r' (ZzR e.u L) e.bs) (h2:But e.pb w w1)
  (h3:∃R' v' qs,URB w2 e.ub e.rb v'/\RB w2 e.rb R'/\@RIs (flo w own (1,i)) w2 R' (ZFW (toR e.u) L) e.rs/\OwnP w2 0 v' qs/\qs.map tl2=L/\∀k,At v' k->At e.v k∨w1.heap.size<=k) (h4:Out (fun k=>k=e.ub∨k=e.rb∨At e.v k) w1 w2):∃own' S',Inv w0 n w2 wb q us ps ts own' S':=by
 obtain⟨hu,hf⟩:=h.uo i e he;obtain⟨a1,a2,a3,a4⟩:=hu.both.half hu.vo h2;have K:=h4.kq a1 a2 a4;have k1:=h2.kpP hu.both.url;obtain⟨r',b1,b2⟩:=h1;obtain⟨R',v',qs,c1,c2,c3,c4,c5,c6⟩:=h3;obtain⟨e1,e2,e3⟩:=ZKG hu.both.wk hfit.cl hfit.written;rw[e1]at c3
 have b3:=@RcIs.ks (flo w own (1,i)) _ _ _ _ _ b2 (fun k cs fz hk=>K k cs _ fz hk (by decide) (by decide) (by decide))
 have hB:@Both (flo w own (1,i)) w2 (ZzR e.u L) e.pb e.ub e.rb r' e.bs R' e.rs v' qs:=@Both.mk (flo w own (1,i)) _ _ _ _ _ _ _ _ _ _ _ (K _ _ _ _ b1 (by decide) (by decide) (by decide)) b3 c1 c2 c3 (OwnP.at c4) (by rw[c5,<-e3]) e2
 have s1:w.heap.size<=w1.heap.size:=h2.size
 refine⟨_,_,h.url (e':={ e with u:=ZzR e.u L,r:=r',R:=R',v:=v',ps:=qs }) he ?_ ⟨K _ _ _ _ (k1.2 _ _ _ _ hu.pair (by decide)) (by decide) (by decide) (by decide),hB.to (fun k _=>h.all k) (fun k _=>h.all k) (Xb h.tb.2.2 (Xb s1 h4.size)),c4,by show FitL (Zzs (ZzR e.u L).q);rw[<-e3];exact hfit⟩ rfl ?_⟩
 .refine(Out.of_but h2 (hf _ (Xa (Xc rfl)))).then ⟨h4.os,h4.tape,h4.output,h4.size,fun k hk hn=>?_⟩
  refine h4.block k hk fun g=>hn ?_
  rcases g with rfl|rfl|g
  .exact hf _ (Xa (Xa (Xc rfl)))
  .exact hf _ (Xa (Xa (Xa (Xc rfl))))
  .exact hf _ (Xa (Xa (Xa (Xa (Xa (Xa g))))))
 .rintro k (rfl|rfl|rfl|rfl|hk|hk|hk)
  .exact Xc (hf _ (Xc rfl))
  .exact Xc (hf _ (Xa (Xc rfl)))
  .exact Xc (hf _ (Xa (Xa (Xc rfl))))
  .exact Xc (hf _ (Xa (Xa (Xa (Xc rfl)))))
  .exact @Sg.fl (flo w own (1,i)) _ _ _ (@RcIs.seg (flo w own (1,i)) _ _ _ _ b3) k hk
  .exact @Sg.fl (flo w own (1,i)) _ _ _ (@RIs.seg (flo w own (1,i)) _ _ _ _ c3) k hk
  .rcases c6 k hk with g|g
   .exact Xc (hf _ (Xa (Xa (Xa (Xa (Xa (Xa g)))))))
   .exact Xa (Xb s1 g)
theorem Inv.sizes{w0 w:World}{n wb:Nat}{q:Bool}{us ps ts:Value}{own:Nat->Nat×Nat}{S:Scr}(h:Inv w0 n w wb q us ps ts own S){i:Nat}{e:UE}(he:S.us[i]?=some e):e.ps.length<=161/\∀p∈e.ps,p.1.size<=300000/\p.2.size<=300000:=by
 have hu:=(h.uo i e he).1;have hf:=hu.fit;rw[<-hu.both.list]at hf
 refine⟨by have:=hf.ln;rwa [Xf]at this,fun p hp=>?_⟩
 have:=hf.each (tl2 p) (XE.2 ⟨p,hp,rfl⟩);rw[<-Za,<-Za];exact this
theorem ZL5{w:World}{r:Rc}{u:U}{bs:LA}(h:RcIs w r u bs)(hw:Wk u){t:BA}(ht:tl t=Zjc u):t.size<=maxLen:=by
 have e:∀ {b:BA} {l:LB},tl b=l->b.size<=300000->l.length<=300000:=fun hb hl=>by rw[<-hb,Za];exact hl
 have h0:=ZL4 u
 have h1:=e (show tl r.sch=u.sch by rw[<-h.eq];rfl) h.lsch
 have h2:=e (show tl r.nam=u.nam by rw[<-h.eq];rfl) h.lnam
 have h3:=e (show tl r.pw=u.pw by rw[<-h.eq];rfl) h.lpw
 have h4:=e (show tl r.host=u.host by rw[<-h.eq];rfl) h.lhost
 have h5:=e (show tl r.fr=u.fr by rw[<-h.eq];rfl) h.lfr
 have h6:=hw.path;have h7:=hw.lq
 have h8:(ZaA u).length<=u.host.length+6:=by
  unfold ZaA ZbE
  split
  .have:=Zf9 u.port
   simp
   omega
  .omega
 rw[<-Za,ht];unfold maxLen
 omega
theorem ZG1(pp pb ub rb:Nat)(r:Rc)(u:U)(bs:LA)(R:RR)(rs:LA)(v:Value)(ps:List Pq)(w:World)(hp:PairB w pp pb ub)(hb:Both w u pb ub rb r bs R rs v ps):Calls prog 165 #[.pointer (some ⟨pp,0,none⟩),I X 0] w fun e w'=>∃t:BA,e=Y (J t)/\t.size<=maxLen/\Nx w w':=by
 have HP:=A hp;have HB:=A hb;have HRL:=A hb.rl;have HBO:=A (ZGR hb.wk);obtain⟨p0,p1⟩:=hp.cells;clear hp hb
 go_enter func165,ntmps165
 go_wp2_with fail
 refine(ZCo ub rb v R (toR u) rs _ HB.o.ref HB.o.rcd HB.o.ris HRL.o HBO.o).mono ?_
 rintro e w1 ⟨⟨a0,a1,a2,a3,a4,a5,a6,a7,a8,a9,a10,rfl,g0,-⟩,hn1⟩;have HZ:=A (ZL5 HB.o.rc HB.o.wk (g0.trans (ZEM HB.o.wk)));have HN1:=A hn1;clear g0 hn1 p0 p1;have HA2:=A (show C11 (w1.alloc (O #[J a0,J a1,J a2,J a3,J a4,J a5,J a6,J a7,J a8,J a9,J a10] 66)) w1.heap.size (J a0) (J a1) (J a2) (J a3) (J a4) (J a5) (J a6) (J a7) (J a8) (J a9) (J a10)from heap_alloc_new w1 _);have HN2:=A (show Nx w (w1.alloc (O #[J a0,J a1,J a2,J a3,J a4,J a5,J a6,J a7,J a8,J a9,J a10] 66))from HN1.o.alloc _);go_upto_region 2 with fail;generalize w1.alloc (O #[J a0,J a1,J a2,J a3,J a4,J a5,J a6,J a7,J a8,J a9,J a10] 66)=w2 at *;obtain⟨x0,x1,x2,x3,x4,x5,x6,x7,x8,x9,x10⟩:=HA2.o.cells;go_wp2;go_ret;exact⟨a0,rfl,HZ.o,HN2.o.alloc _⟩
theorem ZL6(pp pb ub rb:Nat)(r:Rc)(u:U)(bs:LA)(R:RR)(rs:LA)(v:Value)(ps:List Pq)(k:Nat)(w:World)(hp:PairB w pp pb ub)(hb:Both w u pb ub rb r bs R rs v ps)(ht:Tb w)(hz:∀p∈ps,p.1.size<=300000/\p.2.size<=300000)(hk:k<5):Calls prog 169 #[.pointer (some ⟨pp,0,none⟩),I X k] w fun e w'=>e=Y (C true)/\Nx w w':=by
 have HP:=A hp;have HB:=A hb;have HTB:=A ht;have HRL:=A hb.rl;have HBO:=A (ZGR hb.wk);have HPL:=A hb.wk.path;have HST:=A hb.wk;have HZ:=A hz;have hc:=ZzF hb.list (ZCJ hb.rc)
 have HL:=A (show ps.length=(Zzs u.q).length by rw[<-hb.list,Xf])
 have HQ:=A (show ZBx (ps.map tl2)=ZzA (Zzs u.q)by rw[hb.list];exact ZCF (ZBU _))
 obtain⟨p0,p1⟩:=hp.cells;clear hp hb ht hz
 match k,hk with
 | 0,_=>
  go_enter func169,ntmps169
  go_wp2_with fail
  refine(ZKi pb r u bs _ HB.o.url HB.o.rc HTB.o (fun _=>HPL.o)).mono ?_
  rintro e w1 ⟨⟨a0,a1,a2,a3,a4,a5,a6,a7,a8,a9,a10,rfl,g0,g1,g2,g3,g4,g5,g6,g7,g8,g9,g10,-,-⟩,hn1⟩
  have HG:Hid (∀e,ZNz e (toR u)->e=Y (.agg #[J a0,J a1,J a2,J a3,J a4,J a5,J a6,J a7,J a8,J a9,J a10])):=A (fun e he=>ZKD HST.o he g0 g1 g2 g3 g4 g5 g6 g7 g8 g9 g10)
  have HN1:=A hn1;obtain⟨p01,p11⟩:=(HP.o.on (hn1.alloc (O #[J a0,J a1,J a2,J a3,J a4,J a5,J a6,J a7,J a8,J a9,J a10] 66))).cells;clear g0 g1 g2 g3 g4 g5 g6 g7 g8 g9 g10 hn1 p0 p1;go_wp2_with fail
  refine(ZCo ub rb v R (toR u) rs _ (HB.o.ref.on (HN1.o.alloc _)) (HB.o.rcd.on (HN1.o.alloc _)) (HB.o.ris.on (HN1.o.alloc _)) HRL.o HBO.o).mono ?_
  rintro e w2 ⟨ha,hn2⟩;obtain rfl:=HG.o e ha;have HN2:=A (show Nx w w2 from(HN1.o.alloc _).then hn2);have HA:=A (((show C11 (w1.alloc (O #[J a0,J a1,J a2,J a3,J a4,J a5,J a6,J a7,J a8,J a9,J a10] 66)) w1.heap.size (J a0) (J a1) (J a2) (J a3) (J a4) (J a5) (J a6) (J a7) (J a8) (J a9) (J a10)from heap_alloc_new w1 _).on hn2).on (show Nx w2 (w2.alloc (O #[J a0,J a1,J a2,J a3,J a4,J a5,J a6,J a7,J a8,J a9,J a10] 66))from Nx.rfl.alloc _));have HC:=A (show C11 (w2.alloc (O #[J a0,J a1,J a2,J a3,J a4,J a5,J a6,J a7,J a8,J a9,J a10] 66)) w2.heap.size (J a0) (J a1) (J a2) (J a3) (J a4) (J a5) (J a6) (J a7) (J a8) (J a9) (J a10)from heap_alloc_new w2 _);have HN3:=A (show Nx w (w2.alloc (O #[J a0,J a1,J a2,J a3,J a4,J a5,J a6,J a7,J a8,J a9,J a10] 66))from HN2.o.alloc _);clear ha hn2 p01 p11 HG;go_upto_region 5 with fail;generalize w2.alloc (O #[J a0,J a1,J a2,J a3,J a4,J a5,J a6,J a7,J a8,J a9,J a10] 66)=w3 at *;obtain⟨x0,x1,x2,x3,x4,x5,x6,x7,x8,x9,x10⟩:=HA.o.cells;obtain⟨y0,y1,y2,y3,y4,y5,y6,y7,y8,y9,y10⟩:=HC.o.cells;go_wp2;go_ret;exact⟨rfl,HN3.o⟩
 | 1,_=>
  go_enter func169,ntmps169
  go_wp2_with fail
  refine(Zig pb r u bs _ HB.o.url HB.o.rc HTB.o).mono ?_
  rintro e w1 ⟨t,rfl,ht,hn1⟩;have HT:=A ht;have HN1:=A hn1;obtain⟨p01,p11⟩:=(HP.o.on hn1).cells;clear ht hn1 p0 p1;go_wp2_with fail
  refine(ZCo ub rb v R (toR u) rs _ (HB.o.ref.on HN1.o) (HB.o.rcd.on HN1.o) (HB.o.ris.on HN1.o) HRL.o HBO.o).mono ?_
  rintro e w2 ⟨⟨a0,a1,a2,a3,a4,a5,a6,a7,a8,a9,a10,rfl,g0,-⟩,hn2⟩;obtain rfl:a0=t:=Zcs (g0.trans ((ZEM HST.o).trans HT.o.symm));have HN2:=A (HN1.o.then hn2);clear hn2 g0;go_wp2;go_ret;exact⟨rfl,HN2.o.alloc _⟩
 | 2,_=>
  go_enter func169,ntmps169
  go_wp2_with fail
  refine(ZCq pb r u bs _ HB.o.url HB.o.rc HTB.o (fun _=>HPL.o)).mono ?_
  rintro e w1 ⟨t,rfl,ht,hn1⟩;have HT:=A ht;have HN1:=A hn1;obtain⟨p01,p11⟩:=(HP.o.on hn1).cells;clear ht hn1 p0 p1;go_wp2_with fail
  refine(ZCo ub rb v R (toR u) rs _ (HB.o.ref.on HN1.o) (HB.o.rcd.on HN1.o) (HB.o.ris.on HN1.o) HRL.o HBO.o).mono ?_
  rintro e w2 ⟨⟨a0,a1,a2,a3,a4,a5,a6,a7,a8,a9,a10,rfl,-,g1,-⟩,hn2⟩;obtain rfl:a1=t:=Zcs (g1.trans ((ZEa HST.o).trans HT.o.symm));have HN2:=A (HN1.o.then hn2);clear hn2 g1;go_wp2;go_ret;exact⟨rfl,HN2.o.alloc _⟩
 | 3,_=>
  go_enter func169,ntmps169
  go_wp2_with fail
  refine(ZFP pb r u bs _ HB.o.url HB.o.rc).mono ?_
  rintro e w1 ⟨rfl,hn1⟩;have HN1:=A hn1;obtain⟨p01,p11⟩:=(HP.o.on hn1).cells;clear hn1 p0 p1;go_wp2_with fail
  refine(ZCK ub rb v ps _ (HB.o.on HN1.o).ref (HB.o.on HN1.o).pl).mono ?_
  rintro e w' ⟨rfl,rfl⟩
  obtain⟨ao,cap,hve⟩:∃ao cap,v=.slice ao ps.length cap:=by obtain⟨ao,cap,h,-⟩:=HB.o.pl;exact⟨ao,cap,h⟩
  subst hve
  have hlen:(((Zzs u.q).length:Int)==(ps.length:Int))=true:=by rw[HL.o];simp
  go_wp2;go_ret
  exact⟨Zm (by rfl),HN1.o⟩
 | 4,_=>
  go_enter func169,ntmps169
  go_wp2_with fail
  refine(ZHJ pb r u bs _ HB.o.url HB.o.rc).mono ?_
  rintro e w1 ⟨t,rfl,ht,hn1⟩;have HT:=A ht;have HN1:=A hn1;obtain⟨p01,p11⟩:=(HP.o.on hn1).cells;clear ht hn1 p0 p1;go_wp2_with fail
  refine(ZFV ub rb _ ps _ (HB.o.on HN1.o).ref (HB.o.on HN1.o).pl hc HZ.o).mono ?_
  rintro e w2 ⟨s,rfl,hs,hn2⟩;obtain rfl:s=t:=Zcs (hs.trans (HQ.o.trans HT.o.symm));have HN2:=A (HN1.o.then hn2);clear hs hn2;go_wp2;go_ret
  exact⟨Zm (by simp),HN2.o⟩
def ZHO(w0 w:World)(wb n:Nat):Prop:=∃q us ps ts own S,Inv w0 n w wb q us ps ts own S
theorem Zz4{w:World}{e:TypeId}{s n:Nat}{v:Value}{xs:List Value}(h:w.ownsRow 0 e s v n xs):∃ao cap,v=.slice ao n cap/\n<=cap/\(0<n->∃g:Nat,ao=some ⟨g,0,none⟩/\∀(j:Nat) (x:Value),xs[j]?=some x->w.cell? ⟨g,j,none⟩=some x):=by
 obtain⟨h1,⟨rfl,rfl⟩|⟨g,cap,cur,rfl,h3,h4,h5,h6,h7,h8⟩⟩:=h
 .exact⟨none,0,rfl,Xe _,fun h=>absurd h (by decide)⟩
 .refine⟨_,cap,rfl,h5,fun _=>⟨g,rfl,fun j x hx=>?_⟩⟩
  rw[<-h8,List.getElem?_take]at hx
  split at hx
  .simp only[World.cell?,h4,Xt]
   rw[<-hx]
   simp
  .cases hx
theorem ZAe{w w':World}{e t:TypeId}{b s n:Nat}{v:Value}{xs:List Value}(h:w.ownsRow b e s v n xs)(hk:Kp t w w')(he:e≠t):w'.ownsRow b e s v n xs:=by
 obtain⟨h1,g|⟨g,cap,cur,rfl,h4,h5,h6⟩⟩:=h
 .exact⟨h1,Xc g⟩
 .exact⟨h1,Xa ⟨g,cap,cur,rfl,h4,hk.2 _ _ _ _ h5 he,h6⟩⟩
theorem Out.kpr{w w':World}{e:TypeId}{s n:Nat}{v:Value}{xs:List Value}(ho:Out (At v) w w')(h:w.ownsRow 0 e s v n xs):Kp e w w':=by
 refine⟨ho.size,fun k cs t fz hk he=>(ho.block k (Xd.1 hk).1 fun hv=>?_).trans hk⟩
 obtain⟨-,⟨rfl,-⟩|⟨g,cap,cur,rfl,-,hg,-⟩⟩:=h
 .cases hv
 .cases hv
  rw[hg]at hk;simp only[Option.some.injEq,Obj.cells.injEq]at hk;exact he hk.2.1.symm
theorem UOk.kp{w w':World}{e:UE}{t:TypeId}(h:UOk w e)(hk:Kp t w w')(ht:∀x∈[49,106,88,130,9,113],x≠t):UOk w' e:=by
 have b:=h.both;have g:∀x,x∈[49,106,88,130,9,113]->x≠t:=ht
 exact⟨hk.2 _ _ _ _ h.pair (g _ (by simp)),{ b with url:=hk.2 _ _ _ _ b.url (g _ (by simp)),rc:=b.rc.ks (fun k cs fz q=>hk.2 _ _ _ _ q (g _ (by simp))),ref:=hk.2 _ _ _ _ b.ref (g _ (by simp)),rcd:=hk.2 _ _ _ _ b.rcd (g _ (by simp)),ris:={ b.ris with seg:=b.ris.seg.kp hk (g _ (by simp)),fw:=Xb b.ris.fw hk.1 },pl:=b.pl.kp hk (g _ (by simp)) },OwnP.kp h.vo hk (g _ (by simp)) (Xe _),h.fit⟩
theorem ZG2{ops:Array Oper}{rest:List Oper}{o:Oper}{a:Act}{Q:Exit->Act->World->Prop}(w:World)(t e:TypeId)(z:Value)(sz bt:Nat)(news:Array Value)(hin:(prog.info? e).map (fun i=>(i.zero,i.size,i.bytes))=some (some z,sz,bt))(hun:prog.underlying t=some (.slice e))(hzc:z.cells.size=sz)(hsz:0<sz)(hbt:bt<=48)(hnl:news.toList.length=sz)(h1:∀u∈news.toList,u.oneCell'=true)
  (hgd:o.guard=none) (s x:Operand) (ho:o.op=.call { callee:=.builtin .append,args:=#[s,x],argTypes:=#[t,t] })
  (v:Value) (n:Nat) (xs:List Value) (hs:a.eval s=v) (hown:w.ownsRow 0 e sz v n xs) (hx:a.eval x=.slice (some ⟨w.heap.size,0,none⟩) 1 1) (hn:n<1000000)
  (h:∀g cap w',w'.ownsRow 0 e sz (.slice (some ⟨g,0,none⟩) (n+1) cap) (n+1) (xs++news.toList)->Out (At v) w w'->(At v g∨w.heap.size<=g)->wpList prog ops Q rest (a.put o.dst (.slice (some ⟨g,0,none⟩) (n+1) cap)) w'):
  wpList prog ops Q (o::rest) a (w.alloc (.cells news e)):=by
 obtain⟨i,hi,hz0,hz1,hz2⟩:=info_parts hin
 refine wpList_append_lies (w.alloc (.cells news e)) hgd s x t ho 0 e i z sz bt hun hi hz0 hz1 hz2 hzc hsz v n xs hs (World.ownsRow.alloc hown _) ⟨w.heap.size,0,none⟩ 1 1 news.toList hx (by omega) (fun j u hu=>?_) h1 (by decide) (by unfold maxLen;omega) (Xb (Nat.mul_le_mul_left _ hbt) (by omega)) (Xk _) _ rfl ?_
 .rw[Addr.add_lit]
  have hb:=heap_alloc_new w (.cells news e);simp only[World.cell?,hb,Xt,XF];rw[<-hu]
  simp
 .intro g cap w' q1 q2 q3 _
  refine h g cap w' q1 ⟨q2.os,q2.tape,q2.output,Xb (by simp) q2.size,fun k hk hg=>(q2.block k (by simp;omega) fun e=>hg e.symm).trans (heap_alloc_old w _ hk)⟩ ?_
  rcases q3 with q3|rfl
  .exact Xc q3
  .right
   simp
theorem WB.sx{w:World}{wb:Nat}{q:Bool}{us ps ts:Value}(h:WB w wb q us ps ts)(x:Value):WB (w.setCell ⟨wb,1,none⟩ x) wb q x ps ts/\WB (w.setCell ⟨wb,2,none⟩ x) wb q us x ts/\WB (w.setCell ⟨wb,3,none⟩ x) wb q us ps x:=by
 unfold WB at *
 refine⟨?_,?_,?_⟩<;>(simp only[World.setCell,Array.getElem?_modify,ifP,h];rfl)
theorem Inv.addU{w0 w w2 w3:World}{n wb:Nat}{q:Bool}{us ps ts us':Value}{own:Nat->Nat×Nat}{S:Scr}(h:Inv w0 n w wb q us ps ts own S)(hn:Nx w w2){e:UE}(hu:UOk w2 e)(hnew:∀k,e.F k->w.heap.size<=k)(hr:w3.ownsRow 0 35 1 us' (S.us.length+1) (S.us.map UE.p++[e.p]))(ho:Out (At us) w2 w3)(hg:∀k,At us' k->At us k∨w2.heap.size<=k):ZHO w0 (w3.setCell ⟨wb,1,none⟩ us') wb (n+1):=by
 classical
 have h2:=h.on hn;have k1:=ho.kpr h2.ru
 have wb3:WB w3 wb q us ps ts:=k1.2 _ _ _ _ h2.wbk (by decide)
 have b4:But wb w3 (w3.setCell ⟨wb,1,none⟩ us'):=(But.refl wb w3).set 1 _;have k2:=b4.kpW wb3;have z:=hn.size
 refine⟨_,_,_,_,_,_,h.gen (S':={ S with us:=S.us++[e] }) (0,0) (fun k=>if e.F k then(1,S.us.length)else(0,0)) (by decide) (((Out.nx hn).then ((ho.mono fun k _ hk=>h.lo k (Xa (Xc hk))))).then (Out.of_but b4 (h.lo wb (Xc rfl)))) (wb3.sx us').1 ?_ (ZAe (ZAe h2.rp k1 (by decide)) k2 (by decide)) (ZAe (ZAe h2.rt k1 (by decide)) k2 (by decide)) ?_ ?_ (fun i f hf=>Xc ⟨hf,by simp⟩) (fun i f hf=>Xc ⟨hf,by simp⟩) ⟨by simp;exact h.cnt.1,XA h.cnt.2.1,XA h.cnt.2.2⟩⟩
 .show(w3.setCell ⟨wb,1,none⟩ us').ownsRow 0 _ 1 us' (S.us++[e]).length ((S.us++[e]).map UE.p)
  rw[Xo,List.length_append]
  exact ZAe hr k2 (by decide)
 .intro k hk
  rcases hk with hk|hk
  .rcases hg k hk with g|g
   .rw[ifP (ZAd h.ru g)];exact h.lo k (Xa (Xc g))
   .rw[ifN (by omega),ifN (fun f=>by have:=hu.lt f;omega)]
  .rw[ifP (h.wlt k (Xa (Xa hk)))];exact h.lo k (Xa (Xa hk))
 .intro i f hf
  have hf':(S.us++[e])[i]?=some f:=hf;rw[List.getElem?_append]at hf'
  split at hf'
  .exact Xc ⟨hf',by simp⟩
  .next hi=>
   obtain⟨h0,h1⟩:=Xu.1 hf';simp only[List.length_singleton]at h0;simp only[List.getElem_singleton]at h1;subst h1
   have ei:i=S.us.length:=by omega
   refine Xa ⟨(hu.kp k1 (by decide)).kp k2 (by decide),fun k hk=>?_⟩
   have:=hnew k hk
   rw[ifN (by omega),ifP hk,ei]
end Go.Proofs.YtchkhibgbnhjpabGreatDoor
