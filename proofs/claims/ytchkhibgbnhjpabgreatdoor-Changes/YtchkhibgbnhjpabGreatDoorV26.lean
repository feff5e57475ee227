import Derived.Test.YtchkhibgbnhjpabGreatDoorV25
import Derived.Deep.QuietTactic
import Derived.BigQuiet
open Array renaming getElem?_eq_some_iff→Xo,getElem?_modify→Xp
open List renaming length_take→Xa,take_of_length_le→Xb,drop_of_length_le→Xc,length_drop→Xf,getElem_mem→Xg,take_succ_eq_append_getElem→Xh,drop_eq_getElem_cons→Xi,map_cons→Xj,append_nil→Xk,length_map→Xl,mem_map→Xm,map_reverse→Xn,mem_of_mem_drop→Xq,takeWhile_cons→Xr,dropWhile_cons→Xs,mem_cons_self→Xt,append_assoc→Xu,foldl_cons→Xx,length_nil→Xy
open Nat renaming le_refl→Xd,zero_le→Xe,min_eq_left→Xz,sub_self→XA
namespace Go.Proofs.YtchkhibgbnhjpabGreatDoor
open Go.RowKit
set_option maxHeartbeats 8000000
set_option maxRecDepth 8000
theorem ZcZ(w:World)(k:Nat):Nx w (w.drewN k):=⟨rfl,rfl,rfl,Xd _,fun _ _=>rfl⟩
theorem Zjh(n:Int)(w:World)(h0:0≤n)(h1:n≤255):Calls Tryz.prog 155 #[.int .u8 n] w fun e w'=>e=.returned (.int .u8 (Zff n))∧w=w':=by
 by_cases c1:240≤n
 ·have HR:=Za (show Zff n=n-2 from if_pos c1)
  go_enter Tryz.func155,Tryz.ntmps155
  go_wp2;go_ret
  exact⟨Zai (by rw[HR.out]),rfl⟩
 ·by_cases c2:238≤n
  ·have HR:=Za (show Zff n=n+5 from(if_neg c1).trans (if_pos c2))
   go_enter Tryz.func155,Tryz.ntmps155
   go_wp2;go_ret
   exact⟨Zai (by rw[HR.out]),rfl⟩
  ·have HR:=Za (show Zff n=n from(if_neg c1).trans (if_neg c2))
   go_enter Tryz.func155,Tryz.ntmps155
   go_wp2;go_ret
   exact⟨Zai (by rw[HR.out]),rfl⟩
theorem Zgc{a b:LB}{x y:UInt8}(h:x=y):ZaH (x::a) (y::b)=ZaH a b:=by unfold ZaH;simp only[Xj,aheadK,h,if_pos]
theorem Zji{a b:LB}{x y:UInt8}(h:¬(x.toNat:Int)=(y.toNat:Int)):ZaH (x::a) (y::b)=decide (Zff x.toNat<Zff y.toNat):=by unfold ZaH;simp only[Xj,aheadK,if_neg h]
theorem ZeO{a b:LB}(h:a=[]∨b=[]):ZaH a b=decide (a.length<b.length):=by
 unfold ZaH;rcases h with rfl|rfl
 ·cases b<;>rfl
 ·cases a<;>rfl
theorem Zhj(a b:BA)(w:World)(ha:a.size≤1000000):Calls Tryz.prog 106 #[.string a,.string b] w fun e w'=>e=.returned (.bool (ZaH (tl a) (tl b)))∧∃m,w'=w.drewN m:=by
 go_enter Tryz.func106,Tryz.ntmps106
 go_wp2
 go_loopw [5] (fun i wr=>∃k:Nat,k≤a.size∧k≤b.size∧i=.int .i64 k∧ZaH (tl a) (tl b)=ZaH ((tl a).drop k) ((tl b).drop k)∧∃m,wr=w.drewN m) (fun i _=>a.size-(intOf i).toNat)
 case atStart=>exact⟨0,Xe _,Xe _,rfl,rfl,0,rfl⟩
 case round=>
  obtain⟨k,hka,hkb,rfl,hE,m,rfl⟩:=hrel;have HE:=Za hE;clear hE
  by_cases h1:k<a.size
  ·by_cases h2:k<b.size
   ·have HA:=Za (ZU a k h1)
    have HB:=Za (ZU b k h2)
    have t1:decide ((k:Int)<(a.size:Int))=true:=decide_eq_true (by omega)
    have t2:decide ((k:Int)<(b.size:Int))=true:=decide_eq_true (by omega)
    have z1:((k:Int)==(a.size:Int))=false:=beq_eq_false_iff_ne.2 (by omega)
    have z2:((k:Int)==(b.size:Int))=false:=beq_eq_false_iff_ne.2 (by omega)
    have b1:=bb a[k];have b2:=bb b[k]
    cases hc:((a[k].toNat:Int)==(b[k].toNat:Int))
    ·have HF:=Za (show ZaH (tl a) (tl b)=decide (Zff a[k].toNat<Zff b[k].toNat)by rw[HE.out,HA.out,HB.out];exact Zji (beq_eq_false_iff_ne.1 hc))
     go_wp2
     go_quiet (fail)
     go_wp2_with fail
     refine(Zjh _ _ (by omega) (by omega)).mono ?_
     rintro e w' ⟨rfl,rfl⟩;go_wp2_with fail
     refine(Zjh _ _ (by omega) (by omega)).mono ?_
     rintro e w' ⟨rfl,rfl⟩;go_wp2;go_ret
     exact⟨Zi (by rw[HF.out]),_,rfl⟩
    ·have HF:=Za (show ZaH (tl a) (tl b)=ZaH ((tl a).drop (k+1)) ((tl b).drop (k+1))by
      rw[HE.out,HA.out,HB.out]
      exact Zgc (UInt8.toNat_inj.1 (by have:=beq_iff_eq.1 hc;omega)))
     go_wp2
     go_quiet (fail)
     go_wp2
     go_roundw
     case rel=>exact⟨k+1,by omega,by omega,by go_num,HF.out,_,rfl⟩
     case measure=>simp[intOf];omega
   ·have t1:decide ((k:Int)<(a.size:Int))=true:=decide_eq_true (by omega)
    have t2:decide ((k:Int)<(b.size:Int))=false:=decide_eq_false (by omega)
    have z1:((k:Int)==(a.size:Int))=false:=beq_eq_false_iff_ne.2 (by omega)
    have z2:((k:Int)==(b.size:Int))=true:=beq_iff_eq.2 (by omega)
    have HF:=Za (show ZaH (tl a) (tl b)=decide (a.size<b.size)by
     rw[HE.out,ZeO (Or.inr (Zy b k (by omega))),Xf,Xf,tl_length,tl_length,decide_eq_decide]
     omega)
    go_wp2
    go_quiet (fail)
    go_wp2;go_ret
    exact⟨Zi (by rw[HF.out,Bool.eq_iff_iff]<;>simp),_,rfl⟩
  ·have t1:decide ((k:Int)<(a.size:Int))=false:=decide_eq_false (by omega)
   have z1:((k:Int)==(a.size:Int))=true:=beq_iff_eq.2 (by omega)
   have HF:=Za (show ZaH (tl a) (tl b)=decide (a.size<b.size)by
    rw[HE.out,ZeO (Or.inl (Zy a k (by omega))),Xf,Xf,tl_length,tl_length,decide_eq_decide]
    omega)
   go_wp2
   go_quiet (fail)
   go_wp2;go_ret
   exact⟨Zi (by rw[HF.out,Bool.eq_iff_iff]<;>simp),_,rfl⟩
theorem Zlv(v:Value)(ps:List Pq)(w:World)(hp:PlAt w v ps)(hl:ps.length≤1000000):Calls Tryz.prog 105 #[v] w fun e w'=>∃nb,w.heap.size≤nb∧e=.returned (.slice (some ⟨nb,0,none⟩) ps.length ps.length)∧FullP w' nb ps∧Nx w w':=by
 obtain⟨ao,cap,rfl,hlc,hcap,hnone,hsome⟩:=hp;unfold maxLen at hcap;have hmk:=ZgP ps.length hl
 go_enter Tryz.func105,Tryz.ntmps105
 go_wp2;clear hmk
 go_loopw [4] (fun i wr=>∃k:Nat,k≤ps.length∧i=.int .i64 k∧FullP wr w.heap.size (ps.take k++List.replicate (ps.length-k) Znr)∧Nx w wr) (fun i _=>ps.length-(intOf i).toNat)
 case atStart=>exact⟨0,Xe _,rfl,heap_alloc_new w _,Nx.rfl.alloc _⟩
 case round=>
  obtain⟨k,hk,rfl,hrow,hnx⟩:=hrel
  by_cases hlt:k<ps.length
  ·obtain⟨a,ha⟩:=Za6 hlt hnone
   subst ha;obtain⟨b,off,rfl,hr⟩:=hsome a rfl;obtain⟨c0,c1⟩:=(hr.on hnx).cell hlt
   have hkl:k<(ps.take k++List.replicate (ps.length-k) Znr).length:=by rw[List.length_append,List.length_replicate,Xa];omega
   obtain⟨d0,d1⟩:=hrow.cell hkl;have f0:=hrow.free (k*2);have f1:=hrow.free (k*2+1);have hlt2:=hrow.lt;have HR:=Za hrow;have HNX:=Za hnx
   have HS:=Za (ZgQ (ps.take k) ps.length k (by rw[Xa];omega) hlt ps[k])
   have HT:=Za (Xh hlt);clear hnone hsome hr hrow hnx;generalize ps[k]=c at *;obtain⟨cn,cv⟩:=c;simp only at c0 c1;go_wp2
   go_roundw
   case rel=>
    have hf:=HR.out.set hkl cn cv;rw[HS.out,←HT.out]at hf
    exact⟨k+1,by omega,by go_num,hf,Below.setCell (Below.setCell HNX.out (Xd _) _) (Xd _) _⟩
   case measure=>simp[intOf];omega
  ·rw[show ps.length-k=0 by omega,List.replicate_zero,Xk,Xb (by omega)]at hrow
   have HR:=Za hrow;have HNX:=Za hnx;clear hrow hnx hnone hsome;go_wp2;go_ret;exact⟨_,Xd _,rfl,HR.out,HNX.out⟩
def ltQ(p q:Pq):Bool:=ZaH (tl p.1) (tl q.1)
theorem ZqV{α β:Type}(f:α→β){lt:α→α→Bool}{lt':β→β→Bool}(h:∀x y,lt x y=lt' (f x) (f y))(S:List α)(x:α):(Zfg lt S x).map f=Zfg lt' (S.map f) (f x):=by
 have key:∀t:List α,(t.takeWhile (lt x)).map f=(t.map f).takeWhile (lt' (f x))∧(t.dropWhile (lt x)).map f=(t.map f).dropWhile (lt' (f x)):=by
  intro t
  induction t with
  | nil=>exact⟨rfl,rfl⟩
  | cons y t ih=>
   rw[Xj,Xr,Xr,Xs,Xs,←h x y]
   cases lt x y
   ·exact⟨rfl,rfl⟩
   ·exact⟨by simp[ih.1],by simp[ih.2]⟩
 unfold Zfg;rw[List.map_append,Xj,Xn,Xn,(key _).1,(key _).2,Xn]
theorem Zo9{α β:Type}(f:α→β){lt:α→α→Bool}{lt':β→β→Bool}(h:∀x y,lt x y=lt' (f x) (f y))(l:List α):(Zav lt l).map f=Zav lt' (l.map f):=by
 have key:∀(l S:List α),(l.foldl (Zfg lt) S).map f=(l.map f).foldl (Zfg lt') (S.map f):=by
  intro l
  induction l with
  | nil=>intro S;rfl
  | cons x r ih=>intro S;rw[Xx,ih,ZqV f h,Xj,Xx]
 exact key l []
theorem ZqW(ps:List Pq):(Zav ltQ ps).map tl2=Zav ltB (ps.map tl2):=Zo9 (lt:=ltQ) (lt':=ltB) tl2 (fun _ _=>rfl) ps
theorem ZqX{α:Type}(lt:α→α→Bool)(l:List α):Zav lt (l.take 1)++l.drop 1=l:=by
 cases l with
 | nil=>rfl
 | cons x r=>rfl
theorem Zh5{S R:List Pq}{h:Pq}{j:Nat}(hj:j≤S.length):(S.take j++h::(S.drop j++R))[j]?=some h:=by
 rw[List.getElem?_append_right (by rw[Xa];omega),Xa,Xz hj,XA]
 rfl
theorem ZsL{S R:List Pq}{h:Pq}{j:Nat}(hj:j≤S.length){i:Nat}(hi:i<j):(S.take j++h::(S.drop j++R))[i]?=some (S[i]'(by omega)):=by rw[List.getElem?_append_left (by rw[Xa];omega),List.getElem?_take,if_pos hi,List.getElem?_eq_getElem (by omega)]
theorem Zkm{S R:List Pq}{h x:Pq}{j:Nat}(hj:j≤S.length):(S.take j++h::(S.drop j++R)).set j x=S.take j++x::(S.drop j++R):=by
 rw[List.set_append_right _ _ (by rw[Xa];omega),Xa,Xz hj,XA]
 rfl
theorem Zjj{l:List Pq}{i:Nat}{p:Pq}(h:l[i]?=some p):∃hi:i<l.length,l[i]=p:=by rw[List.getElem?_eq_some_iff]at h;exact h
theorem PB.of_alloc(w:World)(p:Pq):PB (w.alloc (Obj.cells #[.string p.1,.string p.2] 113)) w.heap.size (.string p.1) (.string p.2):=heap_alloc_new w _
theorem Zpa(v:Value)(ps:List Pq)(w:World)(hp:PlAt w v ps)(hl:ps.length≤1000000)(hz:∀p∈ps,p.1.size≤1000000):Calls Tryz.prog 48 #[v] w fun e w'=>∃nb qs,w.heap.size≤nb∧e=.returned (.slice (some ⟨nb,0,none⟩) qs.length qs.length)∧FullP w' nb qs∧qs.map tl2=Zav ltB (ps.map tl2)∧Nx w w':=by
 have HZ:=Za hz;clear hz;obtain⟨ao,cap,hve,-⟩:=id hp;subst hve
 go_enter Tryz.func48,Tryz.ntmps48
 go_wp2_with fail
 refine(Zlv _ ps _ hp hl).mono ?_
 rintro e w1 ⟨nb,hnb,rfl,hf1,hn1⟩;have HF1:=Za hf1;have HN1:=Za hn1;have hw1:=hn1.size;clear hf1 hn1 hp;go_wp2
 go_loopw [4,5,6] (fun i _ _ wr=>∃k:Nat,1≤k∧(k≤ps.length∨k=1)∧i=.int .i64 k∧FullP wr nb (Zav ltQ (ps.take k)++ps.drop k)∧Nx w wr) (fun i _ _ _=>ps.length-(intOf i).toNat)
 case atStart=>exact⟨1,Xd _,Or.inr rfl,rfl,by rw[ZqX];exact HF1.out,HN1.out⟩
 case round=>
  obtain⟨k,hk1,hk2,rfl,hrow,hnx⟩:=hrel
  by_cases hlt:k<ps.length
  ·have HX:=Za (show Zav ltQ (ps.take k)++ps.drop k=(Zav ltQ (ps.take k)).take k++ps[k]::((Zav ltQ (ps.take k)).drop k++ps.drop (k+1))by
    have e:(Zav ltQ (ps.take k)).length=k:=by rw[sortI_len,Xa];omega
    have e1:=Xb (l:=Zav ltQ (ps.take k)) (i:=k) (by omega)
    have e2:=Xc (l:=Zav ltQ (ps.take k)) (i:=k) (by omega)
    rw[e1,e2,Xi hlt]
    rfl)
   have HSL:=Za (show(Zav ltQ (ps.take k)).length=k by rw[sortI_len,Xa];omega)
   have HNEXT:=Za (show Zav ltQ (ps.take (k+1))=Zfg ltQ (Zav ltQ (ps.take k)) ps[k]by rw[Xh hlt,ZmE])
   have HSZ:Hid (∀p∈Zav ltQ (ps.take k),p.1.size≤1000000):=Za (fun p hp=>HZ.out p (List.mem_of_mem_take (Zep hp)))
   have hxz:=HZ.out ps[k] (Xg hlt);rw[HX.out]at hrow;generalize hS:Zav ltQ (ps.take k)=S at *;generalize hR:ps.drop (k+1)=R at *;generalize ps[k]=x at *;clear hS HX;have HRR:=Za hR;clear hR;have HR:=Za hrow;have HN:=Za hnx;have hzr:=hnx.size
   obtain⟨hi,hg⟩:=Zjj (Zh5 (S:=S) (R:=R) (h:=x) (j:=k) (by rw[HSL.out];exact Xd _))
   obtain⟨c0,c1⟩:=hrow.cell hi;rw[hg]at c0 c1;have hnbl:=hrow.lt;clear hrow hnx hg;obtain⟨xn,xv⟩:=x;simp only at c0 c1 hxz;go_upto_region 6 with fail;have HPB:=Za (PB.of_alloc wr (xn,xv));have HR2:=Za (HR.out.on (Nx.rfl.alloc (Obj.cells #[.string xn,.string xv] 113)));have HN2:=Za (HN.out.then (Nx.rfl.alloc (Obj.cells #[.string xn,.string xv] 113)));have hpb:nb<wr.heap.size:=hnbl;generalize hpq:wr.heap.size=pb at *;generalize hw2:wr.alloc (Obj.cells #[.string xn,.string xv] 113)=w2 at *;clear hw2 c0 c1;clear hpq;simp only at HPB
   have hnp:nb≠pb:=by omega
   go_wp2
   go_loopw [6] (fun q wi=>∃(j:Nat) (h:Pq),j≤k∧q=.int .i64 j∧FullP wi nb (S.take j++h::(S.drop j++R))∧(∀y∈S.drop j,ltQ (xn,xv) y=true)∧PB wi pb (.string xn) (.string xv)∧Nx w wi) (fun q _=>(intOf q).toNat)
   case atStart=>exact⟨k,(xn,xv),Xd _,rfl,HR2.out,(by rw[Xc (by rw[HSL.out];exact Xd _)];intro y hy;cases hy),HPB.out,HN2.out⟩
   case round=>
    obtain⟨j,h,hj,rfl,hrow,hall,hpbf,hnx⟩:=hrel
    have hjS:j≤S.length:=by rw[HSL.out];exact hj
    have HR3:=Za hrow;have HAL:=Za hall;have HPB3:=Za hpbf;have HN3:=Za hnx;obtain⟨p0,p1,-⟩:=hpbf.facts;clear hall hpbf hnx HR HR2 HN HN2 HPB HF1 HN1
    by_cases h0:0<j
    ·have h0':decide ((0:Int)<(j:Int))=true:=decide_eq_true (by omega)
     have hj1:j-1<S.length:=by omega
     have hwrp:IntKind.i64.wrap ((j:Int)-1)=((j-1:Nat):Int):=by
      rw[IntKind.wrap_i64,show(j:Int)-1=((j-1:Nat):Int)by omega]
      have:j≤1000000:=by omega
      omega
     have hq1:j-1<ps.length:=by omega
     have hq2:((j-1:Nat):Int)<(ps.length:Int):=by omega
     have hq3:(0:Int)≤((j-1:Nat):Int):=by omega
     obtain⟨hi1,hg1⟩:=Zjj (ZsL (S:=S) (R:=R) (h:=h) (j:=j) hjS (i:=j - 1) (by omega))
     obtain⟨d0,d1⟩:=hrow.cell hi1;rw[hg1]at d0 d1;have hyz:=HSZ.out (S[j-1]'hj1) (Xg _)
     have HTK:=Za (show S.take j=S.take (j-1)++[S[j-1]'hj1]by
      have e:=Xh hj1
      rw[show j-1+1=j by omega]at e
      exact e)
     have HDK:=Za (show S.drop (j-1)=(S[j-1]'hj1)::S.drop j by
      have e:=Xi hj1
      rw[show j-1+1=j by omega]at e
      exact e)
     have HST:Hid (ZaH (tl xn) (tl (S[j-1]'hj1).1)=false→ltQ (xn,xv) (S[j-1]'hj1)=false):=Za id;have HGO:Hid (ZaH (tl xn) (tl (S[j-1]'hj1).1)=true→ltQ (xn,xv) (S[j-1]'hj1)=true):=Za id;clear hg1
     cases hc:ZaH (tl xn) (tl (S[j-1]'hj1).1)
     ·have HFF:=Za (HST.out hc)
      clear HST HGO;have HCC:=Za hc;clear hc;generalize hyy:S[j-1]'hj1=y at *;obtain⟨yn,yv⟩:=y;simp only at d0 d1 hyz HCC;obtain⟨hi2,-⟩:=Zjj (Zh5 (S:=S) (R:=R) (h:=h) (j:=j) hjS);obtain⟨e0,e1⟩:=hrow.cell hi2;have g0:=hrow.free (j*2);have g1:=hrow.free (j*2+1)
      have HINS:=Za (Zo1 (lt:=ltQ) (S:=S) (x:=(xn,xv)) (k:=j) hjS HAL.out (fun _=>by rw[hyy];exact HFF.out))
      clear hrow;go_wp2;have hcc:=HCC.out
      go_quiet ((go_at_call 106;exact Calls.quiet_of (Zhj xn yn _ hxz)))
      go_wp2
      go_roundw
      case rel=>
       have hf:=(HR3.out.on (ZcZ _ nq)).set hi2 xn xv;rw[Zkm hjS]at hf
       exact⟨k+1,by omega,Or.inl (by omega),by go_num,by rw[HNEXT.out,HINS.out,HRR.out,Xu];exact hf,Below.setCell (Below.setCell (HN3.out.then (ZcZ _ nq)) hnb _) hnb _⟩
      case measure=>simp[intOf];omega
     ·have HFF:=Za (HGO.out hc)
      clear HST HGO;have HCC:=Za hc;clear hc;generalize hyy:S[j-1]'hj1=y at *;obtain⟨yn,yv⟩:=y;simp only at d0 d1 hyz HCC;clear hyy;obtain⟨hi2,-⟩:=Zjj (Zh5 (S:=S) (R:=R) (h:=h) (j:=j) hjS);obtain⟨e0,e1⟩:=hrow.cell hi2;have g0:=hrow.free (j*2);have g1:=hrow.free (j*2+1);clear hrow;go_wp2;have hcc:=HCC.out
      go_quiet ((go_at_call 106;exact Calls.quiet_of (Zhj xn yn _ hxz)))
      go_wp2
      go_roundw
      case rel=>
       have hf:=(HR3.out.on (ZcZ _ nq)).set hi2 yn yv;rw[Zkm hjS]at hf
       refine⟨j-1,(yn,yv),by omega,by rw[show((j-1:Nat):Int)=(j:Int)-1 by omega],?_,?_,((HPB3.out.on (ZcZ _ nq)).far hnp _ _).far hnp _ _,Below.setCell (Below.setCell (HN3.out.then (ZcZ _ nq)) hnb _) hnb _⟩
       ·rw[HDK.out,show S.take (j-1)++(yn,yv)::((yn,yv)::S.drop j++R)=S.take j++(yn,yv)::(S.drop j++R)by rw[HTK.out];simp]
        exact hf
       ·rw[HDK.out]
        intro z hz;rcases List.mem_cons.1 hz with g|g
        ·rw[g];exact HFF.out
        ·exact HAL.out z g
      case measure=>simp[intOf];omega
    ·have h0':decide ((0:Int)<(j:Int))=false:=decide_eq_false (by omega)
     obtain⟨hi2,-⟩:=Zjj (Zh5 (S:=S) (R:=R) (h:=h) (j:=j) hjS);obtain⟨e0,e1⟩:=hrow.cell hi2;have g0:=hrow.free (j*2);have g1:=hrow.free (j*2+1)
     have HINS:=Za (Zo1 (lt:=ltQ) (S:=S) (x:=(xn,xv)) (k:=j) hjS HAL.out (fun g=>absurd g h0))
     clear hrow;go_wp2
     go_quiet (fail)
     go_wp2
     go_roundw
     case rel=>
      have hf:=(HR3.out.on (ZcZ _ nq)).set hi2 xn xv;rw[Zkm hjS]at hf
      exact⟨k+1,by omega,Or.inl (by omega),by go_num,by rw[HNEXT.out,HINS.out,HRR.out,Xu];exact hf,Below.setCell (Below.setCell (HN3.out.then (ZcZ _ nq)) hnb _) hnb _⟩
     case measure=>simp[intOf];omega
  ·have e:Zav ltQ (ps.take k)++ps.drop k=Zav ltQ ps:=by
    by_cases e0:k≤ps.length
    ·rw[Xb (by omega),Xc (by omega),Xk]
    ·rw[Xb (by omega),Xc (by omega),Xk]
   rw[e]at hrow;have HR:=Za hrow;have HN:=Za hnx;have HL:=Za (show(Zav ltQ ps).length=ps.length from sortI_len _ _);clear hrow hnx e;go_wp2;go_ret
   exact⟨nb,Zav ltQ ps,hnb,by rw[HL.out];rfl,HR.out,ZqW ps,HN.out⟩
theorem ZeP{s:BA}(h:s.size≤160):s.size≤maxLen:=by unfold maxLen;omega
theorem Zd8{ps:List Pq}{l:LB}(h:ps.map tl2=Zh l)(hl:l.length≤300000):∀p∈ps,p.1.size≤1000000∧p.2.size≤1000000:=by
 intro p hp
 have hm:tl2 p∈Zh l:=by rw[←h];exact Xm.2 ⟨p,hp,rfl⟩
 obtain⟨a,ha,he⟩:=Xm.1 hm;have h1:=ZlH a;have h2:=ZgO ha;rw[he]at h1;obtain⟨g1,g2⟩:=h1;have e1:(tl2 p).1.length=p.1.size:=tl_length _;have e2:(tl2 p).2.length=p.2.size:=tl_length _
 omega
theorem PrsIs.slice{w:World}{base:Nat}{v:Value}{ps:List Pq}(h:PrsIs w base v ps):∃ao cap,v=.slice ao ps.length cap:=by
 rcases h with⟨rfl,rfl⟩|⟨-,nb,-,rfl,-⟩
 ·exact⟨none,0,rfl⟩
 ·exact⟨_,_,rfl⟩
theorem Zce(a b:BA)(w:World)(ha:a.size≤maxLen)(hb:b.size≤maxLen):Calls Tryz.prog 97 #[.string a,.string b] w fun e w'=>e=.returned (.bool (decide (160<a.size∨160<b.size)))∧w=w':=by
 unfold maxLen at ha hb
 by_cases h1:160<a.size
 ·have h1':decide ((160:Int)<(a.size:Int))=true:=decide_eq_true (by omega)
  go_enter Tryz.func97,Tryz.ntmps97
  go_wp2;go_ret
  exact⟨Zi (by rw[decide_eq_true (Or.inl h1)]),rfl⟩
 ·have h1':decide ((160:Int)<(a.size:Int))=false:=decide_eq_false (by omega)
  by_cases h2:160<b.size
  ·have h2':decide ((160:Int)<(b.size:Int))=true:=decide_eq_true (by omega)
   go_enter Tryz.func97,Tryz.ntmps97
   go_wp2;go_ret
   exact⟨Zi (by rw[decide_eq_true (Or.inr h2)]),rfl⟩
  ·have h2':decide ((160:Int)<(b.size:Int))=false:=decide_eq_false (by omega)
   go_enter Tryz.func97,Tryz.ntmps97
   go_wp2;go_ret
   exact⟨Zi (by rw[decide_eq_false (by omega)]),rfl⟩
theorem Zpc(pb:Nat)(r:Rc)(u:U)(bs:LA)(w:World)(h0:UrlB w pb r)(h:RcIs w r u bs):Calls Tryz.prog 55 #[.pointer (some ⟨pb,0,none⟩)] w fun e w'=>e=.returned (.int .i64 ((Zh u.q).length:Int))∧Nx w w':=by
 go_enter Tryz.func55,Tryz.ntmps55
 go_wp2_with fail
 refine(Zb0 pb r u bs _ h0 h).mono ?_
 rintro e w1 ⟨v,ps,rfl,h1,h2,h3⟩;obtain⟨ao,cap,rfl⟩:=h1.slice
 have HL:=Za (show ps.length=(Zh u.q).length by rw[←h2,Xl])
 have HN:=Za h3;clear h1 h2 h3 h0 h;go_wp2;go_ret
 exact⟨Zai (by rw[HL.out]),HN.out⟩
theorem Zgd{w:World}{r:Rc}{u:U}{bs:LA}(h:RcIs w r u bs):u.q.length≤300000:=by
 have e:tl r.q=u.q:=by rw[←h.eq];rfl
 rw[←e,tl_length];exact h.lq
theorem ZqY(pb:Nat)(r:Rc)(u:U)(bs:LA)(w:World)(h0:UrlB w pb r)(h:RcIs w r u bs):Calls Tryz.prog 56 #[.pointer (some ⟨pb,0,none⟩)] w fun e w'=>∃t:BA,e=.returned (.string t)∧tl t=ZR (Zh u.q)∧Nx w w':=by
 go_enter Tryz.func56,Tryz.ntmps56
 go_wp2_with fail
 refine(Zb0 pb r u bs _ h0 h).mono ?_
 rintro e w1 ⟨v,ps,rfl,h1,h2,h3⟩;have hc:=ZaB h2 (Zgd h);have hz:=Zd8 h2 (Zgd h);have HA:=Za (h1.at hc);have HZ:=Za hz;have H2:=Za h2;have HN:=Za h3;obtain⟨ao,cap,rfl⟩:=h1.slice;clear h1 h2 h3 h0 h hz;go_wp2_with fail
 refine(Ze6 _ ps _ HA.out hc HZ.out).mono ?_
 rintro e w2 ⟨t,rfl,ht,hn⟩;have HT:=Za ht;have HN2:=Za (HN.out.then hn);clear ht hn;go_wp2;go_ret
 exact⟨t,rfl,by rw[HT.out,H2.out],HN2.out⟩
theorem ZmH(pb:Nat)(r:Rc)(u:U)(bs:LA)(n:BA)(w:World)(h0:UrlB w pb r)(h:RcIs w r u bs)(hn:n.size≤160):Calls Tryz.prog 41 #[.pointer (some ⟨pb,0,none⟩),.string n] w fun e w'=>∃t:BA,e=.returned (.tuple #[.string t,.bool (decide (0<((Zh u.q).filter (hitP (clean (tl n)) [] false)).length))])∧tl t=Zlu ((Zh u.q).filter (hitP (clean (tl n)) [] false))∧Nx w w':=by
 go_enter Tryz.func41,Tryz.ntmps41
 go_wp2_with fail
 refine(Zce n ⟨#[]⟩ _ (ZeP hn) (Zg (by decide))).mono ?_
 rintro e w' ⟨rfl,rfl⟩
 rw[decide_eq_false (show ¬(160<n.size∨160<(⟨#[]⟩:BA).size)by rintro(g|g);omega;exact absurd g (by decide))]
 go_wp2_with fail
 refine(Zb0 pb r u bs _ h0 h).mono ?_
 rintro e w1 ⟨v,ps,rfl,h1,h2,h3⟩;have hc:=ZaB h2 (Zgd h);have HA:=Za (h1.at hc);have H2:=Za h2;have HN:=Za h3;obtain⟨ao,cap,rfl⟩:=h1.slice;clear h1 h2 h3 h0 h;go_wp2_with fail
 refine(ZmG _ ps n _ HA.out hc (by omega)).mono ?_
 rintro e w2 ⟨t,rfl,ht,hn2⟩;have HT:=Za ht;have HN2:=Za (HN.out.then hn2);clear ht hn2;go_wp2;go_ret2
 exact⟨t,by rw[H2.out];rfl,by rw[HT.out,H2.out],HN2.out⟩
theorem ZqZ(pb:Nat)(r:Rc)(u:U)(bs:LA)(n x:BA)(valued:Bool)(w:World)(h0:UrlB w pb r)(h:RcIs w r u bs)(hn:n.size≤160)(hx:x.size≤160):Calls Tryz.prog 43 #[.pointer (some ⟨pb,0,none⟩),.string n,.string x,.bool valued] w fun e w'=>e=.returned (.bool (decide (0<((Zh u.q).filter (hitP (clean (tl n)) (clean (tl x)) valued)).length)))∧Nx w w':=by
 go_enter Tryz.func43,Tryz.ntmps43
 go_wp2_with fail
 refine(Zce n x _ (ZeP hn) (ZeP hx)).mono ?_
 rintro e w' ⟨rfl,rfl⟩
 rw[decide_eq_false (show ¬(160<n.size∨160<x.size)by omega)]
 go_wp2_with fail
 refine(Zb0 pb r u bs _ h0 h).mono ?_
 rintro e w1 ⟨v,ps,rfl,h1,h2,h3⟩;have hc:=ZaB h2 (Zgd h);have HA:=Za (h1.at hc);have H2:=Za h2;have HN:=Za h3;obtain⟨ao,cap,rfl⟩:=h1.slice;clear h1 h2 h3 h0 h;go_wp2_with fail
 refine(ZqU _ ps n x valued _ HA.out hc (by omega) (by omega)).mono ?_
 rintro e w2 ⟨rfl,hn2⟩;have HN2:=Za (HN.out.then hn2);clear hn2;go_wp2;go_ret
 exact⟨Zi (by rw[H2.out]),HN2.out⟩
theorem UrlB.s10{w:World}{b:Nat}{r:Rc}(h:UrlB w b r)(x:Bool):UrlB (w.setCell ⟨b,10,none⟩ (.bool x)) b { r with hq:=x }:=by
 unfold UrlB at *;simp only[World.setCell,Xp,if_pos,h]
 rfl
theorem UrlB.s11{w:World}{b:Nat}{r:Rc}(h:UrlB w b r)(x:BA):UrlB (w.setCell ⟨b,11,none⟩ (.string x)) b { r with q:=x }:=by
 unfold UrlB at *;simp only[World.setCell,Xp,if_pos,h]
 rfl
theorem But.ksU{w w':World}{pb:Nat}{r:Rc}(hb:But pb w w')(hu:UrlB w pb r):Ks w w':=fun k cs fz hk=>by
 refine(hb.block k (Xo.1 hk).1 fun e=>?_).trans hk
 subst e;unfold UrlB at hu;rw[hk]at hu;simp only[Option.some.injEq,Obj.cells.injEq]at hu
 exact absurd hu.2.1 (by decide)
theorem RowP.butU{w w':World}{pb b off:Nat}{r:Rc}{ps:List Pq}(h:RowP w b off ps)(hb:But pb w w')(hu:UrlB w pb r):RowP w' b off ps:=by
 obtain⟨cs,fz,h1,h2⟩:=h
 refine⟨cs,fz,(hb.block b (Xo.1 h1).1 fun e=>?_).trans h1,h2⟩
 subst e;unfold UrlB at hu;rw[h1]at hu;simp only[Option.some.injEq,Obj.cells.injEq]at hu
 exact absurd hu.2.1 (by decide)
theorem PlAt.butU{w w':World}{pb:Nat}{r:Rc}{v:Value}{ps:List Pq}(h:PlAt w v ps)(hb:But pb w w')(hu:UrlB w pb r):PlAt w' v ps:=by
 obtain⟨ao,cap,h1,h2,h3,h4,h5⟩:=h
 exact⟨ao,cap,h1,h2,h3,h4,fun a ha=>by obtain⟨b,off,e,hr⟩:=h5 a ha;exact⟨b,off,e,hr.butU hb hu⟩⟩
def ZS(u:U)(l:List (List UInt8×List UInt8)):U:=if l=[]then ZbZ u else { u with hq:=true,q:=ZR l }
theorem Zkn(pb:Nat)(r:Rc)(u:U)(bs:LA)(v:Value)(ps:List Pq)(w:World)(hu:UrlB w pb r)(hr:RcIs w r u bs)(hp:PlAt w v ps)(h0:ps.length=0):Calls Tryz.prog 49 #[.pointer (some ⟨pb,0,none⟩),v] w fun e w'=>e=.returned (.tuple #[])∧(∃r',UrlB w' pb r'∧RcIs w' r' (ZS u (ps.map tl2)) bs)∧But pb w w':=by
 have HU:=Za hu;have HR:=Za hr;obtain⟨ao,cap,rfl,-⟩:=hp;obtain⟨u0,u1,u2,u3,u4,u5,u6,u7,u8,u9,u10,u11,u12,u13⟩:=hu.cells;obtain rfl:=List.eq_nil_of_length_eq_zero h0;have HE:=Za (show ZS u []=ZbZ u from if_pos rfl)
 have HQ:=Za (fun wz=>Zkg r bs wz hr.lopath)
 have HRE:=Za hr.eq;simp only[Xy];clear hu hr h0
 go_enter Tryz.func49,Tryz.ntmps49
 go_wp2_with fail
 refine(HQ.out _).mono ?_
 rintro e w1 ⟨r1,rfl,⟨p,hr1,hpl,hru⟩,hn1⟩;have HU1:=Za (HU.out.on hn1);have HN1:=Za hn1;have HR1:=Za hr1;have HRU:=Za hru;obtain⟨v0,v1,v2,v3,v4,v5,v6,v7,v8,v9,v10,v11,v12,v13⟩:=HU1.out.cells;have f0:=HU1.out.free 0;have f1:=HU1.out.free 1;have f2:=HU1.out.free 2;have f3:=HU1.out.free 3;have f4:=HU1.out.free 4;have f5:=HU1.out.free 5;have f6:=HU1.out.free 6;have f7:=HU1.out.free 7;have f8:=HU1.out.free 8;have f9:=HU1.out.free 9;have f10:=HU1.out.free 10;have f11:=HU1.out.free 11;have f12:=HU1.out.free 12;have f13:=HU1.out.free 13;clear hn1 hr1 hru u0 u1 u2 u3 u4 u5 u6 u7 u8 u9 u10 u11 u12 u13;go_wp2
 refine bodyPost_ret (results_none rfl _ _ _) rfl ⟨rfl,⟨r1,UrlB.put HU1.out r1,?_⟩,Zud (But.nx HN1.out) _ _ _ _ _ _ _ _ _ _ _ _ _ _⟩
 refine RcIs.ks ?_ (Zq HU1.out.ty (by decide) _ _ _ _ _ _ _ _ _ _ _ _ _ _)
 rw[List.map_nil,HE.out,←HRE.out,←HRU.out];have hk:=HR.out.on HN1.out;rw[HR1.out]
 exact { hk with eq:=rfl,lopath:=hpl,lq:=Xe _ }
theorem Zjk(pb:Nat)(r:Rc)(u:U)(bs:LA)(v:Value)(ps:List Pq)(w:World)(hu:UrlB w pb r)(hr:RcIs w r u bs)(hp:PlAt w v ps)(hl:ps.length≤1000000)(hz:∀p∈ps,p.1.size≤1000000∧p.2.size≤1000000)(hq:(ZR (ps.map tl2)).length≤300000)(hpos:0<ps.length):Calls Tryz.prog 49 #[.pointer (some ⟨pb,0,none⟩),v] w fun e w'=>e=.returned (.tuple #[])∧(∃r',UrlB w' pb r'∧RcIs w' r' (ZS u (ps.map tl2)) bs)∧But pb w w':=by
 have HU:=Za hu;have HR:=Za hr;have HP:=Za hp;have HZ:=Za hz;obtain⟨ao,cap,rfl,-⟩:=hp;obtain⟨u0,u1,u2,u3,u4,u5,u6,u7,u8,u9,u10,u11,u12,u13⟩:=hu.cells
 have HE:=Za (show ZS u (ps.map tl2)={ u with hq:=true,q:=ZR (ps.map tl2) }from if_neg (fun e=>by
  have:=congrArg List.length e;rw[Xl]at this;simp only[Xy]at this
  omega))
 have h0':((ps.length:Int)==0)=false:=beq_eq_false_iff_ne.2 (by omega)
 have f10:=hu.free 10;have HB1:=Za ((But.refl pb w).set 10 (.bool true));have HU1:=Za (hu.s10 true);have HP1:=Za (HP.out.butU ((But.refl pb w).set 10 (.bool true)) hu);clear hu hr hz
 go_enter Tryz.func49,Tryz.ntmps49
 go_upto_region 4 with fail;clear u0 u1 u2 u3 u4 u5 u6 u7 u8 u9 u10 u11 u12 u13 f10;generalize w.setCell ⟨pb,10,none⟩ (.bool true)=w1 at *;obtain⟨v0,v1,v2,v3,v4,v5,v6,v7,v8,v9,v10,v11,v12,v13⟩:=HU1.out.cells;go_wp2_with fail
 refine(Ze6 _ ps w1 HP1.out hl HZ.out).mono ?_
 rintro e w2 ⟨t,rfl,ht,hn2⟩;have HT:=Za ht;have HU2:=Za (HU1.out.on hn2);have HB2:=Za (HB1.out.then (But.nx hn2));have f11:=HU2.out.free 11;have c11:=HU2.out.cells.2.2.2.2.2.2.2.2.2.2.2.1;clear ht hn2 v0 v1 v2 v3 v4 v5 v6 v7 v8 v9 v10 v11 v12 v13;go_wp2;have hbt:=HB2.out.set 11 (.string t)
 refine bodyPost_end (results_none rfl _ _ _) rfl ⟨rfl,⟨_,HU2.out.s11 t,?_⟩,hbt⟩
 rw[HE.out,←HT.out];have hk:=HR.out.ks (But.ksU hbt HU.out)
 exact { hk with eq:=by rw[←HR.out.eq];rfl,lq:=by show t.size≤300000;rw[←tl_length,HT.out];exact hq }
theorem Zcf(pb:Nat)(r:Rc)(u:U)(bs:LA)(v:Value)(ps:List Pq)(w:World)(hu:UrlB w pb r)(hr:RcIs w r u bs)(hp:PlAt w v ps)(hl:ps.length≤1000000)(hz:∀p∈ps,p.1.size≤1000000∧p.2.size≤1000000)(hq:(ZR (ps.map tl2)).length≤300000):Calls Tryz.prog 49 #[.pointer (some ⟨pb,0,none⟩),v] w fun e w'=>e=.returned (.tuple #[])∧(∃r',UrlB w' pb r'∧RcIs w' r' (ZS u (ps.map tl2)) bs)∧But pb w w':=by
 rcases Nat.eq_zero_or_pos ps.length with h0|hpos
 ·exact Zkn pb r u bs v ps w hu hr hp h0
 ·exact Zjk pb r u bs v ps w hu hr hp hl hz hq hpos
theorem Zjl(pb:Nat)(r:Rc)(u:U)(bs:LA)(w:World)(hu:UrlB w pb r)(hr:RcIs w r u bs)(hq:(ZR (Zav ltB (Zh u.q))).length≤300000):Calls Tryz.prog 19 #[.pointer (some ⟨pb,0,none⟩)] w fun e w'=>e=.returned (.tuple #[])∧(∃r',UrlB w' pb r'∧RcIs w' r' (ZS u (Zav ltB (Zh u.q))) bs)∧But pb w w':=by
 have HU:=Za hu;have HR:=Za hr;have HLQ:=Za (Zgd hr)
 have HL:=Za (fun w' h1 h2=>Zb0 pb r u bs w' h1 h2)
 have HQ:=Za hq;clear hu hr hq
 go_enter Tryz.func19,Tryz.ntmps19
 go_wp2_with fail
 refine(HL.out _ HU.out HR.out).mono ?_
 rintro e w1 ⟨v,ps,rfl,h1,h2,h3⟩;have hc:=ZaB h2 HLQ.out;have HZ:=Za (Zd8 h2 HLQ.out);have HA:=Za (h1.at hc);have H2:=Za h2;have HN:=Za h3;obtain⟨ao,cap,rfl⟩:=h1.slice;clear h1 h2 h3;go_wp2_with fail
 refine(Zpa _ ps _ HA.out hc (fun p hp=>(HZ.out p hp).1)).mono ?_
 rintro e w2 ⟨nb,qs,hnb,rfl,hf,hqs,hn2⟩
 have HQS:=Za (show qs.map tl2=Zav ltB (Zh u.q)by rw[hqs,H2.out])
 have hql:qs.length≤1000000:=by
  have e:=congrArg List.length hqs;rw[Xl,sortI_len,Xl]at e
  omega
 have HF:=Za (show PlAt w2 (.slice (some ⟨nb,0,none⟩) qs.length qs.length) qs from⟨some ⟨nb,0,none⟩,qs.length,rfl,Xd _,by unfold maxLen;omega,(fun g=>by cases g),fun a ha=>⟨nb,0,(Option.some.inj ha).symm,hf.row⟩⟩)
 have HQZ:=Za (show ∀p∈qs,p.1.size≤1000000∧p.2.size≤1000000 from fun p hp=>by
  have hm:tl2 p∈ps.map tl2:=Zep (by rw[←hqs];exact Xm.2 ⟨p,hp,rfl⟩)
  obtain⟨p',hp',e⟩:=Xm.1 hm;rw[←Znt e]
  exact HZ.out p' hp')
 have HN2:=Za (HN.out.then hn2);clear hf hqs hn2;go_wp2_with fail
 refine(Zcf pb r u bs _ qs _ (HU.out.on HN2.out) (HR.out.on HN2.out) HF.out hql HQZ.out (by rw[HQS.out];exact HQ.out)).mono ?_
 rintro e w3 ⟨rfl,hx,hbt⟩;rw[HQS.out]at hx;have HX:=Za hx;have HBT:=Za ((But.nx HN2.out).then hbt);clear hx hbt;go_wp2;exact bodyPost_end (results_none rfl _ _ _) rfl ⟨rfl,HX.out,HBT.out⟩
def nameQ(n:ByteArray)(p:Pq):Bool:=p.1.toList==n.toList
def Zgf(l:List Pq):ByteArray:=match l with | []=>⟨#[]⟩|p::_=>p.2
theorem Zpe(v:Value)(ps:List Pq)(n:BA)(w:World)(hp:PlAt w v ps)(hl:ps.length≤1000000):Calls Tryz.prog 161 #[v,.string n] w fun e w'=>∃r,e=.returned r∧OwnP w' w.heap.size r (ps.filter (nameQ n))∧Nx w w':=by
 obtain⟨ao,cap,rfl,hlc,hcap,hnone,hsome⟩:=hp;unfold maxLen at hcap
 go_enter Tryz.func161,Tryz.ntmps161
 go_wp2
 go_loopw [5,6] (fun o i wr=>∃k:Nat,k≤ps.length∧i=.int .i64 k∧OwnP wr w.heap.size o ((ps.take k).filter (nameQ n))∧Nx w wr) (fun _ i _=>ps.length-(intOf i).toNat)
 case atStart=>exact⟨0,Xe _,rfl,World.ownsRow_nil _ _ _ _,Nx.rfl⟩
 case round=>
  obtain⟨k,hk,rfl,hO1,hnx⟩:=hrel;have HO1:=Za hO1;have HN:=Za hnx;have hzr:=hnx.size;clear hO1
  by_cases hlt:k<ps.length
  ·obtain⟨a,ha⟩:=Za6 hlt hnone
   subst ha;obtain⟨b,off,rfl,hr⟩:=hsome a rfl;obtain⟨c0,c1⟩:=(hr.on hnx).cell hlt;have HS1:=Za (Zcd (nameQ n) ps k hlt)
   have hl1:((ps.take k).filter (nameQ n)).length<1000000000000:=by
    have h1:=List.length_filter_le (nameQ n) (ps.take k);have h2:=List.length_take_le k ps
    omega
   clear hnone hsome hr hnx;generalize ps[k]=c at *;obtain⟨cn,cv⟩:=c;simp only at c0 c1;have HQ:=Za (show nameQ n (cn,cv)=(cn.toList==n.toList)from rfl)
   cases hd1:(cn.toList==n.toList)
   ·have HM:=Za (show nameQ n (cn,cv)=false by rw[HQ.out,hd1])
    clear HQ;go_wp2
    go_roundw
    case rel=>exact⟨k+1,by omega,by go_num,by rw[HS1.out,HM.out,if_neg (by decide),Xk];exact HO1.out,HN.out⟩
    case measure=>simp[intOf];omega
   ·have HM:=Za (show nameQ n (cn,cv)=true by rw[HQ.out,hd1])
    clear HQ
    go_wp2_with (at_builtin;go_must (refine ZcI wr (cn,cv) rfl _ _ rfl w.heap.size _ _ rfl HO1.out rfl hl1 hzr ?_;intro v' w3 ho1 hb3 _;have HA:=Za ho1;clear ho1))
    go_roundw
    case rel=>exact⟨k+1,by omega,by go_num,by rw[HS1.out,HM.out,if_pos rfl];exact HA.out,HN.out.trans hb3⟩
    case measure=>simp[intOf];omega
  ·have e:ps.take k=ps:=Xb (by omega)
   have HF1:=Za (show OwnP wr w.heap.size _ (ps.filter (nameQ n))by have h:=HO1.out;rw[e]at h;exact h)
   clear hnone hsome hnx e;go_wp2;go_ret;exact⟨_,rfl,HF1.out,HN.out⟩
theorem ZmI(v:Value)(ps:List Pq)(n:BA)(w:World)(hp:PlAt w v ps):Calls Tryz.prog 95 #[v,.string n] w fun e w'=>e=.returned (.string (Zgf (ps.filter (nameQ n))))∧w=w':=by
 obtain⟨ao,cap,rfl,hlc,hcap,hnone,hsome⟩:=hp;unfold maxLen at hcap
 go_enter Tryz.func95,Tryz.ntmps95
 go_wp2
 go_loopw [5] (fun i wr=>∃k:Nat,k≤ps.length∧i=.int .i64 k∧ps.filter (nameQ n)=(ps.drop k).filter (nameQ n)∧w=wr) (fun i _=>ps.length-(intOf i).toNat)
 case atStart=>exact⟨0,Xe _,rfl,rfl,rfl⟩
 case round=>
  obtain⟨k,hk,rfl,hE,rfl⟩:=hrel;have HE:=Za hE;clear hE
  by_cases hlt:k<ps.length
  ·obtain⟨a,ha⟩:=Za6 hlt hnone
   subst ha;obtain⟨b,off,rfl,hr⟩:=hsome a rfl;obtain⟨c0,c1⟩:=hr.cell hlt;have HD:=Za (Xi hlt);clear hnone hsome hr;generalize ps[k]=c at *;obtain⟨cn,cv⟩:=c;simp only at c0 c1;have HQ:=Za (show nameQ n (cn,cv)=(cn.toList==n.toList)from rfl)
   cases hd1:(cn.toList==n.toList)
   ·have HF:=Za (show ps.filter (nameQ n)=(ps.drop (k+1)).filter (nameQ n)by rw[HE.out,HD.out,List.filter_cons_of_neg (by rw[HQ.out,hd1];decide)])
    clear HQ;go_wp2
    go_roundw
    case rel=>exact⟨k+1,by omega,by go_num,HF.out,trivial⟩
    case measure=>simp[intOf];omega
   ·have HF:=Za (show Zgf (ps.filter (nameQ n))=cv by rw[HE.out,HD.out,List.filter_cons_of_pos (by rw[HQ.out,hd1])];rfl)
    clear HQ;go_wp2;go_ret
    exact⟨by rw[HF.out];rfl,rfl⟩
  ·have HF:=Za (show Zgf (ps.filter (nameQ n))=⟨#[]⟩by rw[HE.out,Xc (by omega)];rfl)
   clear hnone hsome;go_wp2;go_ret
   exact⟨by rw[HF.out];rfl,rfl⟩
def Zh7(n:Int):Int:=if n=238∨n=239 then n+20 else n
theorem Zjo(n:Int)(w:World)(h0:0≤n)(h1:n≤255):Calls Tryz.prog 160 #[.int .u8 n] w fun e w'=>e=.returned (.int .i64 (Zh7 n))∧w=w':=by
 by_cases c1:n=238
 ·subst c1
  go_enter Tryz.func160,Tryz.ntmps160
  go_wp2;go_ret;exact⟨rfl,rfl⟩
 ·by_cases c2:n=239
  ·subst c2
   go_enter Tryz.func160,Tryz.ntmps160
   go_wp2;go_ret;exact⟨rfl,rfl⟩
  ·have HR:=Za (show Zh7 n=n from if_neg (by omega))
   have b1:(n==238)=false:=beq_eq_false_iff_ne.2 c1;have b2:(n==239)=false:=beq_eq_false_iff_ne.2 c2;clear c1 c2
   go_enter Tryz.func160,Tryz.ntmps160
   go_wp2;go_ret
   exact⟨by rw[HR.out];exact Zai (by omega),rfl⟩
theorem Zq0{a b:UInt8}(ha:a.toNat≤244)(hb:b.toNat≤244)(h:¬Zff b.toNat<Zff a.toNat):¬Zh7 a.toNat > Zh7 b.toNat:=by
 have h1:=bb a;have h2:=bb b;unfold Zff at h;unfold Zh7
 split at h<;>split at h<;>split<;>split<;>omega
theorem Zh8(v:Value)(ps:List Pq)(w:World)(hp:PlAt w v ps)(hl:ps.length≤1000000)(hz:∀p∈ps,p.1.size≤1000000)(hB:∀p∈ps,∀b∈tl p.1,b.toNat≤244)(ho:∀i (h:i+1<ps.length),ZaH (tl ps[i+1].1) (tl ps[i].1)=false):Calls Tryz.prog 121 #[v] w fun e w'=>e=.returned (.bool true)∧Nx w w':=by
 obtain⟨ao,cap,rfl,hlc,hcap,hnone,hsome⟩:=hp;unfold maxLen at hcap;have HO:=Za ho;have HZ:=Za hz;have HB:=Za hB;clear ho hz hB
 go_enter Tryz.func121,Tryz.ntmps121
 go_wp2
 go_loopw [3] (fun i wr=>∃k:Nat,k≤ps.length∧i=.int .i64 k∧Nx w wr) (fun i _=>ps.length-(intOf i).toNat)
 case atStart=>exact⟨0,Xe _,rfl,Nx.rfl⟩
 case round=>
  obtain⟨k,hk,rfl,hnx⟩:=hrel;have HN:=Za hnx
  by_cases hlt:k+1<ps.length
  ·obtain⟨a,ha⟩:=Za6 (k:=k) (by omega) hnone
   subst ha;obtain⟨b,off,rfl,hr⟩:=hsome a rfl
   obtain⟨c0,-⟩:=(hr.on hnx).cell (i:=k) (by omega)
   obtain⟨d0,-⟩:=(hr.on hnx).cell (i:=k+1) hlt;have HA:=Za (HO.out k hlt);have hza:=HZ.out ps[k] (Xg _);have hzb:=HZ.out ps[k+1] (Xg _);have HB1:=Za (HB.out ps[k] (Xg _));have HB2:=Za (HB.out ps[k+1] (Xg _));clear hnone hsome hr hnx;generalize ps[k].1=x at *;generalize ps[k+1].1=y at *;obtain⟨w1,hw1⟩:∃w1,w1=wr:=⟨_,rfl⟩;subst hw1;go_wp2
   go_loopw [6] (fun j wr=>∃m:Nat,m≤x.size∧m≤y.size∧j=.int .i64 m∧ZaH (tl y) (tl x)=ZaH ((tl y).drop m) ((tl x).drop m)∧Nx w1 wr) (fun j _=>x.size-(intOf j).toNat)
   case atStart=>exact⟨0,Xe _,Xe _,rfl,rfl,Nx.rfl⟩
   case round=>
    obtain⟨m,hma,hmb,rfl,hE,hnm⟩:=hrel;have HE:=Za hE;have HM:=Za (HN.out.then hnm);have HM1:=Za hnm;clear hE hnm
    by_cases h1:m<x.size
    ·have t1:decide ((m:Int)<(x.size:Int))=true:=decide_eq_true (by omega)
     have z1:((m:Int)==(x.size:Int))=false:=beq_eq_false_iff_ne.2 (by omega)
     by_cases h2:m<y.size
     ·have HX:=Za (ZU x m h1)
      have HY:=Za (ZU y m h2)
      have t2:decide ((m:Int)<(y.size:Int))=true:=decide_eq_true (by omega)
      have z2:((m:Int)==(y.size:Int))=false:=beq_eq_false_iff_ne.2 (by omega)
      have b1:=bb x[m];have b2:=bb y[m]
      cases hc:((x[m].toNat:Int)==(y[m].toNat:Int))
      ·have HF:=Za (show ¬Zh7 x[m].toNat > Zh7 y[m].toNat by
        have h:=HA.out
        rw[HE.out,HX.out,HY.out,Zji (fun e=>beq_eq_false_iff_ne.1 hc e.symm)]at h
        exact Zq0 (HB1.out _ (by have:=HX.out;exact Xq (by rw[this];exact Xt))) (HB2.out _ (by have:=HY.out;exact Xq (by rw[this];exact Xt))) (of_decide_eq_false h))
       go_wp2
       go_region
       go_wp2_with fail
       refine(Zjo _ _ (by omega) (by omega)).mono ?_
       rintro e w' ⟨rfl,rfl⟩;go_wp2_with fail
       refine(Zjo _ _ (by omega) (by omega)).mono ?_
       rintro e w' ⟨rfl,rfl⟩
       have hgt:decide (Zh7 x[m].toNat > Zh7 y[m].toNat)=false:=decide_eq_false (by have:=HF.out;omega)
       go_wp2
       go_roundw
       case rel=>exact⟨k+1,by omega,by go_num,HM.out.drew⟩
       case measure=>simp[intOf];omega
      ·have HF:=Za (show ZaH (tl y) (tl x)=ZaH ((tl y).drop (m+1)) ((tl x).drop (m+1))by
        rw[HE.out,HX.out,HY.out]
        exact Zgc (UInt8.toNat_inj.1 (by have:=beq_iff_eq.1 hc;omega)))
       go_wp2
       go_region
       go_wp2
       go_roundw
       case rel=>exact⟨m+1,by omega,by omega,by go_num,HF.out,HM1.out.drew⟩
       case measure=>simp[intOf];omega
     ·exfalso
      have h:=HA.out
      rw[HE.out,ZeO (Or.inl (Zy y m (by omega))),Xf,Xf,tl_length,tl_length]at h
      have:=of_decide_eq_false h
      omega
    ·have t1:decide ((m:Int)<(x.size:Int))=false:=decide_eq_false (by omega)
     have z1:((m:Int)==(x.size:Int))=true:=beq_iff_eq.2 (by omega)
     go_wp2
     go_region
     go_wp2
     go_roundw
     case rel=>exact⟨k+1,by omega,by go_num,HM.out.drew⟩
     case measure=>simp[intOf];omega
  ·clear hnone hsome hnx
   go_wp2;go_ret;exact⟨rfl,HN.out⟩
end Go.Proofs.YtchkhibgbnhjpabGreatDoor
