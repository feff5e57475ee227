import Derived.Test.YtchkhibgbnhjpabGreatDoorR38
import Derived.Test.YtchkhibgbnhjpabGreatDoorR39
open Array renaming getElem?_eq_some_iff→Xi,getElem?_modify→Xl
open List renaming length_take→Xa,drop_of_length_le→Xb,take_of_length_le→Xc,length_map→Xd,take_succ_eq_append_getElem→Xf,mem_map→Xg,map_reverse→Xh,drop_eq_getElem_cons→Xj,map_cons→Xk,takeWhile_cons→Xm,dropWhile_cons→Xn,append_assoc→Xo,getElem_mem→Xp,foldl_cons→Xq,append_nil→Xr,length_nil→Xs
open Nat renaming le_refl→Xe,min_eq_left→Xt,sub_self→Xu
namespace Go.Proofs.YtchkhibgbnhjpabGreatDoor
open Go.RowKit
set_option maxHeartbeats 8000000
set_option maxRecDepth 8000
def ltQ(p q:Pq):Bool:=ZbJ (tl p.1) (tl q.1)
theorem Zxe{α β:Type}(f:α→β){lt:α→α→Bool}{lt':β→β→Bool}(h:∀x y,lt x y=lt' (f x) (f y))(S:List α)(x:α):(Zf3 lt S x).map f=Zf3 lt' (S.map f) (f x):=by
 have key:∀t:List α,(t.takeWhile (lt x)).map f=(t.map f).takeWhile (lt' (f x))∧(t.dropWhile (lt x)).map f=(t.map f).dropWhile (lt' (f x)):=by
  intro t
  induction t with
  | nil=>exact⟨rfl,rfl⟩
  | cons y t ih=>
   rw[Xk,Xm,Xm,Xn,Xn,←h x y]
   cases lt x y
   ·exact⟨rfl,rfl⟩
   ·exact⟨by simp[ih.1],by simp[ih.2]⟩
 unfold Zf3;rw[List.map_append,Xk,Xh,Xh,(key _).1,(key _).2,Xh]
theorem Zm2{α β:Type}(f:α→β){lt:α→α→Bool}{lt':β→β→Bool}(h:∀x y,lt x y=lt' (f x) (f y))(l:List α):(ZV lt l).map f=ZV lt' (l.map f):=by
 have key:∀(l S:List α),(l.foldl (Zf3 lt) S).map f=(l.map f).foldl (Zf3 lt') (S.map f):=by
  intro l
  induction l with
  | nil=>intro S;rfl
  | cons x r ih=>intro S;rw[Xq,ih,Zxe f h,Xk,Xq]
 exact key l []
theorem Zxf(ps:List Pq):(ZV ltQ ps).map tl2=ZV ltB (ps.map tl2):=Zm2 (lt:=ltQ) (lt':=ltB) tl2 (fun _ _=>rfl) ps
theorem Zxg{α:Type}(lt:α→α→Bool)(l:List α):ZV lt (l.take 1)++l.drop 1=l:=by
 cases l with
 | nil=>rfl
 | cons x r=>rfl
theorem Zls{S R:List Pq}{h:Pq}{j:Nat}(hj:j≤S.length):(S.take j++h::(S.drop j++R))[j]?=some h:=by
 rw[List.getElem?_append_right (by rw[Xa];omega),Xa,Xt hj,Xu]
 rfl
theorem ZyN{S R:List Pq}{h:Pq}{j:Nat}(hj:j≤S.length){i:Nat}(hi:i<j):(S.take j++h::(S.drop j++R))[i]?=some (S[i]'(by omega)):=by rw[List.getElem?_append_left (by rw[Xa];omega),List.getElem?_take,if_pos hi,List.getElem?_eq_getElem (by omega)]
theorem ZoF{S R:List Pq}{h x:Pq}{j:Nat}(hj:j≤S.length):(S.take j++h::(S.drop j++R)).set j x=S.take j++x::(S.drop j++R):=by
 rw[List.set_append_right _ _ (by rw[Xa];omega),Xa,Xt hj,Xu]
 rfl
theorem Zm3{l:List Pq}{i:Nat}{p:Pq}(h:l[i]?=some p):∃hi:i<l.length,l[i]=p:=by rw[List.getElem?_eq_some_iff]at h;exact h
theorem PB.of_alloc(w:World)(p:Pq):PB (w.alloc (Obj.cells #[.string p.1,.string p.2] 113)) w.heap.size (.string p.1) (.string p.2):=heap_alloc_new w _
theorem ZuI(v:Value)(ps:List Pq)(w:World)(hp:PlAt w v ps)(hl:ps.length≤1000000)(hz:∀p∈ps,p.1.size≤1000000):Calls Tryz.prog 48 #[v] w fun e w'=>∃nb qs,w.heap.size≤nb∧e=.returned (.slice (some ⟨nb,0,none⟩) qs.length qs.length)∧FullP w' nb qs∧qs.map tl2=ZV ltB (ps.map tl2)∧Nx w w':=by
 have HZ:=Za hz;clear hz;obtain⟨ao,cap,hve,-⟩:=id hp;subst hve
 go_enter Tryz.func48,Tryz.ntmps48
 go_wp2_with fail
 refine(Zxd _ ps _ hp hl).mono ?_
 rintro e w1 ⟨nb,hnb,rfl,hf1,hn1⟩;have HF1:=Za hf1;have HN1:=Za hn1;have hw1:=hn1.size;clear hf1 hn1 hp;go_wp2
 go_loopw [4,5,6] (fun i _ _ wr=>∃k:Nat,1≤k∧(k≤ps.length∨k=1)∧i=.int .i64 k∧FullP wr nb (ZV ltQ (ps.take k)++ps.drop k)∧Nx w wr) (fun i _ _ _=>ps.length-(intOf i).toNat)
 case atStart=>exact⟨1,Xe _,Or.inr rfl,rfl,by rw[Zxg];exact HF1.out,HN1.out⟩
 case round=>
  obtain⟨k,hk1,hk2,rfl,hrow,hnx⟩:=hrel
  by_cases hlt:k<ps.length
  ·have HX:=Za (show ZV ltQ (ps.take k)++ps.drop k=(ZV ltQ (ps.take k)).take k++ps[k]::((ZV ltQ (ps.take k)).drop k++ps.drop (k+1))by
    have e:(ZV ltQ (ps.take k)).length=k:=by rw[sortI_len,Xa];omega
    have e1:=Xc (l:=ZV ltQ (ps.take k)) (i:=k) (by omega)
    have e2:=Xb (l:=ZV ltQ (ps.take k)) (i:=k) (by omega)
    rw[e1,e2,Xj hlt]
    rfl)
   have HSL:=Za (show(ZV ltQ (ps.take k)).length=k by rw[sortI_len,Xa];omega)
   have HNEXT:=Za (show ZV ltQ (ps.take (k+1))=Zf3 ltQ (ZV ltQ (ps.take k)) ps[k]by rw[Xf hlt,ZrC])
   have HSZ:Hid (∀p∈ZV ltQ (ps.take k),p.1.size≤1000000):=Za (fun p hp=>HZ.out p (List.mem_of_mem_take (Zgt hp)))
   have hxz:=HZ.out ps[k] (Xp hlt);rw[HX.out]at hrow;generalize hS:ZV ltQ (ps.take k)=S at *;generalize hR:ps.drop (k+1)=R at *;generalize ps[k]=x at *;clear hS HX;have HRR:=Za hR;clear hR;have HR:=Za hrow;have HN:=Za hnx;have hzr:=hnx.size
   obtain⟨hi,hg⟩:=Zm3 (Zls (S:=S) (R:=R) (h:=x) (j:=k) (by rw[HSL.out];exact Xe _))
   obtain⟨c0,c1⟩:=hrow.cell hi;rw[hg]at c0 c1;have hnbl:=hrow.lt;clear hrow hnx hg;obtain⟨xn,xv⟩:=x;simp only at c0 c1 hxz;go_upto_region 6 with fail;have HPB:=Za (PB.of_alloc wr (xn,xv));have HR2:=Za (HR.out.on (Nx.rfl.alloc (Obj.cells #[.string xn,.string xv] 113)));have HN2:=Za (HN.out.then (Nx.rfl.alloc (Obj.cells #[.string xn,.string xv] 113)));have hpb:nb<wr.heap.size:=hnbl;generalize hpq:wr.heap.size=pb at *;generalize hw2:wr.alloc (Obj.cells #[.string xn,.string xv] 113)=w2 at *;clear hw2 c0 c1;clear hpq;simp only at HPB
   have hnp:nb≠pb:=by omega
   go_wp2
   go_loopw [6] (fun q wi=>∃(j:Nat) (h:Pq),j≤k∧q=.int .i64 j∧FullP wi nb (S.take j++h::(S.drop j++R))∧(∀y∈S.drop j,ltQ (xn,xv) y=true)∧PB wi pb (.string xn) (.string xv)∧Nx w wi) (fun q _=>(intOf q).toNat)
   case atStart=>exact⟨k,(xn,xv),Xe _,rfl,HR2.out,(by rw[Xb (by rw[HSL.out];exact Xe _)];intro y hy;cases hy),HPB.out,HN2.out⟩
   case round=>
    obtain⟨j,h,hj,rfl,hrow,hall,hpbf,hnx⟩:=hrel
    have hjS:j≤S.length:=by rw[HSL.out];exact hj
    have HR3:=Za hrow;have HAL:=Za hall;have HPB3:=Za hpbf;have HN3:=Za hnx;obtain⟨p0,p1,-⟩:=hpbf.facts;clear hall hpbf hnx HR HR2 HN HN2 HPB HF1 HN1
    by_cases h0:0<j
    ·have h0':decide ((0:Int)<(j:Int))=true:=decide_eq_true (by omega)
     have hj1:j-1<S.length:=by omega
     have hwrp:IntKind.i64.wrap ((j:Int)-1)=((j-1:Nat):Int):=by
      rw[IntKind.wrap_i64,show(j:Int)-1=((j-1:Nat):Int)by omega]
      have:j≤1000000:=by omega
      omega
     have hq1:j-1<ps.length:=by omega
     have hq2:((j-1:Nat):Int)<(ps.length:Int):=by omega
     have hq3:(0:Int)≤((j-1:Nat):Int):=by omega
     obtain⟨hi1,hg1⟩:=Zm3 (ZyN (S:=S) (R:=R) (h:=h) (j:=j) hjS (i:=j - 1) (by omega))
     obtain⟨d0,d1⟩:=hrow.cell hi1;rw[hg1]at d0 d1;have hyz:=HSZ.out (S[j-1]'hj1) (Xp _)
     have HTK:=Za (show S.take j=S.take (j-1)++[S[j-1]'hj1]by
      have e:=Xf hj1
      rw[show j-1+1=j by omega]at e
      exact e)
     have HDK:=Za (show S.drop (j-1)=(S[j-1]'hj1)::S.drop j by
      have e:=Xj hj1
      rw[show j-1+1=j by omega]at e
      exact e)
     have HST:Hid (ZbJ (tl xn) (tl (S[j-1]'hj1).1)=false→ltQ (xn,xv) (S[j-1]'hj1)=false):=Za id;have HGO:Hid (ZbJ (tl xn) (tl (S[j-1]'hj1).1)=true→ltQ (xn,xv) (S[j-1]'hj1)=true):=Za id;clear hg1
     cases hc:ZbJ (tl xn) (tl (S[j-1]'hj1).1)
     ·have HFF:=Za (HST.out hc)
      clear HST HGO;have HCC:=Za hc;clear hc;generalize hyy:S[j-1]'hj1=y at *;obtain⟨yn,yv⟩:=y;simp only at d0 d1 hyz HCC;obtain⟨hi2,-⟩:=Zm3 (Zls (S:=S) (R:=R) (h:=h) (j:=j) hjS);obtain⟨e0,e1⟩:=hrow.cell hi2;have g0:=hrow.free (j*2);have g1:=hrow.free (j*2+1)
      have HINS:=Za (Zou (lt:=ltQ) (S:=S) (x:=(xn,xv)) (k:=j) hjS HAL.out (fun _=>by rw[hyy];exact HFF.out))
      clear hrow;go_wp2;have hcc:=HCC.out
      go_quiet ((go_at_call 106;exact Calls.quiet_of (Zkz xn yn _ hxz)))
      go_wp2
      go_roundw
      case rel=>
       have hf:=(HR3.out.on (ZF _ nq)).set hi2 xn xv;rw[ZoF hjS]at hf
       exact⟨k+1,by omega,Or.inl (by omega),by go_num,by rw[HNEXT.out,HINS.out,HRR.out,Xo];exact hf,Below.setCell (Below.setCell (HN3.out.then (ZF _ nq)) hnb _) hnb _⟩
      case measure=>simp[intOf];omega
     ·have HFF:=Za (HGO.out hc)
      clear HST HGO;have HCC:=Za hc;clear hc;generalize hyy:S[j-1]'hj1=y at *;obtain⟨yn,yv⟩:=y;simp only at d0 d1 hyz HCC;clear hyy;obtain⟨hi2,-⟩:=Zm3 (Zls (S:=S) (R:=R) (h:=h) (j:=j) hjS);obtain⟨e0,e1⟩:=hrow.cell hi2;have g0:=hrow.free (j*2);have g1:=hrow.free (j*2+1);clear hrow;go_wp2;have hcc:=HCC.out
      go_quiet ((go_at_call 106;exact Calls.quiet_of (Zkz xn yn _ hxz)))
      go_wp2
      go_roundw
      case rel=>
       have hf:=(HR3.out.on (ZF _ nq)).set hi2 yn yv;rw[ZoF hjS]at hf
       refine⟨j-1,(yn,yv),by omega,by rw[show((j-1:Nat):Int)=(j:Int)-1 by omega],?_,?_,((HPB3.out.on (ZF _ nq)).far hnp _ _).far hnp _ _,Below.setCell (Below.setCell (HN3.out.then (ZF _ nq)) hnb _) hnb _⟩
       ·rw[HDK.out,show S.take (j-1)++(yn,yv)::((yn,yv)::S.drop j++R)=S.take j++(yn,yv)::(S.drop j++R)by rw[HTK.out];simp]
        exact hf
       ·rw[HDK.out]
        intro z hz;rcases List.mem_cons.1 hz with g|g
        ·rw[g];exact HFF.out
        ·exact HAL.out z g
      case measure=>simp[intOf];omega
    ·have h0':decide ((0:Int)<(j:Int))=false:=decide_eq_false (by omega)
     obtain⟨hi2,-⟩:=Zm3 (Zls (S:=S) (R:=R) (h:=h) (j:=j) hjS);obtain⟨e0,e1⟩:=hrow.cell hi2;have g0:=hrow.free (j*2);have g1:=hrow.free (j*2+1)
     have HINS:=Za (Zou (lt:=ltQ) (S:=S) (x:=(xn,xv)) (k:=j) hjS HAL.out (fun g=>absurd g h0))
     clear hrow;go_wp2
     go_quiet (fail)
     go_wp2
     go_roundw
     case rel=>
      have hf:=(HR3.out.on (ZF _ nq)).set hi2 xn xv;rw[ZoF hjS]at hf
      exact⟨k+1,by omega,Or.inl (by omega),by go_num,by rw[HNEXT.out,HINS.out,HRR.out,Xo];exact hf,Below.setCell (Below.setCell (HN3.out.then (ZF _ nq)) hnb _) hnb _⟩
     case measure=>simp[intOf];omega
  ·have e:ZV ltQ (ps.take k)++ps.drop k=ZV ltQ ps:=by
    by_cases e0:k≤ps.length
    ·rw[Xc (by omega),Xb (by omega),Xr]
    ·rw[Xc (by omega),Xb (by omega),Xr]
   rw[e]at hrow;have HR:=Za hrow;have HN:=Za hnx;have HL:=Za (show(ZV ltQ ps).length=ps.length from sortI_len _ _);clear hrow hnx e;go_wp2;go_ret
   exact⟨nb,ZV ltQ ps,hnb,by rw[HL.out];rfl,HR.out,Zxf ps,HN.out⟩
theorem Zfx{s:BA}(h:s.size≤160):s.size≤maxLen:=by unfold maxLen;omega
theorem Zja{ps:List Pq}{l:LB}(h:ps.map tl2=Zs l)(hl:l.length≤300000):∀p∈ps,p.1.size≤1000000∧p.2.size≤1000000:=by
 intro p hp
 have hm:tl2 p∈Zs l:=by rw[←h];exact Xg.2 ⟨p,hp,rfl⟩
 obtain⟨a,ha,he⟩:=Xg.1 hm;have h1:=Zgx a;have h2:=Zfb ha;rw[he]at h1;obtain⟨g1,g2⟩:=h1;have e1:(tl2 p).1.length=p.1.size:=tl_length _;have e2:(tl2 p).2.length=p.2.size:=tl_length _
 omega
theorem PrsIs.slice{w:World}{base:Nat}{v:Value}{ps:List Pq}(h:PrsIs w base v ps):∃ao cap,v=.slice ao ps.length cap:=by
 rcases h with⟨rfl,rfl⟩|⟨-,nb,-,rfl,-⟩
 ·exact⟨none,0,rfl⟩
 ·exact⟨_,_,rfl⟩
theorem Zjb(a b:BA)(w:World)(ha:a.size≤maxLen)(hb:b.size≤maxLen):Calls Tryz.prog 97 #[.string a,.string b] w fun e w'=>e=.returned (.bool (decide (160<a.size∨160<b.size)))∧w=w':=by
 unfold maxLen at ha hb
 by_cases h1:160<a.size
 ·have h1':decide ((160:Int)<(a.size:Int))=true:=decide_eq_true (by omega)
  go_enter Tryz.func97,Tryz.ntmps97
  go_wp2;go_ret
  exact⟨Zj (by rw[decide_eq_true (Or.inl h1)]),rfl⟩
 ·have h1':decide ((160:Int)<(a.size:Int))=false:=decide_eq_false (by omega)
  by_cases h2:160<b.size
  ·have h2':decide ((160:Int)<(b.size:Int))=true:=decide_eq_true (by omega)
   go_enter Tryz.func97,Tryz.ntmps97
   go_wp2;go_ret
   exact⟨Zj (by rw[decide_eq_true (Or.inr h2)]),rfl⟩
  ·have h2':decide ((160:Int)<(b.size:Int))=false:=decide_eq_false (by omega)
   go_enter Tryz.func97,Tryz.ntmps97
   go_wp2;go_ret
   exact⟨Zj (by rw[decide_eq_false (by omega)]),rfl⟩
theorem ZuL(pb:Nat)(r:Rc)(u:U)(bs:LA)(w:World)(h0:UrlB w pb r)(h:RcIs w r u bs):Calls Tryz.prog 55 #[.pointer (some ⟨pb,0,none⟩)] w fun e w'=>e=.returned (.int .i64 ((Zs u.q).length:Int))∧Nx w w':=by
 go_enter Tryz.func55,Tryz.ntmps55
 go_wp2_with fail
 refine(Zeo pb r u bs _ h0 h).mono ?_
 rintro e w1 ⟨v,ps,rfl,h1,h2,h3⟩;obtain⟨ao,cap,rfl⟩:=h1.slice
 have HL:=Za (show ps.length=(Zs u.q).length by rw[←h2,Xd])
 have HN:=Za h3;clear h1 h2 h3 h0 h;go_wp2;go_ret
 exact⟨Z0 (by rw[HL.out]),HN.out⟩
theorem Zjr{w:World}{r:Rc}{u:U}{bs:LA}(h:RcIs w r u bs):u.q.length≤300000:=by
 have e:tl r.q=u.q:=by rw[←h.eq];rfl
 rw[←e,tl_length];exact h.lq
theorem Zxh(pb:Nat)(r:Rc)(u:U)(bs:LA)(w:World)(h0:UrlB w pb r)(h:RcIs w r u bs):Calls Tryz.prog 56 #[.pointer (some ⟨pb,0,none⟩)] w fun e w'=>∃t:BA,e=.returned (.string t)∧tl t=Zam (Zs u.q)∧Nx w w':=by
 go_enter Tryz.func56,Tryz.ntmps56
 go_wp2_with fail
 refine(Zeo pb r u bs _ h0 h).mono ?_
 rintro e w1 ⟨v,ps,rfl,h1,h2,h3⟩;have hc:=Za1 h2 (Zjr h);have hz:=Zja h2 (Zjr h);have HA:=Za (h1.at hc);have HZ:=Za hz;have H2:=Za h2;have HN:=Za h3;obtain⟨ao,cap,rfl⟩:=h1.slice;clear h1 h2 h3 h0 h hz;go_wp2_with fail
 refine(ZhE _ ps _ HA.out hc HZ.out).mono ?_
 rintro e w2 ⟨t,rfl,ht,hn⟩;have HT:=Za ht;have HN2:=Za (HN.out.then hn);clear ht hn;go_wp2;go_ret
 exact⟨t,rfl,by rw[HT.out,H2.out],HN2.out⟩
theorem ZrO(pb:Nat)(r:Rc)(u:U)(bs:LA)(n:BA)(w:World)(h0:UrlB w pb r)(h:RcIs w r u bs)(hn:n.size≤160):Calls Tryz.prog 41 #[.pointer (some ⟨pb,0,none⟩),.string n] w fun e w'=>∃t:BA,e=.returned (.tuple #[.string t,.bool (decide (0<((Zs u.q).filter (ZhF (clean (tl n)) [] false)).length))])∧tl t=Zqa ((Zs u.q).filter (ZhF (clean (tl n)) [] false))∧Nx w w':=by
 go_enter Tryz.func41,Tryz.ntmps41
 go_wp2_with fail
 refine(Zjb n ⟨#[]⟩ _ (Zfx hn) (Ze (by decide))).mono ?_
 rintro e w' ⟨rfl,rfl⟩
 rw[decide_eq_false (show ¬(160<n.size∨160<(⟨#[]⟩:BA).size)by rintro(g|g);omega;exact absurd g (by decide))]
 go_wp2_with fail
 refine(Zeo pb r u bs _ h0 h).mono ?_
 rintro e w1 ⟨v,ps,rfl,h1,h2,h3⟩;have hc:=Za1 h2 (Zjr h);have HA:=Za (h1.at hc);have H2:=Za h2;have HN:=Za h3;obtain⟨ao,cap,rfl⟩:=h1.slice;clear h1 h2 h3 h0 h;go_wp2_with fail
 refine(ZrM _ ps n _ HA.out hc (by omega)).mono ?_
 rintro e w2 ⟨t,rfl,ht,hn2⟩;have HT:=Za ht;have HN2:=Za (HN.out.then hn2);clear ht hn2;go_wp2;go_ret2
 exact⟨t,by rw[H2.out];rfl,by rw[HT.out,H2.out],HN2.out⟩
theorem ZoG(pb:Nat)(r:Rc)(u:U)(bs:LA)(n:BA)(w:World)(h0:UrlB w pb r)(h:RcIs w r u bs)(hn:n.size≤160):Calls Tryz.prog 42 #[.pointer (some ⟨pb,0,none⟩),.string n] w fun e w'=>∃v ss,e=.returned v∧StrIs w' w.heap.size v ss∧ss.map tl=((Zs u.q).filter (ZhF (clean (tl n)) [] false)).map (·.2)∧Nx w w':=by
 go_enter Tryz.func42,Tryz.ntmps42
 go_wp2_with fail
 refine(Zjb n ⟨#[]⟩ _ (Zfx hn) (Ze (by decide))).mono ?_
 rintro e w' ⟨rfl,rfl⟩
 rw[decide_eq_false (show ¬(160<n.size∨160<(⟨#[]⟩:BA).size)by rintro(g|g);omega;exact absurd g (by decide))]
 go_wp2_with fail
 refine(Zeo pb r u bs _ h0 h).mono ?_
 rintro e w1 ⟨v,ps,rfl,h1,h2,h3⟩;have hc:=Za1 h2 (Zjr h);have HA:=Za (h1.at hc);have H2:=Za h2;have HN:=Za h3;have hzz:=h3.size;obtain⟨ao,cap,rfl⟩:=h1.slice;clear h1 h2 h3 h0 h;go_wp2_with fail
 refine(ZoD _ ps n _ HA.out hc (by omega)).mono ?_
 rintro e w2 ⟨x,ss,rfl,hss,ht,hn2⟩;have HT:=Za ht;have HS:=Za hss;have HN2:=Za (HN.out.then hn2);clear ht hn2 hss;go_wp2;go_ret
 refine⟨x,ss,rfl,?_,by rw[HT.out,H2.out],HN2.out⟩
 rcases HS.out with g|⟨g1,nb,g2,g3,g4⟩
 ·exact Or.inl g
 ·exact Or.inr ⟨g1,nb,Nat.le_trans hzz g2,g3,g4⟩
theorem Zxi(pb:Nat)(r:Rc)(u:U)(bs:LA)(n x:BA)(valued:Bool)(w:World)(h0:UrlB w pb r)(h:RcIs w r u bs)(hn:n.size≤160)(hx:x.size≤160):Calls Tryz.prog 43 #[.pointer (some ⟨pb,0,none⟩),.string n,.string x,.bool valued] w fun e w'=>e=.returned (.bool (decide (0<((Zs u.q).filter (ZhF (clean (tl n)) (clean (tl x)) valued)).length)))∧Nx w w':=by
 go_enter Tryz.func43,Tryz.ntmps43
 go_wp2_with fail
 refine(Zjb n x _ (Zfx hn) (Zfx hx)).mono ?_
 rintro e w' ⟨rfl,rfl⟩
 rw[decide_eq_false (show ¬(160<n.size∨160<x.size)by omega)]
 go_wp2_with fail
 refine(Zeo pb r u bs _ h0 h).mono ?_
 rintro e w1 ⟨v,ps,rfl,h1,h2,h3⟩;have hc:=Za1 h2 (Zjr h);have HA:=Za (h1.at hc);have H2:=Za h2;have HN:=Za h3;obtain⟨ao,cap,rfl⟩:=h1.slice;clear h1 h2 h3 h0 h;go_wp2_with fail
 refine(Zxc _ ps n x valued _ HA.out hc (by omega) (by omega)).mono ?_
 rintro e w2 ⟨rfl,hn2⟩;have HN2:=Za (HN.out.then hn2);clear hn2;go_wp2;go_ret
 exact⟨Zj (by rw[H2.out]),HN2.out⟩
theorem UrlB.s10{w:World}{b:Nat}{r:Rc}(h:UrlB w b r)(x:Bool):UrlB (w.setCell ⟨b,10,none⟩ (.bool x)) b { r with hq:=x }:=by
 unfold UrlB at *;simp only[World.setCell,Xl,if_pos,h]
 rfl
theorem UrlB.s11{w:World}{b:Nat}{r:Rc}(h:UrlB w b r)(x:BA):UrlB (w.setCell ⟨b,11,none⟩ (.string x)) b { r with q:=x }:=by
 unfold UrlB at *;simp only[World.setCell,Xl,if_pos,h]
 rfl
theorem But.ksU{w w':World}{pb:Nat}{r:Rc}(hb:But pb w w')(hu:UrlB w pb r):Ks w w':=fun k cs fz hk=>by
 refine(hb.block k (Xi.1 hk).1 fun e=>?_).trans hk
 subst e;unfold UrlB at hu;rw[hk]at hu;simp only[Option.some.injEq,Obj.cells.injEq]at hu
 exact absurd hu.2.1 (by decide)
theorem RowP.butU{w w':World}{pb b off:Nat}{r:Rc}{ps:List Pq}(h:RowP w b off ps)(hb:But pb w w')(hu:UrlB w pb r):RowP w' b off ps:=by
 obtain⟨cs,fz,h1,h2⟩:=h
 refine⟨cs,fz,(hb.block b (Xi.1 h1).1 fun e=>?_).trans h1,h2⟩
 subst e;unfold UrlB at hu;rw[h1]at hu;simp only[Option.some.injEq,Obj.cells.injEq]at hu
 exact absurd hu.2.1 (by decide)
theorem PlAt.butU{w w':World}{pb:Nat}{r:Rc}{v:Value}{ps:List Pq}(h:PlAt w v ps)(hb:But pb w w')(hu:UrlB w pb r):PlAt w' v ps:=by
 obtain⟨ao,cap,h1,h2,h3,h4,h5⟩:=h
 exact⟨ao,cap,h1,h2,h3,h4,fun a ha=>by obtain⟨b,off,e,hr⟩:=h5 a ha;exact⟨b,off,e,hr.butU hb hu⟩⟩
def ZbA(u:U)(l:List (List UInt8×List UInt8)):U:=if l=[]then Zfv u else { u with hq:=true,q:=Zam l }
theorem ZoH(pb:Nat)(r:Rc)(u:U)(bs:LA)(v:Value)(ps:List Pq)(w:World)(hu:UrlB w pb r)(hr:RcIs w r u bs)(hp:PlAt w v ps)(h0:ps.length=0):Calls Tryz.prog 49 #[.pointer (some ⟨pb,0,none⟩),v] w fun e w'=>e=.returned (.tuple #[])∧(∃r',UrlB w' pb r'∧RcIs w' r' (ZbA u (ps.map tl2)) bs)∧But pb w w':=by
 have HU:=Za hu;have HR:=Za hr;obtain⟨ao,cap,rfl,-⟩:=hp;obtain⟨u0,u1,u2,u3,u4,u5,u6,u7,u8,u9,u10,u11,u12,u13⟩:=hu.cells;obtain rfl:=List.eq_nil_of_length_eq_zero h0;have HE:=Za (show ZbA u []=Zfv u from if_pos rfl)
 have HQ:=Za (fun wz=>Zoo r bs wz hr.lopath)
 have HRE:=Za hr.eq;simp only[Xs];clear hu hr h0
 go_enter Tryz.func49,Tryz.ntmps49
 go_wp2_with fail
 refine(HQ.out _).mono ?_
 rintro e w1 ⟨r1,rfl,⟨p,hr1,hpl,hru⟩,hn1⟩;have HU1:=Za (HU.out.on hn1);have HN1:=Za hn1;have HR1:=Za hr1;have HRU:=Za hru;obtain⟨v0,v1,v2,v3,v4,v5,v6,v7,v8,v9,v10,v11,v12,v13⟩:=HU1.out.cells;have f0:=HU1.out.free 0;have f1:=HU1.out.free 1;have f2:=HU1.out.free 2;have f3:=HU1.out.free 3;have f4:=HU1.out.free 4;have f5:=HU1.out.free 5;have f6:=HU1.out.free 6;have f7:=HU1.out.free 7;have f8:=HU1.out.free 8;have f9:=HU1.out.free 9;have f10:=HU1.out.free 10;have f11:=HU1.out.free 11;have f12:=HU1.out.free 12;have f13:=HU1.out.free 13;clear hn1 hr1 hru u0 u1 u2 u3 u4 u5 u6 u7 u8 u9 u10 u11 u12 u13;go_wp2
 refine bodyPost_ret (results_none rfl _ _ _) rfl ⟨rfl,⟨r1,UrlB.put HU1.out r1,?_⟩,ZzJ (But.nx HN1.out) _ _ _ _ _ _ _ _ _ _ _ _ _ _⟩
 refine RcIs.ks ?_ (Zq HU1.out.ty (by decide) _ _ _ _ _ _ _ _ _ _ _ _ _ _)
 rw[List.map_nil,HE.out,←HRE.out,←HRU.out];have hk:=HR.out.on HN1.out;rw[HR1.out]
 exact { hk with eq:=rfl,lopath:=hpl,lq:=Nat.zero_le _ }
theorem Zm4(pb:Nat)(r:Rc)(u:U)(bs:LA)(v:Value)(ps:List Pq)(w:World)(hu:UrlB w pb r)(hr:RcIs w r u bs)(hp:PlAt w v ps)(hl:ps.length≤1000000)(hz:∀p∈ps,p.1.size≤1000000∧p.2.size≤1000000)(hq:(Zam (ps.map tl2)).length≤300000)(hpos:0<ps.length):Calls Tryz.prog 49 #[.pointer (some ⟨pb,0,none⟩),v] w fun e w'=>e=.returned (.tuple #[])∧(∃r',UrlB w' pb r'∧RcIs w' r' (ZbA u (ps.map tl2)) bs)∧But pb w w':=by
 have HU:=Za hu;have HR:=Za hr;have HP:=Za hp;have HZ:=Za hz;obtain⟨ao,cap,rfl,-⟩:=hp;obtain⟨u0,u1,u2,u3,u4,u5,u6,u7,u8,u9,u10,u11,u12,u13⟩:=hu.cells
 have HE:=Za (show ZbA u (ps.map tl2)={ u with hq:=true,q:=Zam (ps.map tl2) }from if_neg (fun e=>by
  have:=congrArg List.length e;rw[Xd]at this;simp only[Xs]at this
  omega))
 have h0':((ps.length:Int)==0)=false:=beq_eq_false_iff_ne.2 (by omega)
 have f10:=hu.free 10;have HB1:=Za ((But.refl pb w).set 10 (.bool true));have HU1:=Za (hu.s10 true);have HP1:=Za (HP.out.butU ((But.refl pb w).set 10 (.bool true)) hu);clear hu hr hz
 go_enter Tryz.func49,Tryz.ntmps49
 go_upto_region 4 with fail;clear u0 u1 u2 u3 u4 u5 u6 u7 u8 u9 u10 u11 u12 u13 f10;generalize w.setCell ⟨pb,10,none⟩ (.bool true)=w1 at *;obtain⟨v0,v1,v2,v3,v4,v5,v6,v7,v8,v9,v10,v11,v12,v13⟩:=HU1.out.cells;go_wp2_with fail
 refine(ZhE _ ps w1 HP1.out hl HZ.out).mono ?_
 rintro e w2 ⟨t,rfl,ht,hn2⟩;have HT:=Za ht;have HU2:=Za (HU1.out.on hn2);have HB2:=Za (HB1.out.then (But.nx hn2));have f11:=HU2.out.free 11;have c11:=HU2.out.cells.2.2.2.2.2.2.2.2.2.2.2.1;clear ht hn2 v0 v1 v2 v3 v4 v5 v6 v7 v8 v9 v10 v11 v12 v13;go_wp2;have hbt:=HB2.out.set 11 (.string t)
 refine bodyPost_end (results_none rfl _ _ _) rfl ⟨rfl,⟨_,HU2.out.s11 t,?_⟩,hbt⟩
 rw[HE.out,←HT.out];have hk:=HR.out.ks (But.ksU hbt HU.out)
 exact { hk with eq:=by rw[←HR.out.eq];rfl,lq:=by show t.size≤300000;rw[←tl_length,HT.out];exact hq }
theorem ZoI(pb:Nat)(r:Rc)(u:U)(bs:LA)(v:Value)(ps:List Pq)(w:World)(hu:UrlB w pb r)(hr:RcIs w r u bs)(hp:PlAt w v ps)(hl:ps.length≤1000000)(hz:∀p∈ps,p.1.size≤1000000∧p.2.size≤1000000)(hq:(Zam (ps.map tl2)).length≤300000):Calls Tryz.prog 49 #[.pointer (some ⟨pb,0,none⟩),v] w fun e w'=>e=.returned (.tuple #[])∧(∃r',UrlB w' pb r'∧RcIs w' r' (ZbA u (ps.map tl2)) bs)∧But pb w w':=by
 rcases Nat.eq_zero_or_pos ps.length with h0|hpos
 ·exact ZoH pb r u bs v ps w hu hr hp h0
 ·exact Zm4 pb r u bs v ps w hu hr hp hl hz hq hpos
theorem ZuM(pb:Nat)(r:Rc)(u:U)(bs:LA)(w:World)(hu:UrlB w pb r)(hr:RcIs w r u bs)(hq:(Zam (ZV ltB (Zs u.q))).length≤300000):Calls Tryz.prog 19 #[.pointer (some ⟨pb,0,none⟩)] w fun e w'=>e=.returned (.tuple #[])∧(∃r',UrlB w' pb r'∧RcIs w' r' (ZbA u (ZV ltB (Zs u.q))) bs)∧But pb w w':=by
 have HU:=Za hu;have HR:=Za hr;have HLQ:=Za (Zjr hr)
 have HL:=Za (fun w' h1 h2=>Zeo pb r u bs w' h1 h2)
 have HQ:=Za hq;clear hu hr hq
 go_enter Tryz.func19,Tryz.ntmps19
 go_wp2_with fail
 refine(HL.out _ HU.out HR.out).mono ?_
 rintro e w1 ⟨v,ps,rfl,h1,h2,h3⟩;have hc:=Za1 h2 HLQ.out;have HZ:=Za (Zja h2 HLQ.out);have HA:=Za (h1.at hc);have H2:=Za h2;have HN:=Za h3;obtain⟨ao,cap,rfl⟩:=h1.slice;clear h1 h2 h3;go_wp2_with fail
 refine(ZuI _ ps _ HA.out hc (fun p hp=>(HZ.out p hp).1)).mono ?_
 rintro e w2 ⟨nb,qs,hnb,rfl,hf,hqs,hn2⟩
 have HQS:=Za (show qs.map tl2=ZV ltB (Zs u.q)by rw[hqs,H2.out])
 have hql:qs.length≤1000000:=by
  have e:=congrArg List.length hqs;rw[Xd,sortI_len,Xd]at e
  omega
 have HF:=Za (show PlAt w2 (.slice (some ⟨nb,0,none⟩) qs.length qs.length) qs from⟨some ⟨nb,0,none⟩,qs.length,rfl,Xe _,by unfold maxLen;omega,(fun g=>by cases g),fun a ha=>⟨nb,0,(Option.some.inj ha).symm,hf.row⟩⟩)
 have HQZ:=Za (show ∀p∈qs,p.1.size≤1000000∧p.2.size≤1000000 from fun p hp=>by
  have hm:tl2 p∈ps.map tl2:=Zgt (by rw[←hqs];exact Xg.2 ⟨p,hp,rfl⟩)
  obtain⟨p',hp',e⟩:=Xg.1 hm;rw[←Znm e]
  exact HZ.out p' hp')
 have HN2:=Za (HN.out.then hn2);clear hf hqs hn2;go_wp2_with fail
 refine(ZoI pb r u bs _ qs _ (HU.out.on HN2.out) (HR.out.on HN2.out) HF.out hql HQZ.out (by rw[HQS.out];exact HQ.out)).mono ?_
 rintro e w3 ⟨rfl,hx,hbt⟩;rw[HQS.out]at hx;have HX:=Za hx;have HBT:=Za ((But.nx HN2.out).then hbt);clear hx hbt;go_wp2;exact bodyPost_end (results_none rfl _ _ _) rfl ⟨rfl,HX.out,HBT.out⟩
end Go.Proofs.YtchkhibgbnhjpabGreatDoor
