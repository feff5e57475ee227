import Derived.Test.YtchkhibgbnhjpabGreatDoorR06
import Derived.Test.YtchkhibgbnhjpabGreatDoorR07
open Bool renaming and_eq_true→Xm
open List renaming length_append→Xa,take_of_length_le→Xb,drop_eq_getElem_cons→Xc,length_take_le→Xd,getElem?_eq_getElem→Xe,length_cons→Xf,getElem_mem→Xg,drop_of_length_le→Xi,flatMap_cons→Xk,length_drop→Xl,length_nil→Xn,getD_eq_getElem?_getD→Xo,getElem_cons_zero→Xp,getElem_cons_succ→Xq,append_assoc→Xr
open Nat renaming zero_le→Xh,zero_add→Xj
namespace Go.Proofs.YtchkhibgbnhjpabGreatDoor
open Go.RowKit
set_option maxHeartbeats 2000000
set_option maxRecDepth 100000
def ZyW:List UInt8:=[48,49,50,51,52,53,54,55,56,57,65,66,67,68,69,70]
def pct(b:Int):List UInt8:=[37,ZyW.getD (b/16).toNat 0,ZyW.getD (b%16).toNat 0]
def encPt(set:List UInt8)(c:Int):List UInt8:=if among c set||decide (c<32)||decide (126<c)then(utf c).flatMap pct else(utf c).map toB
def encUr(c:Bool)(u:List Int):List UInt8:=if c then u.flatMap pct else u.map toB
theorem encUr_snoc(c:Bool)(u:LI)(x:Int):encUr c (u++[x])=encUr c u++(if c then pct x else [toB x]):=by cases c<;>simp[encUr]
theorem Zgb(c:Bool)(u:LI):(encUr c u).length≤3*u.length:=by
 cases c
 ·simp[encUr];omega
 ·have:(u.flatMap pct).length=3*u.length:=by
   induction u with
   | nil=>rfl
   | cons x q ih=>simp only[Xk,Xa,Xf,ih,pct,Xn];omega
  simp[encUr,this]
def encoded(l:List Int)(set:List UInt8):List UInt8:=l.flatMap (encPt set)
theorem Zss(set:LB)(c:Int):(encPt set c).length≤12:=by
 have h:=ZkG c;unfold encPt
 split
 ·have:((utf c).flatMap pct).length=3*(utf c).length:=by
   generalize utf c=q
   induction q with
   | nil=>rfl
   | cons x q ih=>simp only[Xk,Xa,Xf,ih,pct,Xn];omega
  omega
 ·simp;omega
theorem ZlI(l:LI)(c:Int)(set:LB):encoded (l++[c]) set=encoded l set++encPt set c:=by simp[encoded]
theorem Zc3(l:LI)(set:LB):(encoded l set).length≤12*l.length:=by
 induction l with
 | nil=>simp[encoded]
 | cons c l ih=>
  have h:=Zss set c;simp only[encoded,Xk,Xa,Xf]at *
  omega
abbrev ZgC:ByteArray:=⟨#[48,49,50,51,52,53,54,55,56,57,65,66,67,68,69,70]⟩
theorem Zo8:∀q:Fin 16,ZgC[q.val]'q.isLt=ZyW.getD q.val 0:=by decide
theorem ZkP{E:LB}{cnd:Bool}{u:LI}{m q r:Nat}(hml:m<u.length)(hc:cnd=true)(hq3:(u[m]/16).toNat=q)(hr3:(u[m]%16).toNat=r)(hq:q<16)(hr:r<16):E++encUr cnd (u.take (m+1))=(E++encUr cnd (u.take m))++[37,ZgC[q]'hq,ZgC[r]'hr]:=by rw[Z3 u m hml,encUr_snoc,if_pos hc,←Xr];have e1:=Zo8 ⟨q,hq⟩;have e2:=Zo8 ⟨r,hr⟩;simp only at e1 e2;rw[e1,e2];simp only[pct,hq3,hr3]
theorem Zst{E:LB}{cnd:Bool}{u:LI}{m:Nat}(hml:m<u.length)(hc:cnd=false):E++encUr cnd (u.take (m+1))=(E++encUr cnd (u.take m))++[toB u[m]]:=by rw[Z3 u m hml,encUr_snoc,if_neg (by simp[hc]),←Xr]
theorem ZxV(x:Int)(h0:0≤x)(h1:x≤255):∃q r:Nat,IntKind.i64.wrap (x.tdiv 16)=(q:Int)∧x.tmod 16=(r:Int)∧(q:Int)<16∧(r:Int)<16∧q<16∧r<16∧(x/16).toNat=q∧(x%16).toNat=r:=by
 have e1:x.tdiv 16=x/16:=Int.tdiv_eq_ediv_of_nonneg h0;have e2:x.tmod 16=x%16:=Int.tmod_eq_emod_of_nonneg h0
 refine⟨(x/16).toNat,(x%16).toNat,?_,?_,by omega,by omega,by omega,by omega,rfl,rfl⟩
 ·rw[e1,IntWalk.i64_left,IntWalk.wrap64_in (x/16) ⟨by omega,by omega⟩]
  omega
 ·rw[e2]
  omega
theorem Z5(v:Value)(l:LI)(set:BA)(w:World)(hv:IntsAt w v l)(hset:set.size≤maxLen)(hn:l.length≤1000000)(hp:∀c∈l,Pt c):Calls Tryz.prog 130 #[v,.string set] w fun e w'=>∃r:BA,e=.returned (.string r)∧tl r=encoded l (tl set)∧Nx w w':=by
 obtain⟨ao,cap,rfl,hlc,hcap,hnone,hsome⟩:=hv;unfold maxLen at hcap
 go_enter Tryz.func130,Tryz.ntmps130
 go_wp2
 go_loopw [6,7] (fun o i wr=>∃k:Nat,k≤l.length∧i=.int .i64 k∧ZfB wr w.heap.size o (encoded (l.take k) (tl set))∧Nx w wr) (fun _ i _=>l.length-(intOf i).toNat)
 case atStart=>exact⟨0,Xh _,rfl,World.ownsRow_nil _ _ _ _,Nx.rfl⟩
 case round=>
  obtain⟨k,hk,rfl,hown,hnx⟩:=hrel
  by_cases hlt:k<l.length
  ·obtain⟨a,ha⟩:=Zw hlt hnone
   subst ha;obtain⟨b,off,rfl,hr⟩:=hsome a rfl;have hck:=(hr.on hnx).cell hlt;have HPT:=Za (hp l[k] (Xg _));have HTK:=Za ((congrArg (encoded · (tl set)) (Z3 l k hlt)).trans (ZlI (l.take k) l[k] (tl set)))
   have hsz:(encoded (l.take k) (tl set)).length≤12000000:=by have:=Zc3 (l.take k) (tl set);have:=Xd k l;omega
   have HUL:=Za (ZkG l[k]);have HB:=Za hr;have HO:=Za hown;have HN:=Za hnx;clear hnone hsome hr hown hnx hp
   by_cases hin:among l[k] (tl set)=true
   ·have HEN:=Za (show encPt (tl set) l[k]=encUr true (utf l[k])by simp[encPt,encUr,hin])
    go_wp2_with fail
    refine(Zh1 _ _ HPT.out).mono ?_
    rintro e w1 ⟨u,rfl,hu,hn1⟩;have HO1:=Za (ZbP HO.out hn1);have HN1:=Za (HN.out.then hn1);have hck1:=(HB.out.on HN1.out).cell hlt;have HU:=Za hu;clear hu hn1 HO HN hck;obtain⟨ub,uoff,ucap,rfl,hulc,hucap,hur⟩:=HU.out.open_ (k:=0) (ZfF _);unfold maxLen at hucap;have HUC:=Za hur;clear hur
    go_wp2_with (go_at_call 175;refine(Za2 _ _ _ hset).mono ?_;rintro e w' ⟨rfl,rfl⟩)
    go_loopw [6,10] (fun o j wr=>∃m:Nat,m≤(utf l[k]).length∧j=.int .i64 m∧ZfB wr w.heap.size o (encoded (l.take k) (tl set)++encUr true ((utf l[k]).take m))∧Nx w wr∧RowAt 3 (Value.int .i64) wr ub uoff (utf l[k])) (fun _ j _=>(utf l[k]).length-(intOf j).toNat)
    case atStart=>exact⟨0,Xh _,rfl,by simpa [encUr]using HO1.out,HN1.out,HUC.out⟩
    case round=>
     clear HO1 HN1 HUC HU hck1;obtain⟨m,hm,rfl,hown,hnx,hur⟩:=hrel
     by_cases hml:m<(utf l[k]).length
     ·have hcm:=hur.cell hml
      have hck:=(HB.out.on hnx).cell hlt;have hby:=Ze4 HPT.out (Xg hml);have hz:=hnx.size;have hel:=Zgb true ((utf l[k]).take m)
      have hsz2:(encoded (l.take k) (tl set)++encUr true ((utf l[k]).take m)).length<1000000000000:=by have:=Xd m (utf l[k]);have:=HUL.out;simp only[Xa];omega
      have HO:=Za hown;have HN:=Za hnx;have HR:=Za hur;have HSZ:=Za hsz2;clear hown hnx hur hel hsz2;obtain⟨hby0,hby1⟩:=hby;obtain⟨q,r,hq,hr,hq1,hr1,hq2,hr2,hq3,hr3⟩:=ZxV _ hby0 hby1;have HQ3:=Za hq3;have HR3:=Za hr3;clear hq3 hr3;have HO2:=Za (World.ownsRow.alloc HO.out (.cells #[.int .u8 37,.int .u8 (ZgC[q]'hq2).toNat,.int .u8 (ZgC[r]'hr2).toNat] 5)).drew
      have HZ2:=Za (show w.heap.size≤(wr.alloc (.cells #[.int .u8 37,.int .u8 (ZgC[q]'hq2).toNat,.int .u8 (ZgC[r]'hr2).toNat] 5)).drew.heap.size by simp;omega)
      go_wp2
      go_region_held_law (fun w'=>w'.cell? ⟨ub,uoff+m,none⟩=some (.int .i64 (utf l[k])[m])) (first|exact hcm|exact(HR.out.on (Nx.rfl.alloc _)).cell hml|exact((HR.out.on (Nx.rfl.alloc _)).kp hk1 (by decide)).cell hml) ((refine Zgv ((wr.alloc (.cells #[.int .u8 37,.int .u8 (ZgC[q]'hq2).toNat,.int .u8 (ZgC[r]'hr2).toNat] 5)).drew) 37 (ZgC[q]'hq2) (ZgC[r]'hr2) rfl (.tmp 49) (.tmp 64) rfl w.heap.size u6 _ (by simp[Act.eval]) HO2.out wr.heap.size 0 3 (by simp[Act.eval]) (by simp) (by simp) (by simp) HSZ.out HZ2.out ?_;intro v' w1 ho1 hb1 hk1;have HO1:=Za ho1;clear ho1))
      all_goals
       have HF:=Za (show ZfB w1 w.heap.size v' (encoded (l.take k) (tl set)++encUr true ((utf l[k]).take (m+1)))∧Nx w w1∧RowAt 3 (Value.int .i64) w1 ub uoff (utf l[k])from⟨by rw[ZkP hml rfl HQ3.out HR3.out hq2 hr2];exact HO1.out,(HN.out.alloc _).drew.trans hb1,(HR.out.on (Nx.rfl.alloc _)).kp hk1 (by decide)⟩)
       clear hb1 hk1 HO1;go_wp2
       go_roundw
       case measure=>simp[intOf];omega
       case rel=>first|exact⟨m+1,by omega,by go_num,HF.out⟩|((repeat apply Exists.intro);exact⟨⟨m+1,by omega,by go_num,HF.out⟩,rfl⟩)
     ·go_wp2
      go_roundw
      case rel=>exact⟨k+1,by omega,by go_num,by rw[HTK.out,HEN.out];rw[Xb (l:=utf l[k]) (by omega)]at hown;exact hown,hnx⟩
      case measure=>simp[intOf];omega
   simp only[Bool.not_eq_true]at hin
   by_cases h32:l[k]<32
   ·have HEN:=Za (show encPt (tl set) l[k]=encUr true (utf l[k])by simp[encPt,encUr,h32])
    go_wp2_with fail
    refine(Zh1 _ _ HPT.out).mono ?_
    rintro e w1 ⟨u,rfl,hu,hn1⟩;have HO1:=Za (ZbP HO.out hn1);have HN1:=Za (HN.out.then hn1);have hck1:=(HB.out.on HN1.out).cell hlt;have HU:=Za hu;clear hu hn1 HO HN hck;obtain⟨ub,uoff,ucap,rfl,hulc,hucap,hur⟩:=HU.out.open_ (k:=0) (ZfF _);unfold maxLen at hucap;have HUC:=Za hur;clear hur
    go_wp2_with (go_at_call 175;refine(Za2 _ _ _ hset).mono ?_;rintro e w' ⟨rfl,rfl⟩)
    go_loopw [6,10] (fun o j wr=>∃m:Nat,m≤(utf l[k]).length∧j=.int .i64 m∧ZfB wr w.heap.size o (encoded (l.take k) (tl set)++encUr true ((utf l[k]).take m))∧Nx w wr∧RowAt 3 (Value.int .i64) wr ub uoff (utf l[k])) (fun _ j _=>(utf l[k]).length-(intOf j).toNat)
    case atStart=>exact⟨0,Xh _,rfl,by simpa [encUr]using HO1.out,HN1.out,HUC.out⟩
    case round=>
     clear HO1 HN1 HUC HU hck1;obtain⟨m,hm,rfl,hown,hnx,hur⟩:=hrel
     by_cases hml:m<(utf l[k]).length
     ·have hcm:=hur.cell hml
      have hck:=(HB.out.on hnx).cell hlt;have hby:=Ze4 HPT.out (Xg hml);have hz:=hnx.size;have hel:=Zgb true ((utf l[k]).take m)
      have hsz2:(encoded (l.take k) (tl set)++encUr true ((utf l[k]).take m)).length<1000000000000:=by have:=Xd m (utf l[k]);have:=HUL.out;simp only[Xa];omega
      have HO:=Za hown;have HN:=Za hnx;have HR:=Za hur;have HSZ:=Za hsz2;clear hown hnx hur hel hsz2;obtain⟨hby0,hby1⟩:=hby;obtain⟨q,r,hq,hr,hq1,hr1,hq2,hr2,hq3,hr3⟩:=ZxV _ hby0 hby1;have HQ3:=Za hq3;have HR3:=Za hr3;clear hq3 hr3;have HO2:=Za (World.ownsRow.alloc HO.out (.cells #[.int .u8 37,.int .u8 (ZgC[q]'hq2).toNat,.int .u8 (ZgC[r]'hr2).toNat] 5)).drew
      have HZ2:=Za (show w.heap.size≤(wr.alloc (.cells #[.int .u8 37,.int .u8 (ZgC[q]'hq2).toNat,.int .u8 (ZgC[r]'hr2).toNat] 5)).drew.heap.size by simp;omega)
      go_wp2
      go_region_held_law (fun w'=>w'.cell? ⟨ub,uoff+m,none⟩=some (.int .i64 (utf l[k])[m])) (first|exact hcm|exact(HR.out.on (Nx.rfl.alloc _)).cell hml|exact((HR.out.on (Nx.rfl.alloc _)).kp hk1 (by decide)).cell hml) ((refine Zgv ((wr.alloc (.cells #[.int .u8 37,.int .u8 (ZgC[q]'hq2).toNat,.int .u8 (ZgC[r]'hr2).toNat] 5)).drew) 37 (ZgC[q]'hq2) (ZgC[r]'hr2) rfl (.tmp 49) (.tmp 64) rfl w.heap.size u6 _ (by simp[Act.eval]) HO2.out wr.heap.size 0 3 (by simp[Act.eval]) (by simp) (by simp) (by simp) HSZ.out HZ2.out ?_;intro v' w1 ho1 hb1 hk1;have HO1:=Za ho1;clear ho1))
      all_goals
       have HF:=Za (show ZfB w1 w.heap.size v' (encoded (l.take k) (tl set)++encUr true ((utf l[k]).take (m+1)))∧Nx w w1∧RowAt 3 (Value.int .i64) w1 ub uoff (utf l[k])from⟨by rw[ZkP hml rfl HQ3.out HR3.out hq2 hr2];exact HO1.out,(HN.out.alloc _).drew.trans hb1,(HR.out.on (Nx.rfl.alloc _)).kp hk1 (by decide)⟩)
       clear hb1 hk1 HO1;go_wp2
       go_roundw
       case measure=>simp[intOf];omega
       case rel=>first|exact⟨m+1,by omega,by go_num,HF.out⟩|((repeat apply Exists.intro);exact⟨⟨m+1,by omega,by go_num,HF.out⟩,rfl⟩)
     ·go_wp2
      go_roundw
      case rel=>exact⟨k+1,by omega,by go_num,by rw[HTK.out,HEN.out];rw[Xb (l:=utf l[k]) (by omega)]at hown;exact hown,hnx⟩
      case measure=>simp[intOf];omega
   by_cases h126:126<l[k]
   ·have HEN:=Za (show encPt (tl set) l[k]=encUr true (utf l[k])by simp[encPt,encUr,h126])
    go_wp2_with fail
    refine(Zh1 _ _ HPT.out).mono ?_
    rintro e w1 ⟨u,rfl,hu,hn1⟩;have HO1:=Za (ZbP HO.out hn1);have HN1:=Za (HN.out.then hn1);have hck1:=(HB.out.on HN1.out).cell hlt;have HU:=Za hu;clear hu hn1 HO HN hck;obtain⟨ub,uoff,ucap,rfl,hulc,hucap,hur⟩:=HU.out.open_ (k:=0) (ZfF _);unfold maxLen at hucap;have HUC:=Za hur;clear hur
    go_wp2_with (go_at_call 175;refine(Za2 _ _ _ hset).mono ?_;rintro e w' ⟨rfl,rfl⟩)
    go_loopw [6,10] (fun o j wr=>∃m:Nat,m≤(utf l[k]).length∧j=.int .i64 m∧ZfB wr w.heap.size o (encoded (l.take k) (tl set)++encUr true ((utf l[k]).take m))∧Nx w wr∧RowAt 3 (Value.int .i64) wr ub uoff (utf l[k])) (fun _ j _=>(utf l[k]).length-(intOf j).toNat)
    case atStart=>exact⟨0,Xh _,rfl,by simpa [encUr]using HO1.out,HN1.out,HUC.out⟩
    case round=>
     clear HO1 HN1 HUC HU hck1;obtain⟨m,hm,rfl,hown,hnx,hur⟩:=hrel
     by_cases hml:m<(utf l[k]).length
     ·have hcm:=hur.cell hml
      have hck:=(HB.out.on hnx).cell hlt;have hby:=Ze4 HPT.out (Xg hml);have hz:=hnx.size;have hel:=Zgb true ((utf l[k]).take m)
      have hsz2:(encoded (l.take k) (tl set)++encUr true ((utf l[k]).take m)).length<1000000000000:=by have:=Xd m (utf l[k]);have:=HUL.out;simp only[Xa];omega
      have HO:=Za hown;have HN:=Za hnx;have HR:=Za hur;have HSZ:=Za hsz2;clear hown hnx hur hel hsz2;obtain⟨hby0,hby1⟩:=hby;obtain⟨q,r,hq,hr,hq1,hr1,hq2,hr2,hq3,hr3⟩:=ZxV _ hby0 hby1;have HQ3:=Za hq3;have HR3:=Za hr3;clear hq3 hr3;have HO2:=Za (World.ownsRow.alloc HO.out (.cells #[.int .u8 37,.int .u8 (ZgC[q]'hq2).toNat,.int .u8 (ZgC[r]'hr2).toNat] 5)).drew
      have HZ2:=Za (show w.heap.size≤(wr.alloc (.cells #[.int .u8 37,.int .u8 (ZgC[q]'hq2).toNat,.int .u8 (ZgC[r]'hr2).toNat] 5)).drew.heap.size by simp;omega)
      go_wp2
      go_region_held_law (fun w'=>w'.cell? ⟨ub,uoff+m,none⟩=some (.int .i64 (utf l[k])[m])) (first|exact hcm|exact(HR.out.on (Nx.rfl.alloc _)).cell hml|exact((HR.out.on (Nx.rfl.alloc _)).kp hk1 (by decide)).cell hml) ((refine Zgv ((wr.alloc (.cells #[.int .u8 37,.int .u8 (ZgC[q]'hq2).toNat,.int .u8 (ZgC[r]'hr2).toNat] 5)).drew) 37 (ZgC[q]'hq2) (ZgC[r]'hr2) rfl (.tmp 49) (.tmp 64) rfl w.heap.size u6 _ (by simp[Act.eval]) HO2.out wr.heap.size 0 3 (by simp[Act.eval]) (by simp) (by simp) (by simp) HSZ.out HZ2.out ?_;intro v' w1 ho1 hb1 hk1;have HO1:=Za ho1;clear ho1))
      all_goals
       have HF:=Za (show ZfB w1 w.heap.size v' (encoded (l.take k) (tl set)++encUr true ((utf l[k]).take (m+1)))∧Nx w w1∧RowAt 3 (Value.int .i64) w1 ub uoff (utf l[k])from⟨by rw[ZkP hml rfl HQ3.out HR3.out hq2 hr2];exact HO1.out,(HN.out.alloc _).drew.trans hb1,(HR.out.on (Nx.rfl.alloc _)).kp hk1 (by decide)⟩)
       clear hb1 hk1 HO1;go_wp2
       go_roundw
       case measure=>simp[intOf];omega
       case rel=>first|exact⟨m+1,by omega,by go_num,HF.out⟩|((repeat apply Exists.intro);exact⟨⟨m+1,by omega,by go_num,HF.out⟩,rfl⟩)
     ·go_wp2
      go_roundw
      case rel=>exact⟨k+1,by omega,by go_num,by rw[HTK.out,HEN.out];rw[Xb (l:=utf l[k]) (by omega)]at hown;exact hown,hnx⟩
      case measure=>simp[intOf];omega
   ·have HEN:=Za (show encPt (tl set) l[k]=encUr false (utf l[k])by simp[encPt,encUr,hin,h32,h126])
    go_wp2_with fail
    refine(Zh1 _ _ HPT.out).mono ?_
    rintro e w1 ⟨u,rfl,hu,hn1⟩;have HO1:=Za (ZbP HO.out hn1);have HN1:=Za (HN.out.then hn1);have hck1:=(HB.out.on HN1.out).cell hlt;have HU:=Za hu;clear hu hn1 HO HN hck;obtain⟨ub,uoff,ucap,rfl,hulc,hucap,hur⟩:=HU.out.open_ (k:=0) (ZfF _);unfold maxLen at hucap;have HUC:=Za hur;clear hur
    go_wp2_with (go_at_call 175;refine(Za2 _ _ _ hset).mono ?_;rintro e w' ⟨rfl,rfl⟩)
    go_loopw [6,10] (fun o j wr=>∃m:Nat,m≤(utf l[k]).length∧j=.int .i64 m∧ZfB wr w.heap.size o (encoded (l.take k) (tl set)++encUr false ((utf l[k]).take m))∧Nx w wr∧RowAt 3 (Value.int .i64) wr ub uoff (utf l[k])) (fun _ j _=>(utf l[k]).length-(intOf j).toNat)
    case atStart=>exact⟨0,Xh _,rfl,by simpa [encUr]using HO1.out,HN1.out,HUC.out⟩
    case round=>
     clear HO1 HN1 HUC HU hck1;obtain⟨m,hm,rfl,hown,hnx,hur⟩:=hrel
     by_cases hml:m<(utf l[k]).length
     ·have hcm:=hur.cell hml
      have hck:=(HB.out.on hnx).cell hlt;have hby:=Ze4 HPT.out (Xg hml);have hz:=hnx.size;have hel:=Zgb false ((utf l[k]).take m)
      have hsz2:(encoded (l.take k) (tl set)++encUr false ((utf l[k]).take m)).length<1000000000000:=by have:=Xd m (utf l[k]);have:=HUL.out;simp only[Xa];omega
      have HO:=Za hown;have HN:=Za hnx;have HR:=Za hur;have HSZ:=Za hsz2;clear hown hnx hur hel hsz2;obtain⟨hby0,hby1⟩:=hby
      go_wp2_with (at_builtin;go_must (refine Zbg wr (utf l[k])[m] rfl _ _ rfl w.heap.size _ _ rfl HO.out rfl hby0 hby1 (Nat.lt_of_lt_of_le HSZ.out (by decide)) hz ?_;intro v' w1 ho1 hb1 hk1;have HO1:=Za ho1;clear ho1))
      go_roundw
      case rel=>exact⟨m+1,by omega,by go_num,by rw[Zst hml rfl];exact HO1.out,HN.out.trans hb1,HR.out.kp hk1 (by decide)⟩
      case measure=>simp[intOf];omega
     ·go_wp2
      go_roundw
      case rel=>exact⟨k+1,by omega,by go_num,by rw[HTK.out,HEN.out];rw[Xb (l:=utf l[k]) (by omega)]at hown;exact hown,hnx⟩
      case measure=>simp[intOf];omega
  ·rw[Xb (by omega)]at hown
   have hcv:=Zdk hown;have HO:=Za hown;clear hown;go_wp2;go_ret;exact⟨_,rfl,tl_mk _,hnx⟩
def names6:List ByteArray:=[⟨#[104,116,116,112]⟩,⟨#[104,116,116,112,115]⟩,⟨#[119,115]⟩,⟨#[119,115,115]⟩,⟨#[102,116,112]⟩,⟨#[102,105,108,101]⟩]
def ZeF:List Int:=[80,443,80,443,21,-1]
def Zg9:List ByteArray→List Int→List UInt8→Int×Bool
 | a::r,p::q,s=>if tl a=s then(p,true)else Zg9 r q s
 | _,_,_=>(-1,false)
def ZdA(s:List UInt8):Int×Bool:=Zg9 names6 ZeF s
theorem Zns(k:Nat)(hk:k<6)(s:LB):Zg9 (names6.drop k) (ZeF.drop k) s=if tl (names6[k]'hk)=s then(ZeF[k]'hk,true)else Zg9 (names6.drop (k+1)) (ZeF.drop (k+1)) s:=by rw[Xc (l:=names6) hk,Xc (l:=ZeF) hk,Zg9]
theorem Znt{α:Type}{e:TypeId}{f:α→Value}(w:World)(l:List α)(cs:Array Value)(hc:cs.toList=l.map f):RowAt e f (w.alloc (.cells cs e)) w.heap.size 0 l:=by
 refine⟨cs,_,heap_alloc_new w _,fun i hi=>?_⟩
 rw[Xj,←Array.getElem?_toList,hc]
 simp[Xe hi]
theorem Zo9(s:BA)(w:World):Calls Tryz.prog 206 #[.string s] w fun e w'=>e=.returned (.tuple #[.int .i64 (ZdA (tl s)).1,.bool (ZdA (tl s)).2])∧Nx w w':=by
 go_enter Tryz.func206,Tryz.ntmps206
 go_wp2
 have HR1:=Za (show ∀wx o2,RowAt 9 Value.string ((wx.alloc (.cells #[.string ⟨#[104,116,116,112]⟩,.string ⟨#[104,116,116,112,115]⟩,.string ⟨#[119,115]⟩,.string ⟨#[119,115,115]⟩,.string ⟨#[102,116,112]⟩,.string ⟨#[102,105,108,101]⟩] 9)).alloc o2) wx.heap.size 0 names6 from fun wx o2=>(Znt wx names6 _ rfl).on (Nx.rfl.alloc _))
 have HR2:=Za (show ∀wx,RowAt 3 (Value.int .i64) (wx.alloc (.cells #[.int .i64 80,.int .i64 443,.int .i64 80,.int .i64 443,.int .i64 21,.int .i64 (-1)] 3)) wx.heap.size 0 ZeF from fun wx=>Znt wx ZeF _ rfl)
 go_loop [6] (fun i=>∃k:Nat,k≤6∧i=.int .i64 k∧ZdA (tl s)=Zg9 (names6.drop k) (ZeF.drop k) (tl s)) (fun i=>6-(intOf i).toNat)
 case atStart=>exact⟨0,by omega,rfl,rfl⟩
 case round=>
  obtain⟨k,hk,rfl,hE⟩:=hrel
  by_cases hlt:k<6
  ·have c1:=(HR1.out w (.cells #[.int .i64 80,.int .i64 443,.int .i64 80,.int .i64 443,.int .i64 21,.int .i64 (-1)] 3)).cell (i:=k) hlt
   have c2:=(HR2.out (w.alloc (.cells #[.string ⟨#[104,116,116,112]⟩,.string ⟨#[104,116,116,112,115]⟩,.string ⟨#[119,115]⟩,.string ⟨#[119,115,115]⟩,.string ⟨#[102,116,112]⟩,.string ⟨#[102,105,108,101]⟩] 9))).cell (i:=k) hlt;simp only[Xj]at c1 c2
   rw[show(w.alloc (.cells #[.string ⟨#[104,116,116,112]⟩,.string ⟨#[104,116,116,112,115]⟩,.string ⟨#[119,115]⟩,.string ⟨#[119,115,115]⟩,.string ⟨#[102,116,112]⟩,.string ⟨#[102,105,108,101]⟩] 9)).heap.size=w.heap.size+1 from by simp]at c2
   rw[Zns k hlt]at hE;generalize (names6[k]'hlt)=nm at *;generalize (ZeF[k]'hlt)=pt at *
   by_cases he:tl nm=tl s
   ·have HE:=Za (hE.trans (if_pos he))
    have he':(nm.toList==s.toList)=true:=by rw[ByteArray.toList_eq,ByteArray.toList_eq];show(tl nm==tl s)=true;rw[he];simp
    clear hE he;go_wp2;go_ret2
    exact⟨by rw[HE.out];rfl,(Nx.rfl.alloc _).alloc _⟩
   ·have HE:=Za (hE.trans (if_neg he))
    have he':(nm.toList==s.toList)=false:=by rw[ByteArray.toList_eq,ByteArray.toList_eq];show(tl nm==tl s)=false;simpa using he
    clear hE he;go_wp2
    go_round
    case rel=>exact⟨k+1,by omega,by go_num,HE.out⟩
    case measure=>simp[intOf];omega
  ·have HE:=Za (show ZdA (tl s)=(-1,false)by rw[hE,Xi (by show 6≤k;omega)];rfl)
   clear hE;go_wp2;go_ret2
   exact⟨by rw[HE.out];rfl,(Nx.rfl.alloc _).alloc _⟩
def Zg(s:List UInt8):Bool:=(ZdA s).2
theorem ZI(s:BA)(w:World):Calls Tryz.prog 159 #[.string s] w fun e w'=>e=.returned (.bool (Zg (tl s)))∧Nx w w':=by
 go_enter Tryz.func159,Tryz.ntmps159
 go_wp2_with fail
 refine(Zo9 _ _).mono ?_
 rintro e w1 ⟨rfl,hn1⟩;go_wp2;go_ret;exact⟨rfl,hn1⟩
def Zl(s:List UInt8):ByteArray:=if Zg s then⟨#[47,92]⟩else⟨#[47]⟩
theorem Zd9(s:LB):(Zl s).size≤2:=by unfold Zl;split<;>decide
theorem Zea(s:BA)(w:World):Calls Tryz.prog 176 #[.string s] w fun e w'=>e=.returned (.string (Zl (tl s)))∧Nx w w':=by
 generalize hq:Zg (tl s)=q
 have HF:=Za (show Zl (tl s)=if q then⟨#[47,92]⟩else⟨#[47]⟩by unfold Zl;rw[hq])
 have HQ:=Za hq;clear hq
 cases q
 ·go_enter Tryz.func176,Tryz.ntmps176
  go_wp2_with fail
  refine(ZI _ _).mono ?_
  rintro e w1 ⟨rfl,hn1⟩;rw[HQ.out];go_wp2;go_ret;exact⟨Znf HF.out.symm,hn1⟩
 ·go_enter Tryz.func176,Tryz.ntmps176
  go_wp2_with fail
  refine(ZI _ _).mono ?_
  rintro e w1 ⟨rfl,hn1⟩;rw[HQ.out];go_wp2;go_ret;exact⟨Znf HF.out.symm,hn1⟩
def ZB(l:List Int)(i:Nat)(s:List UInt8):Bool:=match l[i]? with|none=>false|some c=>among c (tl (Zl s))
theorem Zcg(v:Value)(l:LI)(i:Nat)(s:BA)(w:World)(hv:IntsAt w v l):Calls Tryz.prog 183 #[v,.int .i64 i,.string s] w fun e w'=>e=.returned (.bool (ZB l i (tl s)))∧Nx w w':=by
 have hsz:=Zd9 (tl s);obtain⟨q,hq⟩:∃q,Zl (tl s)=q:=⟨_,rfl⟩;rw[hq]at hsz;have HQ:=Za hq;clear hq
 by_cases hlt:i<l.length
 ·have HF:=Za (show ZB l i (tl s)=among l[i] (tl q)by unfold ZB;rw[Xe hlt,HQ.out])
  obtain⟨b,off,cap,rfl,hlc,hcap,hr⟩:=hv.open_ hlt;unfold maxLen at hcap;have HR:=Za hr;clear hr hv
  go_enter Tryz.func183,Tryz.ntmps183
  go_wp2_with fail
  refine(Zea _ _).mono ?_
  rintro e w1 ⟨rfl,hn1⟩;rw[HQ.out];have hck:=(HR.out.on hn1).cell hlt
  go_wp2_with (go_at_call 175;refine(Za2 _ _ _ (Ze (by omega))).mono ?_;rintro e w' ⟨rfl,rfl⟩)
  go_ret;exact⟨Zj HF.out.symm,hn1⟩
 ·have HF:=Za (show ZB l i (tl s)=false by unfold ZB;rw[List.getElem?_eq_none (by omega)])
  obtain⟨ao,cap,rfl,hlc,hcap,_,_⟩:=hv;unfold maxLen at hcap
  go_enter Tryz.func183,Tryz.ntmps183
  go_wp2_with fail
  refine(Zea _ _).mono ?_
  rintro e w1 ⟨rfl,hn1⟩;rw[HQ.out];go_wp2;go_ret;exact⟨Zj HF.out.symm,hn1⟩
def ZN(inb:Bool)(i:Nat):List Int→Int
 | []=>-1
 | c::r=>if c=91 then ZN true (i+1) r else if c=93 then ZN false (i+1) r else if c=58∧inb=false then(i:Int)else ZN inb (i+1) r
def colon(l:List Int):Int:=ZN false 0 l
theorem ZlJ(inb:Bool)(l:LI)(k:Nat)(h:k<l.length):ZN inb k (l.drop k)=if l[k]=91 then ZN true (k+1) (l.drop (k+1))else if l[k]=93 then ZN false (k+1) (l.drop (k+1))else if l[k]=58∧inb=false then(k:Int)else ZN inb (k+1) (l.drop (k+1)):=by rw[Xc h,ZN]
theorem ZlK(v:Value)(l:LI)(w:World)(hv:IntsAt w v l):Calls Tryz.prog 180 #[v] w fun e w'=>e=.returned (.int .i64 (colon l))∧w=w':=by
 obtain⟨ao,cap,rfl,hlc,hcap,hnone,hsome⟩:=hv;unfold maxLen at hcap
 go_enter Tryz.func180,Tryz.ntmps180
 go_wp2
 go_loop [3,4] (fun x i=>∃(k:Nat) (inb:Bool),k≤l.length∧i=.int .i64 k∧x=.bool inb∧colon l=ZN inb k (l.drop k)) (fun _ i=>l.length-(intOf i).toNat)
 case atStart=>exact⟨0,false,Xh _,rfl,rfl,rfl⟩
 case round=>
  obtain⟨k,inb,hk,rfl,rfl,hE⟩:=hrel
  by_cases hlt:k<l.length
  ·obtain⟨a,ha⟩:=Zw hlt hnone
   subst ha;obtain⟨b,off,rfl,hr⟩:=hsome a rfl;have hck:=hr.cell hlt;clear hnone hsome hr;rw[ZlJ inb l k hlt]at hE;generalize l[k]=c at *
   by_cases h1:c=91
   ·subst h1
    have HE:=Za (hE.trans (if_pos rfl));clear hE;go_wp2
    go_round
    case rel=>exact⟨k+1,true,by omega,by go_num,rfl,HE.out⟩
    case measure=>simp[intOf];omega
   rw[if_neg h1]at hE
   have h1':(c==91)=false:=by simp[h1]
   by_cases h2:c=93
   ·subst h2
    have HE:=Za (hE.trans (if_pos rfl));clear hE h1;go_wp2
    go_round
    case rel=>exact⟨k+1,false,by omega,by go_num,rfl,HE.out⟩
    case measure=>simp[intOf];omega
   rw[if_neg h2]at hE
   have h2':(c==93)=false:=by simp[h2]
   by_cases h3:c=58
   ·subst h3
    cases inb
    ·have HE:=Za (hE.trans (if_pos ⟨rfl,rfl⟩))
     clear hE h1 h2;go_wp2;go_ret;exact⟨Z0 HE.out.symm,rfl⟩
    ·have HE:=Za (hE.trans (if_neg (by simp)))
     clear hE h1 h2;go_wp2
     go_round
     case rel=>exact⟨k+1,true,by omega,by go_num,rfl,HE.out⟩
     case measure=>simp[intOf];omega
   ·have HE:=Za (hE.trans (if_neg (fun h=>h3 h.1)))
    have h3':(c==58)=false:=by simp[h3]
    clear hE h1 h2 h3;go_wp2
    go_round
    case rel=>exact⟨k+1,inb,by omega,by go_num,rfl,HE.out⟩
    case measure=>simp[intOf];omega
  ·have HE:=Za (show colon l=-1 by rw[hE,Xi (by omega)];rfl)
   clear hE;go_wp2;go_ret;exact⟨Z0 HE.out.symm,rfl⟩
def letter(l:List Int):Bool:=match l with | [a,b]=>alpha a&&(b==58||b==124)|_=>false
theorem Zbw(v:Value)(l:LI)(w:World)(hv:IntsAt w v l):Calls Tryz.prog 219 #[v] w fun e w'=>e=.returned (.bool (letter l))∧w=w':=by
 by_cases h2:l.length=2
 ·match l,h2 with
  | [x,y],_=>
   obtain⟨b,off,cap,rfl,hlc,hcap,hr⟩:=hv.open_ (k:=0) (by simp)
   have c0:=hr.cell (i:=0) (by simp)
   have c1:=hr.cell (i:=1) (by simp)
   simp only[Nat.add_zero,Xp,Xq]at c0 c1;unfold maxLen at hcap;clear hr hv hlc
   have HF:=Za (show letter [x,y]=(alpha x&&(y==58||y==124))from rfl);generalize hax:alpha x=ax at *;have HAX:=Za hax;clear hax;simp only[Xf,Xn,Xj,Nat.reduceAdd]
   cases ax
   ·go_enter Tryz.func219,Tryz.ntmps219
    go_wp2_with (go_at_call 210;refine(ZcX _ _).mono ?_;rintro e w' ⟨rfl,rfl⟩;rw[HAX.out])
    go_ret
    exact⟨Zj (by rw[HF.out];rfl),rfl⟩
   ·by_cases hy:y=58
    ·subst hy
     go_enter Tryz.func219,Tryz.ntmps219
     go_wp2_with (go_at_call 210;refine(ZcX _ _).mono ?_;rintro e w' ⟨rfl,rfl⟩;rw[HAX.out])
     go_ret
     exact⟨Zj (by rw[HF.out];rfl),rfl⟩
    ·have hy':(y==58)=false:=by simp[hy]
     clear hy
     go_enter Tryz.func219,Tryz.ntmps219
     go_wp2_with (go_at_call 210;refine(ZcX _ _).mono ?_;rintro e w' ⟨rfl,rfl⟩;rw[HAX.out])
     all_goals go_ret
     all_goals exact⟨Zj (by rw[HF.out];simp[hy']),rfl⟩
 ·have HF:=Za (show letter l=false by unfold letter;split;simp at h2;rfl)
  obtain⟨ao,cap,rfl,hlc,hcap,_,_⟩:=hv;unfold maxLen at hcap
  have h2':((l.length:Int) != 2)=true:=by simp only[bne_iff_ne,ne_eq];omega
  clear h2
  go_enter Tryz.func219,Tryz.ntmps219
  go_wp2;go_ret;exact⟨Zj HF.out.symm,rfl⟩
theorem ZaO(l:LB):(Zk l).length≤l.length:=by
 generalize hn:l.length=n
 induction n using Nat.strongRecOn generalizing l with
 | ind n ih=>
  cases l with
  | nil=>simp[Zk]
  | cons c r=>
   obtain⟨h1,h2⟩:=Zo6 (c::r) 1 (whole [c]) (by simp)
   have h3:=ih (r.drop ((grow (c::r) 1 (whole [c])).1-1)).length (by rw[Xl];simp at hn;omega) _ rfl
   rw[Zk];rw[Xl]at h3;simp only[Xf]at hn ⊢
   omega
def drive(s:List UInt8):Bool:=letter (Zk s)&&((Zk s)[1]?).getD 0==58
theorem ZjJ(s:BA)(w:World)(hs:s.size≤1000000):Calls Tryz.prog 252 #[.string s] w fun e w'=>e=.returned (.bool (drive (tl s)))∧Nx w w':=by
 go_enter Tryz.func252,Tryz.ntmps252
 go_wp2_with fail
 refine(Za5 _ _ hs).mono ?_
 rintro e w1 ⟨v,rfl,hv,hn1⟩;have HD:=Za (show drive (tl s)=(letter (Zk (tl s))&&((Zk (tl s))[1]?).getD 0==58)from rfl);generalize Zk (tl s)=l at *;have HV:=Za hv
 cases hlt:letter l
 ·go_wp2_with fail
  refine(Zbw _ l _ HV.out).mono ?_
  rintro e w' ⟨rfl,rfl⟩;rw[hlt];go_wp2;go_ret
  exact⟨Zj (by rw[HD.out,hlt];rfl),hn1⟩
 ·match l,hlt,hv,HV,HD with
  | [x,y],hlt,hv,HV,HD=>
   obtain⟨b,off,cap,rfl,hlc,hcap,hr⟩:=hv.open_ (k:=0) (by simp)
   have c1:=hr.cell (i:=1) (by simp)
   simp only[Xp,Xq]at c1;unfold maxLen at hcap;clear hr hv hlc;go_wp2_with fail
   refine(Zbw _ _ _ HV.out).mono ?_
   rintro e w' ⟨rfl,rfl⟩;rw[hlt];go_wp2
   all_goals go_ret
   all_goals exact⟨Zj (by rw[HD.out,hlt];simp),hn1⟩
def Zvd(special:Bool):ByteArray:=if special then⟨#[32,34,35,60,62,39]⟩else⟨#[32,34,35,60,62]⟩
theorem Znu(v:Value)(l:LI)(s:BA)(w:World)(hv:IntsAt w v l)(hn:l.length≤1000000)(hp:∀c∈l,Pt c):Calls Tryz.prog 185 #[v,.string s] w fun e w'=>∃r:BA,e=.returned (.string r)∧tl r=encoded l (tl (Zvd (Zg (tl s))))∧Nx w w':=by
 generalize hq:Zg (tl s)=q;have HQ:=Za hq;clear hq
 cases q
 ·go_enter Tryz.func185,Tryz.ntmps185
  go_wp2_with fail
  refine(ZI _ _).mono ?_
  rintro e w1 ⟨rfl,hn1⟩;rw[HQ.out];go_wp2_with fail
  refine(Z5 _ l _ _ (hv.on hn1) (Ze (by decide)) hn hp).mono ?_
  rintro e w2 ⟨r,rfl,hr,hn2⟩;go_wp2;go_ret;exact⟨_,rfl,hr,hn1.then hn2⟩
 ·go_enter Tryz.func185,Tryz.ntmps185
  go_wp2_with fail
  refine(ZI _ _).mono ?_
  rintro e w1 ⟨rfl,hn1⟩;rw[HQ.out];go_wp2_with fail
  refine(Z5 _ l _ _ (hv.on hn1) (Ze (by decide)) hn hp).mono ?_
  rintro e w2 ⟨r,rfl,hr,hn2⟩;go_wp2;go_ret;exact⟨_,rfl,hr,hn1.then hn2⟩
def cands:List (List UInt8×Int):=[([46],1),([46,46],2),([46,37,50,101],2),([37,50,101],1),([37,50,101,46],2),([37,50,101,37,50,101],2)]
def Zc4:List (List UInt8×Int)→List UInt8→Int
 | [],_=>0
 | (a,n)::r,t=>if t=a then n else Zc4 r t
def dots(s:List UInt8):Int:=Zc4 cands (lower s)
def Zzs:List ByteArray:=[⟨#[46]⟩,⟨#[37,50,101]⟩]
def Zha(j:Nat):List UInt8×Int:=cands.getD j ([],0)
def ZhH(i:Nat):ByteArray:=Zzs.getD i ⟨#[]⟩
theorem Zik(j:Nat)(hj:j<6)(t:LB):Zc4 (cands.drop j) t=if t=(Zha j).1 then(Zha j).2 else Zc4 (cands.drop (j+1)) t:=by
 have e:Zha j=cands[j]'hj:=by unfold Zha;rw[Xo,Xe (show j<cands.length from hj)];rfl
 rw[e,Xc (l:=cands) hj,Zc4]
theorem Zvv:∀i:Fin 2,Zha (3*i.val)=(tl (ZhH i.val),1):=by decide
theorem Zvw:∀i k:Fin 2,Zha (3*i.val+1+k.val)=(tl (ZhH i.val)++tl (ZhH k.val),2):=by decide
theorem Zsu(i:Nat)(h:i<2):Zha (3*i)=(tl (ZhH i),1):=Zvv ⟨i,h⟩
theorem Zsv(i k:Nat)(h:i<2)(h2:k<2):Zha (3*i+1+k)=(tl (ZhH i)++tl (ZhH k),2):=Zvw ⟨i,h⟩ ⟨k,h2⟩
theorem Znv(i:Nat)(h:i<Zzs.length):Zzs[i]=ZhH i:=by unfold ZhH;rw[Xo,Xe h];rfl
theorem ZyX{a b:BA}(h:tl a=tl b):(a.toList==b.toList)=true:=by rw[ByteArray.toList_eq,ByteArray.toList_eq];show(tl a==tl b)=true;rw[h];simp
theorem ZyY{a b:BA}(h:¬tl a=tl b):(a.toList==b.toList)=false:=by rw[ByteArray.toList_eq,ByteArray.toList_eq];show(tl a==tl b)=false;simpa using h
theorem Zpa:∀i:Fin 2,(ZhH i.val).size≤3:=by decide
theorem Zpb(s:BA)(w:World)(hs:s.size≤1000000):Calls Tryz.prog 217 #[.string s] w fun e w'=>e=.returned (.int .i64 (dots (tl s)))∧Nx w w':=by
 go_enter Tryz.func217,Tryz.ntmps217
 go_wp2_with fail
 refine(ZeA _ _ hs).mono ?_
 rintro e w1 ⟨t,rfl,ht,hn1⟩
 have HD:=Za (show dots (tl s)=Zc4 cands (tl t)by unfold dots;rw[ht])
 clear ht;have HN1:=Za hn1;clear hn1;go_wp2;have HR:=Za (Znt w1 Zzs #[.string ⟨#[46]⟩,.string ⟨#[37,50,101]⟩] rfl:RowAt 9 Value.string _ _ _ _);have HN2:=Za (HN1.out.alloc (.cells #[.string ⟨#[46]⟩,.string ⟨#[37,50,101]⟩] 9))
 go_loopw [5] (fun x wr=>∃i:Nat,i≤2∧x=.int .i64 i∧dots (tl s)=Zc4 (cands.drop (3*i)) (tl t)∧Nx (w1.alloc (.cells #[.string ⟨#[46]⟩,.string ⟨#[37,50,101]⟩] 9)) wr) (fun x _=>2-(intOf x).toNat)
 case atStart=>exact⟨0,by omega,rfl,HD.out,Nx.rfl⟩
 case round=>
  clear HD;obtain⟨i,hi,rfl,hE,hnx⟩:=hrel;have HNX:=Za hnx;clear hnx
  by_cases hlt:i<2
  ·have ci:=((HR.out.on HNX.out).cell (i:=i) hlt).trans (congrArg (fun z=>some (Value.string z)) (Znv i hlt))
   simp only[Xj]at ci
   rw[Zik (3*i) (by omega),Zsu i hlt]at hE
   have hsi:=Zpa ⟨i,hlt⟩;simp only at hsi
   by_cases he:tl t=tl (ZhH i)
   ·have HE:=Za (hE.trans (if_pos he))
    have he':=ZyX he;clear hE he;go_wp2;go_ret;exact⟨Z0 HE.out.symm,HN2.out.then HNX.out⟩
   ·have HE:=Za (hE.trans (if_neg he))
    have he':=ZyY he;clear hE he;go_wp2;clear ci he'
    go_loopw [6] (fun y wr=>∃k:Nat,k≤2∧y=.int .i64 k∧dots (tl s)=Zc4 (cands.drop (3*i+1+k)) (tl t)∧Nx (w1.alloc (.cells #[.string ⟨#[46]⟩,.string ⟨#[37,50,101]⟩] 9)) wr) (fun y _=>2-(intOf y).toNat)
    case atStart=>exact⟨0,by omega,rfl,HE.out,HNX.out⟩
    case round=>
     clear HE HNX;obtain⟨k,hk,rfl,hE,hnx⟩:=hrel;have HNX:=Za hnx;clear hnx
     by_cases hlt2:k<2
     ·have ci:=((HR.out.on HNX.out).cell (i:=i) hlt).trans (congrArg (fun z=>some (Value.string z)) (Znv i hlt))
      have ck:=((HR.out.on HNX.out).cell (i:=k) hlt2).trans (congrArg (fun z=>some (Value.string z)) (Znv k hlt2))
      simp only[Xj]at ci ck
      rw[Zik (3*i+1+k) (by omega),Zsv i k hlt hlt2]at hE
      have hsk:=Zpa ⟨k,hlt2⟩;simp only at hsk;rw[←tl_append]at hE
      by_cases he2:tl t=tl (ZhH i++ZhH k)
      ·have HE:=Za (hE.trans (if_pos he2))
       have he2':=ZyX he2;clear hE he2;go_wp2
       go_region
       all_goals go_wp2
       all_goals go_ret
       all_goals exact⟨Z0 HE.out.symm,(HN2.out.then HNX.out).drew⟩
      ·have HE:=Za (hE.trans (if_neg he2))
       have he2':=ZyY he2;clear hE he2;go_wp2
       go_region
       all_goals go_wp2
       all_goals go_roundw
       case rel=>exact⟨k+1,by omega,by go_num,HE.out,HNX.out.drew⟩
       case measure=>simp[intOf];omega
     ·have HE:=Za (show dots (tl s)=Zc4 (cands.drop (3*(i+1))) (tl t)by rw[hE,show 3*i+1+k=3*(i+1)by omega])
      clear hE;go_wp2
      go_roundw
      case rel=>exact⟨i+1,by omega,by go_num,HE.out,HNX.out⟩
      case measure=>simp[intOf];omega
  ·have HE:=Za (show dots (tl s)=0 by rw[hE,Xi (by show 6≤3*i;omega)];rfl)
   clear hE;go_wp2;go_ret;exact⟨Z0 HE.out.symm,HN2.out.then HNX.out⟩
theorem Zpc{size v k:Int}(h:wtest size (v*64^0) (v*64^0+64^0-1) k=true):Pt v:=by
 unfold wtest at h;simp only[Xm,decide_eq_true_eq,Int.pow_zero,Int.mul_one]at h
 have hr:128≤(room size k).1∧(room size k).2≤1114111:=by
  unfold room
  split
  ·exact⟨by decide,by decide⟩
  split
  ·exact⟨by decide,by decide⟩
  split
  ·exact⟨by decide,by decide⟩
  ·exact⟨by decide,by decide⟩
 unfold Pt
 omega
theorem Zpd(t:LB)(h:(whole t).2.1=true):Pt (whole t).1:=by
 cases t with
 | nil=>simp[whole]at h
 | cons b r=>
  rw[whole]at h ⊢
  split at h
  ·rename_i hc
   rw[if_pos hc];have:=bb b;unfold Pt;simp only
   omega
  ·rename_i hc
   rw[if_neg hc]
   split at h
   ·cases h
   ·rename_i hc2
    rw[if_neg hc2]
    split at h
    ·cases h
    ·rename_i hc3
     rw[if_neg hc3];simp only[Xm,beq_iff_eq]at h ⊢;obtain⟨h1,h2⟩:=h
     rw[show((ZbD (b.toNat:Int)).1-((r.length:Int)+1)).toNat=0 by omega]at h1
     unfold wok at h1;simp only[Xm,Bool.or_eq_true]at h1;rcases h1.2 with h3|h3
     ·exact Zpc h3
     ·exact Zpc h3
theorem grow_pt(l:LB)(n:Nat)(x:Int×Bool×Bool)(hx:x.2.1=true→Pt x.1)(h:(grow l n x).2.2=true):Pt (grow l n x).2.1:=by
 induction n,x using grow.induct (l:=l)with
 | case1 n x h1 h2=>rw[grow,if_pos h1,if_pos h2]at h ⊢;exact hx h
 | case2 n x h1 h2 ih=>rw[grow,if_pos h1,if_neg h2]at h ⊢;exact ih (Zpd _) h
 | case3 n x h1=>rw[grow,if_neg h1]at h ⊢;exact hx h
theorem Zct(l:LB):∀c∈Zk l,Pt c:=by
 generalize hn:l.length=n
 induction n using Nat.strongRecOn generalizing l with
 | ind n ih=>
  cases l with
  | nil=>simp[Zk]
  | cons c r=>
   rw[Zk];intro x hx;rcases List.mem_cons.1 hx with rfl|hx
   ·split
    ·rename_i h
     exact grow_pt _ _ _ (Zpd _) h
    ·exact⟨by decide,by decide⟩
   ·exact ih (r.drop ((grow (c::r) 1 (whole [c])).1-1)).length (by rw[Xl];simp at hn;omega) _ rfl x hx
end Go.Proofs.YtchkhibgbnhjpabGreatDoor
