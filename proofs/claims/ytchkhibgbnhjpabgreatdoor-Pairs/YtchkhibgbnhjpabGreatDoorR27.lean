import Derived.Test.YtchkhibgbnhjpabGreatDoorR25
import Derived.Deep.CutBlock
import Derived.Deep.CutRange
open List renaming length_nil→Xa,mem_of_mem_take→Xb,length_take→Xc,length_drop→Xd,drop_of_length_le→Xe,dropWhile_sublist→Xf,dropWhile_cons→Xg
namespace Go.Proofs.YtchkhibgbnhjpabGreatDoor
open Go.RowKit
set_option maxHeartbeats 8000000
set_option maxRecDepth 8000
theorem ZfW(l:LI):∀(inb:Bool) (i:Nat),ZN inb i l=-1∨((i:Int)≤ZN inb i l∧ZN inb i l<(i:Int)+l.length):=by
 induction l with
 | nil=>intro inb i;exact Or.inl rfl
 | cons c r ih=>
  intro inb i;rw[ZN];simp only[List.length_cons]
  split
  ·rcases ih true (i+1)with h|h
   ·exact Or.inl h
   ·exact Or.inr (by omega)
  ·split
   ·rcases ih false (i+1)with h|h
    ·exact Or.inl h
    ·exact Or.inr (by omega)
   ·split
    ·exact Or.inr (by omega)
    ·rcases ih inb (i+1)with h|h
     ·exact Or.inl h
     ·exact Or.inr (by omega)
theorem Zmx(l:LI):colon l=-1∨∃k:Nat,colon l=(k:Int)∧k<l.length:=by
 rcases ZfW l false 0 with h|h
 ·exact Or.inl h
 ·exact Or.inr ⟨(colon l).toNat,by unfold colon;omega,by unfold colon;omega⟩
def ZfX(u:RU)(name:List Int):RU:={ u with his:=(hostOf name (Zg u.sch)).1,htx:=(hostOf name (Zg u.sch)).2.1 }
def ZaH(u:RU)(l:List Int):RU×Int:=
 if colon l=-1 then
  (if l=[]∧Zg u.sch=true then(u,2)else if(hostOf l (Zg u.sch)).2.2≠0 then(u,(hostOf l (Zg u.sch)).2.2)else(ZfX u l,0))
 else
  (if l.take (colon l).toNat=[]then(u,2)else if(hostOf (l.take (colon l).toNat) (Zg u.sch)).2.2≠0 then(u,(hostOf (l.take (colon l).toNat) (Zg u.sch)).2.2)
  else if l.drop ((colon l).toNat+1)=[]then(ZfX u (l.take (colon l).toNat),0)
  else if ZP (l.drop ((colon l).toNat+1))=false∨65535<value (l.drop ((colon l).toNat+1))then(ZfX u (l.take (colon l).toNat),2)
  else({ ZfX u (l.take (colon l).toNat)with port:=ZxB u.sch (value (l.drop ((colon l).toNat+1))) },0))
theorem RIs.setHost{w:World}{rb:Nat}{R:RR}{u:RU}{bs:LA}(hB:RB w rb R)(hR:RIs w R u bs)(is:Bool)(t:BA):RB ((w.setCell ⟨rb,3,none⟩ (.bool is)).setCell ⟨rb,4,none⟩ (.string t)) rb { R with his:=is,htx:=t }∧RIs ((w.setCell ⟨rb,3,none⟩ (.bool is)).setCell ⟨rb,4,none⟩ (.string t)) { R with his:=is,htx:=t } { u with his:=is,htx:=tl t } bs:=by
 have hk:Kp 130 w ((w.setCell ⟨rb,3,none⟩ (.bool is)).setCell ⟨rb,4,none⟩ (.string t)):=But.kp (((But.refl rb w).set 3 _).set 4 _) hB
 exact⟨(hB.s3 is).s4 t,{ hR.kp hk with eq:=by rw[←hR.eq];rfl }⟩
theorem RIs.setPort{w:World}{rb:Nat}{R:RR}{u:RU}{bs:LA}(hB:RB w rb R)(hR:RIs w R u bs)(n:Int):RB (w.setCell ⟨rb,5,none⟩ (.int .i64 n)) rb { R with port:=n }∧RIs (w.setCell ⟨rb,5,none⟩ (.int .i64 n)) { R with port:=n } { u with port:=n } bs:=by
 have hk:Kp 130 w (w.setCell ⟨rb,5,none⟩ (.int .i64 n)):=But.kp ((But.refl rb w).set 5 _) hB
 exact⟨hB.s5 n,{ hR.kp hk with eq:=by rw[←hR.eq];rfl }⟩
def HostC(w:World)(hb:Nat)(is:Bool)(t:ByteArray):Prop:=w.heap[hb]?=some (Obj.cells #[.bool is,.string t] 128 (0,0))
theorem HostC.cells{w:World}{hb:Nat}{is:Bool}{t:BA}(h:HostC w hb is t):w.cell? ⟨hb,0,none⟩=some (.bool is)∧w.cell? ⟨hb,1,none⟩=some (.string t):=by
 unfold HostC at h
 constructor<;>simp[World.cell?,h]
theorem Zmy(rb:Nat)(R:RR)(u:RU)(bs:LA)(v:Value)(l:LI)(w:World)(h:RB w rb R)(hr:RIs w R u bs)(hv:IntsAt w v l)(hl:l.length≤20000)(hp:∀c∈l,Pt c)(hc:colon l=-1):Calls Tryz.prog 269 #[.pointer (some ⟨rb,0,none⟩),v] w fun e w'=>Zr4 e w w' rb (ZaH u l):=by
 have HB:=Za h;have HR:=Za hr;have HV:=Za hv;have HP:=Za hp
 have HD:=Za (show ZaH u l=if l=[]∧Zg (tl R.sch)=true then(u,2)else if(hostOf l (Zg (tl R.sch))).2.2≠0 then(u,(hostOf l (Zg (tl R.sch))).2.2)else({ u with his:=(hostOf l (Zg (tl R.sch))).1,htx:=(hostOf l (Zg (tl R.sch))).2.1 },0)by
  unfold ZaH ZfX;rw[if_pos hc,hr.usch])
 obtain⟨c0,-⟩:=h.cells;obtain⟨ao,cap,hve,-⟩:=hv;subst hve;clear h hr hp
 go_enter Tryz.func269,Tryz.ntmps269
 go_wp2_with fail
 refine(ZI R.sch _).mono ?_
 rintro e w1 ⟨rfl,hn1⟩;have HN1:=Za hn1;clear hn1 c0;generalize Zg (tl R.sch)=sp at *;go_wp2_with fail
 refine(ZlK _ l _ (HV.out.on HN1.out)).mono ?_
 rintro e w1' ⟨rfl,rfl⟩;rw[hc];clear hc
 by_cases h0:l=[]∧sp=true
 ·have HE:=Za (HD.out.trans (if_pos h0))
  obtain⟨rfl,rfl⟩:=h0;clear HD;go_wp2;go_ret
  exact⟨by rw[HE.out];rfl,⟨_,bs,HB.out.on HN1.out,by rw[HE.out];exact HR.out.on HN1.out⟩,But.nx HN1.out⟩
 ·have HD1:=Za (HD.out.trans (if_neg h0))
  have hcase:((l.length:Int)==0)=false∨(((l.length:Int)==0)=true∧sp=false):=by
   by_cases hl0:l=[]
   ·right
    refine⟨by rw[hl0];rfl,?_⟩
    cases sp
    ·rfl
    ·exact absurd ⟨hl0,rfl⟩ h0
   ·left
    exact beq_eq_false_iff_ne.2 (fun e=>hl0 (List.eq_nil_of_length_eq_zero (by omega)))
  clear HD h0;rcases hcase with hl0|⟨hl0,rfl⟩
  all_goals go_wp2_with fail
  all_goals refine(ZgR _ l _ _ (HV.out.on HN1.out) hl HP.out).mono ?_
  all_goals rintro e w2 ⟨t,rfl,ht,hn⟩
  all_goals have HT:=Za ht
  all_goals have hN2:=HN1.out.then hn
  all_goals have hrl:rb<w2.heap.size:=(HB.out.on hN2).lt
  all_goals clear ht hn
  all_goals generalize hostOf l _=y at *
  all_goals obtain⟨is,tx,err⟩:=y
  all_goals simp only at HD1 HT
  all_goals go_upto_region 9 with fail
  all_goals have HH:=Za (show HostC (w2.alloc (Obj.cells #[.bool is,.string t] 128)) w2.heap.size is t from heap_alloc_new w2 _)
  all_goals have HB2:=Za (HB.out.on (hN2.alloc (Obj.cells #[.bool is,.string t] 128)))
  all_goals have HR2:=Za (HR.out.on (hN2.alloc (Obj.cells #[.bool is,.string t] 128)))
  all_goals have HN2:=Za (hN2.alloc (Obj.cells #[.bool is,.string t] 128))
  all_goals clear hN2
  all_goals (obtain⟨hb,hhb⟩:∃hb,hb=w2.heap.size:=⟨_,rfl⟩;rw[←hhb]at HH hrl ⊢;generalize (w2.alloc (Obj.cells #[.bool is,.string t] 128))=w3 at *;clear hhb)
  all_goals obtain⟨hc0,hc1⟩:=HH.out.cells
  all_goals by_cases he:err=0
  all_goals first
   | (subst he
      have HE:=Za (HD1.out.trans (if_neg (by intro x;exact x rfl)))
      clear HD1;obtain⟨c0,c1,c2,c3,c4,c5,c6,c7,c8,c9,c10,c11,c12⟩:=HB2.out.cells;have f3:=HB2.out.free 3;have f4:=HB2.out.free 4;obtain⟨hB3,hR3⟩:=RIs.setHost HB2.out HR2.out is t;have HB3:=Za hB3;have HR3:=Za hR3;have HBT:=Za (show But rb w ((w3.setCell ⟨rb,3,none⟩ (.bool is)).setCell ⟨rb,4,none⟩ (.string t))from((But.nx HN2.out).set 3 _).set 4 _);clear hB3 hR3;go_wp2;go_ret
      exact⟨by rw[HE.out];rfl,⟨_,bs,HB3.out,by rw[HE.out,←HT.out];exact HR3.out⟩,HBT.out⟩)
   | (have he1:(err==0)=false:=beq_eq_false_iff_ne.2 he
      have he2:(err != 0)=true:=bne_iff_ne.2 he;have HE:=Za (HD1.out.trans (if_pos he));clear he HD1;go_wp2;go_ret
      exact⟨by rw[HE.out];rfl,⟨_,bs,HB2.out,by rw[HE.out];exact HR2.out⟩,But.nx HN2.out⟩)
theorem Zmz(rb:Nat)(R:RR)(u:RU)(bs:LA)(v:Value)(l:LI)(k:Nat)(w:World)(h:RB w rb R)(hr:RIs w R u bs)(hv:IntsAt w v l)(hl:l.length≤20000)(hp:∀c∈l,Pt c)(hc:colon l=(k:Int))(hk:k<l.length):Calls Tryz.prog 269 #[.pointer (some ⟨rb,0,none⟩),v] w fun e w'=>Zr4 e w w' rb (ZaH u l):=by
 have HB:=Za h;have HR:=Za hr;have HV:=Za hv
 have HP:=Za (fun c (hc:c∈l.take k)=>hp c (Xb hc))
 have HUS:=Za hr.usch
 have HD:=Za (show ZaH u l=(if l.take k=[]then(u,2)else if(hostOf (l.take k) (Zg (tl R.sch))).2.2≠0 then(u,(hostOf (l.take k) (Zg (tl R.sch))).2.2)
  else if l.drop (k+1)=[]then({ u with his:=(hostOf (l.take k) (Zg (tl R.sch))).1,htx:=(hostOf (l.take k) (Zg (tl R.sch))).2.1 },0)
  else if ZP (l.drop (k+1))=false∨65535<value (l.drop (k+1))then({ u with his:=(hostOf (l.take k) (Zg (tl R.sch))).1,htx:=(hostOf (l.take k) (Zg (tl R.sch))).2.1 },2)
  else({ u with his:=(hostOf (l.take k) (Zg (tl R.sch))).1,htx:=(hostOf (l.take k) (Zg (tl R.sch))).2.1,port:=ZxB (tl R.sch) (value (l.drop (k+1))) },0))by
  unfold ZaH ZfX;rw[if_neg (by omega),hc,hr.usch];rfl)
 obtain⟨c0,-⟩:=h.cells;obtain⟨b,off,cap,rfl,hlc,hcap,hrow⟩:=hv.open_ hk
 have HTK:=Za (Zdw hrow hlc hcap k (by omega))
 have HDR:=Za (Zj8 hrow hlc hcap (k+1) (by omega))
 unfold maxLen at hcap;clear h hr hp hv hrow
 go_enter Tryz.func269,Tryz.ntmps269
 go_wp2_with fail
 refine(ZI R.sch _).mono ?_
 rintro e w1 ⟨rfl,hn1⟩;have HN1:=Za hn1;clear hn1 c0;generalize Zg (tl R.sch)=sp at *;go_wp2_with fail
 refine(ZlK _ l _ (HV.out.on HN1.out)).mono ?_
 rintro e w1' ⟨rfl,rfl⟩;rw[hc];clear hc;rcases Nat.eq_zero_or_pos k with h0|hpos
 ·have HE:=Za (HD.out.trans (if_pos (by rw[h0];rfl)))
  have h0':((k:Int)==0)=true:=by rw[h0];rfl
  clear HD h0
  cases sp
  all_goals go_wp2
  all_goals go_ret
  all_goals exact⟨by rw[HE.out];rfl,⟨_,bs,HB.out.on HN1.out,by rw[HE.out];exact HR.out.on HN1.out⟩,But.nx HN1.out⟩
 ·have h0':((k:Int)==0)=false:=beq_eq_false_iff_ne.2 (by omega)
  have HD1:=Za (HD.out.trans (if_neg (fun e=>by have:=congrArg List.length e;rw[Xc,Xa]at this;omega)))
  clear HD;go_wp2_with fail
  refine(ZgR _ (l.take k) _ _ (HTK.out.on HN1.out) (by rw[Xc];omega) HP.out).mono ?_
  rintro e w2 ⟨t,rfl,ht,hn⟩;have HT:=Za ht;have hN2:=HN1.out.then hn;have hrl:rb<w2.heap.size:=(HB.out.on hN2).lt;clear ht hn;generalize hostOf (l.take k) _=y at *;obtain⟨is,tx,err⟩:=y;simp only at HD1 HT;go_upto_region 9 with fail;have HH:=Za (show HostC (w2.alloc (Obj.cells #[.bool is,.string t] 128)) w2.heap.size is t from heap_alloc_new w2 _);have HB2:=Za (HB.out.on (hN2.alloc (Obj.cells #[.bool is,.string t] 128)));have HR2:=Za (HR.out.on (hN2.alloc (Obj.cells #[.bool is,.string t] 128)));have HN2:=Za (hN2.alloc (Obj.cells #[.bool is,.string t] 128));clear hN2;obtain⟨hb,hhb⟩:∃hb,hb=w2.heap.size:=⟨_,rfl⟩;rw[←hhb]at HH hrl ⊢;generalize (w2.alloc (Obj.cells #[.bool is,.string t] 128))=w3 at *;clear hhb;obtain⟨hc0,hc1⟩:=HH.out.cells
  by_cases he:err=0
  ·subst he
   have HD2:=Za (HD1.out.trans (if_neg (by intro x;exact x rfl)))
   clear HD1;obtain⟨c0,c1,c2,c3,c4,c5,c6,c7,c8,c9,c10,c11,c12⟩:=HB2.out.cells;have f3:=HB2.out.free 3;have f4:=HB2.out.free 4;obtain⟨hB3,hR3⟩:=RIs.setHost HB2.out HR2.out is t;have HB3:=Za hB3
   have HR3:=Za (show RIs _ _ { u with his:=is,htx:=tx } bs by rw[←HT.out];exact hR3)
   have HBT:=Za (show But rb w ((w3.setCell ⟨rb,3,none⟩ (.bool is)).setCell ⟨rb,4,none⟩ (.string t))from((But.nx HN2.out).set 3 _).set 4 _);have HKP:=Za (show Kp 130 w ((w3.setCell ⟨rb,3,none⟩ (.bool is)).setCell ⟨rb,4,none⟩ (.string t))from HBT.out.kp HB.out);clear hB3 hR3;go_upto_region 12 with fail;generalize ((w3.setCell ⟨rb,3,none⟩ (.bool is)).setCell ⟨rb,4,none⟩ (.string t))=w4 at *;clear c0 c1 c2 c3 c4 c5 c6 c7 c8 c9 c10 c11 c12 f3 f4 hc0 hc1 HH
   have HDR4:=Za (HDR.out.kp HKP.out (by decide))
   by_cases hend:k+1=l.length
   ·have HE:=Za (HD2.out.trans (if_pos (Xe (by omega))))
    have hend':((k:Int)+1==(l.length:Int))=true:=by rw[←hend];simp
    clear hend HD2;go_wp2;go_ret
    exact⟨by rw[HE.out];rfl,⟨_,bs,HB3.out,by rw[HE.out];exact HR3.out⟩,HBT.out⟩
   ·have HD3:=Za (HD2.out.trans (if_neg (fun e=>by have:=congrArg List.length e;rw[Xd,Xa]at this;omega)))
    have hend':((k:Int)+1==(l.length:Int))=false:=beq_eq_false_iff_ne.2 (by omega)
    have hcne:¬cap=k+1:=by omega
    have HDR5:=Za (show IntsAt w4 (.slice (some ⟨b,off+(k+1),none⟩) (l.length-(k+1)) (cap-(k+1))) (l.drop (k+1))by have h:=HDR4.out;rw[if_neg hcne]at h;exact h)
    have HSH:=Za HR3.out.usch;simp only at HSH;clear HD2 HDR HDR4 HTK HV;go_wp2_with fail
    refine(Z4 _ (l.drop (k+1)) _ HDR5.out).mono ?_
    rintro e w4' ⟨rfl,rfl⟩;go_wp2_with fail
    refine(Zsq _ (l.drop (k+1)) _ HDR5.out).mono ?_
    rintro e w4' ⟨n,rfl,hn,rfl⟩
    have HNV:=Za (show ZP (l.drop (k+1))=true→n=value (l.drop (k+1))from fun ha=>hn (by unfold ZP at ha;simp only[Bool.and_eq_true]at ha;exact ha.1))
    clear hn
    cases ha:ZP (l.drop (k+1))
    ·have HE:=Za (HD3.out.trans (if_pos (Or.inl ha)))
     clear HD3 ha;go_wp2;go_ret
     exact⟨by rw[HE.out];rfl,⟨_,bs,HB3.out,by rw[HE.out];exact HR3.out⟩,HBT.out⟩
    ·have HNV2:=Za (HNV.out ha)
     by_cases h6:65535<n
     ·have HE:=Za (HD3.out.trans (if_pos (Or.inr (by rw[←HNV2.out];exact h6))))
      clear HD3 ha;go_wp2;go_ret
      exact⟨by rw[HE.out];rfl,⟨_,bs,HB3.out,by rw[HE.out];exact HR3.out⟩,HBT.out⟩
     ·have HE:=Za (HD3.out.trans (if_neg (by rintro(x|x);rw[ha]at x;cases x;rw[←HNV2.out]at x;exact h6 x)))
      clear HD3 ha;go_wp2_with fail
      refine(Zwj rb _ n _ HB3.out).mono ?_
      rintro e w5 ⟨rfl,hn5⟩;have HB5:=Za (HB3.out.on hn5);have HR5:=Za (HR3.out.on hn5);have HBT5:=Za (HBT.out.then (But.nx hn5));clear hn5 HB3 HR3 HBT;obtain⟨-,-,-,-,-,c5,-⟩:=HB5.out.cells;have f5:=HB5.out.free 5;simp only at c5;rw[HNV2.out]at *;obtain⟨hB6,hR6⟩:=RIs.setPort HB5.out HR5.out (ZxB (tl R.sch) (value (l.drop (k+1))));have HB6:=Za hB6;have HR6:=Za hR6;have HBT6:=Za (HBT5.out.set 5 (.int .i64 (ZxB (tl R.sch) (value (l.drop (k+1))))));clear hB6 hR6;go_wp2;go_ret
      exact⟨by rw[HE.out];rfl,⟨_,bs,HB6.out,by rw[HE.out];exact HR6.out⟩,HBT6.out⟩
  ·have he1:(err==0)=false:=beq_eq_false_iff_ne.2 he
   have he2:(err != 0)=true:=bne_iff_ne.2 he;have HE:=Za (HD1.out.trans (if_pos he));clear he HD1;go_wp2;go_ret
   exact⟨by rw[HE.out];rfl,⟨_,bs,HB2.out,by rw[HE.out];exact HR2.out⟩,But.nx HN2.out⟩
theorem Zlc(rb:Nat)(R:RR)(u:RU)(bs:LA)(v:Value)(l:LI)(w:World)(h:RB w rb R)(hr:RIs w R u bs)(hv:IntsAt w v l)(hl:l.length≤20000)(hp:∀c∈l,Pt c):Calls Tryz.prog 269 #[.pointer (some ⟨rb,0,none⟩),v] w fun e w'=>Zr4 e w w' rb (ZaH u l):=by
 rcases Zmx l with hc|⟨k,hc,hk⟩
 ·exact Zmy rb R u bs v l w h hr hv hl hp hc
 ·exact Zmz rb R u bs v l k w h hr hv hl hp hc hk
def ZhM:List UInt8:=[32,34,35,60,62,63,94,96,123,125,47,58,59,61,64,91,92,93,124]
def ZcP(sch:List UInt8)(l:List Int):List Int:=if Zg sch=true then l.dropWhile (fun c=>among c (tl (Zl sch)))else l
def ZdX(l:List Int):Nat→Int
 | 0=>-1
 | k+1=>if l[k]?=some 64 then(k:Int)else ZdX l k
theorem Zq8(l:LI):∀k,ZdX l k=-1∨∃j:Nat,ZdX l k=(j:Int)∧j<k:=by
 intro k
 induction k with
 | zero=>exact Or.inl rfl
 | succ k ih=>
  rw[ZdX]
  split
  ·exact Or.inr ⟨k,rfl,by omega⟩
  ·rcases ih with h|⟨j,h,hj⟩
   ·exact Or.inl h
   ·exact Or.inr ⟨j,h,by omega⟩
def ZbV(who:List Int):Int:=ZdX who who.length
def Zr5(u:RU)(who:List Int):RU:=if ZbV who=-1 then u else { u with user:=encoded (cut (who.take (ZbV who).toNat) [58]).1 ZhM,pass:=encoded (cut (who.take (ZbV who).toNat) [58]).2.1 ZhM }
def Zbq(who:List Int):List Int:=if ZbV who=-1 then who else who.drop ((ZbV who).toNat+1)
def ZhW(q:RU×Int)(sch:List UInt8)(rest:List Int)(b:Bool):RU×Int:=if q.2≠0 then q else if b=true then({ q.1 with path:=walked sch [] rest },0)else(q.1,0)
def ZaS(u:RU)(l:List Int):RU×Int:=
 if ZbV (cut (ZcP u.sch l) (tl (Zl u.sch))).1≠-1∧Zbq (cut (ZcP u.sch l) (tl (Zl u.sch))).1=[]then(Zr5 u (cut (ZcP u.sch l) (tl (Zl u.sch))).1,2)
 else ZhW (ZaH (Zr5 u (cut (ZcP u.sch l) (tl (Zl u.sch))).1) (Zbq (cut (ZcP u.sch l) (tl (Zl u.sch))).1)) u.sch (cut (ZcP u.sch l) (tl (Zl u.sch))).2.1 ((cut (ZcP u.sch l) (tl (Zl u.sch))).2.2||Zg u.sch)
theorem Zld(u:RU)(l:LI):(ZaH u l).1.sch=u.sch:=by
 unfold ZaH
 repeat (first|rfl|split)
theorem Zwk(u:RU)(l:LI):(Zr5 u l).sch=u.sch:=by
 unfold Zr5
 split<;>rfl
theorem ZtE(sch:LB)(l:LI):(ZcP sch l).length≤l.length:=by
 unfold ZcP
 split
 ·exact(Xf _).length_le
 ·exact Nat.le_refl _
theorem ZmA{sch:LB}{l:LI}{c:Int}(h:c∈ZcP sch l):c∈l:=by
 unfold ZcP at h
 split at h
 ·exact(Xf _).subset h
 ·exact h
theorem ZdE(rb:Nat)(R:RR)(u:RU)(bs:LA)(v:Value)(l:LI)(w:World)(h:RB w rb R)(hr:RIs w R u bs)(hv:IntsAt w v l)(hl:l.length≤20000)(hp:∀c∈l,Pt c):Calls Tryz.prog 231 #[.pointer (some ⟨rb,0,none⟩),v] w fun e w'=>Zr4 e w w' rb (ZaS u l):=by
 have HUS:=Za hr.usch;have HB:=Za h;have HR:=Za hr;have HV:=Za hv;have HP:=Za hp;obtain⟨c0,-⟩:=h.cells;clear h hr hp hv
 go_enter Tryz.func231,Tryz.ntmps231
 go_wp2_with fail
 refine(ZI R.sch _).mono ?_
 rintro e w1 ⟨rfl,hn1⟩;have HN1:=Za hn1;clear hn1 c0;obtain⟨sp,hsp⟩:∃sp,sp=Zg (tl R.sch):=⟨_,rfl⟩;rw[←hsp];have HSP:=Za hsp;clear hsp
 have HPD:=Za (show ∀m,ZcP (tl R.sch) m=if sp=true then m.dropWhile (fun c=>among c (tl (Zl (tl R.sch))))else m from fun m=>by rw[HSP.out];rfl)
 go_upto_block 0 with fail
 go_cut [1,6]from 22 to 37 (fun x _ wx=>∃m,IntsAt wx x m∧ZcP (tl R.sch) l=m∧Nx w wx)
 case first=>
  go_wp2_with fail
  go_loopw [1,6] (fun x _ wr=>∃m,IntsAt wr x m∧ZcP (tl R.sch) l=ZcP (tl R.sch) m∧Nx w wr) (fun x _ _=>ZaT x)
  case atStart=>exact⟨l,HV.out.on HN1.out,rfl,HN1.out⟩
  case round=>
   obtain⟨m,hm,hE,hnx⟩:=hrel;have HM:=Za hm;have HE:=Za hE;have HN:=Za hnx;clear hE hnx
   cases sp
   ·have HQ:=Za (HE.out.trans ((HPD.out m).trans (if_neg (by decide))))
    clear hm;go_wp2
    go_meet
    case rel=>exact⟨m,HM.out,HQ.out,HN.out⟩
   ·match m,hm,HM,HE with
    | [],hm,HM,HE=>
     obtain⟨ao,cap,rfl,hlc,hcap,-,-⟩:=hm
     have HQ:=Za (HE.out.trans ((HPD.out []).trans (if_pos (by trivial))))
     unfold maxLen at hcap;go_wp2
     go_meet
     case rel=>exact⟨[],HM.out,HQ.out,HN.out⟩
    | c::r,hm,HM,HE=>
     obtain⟨b,off,cap,rfl,hlc,hcap,hrow⟩:=hm.open_ (k:=0) (by simp)
     have HQ:=Za (HPD.out (c::r));have HTL:=Za (Zjw hrow hlc hcap);have HC0:=Za ((HB.out.on HN.out).cells.1);have c0:=HC0.out
     have hlc':r.length+1≤cap:=by simpa using hlc
     unfold maxLen at hcap;clear hrow hm;go_wp2_with fail
     refine(Zcg _ (c::r) 0 R.sch _ HM.out).mono ?_
     rintro e w2 ⟨rfl,hn2⟩;have HN2:=Za (HN.out.then hn2);have HM2:=Za (HM.out.on hn2);have HTL2:=Za (HTL.out.on hn2);clear hn2 c0;rw[show ZB (c::r) 0 (tl R.sch)=among c (tl (Zl (tl R.sch)))from rfl]
     cases ha:among c (tl (Zl (tl R.sch)))
     ·have HR1:=Za (show ZcP (tl R.sch) l=c::r by rw[HE.out,HQ.out,if_pos (by trivial),Xg,if_neg (by rw[ha];decide)])
      clear ha;go_wp2
      go_meet
      case rel=>exact⟨_,HM2.out,HR1.out,HN2.out⟩
     ·have HR1:=Za (show ZcP (tl R.sch) l=ZcP (tl R.sch) r by rw[HE.out,HQ.out,HPD.out r,if_pos (by trivial),if_pos (by trivial),Xg,if_pos ha])
      clear ha;go_wp2
      go_roundw
      case rel=>exact⟨r,by simpa using HTL2.out,HR1.out,HN2.out⟩
      case measure=>simp[ZaT]
 case rest=>
  obtain⟨m,hm,hE,hn2⟩:=hcut;have hml:=ZtE (tl R.sch) l
  have HMP:=Za (fun c (h:c∈m)=>HP.out c (ZmA (sch:=tl R.sch) (by rw[hE];exact h)))
  have HD:=Za (show ZaS u l=if ZbV (cut m (tl (Zl (tl R.sch)))).1≠-1∧Zbq (cut m (tl (Zl (tl R.sch)))).1=[]then(Zr5 u (cut m (tl (Zl (tl R.sch)))).1,2)
   else ZhW (ZaH (Zr5 u (cut m (tl (Zl (tl R.sch)))).1) (Zbq (cut m (tl (Zl (tl R.sch)))).1)) (tl R.sch) (cut m (tl (Zl (tl R.sch)))).2.1 ((cut m (tl (Zl (tl R.sch)))).2.2||sp)by
   rw[←hE,HSP.out,HUS.out];rfl)
  rw[hE]at hml;have HM:=Za hm;have HN2:=Za hn2;clear hm hE hn2 HPD HN1;have c0:=(HB.out.on HN2.out).cells.1;go_wp2_with fail
  refine(Zea R.sch _).mono ?_
  rintro e w3 ⟨rfl,hn3⟩;have hsl:=Zd9 (tl R.sch);have HN3:=Za (HN2.out.then hn3);have HM3:=Za (HM.out.on hn3);clear hn3 c0 HM HN2;generalize Zl (tl R.sch)=sl at *
  have HMC:=Za (fun c (h:c∈(cut m (tl sl)).1)=>HMP.out c (ZR (Or.inl h)))
  have HMD:=Za (fun c (h:c∈(cut m (tl sl)).2.1)=>HMP.out c (ZR (Or.inr h)))
  have hcl:=(Zce m (tl sl)).1;go_wp2_with fail
  refine(Zdx _ m sl _ (Ze (by omega)) HM3.out).mono ?_
  rintro e w4 ⟨v1,v2,rfl,h1,h2,hn4⟩;generalize cut m (tl sl)=cc at *;obtain⟨who,rest,ok⟩:=cc;simp only at *;have H2:=Za h2;have HN4:=Za (HN3.out.then hn4);clear h2 hn4 HN3 HM3;have H1:=Za h1;obtain⟨ao,cap,hve,hlc,hcap,hnone,hsome⟩:=h1;subst hve;unfold maxLen at hcap;go_wp2
  go_loopw [11,12] (fun x i wr=>∃k:Nat,k≤who.length∧i=.int .i64 k∧x=.int .i64 (ZdX who k)∧wr=w4) (fun _ i _=>who.length-(intOf i).toNat)
  case atStart=>exact⟨0,Nat.zero_le _,rfl,rfl,rfl⟩
  case round=>
   obtain⟨k,hk,rfl,rfl,rfl⟩:=hrel
   by_cases hlt:k<who.length
   ·obtain⟨a,ha⟩:=Zw hlt hnone
    subst ha;obtain⟨b,off,rfl,hrow⟩:=hsome a rfl;have hck:=hrow.cell hlt;clear hnone hsome hrow
    have HLS:=Za (show ZdX who (k+1)=if who[k]=64 then(k:Int)else ZdX who k by rw[ZdX,List.getElem?_eq_getElem hlt];simp)
    cases h64:(who[k]==64)
    ·have HL2:=Za (HLS.out.trans (if_neg (by simpa using h64)))
     go_wp2
     go_roundw
     case rel=>exact⟨k+1,by omega,by go_num,by rw[HL2.out],by trivial⟩
     case measure=>simp[intOf];omega
    ·have HL2:=Za (HLS.out.trans (if_pos (by simpa using h64)))
     go_wp2
     go_roundw
     case rel=>exact⟨k+1,by omega,by go_num,by rw[HL2.out],by trivial⟩
     case measure=>simp[intOf];omega
   ·have hk2:k=who.length:=by omega
    subst hk2;clear hlt hnone hsome hk;rw[show ZdX who who.length=ZbV who from rfl];have HAT:=Za (show ZbV who=-1∨∃j:Nat,ZbV who=(j:Int)∧j<who.length from Zq8 who who.length);obtain⟨w4,hw4⟩:∃w4,w4=wr:=⟨_,rfl⟩;subst hw4
    go_upto_if 63 with fail
    go_cut [8,11,13,14,15]from 17 (fun x _ _ _ _ wx=>(∃R',RB wx rb R'∧RIs wx R' (Zr5 u who) bs)∧IntsAt wx x (Zbq who)∧IntsAt wx v2 rest∧But rb w wx∧¬(ZbV who≠-1∧Zbq who=[]))
    case first=>
     rcases HAT.out with hat|⟨j,hat,hj⟩
     ·have HQ1:=Za (show Zr5 u who=u from if_pos hat)
      have HQ2:=Za (show Zbq who=who from if_pos hat)
      have HQ3:=Za (show ¬(ZbV who≠-1∧Zbq who=[])from fun x=>x.1 hat)
      rw[hat];clear hat;go_wp2
      go_meet
      case rel=>exact⟨⟨R,HB.out.on HN4.out,by rw[HQ1.out];exact HR.out.on HN4.out⟩,by rw[HQ2.out];exact H1.out,H2.out,But.nx HN4.out,HQ3.out⟩
     ·have HQ1:=Za (show Zr5 u who={ u with user:=encoded (cut (who.take j) [58]).1 ZhM,pass:=encoded (cut (who.take j) [58]).2.1 ZhM }by unfold Zr5;rw[if_neg (by omega),hat];rfl)
      have HQ2:=Za (show Zbq who=who.drop (j+1)by unfold Zbq;rw[if_neg (by omega),hat];rfl)
      have HQ3:=Za (show ZbV who≠-1 by omega)
      rw[hat];obtain⟨b,off,cap',he,hlc',hcap',hrow⟩:=H1.out.open_ hj;simp only[Value.slice.injEq]at he;obtain⟨rfl,-,rfl⟩:=he
      have HTK:=Za (Zdw hrow hlc' hcap' j (by omega))
      have HDR:=Za (Zj8 hrow hlc' hcap' (j+1) (by omega))
      have HPT:=Za (fun c (h:c∈(cut (who.take j) [58]).1)=>HMC.out c (Xb (ZR (Or.inl h))))
      have HPU:=Za (fun c (h:c∈(cut (who.take j) [58]).2.1)=>HMC.out c (Xb (ZR (Or.inr h))))
      have hcl2:=(Zce (who.take j) [58]).1;rw[Xc]at hcl2;clear hat hrow hcap' hlc';go_wp2_with fail
      refine(Zdx _ (who.take j) ⟨#[58]⟩ _ (Ze (by decide)) HTK.out).mono ?_
      rintro e w5 ⟨n1,n2,rfl,h1,h2,hn5⟩;rw[show tl (⟨#[58]⟩:BA)=[58]from rfl]at *;generalize cut (who.take j) [58]=cc at *;obtain⟨cn,cp,okc⟩:=cc;simp only at *;have K1:=Za h1;have K2:=Za h2;have HN5:=Za (HN4.out.then hn5);have HR5:=Za (H2.out.on hn5);have HDR5:=Za (HDR.out.on hn5);clear h1 h2 hn5 HTK HDR;go_wp2_with fail
      refine(Z5 _ cn _ _ K1.out (Ze (by decide)) (by omega) HPT.out).mono ?_
      rintro e w6 ⟨nt,rfl,hnt,hn6⟩;have HNT:=Za (show tl nt=encoded cn ZhM from hnt);have hN6:=HN5.out.then hn6;have K26:=Za (K2.out.on hn6);have HR6:=Za (HR5.out.on hn6);have HDR6:=Za (HDR5.out.on hn6);have HB6:=Za (HB.out.on hN6);have HI6:=Za (HR.out.on hN6);have HN6:=Za hN6;clear hnt hn6 hN6 K1 K2 HR5 HDR5 HN5;obtain⟨-,c1,-⟩:=HB6.out.cells;have f1:=HB6.out.free 1;go_upto_region 17 with fail;have HB7:=Za (HB6.out.s1 nt);have HBT7:=Za (show But rb w (w6.setCell ⟨rb,1,none⟩ (.string nt))from(But.nx HN6.out).set 1 _);have hkp:Kp 130 w6 (w6.setCell ⟨rb,1,none⟩ (.string nt)):=But.kp ((But.refl rb w6).set 1 _) HB6.out
      have HI7:=Za (show RIs (w6.setCell ⟨rb,1,none⟩ (.string nt)) { R with user:=nt } { u with user:=encoded cn ZhM } bs from { HI6.out.kp hkp with eq:=by rw[←HNT.out,←HI6.out.eq];rfl })
      have K27:=Za (K26.out.kp hkp (by decide))
      have HR7:=Za (HR6.out.kp hkp (by decide))
      have HDR7:=Za (HDR6.out.kp hkp (by decide))
      clear c1 f1 hkp K26 HR6 HDR6 HB6 HI6 HN6;generalize w6.setCell ⟨rb,1,none⟩ (.string nt)=w7 at *;go_wp2_with fail
      refine(Z5 _ cp _ _ K27.out (Ze (by decide)) (by omega) HPU.out).mono ?_
      rintro e w8 ⟨pt,rfl,hpt,hn8⟩;have HPT8:=Za (show tl pt=encoded cp ZhM from hpt);have HB8:=Za (HB7.out.on hn8);have HI8:=Za (HI7.out.on hn8);have HR8:=Za (HR7.out.on hn8);have HDR8:=Za (HDR7.out.on hn8);have HBT8:=Za (HBT7.out.then (But.nx hn8));clear hpt hn8 K27 HR7 HDR7 HB7 HI7 HBT7;obtain⟨-,-,c2,-⟩:=HB8.out.cells;have f2:=HB8.out.free 2;go_upto_region 18 with fail;have HB9:=Za (HB8.out.s2 pt);have HBT9:=Za (show But rb w (w8.setCell ⟨rb,2,none⟩ (.string pt))from HBT8.out.set 2 _);have hkp:Kp 130 w8 (w8.setCell ⟨rb,2,none⟩ (.string pt)):=But.kp ((But.refl rb w8).set 2 _) HB8.out
      have HI9:=Za (show RIs (w8.setCell ⟨rb,2,none⟩ (.string pt)) { R with user:=nt,pass:=pt } { u with user:=encoded cn ZhM,pass:=encoded cp ZhM } bs from { HI8.out.kp hkp with eq:=by rw[←HPT8.out,←HNT.out,←(HR.out).eq];rfl })
      have HR9:=Za (HR8.out.kp hkp (by decide))
      have HDR9:=Za (HDR8.out.kp hkp (by decide))
      clear c2 f2 hkp HR8 HDR8 HB8 HI8 HBT8;generalize w8.setCell ⟨rb,2,none⟩ (.string pt)=w9 at *
      by_cases hend:j+1=who.length
      ·have HE:=Za (HD.out.trans (if_pos ⟨HQ3.out,by rw[HQ2.out];exact Xe (by omega)⟩))
       have hl0:((who.length:Int)-((j:Int)+1)==0)=true:=by rw[←hend];simp
       have hl1:(((who.length-(j+1):Nat):Int)==0)=true:=by rw[←hend];simp
       clear hend HD;go_wp2
       all_goals go_ret
       all_goals exact⟨by rw[HE.out];rfl,⟨_,bs,HB9.out,by rw[HE.out,HQ1.out];exact HI9.out⟩,HBT9.out⟩
      ·have hcne:¬cap=j+1:=by omega
       have HQ4:=Za (show ¬(ZbV who≠-1∧Zbq who=[])from fun x=>by have h:=x.2;rw[HQ2.out]at h;have:=congrArg List.length h;rw[Xd,Xa]at this;omega)
       have hl0:((who.length:Int)-((j:Int)+1)==0)=false:=beq_eq_false_iff_ne.2 (by omega)
       have hl1:(((who.length-(j+1):Nat):Int)==0)=false:=beq_eq_false_iff_ne.2 (by omega)
       have HDR10:=Za (show IntsAt w9 (.slice (some ⟨b,off+(j+1),none⟩) (who.length-(j+1)) (cap-(j+1))) (who.drop (j+1))by have h:=HDR9.out;rw[if_neg hcne]at h;exact h)
       clear hend HDR9;go_wp2
       go_meet
       case rel=>exact⟨⟨_,HB9.out,by rw[HQ1.out];exact HI9.out⟩,by rw[HQ2.out];exact HDR10.out,HR9.out,HBT9.out,HQ4.out⟩
    case rest=>
     obtain⟨⟨R',hB,hR⟩,hx,h2,hbt,hne⟩:=hcut;have HE:=Za (HD.out.trans (if_neg hne));have HB2:=Za hB;have HR2:=Za hR;have HX:=Za hx;have HRE:=Za h2;have HBT:=Za hbt
     have hwl:(Zbq who).length≤20000:=by
      unfold Zbq
      split
      ·omega
      ·rw[Xd];omega
     have HWP:=Za (show ∀c∈Zbq who,Pt c from fun c hc=>HMC.out c (by unfold Zbq at hc;split at hc;exact hc;exact List.mem_of_mem_drop hc))
     have HSC:=Za (Zwk u who);clear hB hR hx h2 hbt hne HD HAT HMC H1 H2 HN4;generalize Zr5 u who=uw at *;generalize Zbq who=wr2 at *;go_wp2_with fail
     refine(Zlc rb R' uw bs _ wr2 _ HB2.out HR2.out HX.out hwl HWP.out).mono ?_
     rintro e w10 ⟨rfl,⟨R3,bs3,hB3,hR3⟩,hbt3⟩;have hkp:=hbt3.kp HB2.out
     have HRE3:=Za (HRE.out.kp hkp (by decide))
     have HSC3:=Za ((Zld uw wr2).trans HSC.out);have HB3:=Za hB3;have HR3:=Za hR3;have HBT3:=Za (HBT.out.then hbt3);clear hB3 hR3 hbt3 hkp HB2 HR2 HX HRE HBT HWP HSC;generalize ZaH uw wr2=y at *;obtain⟨y,err⟩:=y;simp only at HR3 HSC3
     have HD2:=Za (show ZaS u l=if err≠0 then(y,err)else if(ok||sp)=true then({ y with path:=walked (tl R.sch) [] rest },0)else(y,0)from HE.out)
     clear HE
     by_cases he:err=0
     ·subst he
      have HD3:=Za (HD2.out.trans (if_neg (by intro x;exact x rfl)))
      clear HD2
      cases hb:(ok||sp)
      ·have HE:=Za (HD3.out.trans (if_neg (by rw[hb];decide)))
       rw[Bool.or_eq_false_iff]at hb;obtain⟨rfl,rfl⟩:=hb;clear HD3;go_wp2;go_ret
       exact⟨by rw[HE.out];rfl,⟨_,bs3,HB3.out,by rw[HE.out];exact HR3.out⟩,HBT3.out⟩
      ·have HE:=Za (HD3.out.trans (if_pos hb))
       rw[Bool.or_eq_true]at hb
       have hok:ok=true∨(ok=false∧sp=true):=by
        rcases hb with h|h
        ·exact Or.inl h
        ·cases ok
         ·exact Or.inr ⟨rfl,h⟩
         ·exact Or.inl rfl
       clear HD3 hb
       have hrl:rest.length≤20000:=by omega
       rcases hok with rfl|⟨rfl,rfl⟩
       all_goals
        go_wp2_with fail
        refine(ZaR rb R3.sch (.slice none 0 0) [] v2 rest w10.heap.size _ HB3.out.sch (Nat.le_refl _) (ZbK _ _) (by simp) (by simp) HRE3.out (by omega) HMD.out).mono ?_
        rintro e w11 ⟨v',bs',rfl,ho,hwe,hbl,hbs,hbel,-⟩;have hnx:Nx w10 w11:=hbel
        obtain⟨ao2,n2,cp2,rfl,hB4,hR4⟩:=RIs.setPath (HB3.out.on hnx) (HR3.out.on hnx) (ZQ ho) (by simp only[Xa]at hbl;omega) hbs
        have HB4:=Za hB4;have HR4:=Za hR4
        have HWE:=Za (show bs'.map tl=walked (tl R.sch) [] rest by rw[hwe,HR3.out.usch,HSC3.out,HUS.out];rfl)
        have HBT4:=Za (show But rb w (w11.setCell ⟨rb,6,none⟩ (.slice ao2 n2 cp2))from(HBT3.out.then (But.nx hnx)).set 6 _);obtain⟨-,-,-,-,-,-,k6,-⟩:=(HB3.out.on hnx).cells;have f6:=(HB3.out.on hnx).free 6;clear ho hwe hbl hbs hbel hnx hB4 hR4;go_wp2;go_ret
        exact⟨by rw[HE.out];rfl,⟨_,bs',HB4.out,by rw[HE.out];have h:=HR4.out;rw[HWE.out]at h;exact h⟩,HBT4.out⟩
     ·have he1:(err==0)=false:=beq_eq_false_iff_ne.2 he
      have he2:(err != 0)=true:=bne_iff_ne.2 he;have HE:=Za (HD2.out.trans (if_pos he));clear he HD2;go_wp2;go_ret
      exact⟨by rw[HE.out];rfl,⟨_,bs3,HB3.out,by rw[HE.out];exact HR3.out⟩,HBT3.out⟩
def Zwl(u base:RU):RU:={ u with path:=base.path,hq:=u.hq||base.hq,q:=if u.hq=true then u.q else base.q }
theorem RIs.seg'{w:World}{R:RR}{u:RU}{bs:LA}(h:RIs w R u bs):(R.po=none∧R.pn=0∧R.pc=0∧bs=[])∨∃b off,R.po=some ⟨b,off,none⟩∧R.pn=bs.length∧bs.length≤R.pc∧R.pc≤maxLen∧RowAt 9 Value.string w b off bs:=by
 obtain⟨ao,cap,he,h1,h2,h3,h4⟩:=h.seg;simp only[Value.slice.injEq]at he;obtain⟨e1,e2,e3⟩:=he;subst e1 e3
 cases hp:R.po with
 | none=>
  obtain⟨k1,k2⟩:=h3 hp
  exact Or.inl ⟨rfl,by rw[e2,k1];rfl,k2,k1⟩
 | some a=>
  obtain⟨b,off,rfl,hr⟩:=h4 a hp;exact Or.inr ⟨b,off,rfl,e2,h1,h2,hr⟩
end Go.Proofs.YtchkhibgbnhjpabGreatDoor
