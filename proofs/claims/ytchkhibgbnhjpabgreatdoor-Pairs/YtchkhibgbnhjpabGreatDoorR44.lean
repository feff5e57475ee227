import Derived.Test.YtchkhibgbnhjpabGreatDoorR42
import Derived.Test.YtchkhibgbnhjpabGreatDoorR43
open Array renaming getElem?_eq_some_iff→Xe
open List renaming take_of_length_le→Xa,length_map→Xb,take_succ_eq_append_getElem→Xc,mem_map→Xd,mem_filter→Xg,any_eq_true→Xi,map_map→Xk
open Nat renaming le_trans→Xf,zero_le→Xh,le_refl→Xl
namespace Go.Proofs.YtchkhibgbnhjpabGreatDoor
open Go.RowKit
set_option maxHeartbeats 16000000
set_option maxRecDepth 8000
theorem ZkC(ub rb:Nat)(v:Value)(ps:List Pq)(w:World)(hu:URB w ub rb v)(hp:PlAt w v ps):Calls Tryz.prog 57 #[.pointer (some ⟨ub,0,none⟩)] w fun e w'=>e=.returned v∧w=w':=by
 obtain⟨a0,a1⟩:=hu.cells;obtain⟨ao,cap,rfl,-⟩:=hp;clear hu
 go_enter Tryz.func57,Tryz.ntmps57
 go_wp2;go_ret;exact⟨rfl,rfl⟩
theorem ZuW(ub rb:Nat)(v:Value)(ps:List Pq)(w:World)(hu:URB w ub rb v)(hp:PlAt w v ps)(hl:ps.length≤1000000)(hz:∀p∈ps,p.1.size≤300000∧p.2.size≤300000):Calls Tryz.prog 58 #[.pointer (some ⟨ub,0,none⟩)] w fun e w'=>∃t:BA,e=.returned (.string t)∧tl t=Ze2 (ps.map tl2)∧Nx w w':=by
 obtain⟨a0,a1⟩:=hu.cells;have HP:=Za hp;obtain⟨ao,cap,rfl,-⟩:=hp;have HQ:=Za (ZkA _ ps w HP.out hl hz);clear hu
 go_enter Tryz.func58,Tryz.ntmps58
 go_wp2_with fail
 refine HQ.out.mono ?_
 rintro e w1 ⟨t,rfl,ht,hn⟩;have HT:=Za ht;have HN:=Za hn;clear ht hn;go_wp2;go_ret;exact⟨t,rfl,HT.out,HN.out⟩
def Zd1(n:ByteArray)(ps:List Pq):List ByteArray:=(ps.filter fun p=>p.1.toList==n.toList).map (·.2)
theorem Zqc(n:BA)(ps:List Pq):(Zd1 n ps).map tl=((ps.map tl2).filter (ZhF (tl n) [] false)).map (·.2):=by
 unfold Zd1;rw[List.filter_map,Xk,Xk]
 have e:ps.filter (fun p=>p.1.toList==n.toList)=ps.filter ((ZhF (tl n) [] false) ∘ tl2):=by
  apply List.filter_congr
  intro p _
  show _=(tl p.1==tl n&&(!false||_))
  rw[ByteArray.toList_eq,ByteArray.toList_eq]
  simp[tl]
 rw[e]
 rfl
theorem ZuX{n:BA}{ps:List Pq}{k:Nat}(h:k<ps.length)(hf:(ps[k].1.toList==n.toList)=true):Zd1 n (ps.take (k+1))=Zd1 n (ps.take k)++[ps[k].2]:=by
 unfold Zd1;rw[Zen _ ps k h,hf,if_pos rfl,List.map_append]
 rfl
theorem ZrU{n:BA}{ps:List Pq}{k:Nat}(h:k<ps.length)(hf:(ps[k].1.toList==n.toList)=false):Zd1 n (ps.take (k+1))=Zd1 n (ps.take k):=by
 unfold Zd1
 rw[Zen _ ps k h,hf,if_neg (by decide),List.append_nil]
theorem Zjd(n:BA)(ps:List Pq)(k:Nat):(Zd1 n (ps.take k)).length≤k:=by
 unfold Zd1;rw[Xb]
 exact Xf (List.length_filter_le _ _) (by rw[List.length_take];omega)
theorem Zje(ub rb:Nat)(v:Value)(ps:List Pq)(n:BA)(w:World)(hu:URB w ub rb v)(hp:PlAt w v ps)(hl:ps.length≤1000000):Calls Tryz.prog 103 #[.pointer (some ⟨ub,0,none⟩),.string n] w fun e w'=>∃x,e=.returned x∧ZcE w' w.heap.size x (Zd1 n ps)∧Nx w w':=by
 have HU:=Za hu;obtain⟨ao,cap,rfl,hlc,hcap,hnone,hsome⟩:=hp;unfold maxLen at hcap;clear hu
 go_enter Tryz.func103,Tryz.ntmps103
 go_wp2
 go_loopw [5,6] (fun o i wr=>∃k:Nat,k≤ps.length∧i=.int .i64 k∧ZcE wr w.heap.size o (Zd1 n (ps.take k))∧Nx w wr) (fun _ i _=>ps.length-(intOf i).toNat)
 case atStart=>exact⟨0,Xh _,rfl,World.ownsRow_nil _ _ _ _,Nx.rfl⟩
 case round=>
  obtain⟨k,hk,rfl,hown,hnx⟩:=hrel;obtain⟨a0,a1⟩:=(HU.out.on hnx).cells;have HO:=Za hown;have HN:=Za hnx;have hz:=hnx.size
  by_cases hlt:k<ps.length
  ·obtain⟨a,ha⟩:=Zc2 hlt hnone
   subst ha;obtain⟨b,off,rfl,hr⟩:=hsome a rfl;obtain⟨c0,c1⟩:=(hr.on hnx).cell hlt
   have hvl:(Zd1 n (ps.take k)).length<1099511627776:=by have:=Zjd n ps k;omega
   cases hd:(ps[k].1.toList==n.toList)
   ·have HS:=Za (ZrU (n:=n) hlt hd)
    clear hnone hsome hr hnx hown;go_wp2
    go_roundw
    case rel=>exact⟨k+1,by omega,by go_num,by rw[HS.out];exact HO.out,HN.out⟩
    case measure=>simp[intOf];omega
   ·have HS:=Za (ZuX (n:=n) hlt hd)
    clear hnone hsome hr hnx hown
    go_wp2_with (at_builtin;go_must (refine Zb0 wr ps[k].2 rfl _ _ rfl w.heap.size _ _ rfl HO.out rfl hvl hz ?_;intro v' w2 ho2 hb2 _;have HO2:=Za ho2;clear ho2))
    go_roundw
    case rel=>exact⟨k+1,by omega,by go_num,by rw[HS.out];exact HO2.out,HN.out.trans hb2⟩
    case measure=>simp[intOf];omega
  ·have HE:=Za (show ZcE wr w.heap.size _ (Zd1 n ps)by have h:=hown;rw[Xa (by omega)]at h;exact h)
   clear hnone hsome hnx hown;go_wp2;go_ret;exact⟨_,rfl,HE.out,HN.out⟩
theorem ZoL(ub rb:Nat)(v:Value)(ps:List Pq)(n:BA)(w:World)(hu:URB w ub rb v)(hp:PlAt w v ps)(hl:ps.length≤1000000)(hn:n.size≤160):Calls Tryz.prog 44 #[.pointer (some ⟨ub,0,none⟩),.string n] w fun e w'=>∃x ss,e=.returned x∧ZcE w' w.heap.size x ss∧ss.map tl=((ps.map tl2).filter (ZhF (clean (tl n)) [] false)).map (·.2)∧ss.length≤1000000∧Nx w w':=by
 have HU:=Za hu;have HP:=Za hp;clear hu hp
 go_enter Tryz.func44,Tryz.ntmps44
 go_wp2_with fail
 refine(Ze3 n _ (by unfold maxLen;omega)).mono ?_
 rintro e w' ⟨rfl,rfl⟩
 rw[decide_eq_false (show ¬160<n.size by omega)]
 go_wp2_with fail
 refine(Zg7 n _ (by omega)).mono ?_
 rintro e w1 ⟨m,rfl,hm,hn1⟩;have HM:=Za hm;have HN1:=Za hn1;have hz1:=hn1.size;clear hm hn1;go_wp2_with fail
 refine(Zje ub rb v ps m _ (HU.out.on HN1.out) (HP.out.on HN1.out) hl).mono ?_
 rintro e w2 ⟨x,rfl,ho,hn2⟩;have HO:=Za ho;have HN2:=Za (HN1.out.then hn2);clear ho hn2;go_wp2;go_ret
 refine⟨x,Zd1 m ps,rfl,?_,by rw[Zqc,HM.out],?_,HN2.out⟩
 ·obtain⟨h1,h2⟩:=HO.out
  refine⟨h1,?_⟩
  rcases h2 with g|⟨g,cap,cur,e1,e2,e3⟩
  ·exact Or.inl g
  ·exact Or.inr ⟨g,cap,cur,e1,Xf hz1 e2,e3⟩
 ·have:=Zjd m ps ps.length
  rw[Xa (Xl _)]at this
  omega
theorem ZrV{w:World}{base:Nat}{v:Value}{ss:LA}(h:ZcE w base v ss):∃ao cp,v=.slice ao ss.length cp:=by
 obtain⟨-,⟨rfl,h3⟩|⟨g,cap,cur,rfl,-⟩⟩:=h
 ·exact⟨none,0,by rw[h3]⟩
 ·exact⟨_,_,rfl⟩
theorem Zxk{α:Type}(f:α→Bool)(l:List α)(k:Nat)(h:k<l.length)(h0:(l.take k).any f=false)(hf:f l[k]=false):(l.take (k+1)).any f=false:=by
 rw[Xc h,List.any_append,h0]
 simp[hf]
theorem Zxl(ub rb:Nat)(v:Value)(ps:List Pq)(n x:BA)(valued:Bool)(w:World)(hu:URB w ub rb v)(hp:PlAt w v ps)(hl:ps.length≤1000000)(hn:n.size≤160)(hx:x.size≤160):Calls Tryz.prog 45 #[.pointer (some ⟨ub,0,none⟩),.string n,.string x,.bool valued] w fun e w'=>e=.returned (.bool (decide (0<((ps.map tl2).filter (ZhF (clean (tl n)) (clean (tl x)) valued)).length)))∧Nx w w':=by
 have HU:=Za hu;have HP:=Za hp;clear hu hp
 go_enter Tryz.func45,Tryz.ntmps45
 go_wp2_with fail
 refine(Ze3 n _ (by unfold maxLen;omega)).mono ?_
 rintro e w' ⟨rfl,rfl⟩
 rw[decide_eq_false (show ¬160<n.size by omega)]
 go_wp2_with fail
 refine(Ze3 x _ (by unfold maxLen;omega)).mono ?_
 rintro e w' ⟨rfl,rfl⟩
 rw[decide_eq_false (show ¬160<x.size by omega)]
 go_wp2_with fail
 refine(Zg7 n _ (by omega)).mono ?_
 rintro e w1 ⟨m,rfl,hm,hn1⟩;have HM:=Za hm;have HN1:=Za hn1;clear hm hn1;go_wp2_with fail
 refine(Zg7 x _ (by omega)).mono ?_
 rintro e w2 ⟨y,rfl,hy,hn2⟩;have HY:=Za hy;have HN2:=Za (HN1.out.then hn2);clear hy hn2 HN1;go_wp2_with fail
 refine(Zje ub rb v ps m _ (HU.out.on HN2.out) (HP.out.on HN2.out) hl).mono ?_
 rintro e w3 ⟨z,rfl,ho,hn3⟩;have HN3:=Za (HN2.out.then hn3);have hsl:=ZQ ho;obtain⟨ao,cap,rfl,hlc,hcap,hnone,hsome⟩:=hsl;unfold maxLen at hcap
 have hvl:(Zd1 m ps).length≤1000000:=by
  have:=Zjd m ps ps.length;rw[Xa (Xl _)]at this
  omega
 have HF0:=Za (show((ps.map tl2).filter (ZhF (clean (tl n)) (clean (tl x)) false)).length=(Zd1 m ps).length by
  have e:=congrArg List.length (Zqc m ps);rw[Xb,Xb]at e;rw[e,HM.out]
  rfl)
 have HF1:=Za (show decide (0<((ps.map tl2).filter (ZhF (clean (tl n)) (clean (tl x)) true)).length)=(Zd1 m ps).any (fun s=>s.toList==y.toList)by
  rw[←HM.out,←HY.out,←filter_tl2 m y true ps,Xb,Bool.eq_iff_iff,decide_eq_true_eq,Xi];unfold Zd1
  constructor
  ·intro g
   obtain⟨p,hp⟩:=List.exists_mem_of_length_pos g;obtain⟨hp1,hp2⟩:=Xg.1 hp;unfold Zi8 at hp2;simp only[Bool.not_true,Bool.false_or,Bool.and_eq_true]at hp2;exact⟨p.2,Xd.2 ⟨p,Xg.2 ⟨hp1,hp2.1⟩,rfl⟩,hp2.2⟩
  ·rintro⟨s,hs,he⟩
   obtain⟨p,hp,rfl⟩:=Xd.1 hs;obtain⟨hp1,hp2⟩:=Xg.1 hp
   refine List.length_pos_of_mem (a:=p) (Xg.2 ⟨hp1,?_⟩)
   unfold Zi8;rw[hp2,he]
   rfl)
 clear ho hn3 HN2;generalize Zd1 m ps=vs at *
 cases valued
 ·clear hnone hsome
  go_wp2;go_ret
  exact⟨Zj (by rw[HF0.out,Bool.eq_iff_iff]<;>simp),HN3.out⟩
 ·go_wp2
  go_loopw [14] (fun i wr=>∃k:Nat,k≤vs.length∧i=.int .i64 k∧(vs.take k).any (fun s=>s.toList==y.toList)=false∧wr=w3) (fun i _=>vs.length-(intOf i).toNat)
  case atStart=>exact⟨0,Xh _,rfl,rfl,rfl⟩
  case round=>
   obtain⟨k,hk,rfl,hE,hwr⟩:=hrel;subst hwr;have HE:=Za hE;clear hE
   by_cases hlt:k<vs.length
   ·obtain⟨a,ha⟩:=Zw hlt hnone
    subst ha;obtain⟨b,off,rfl,hr⟩:=hsome a rfl;have hck:=hr.cell hlt
    cases hd:(vs[k].toList==y.toList)
    ·have HS:=Za (Zxk (fun s=>s.toList==y.toList) vs k hlt HE.out hd)
     clear hnone hsome hr;go_wp2
     go_roundw
     case rel=>first|exact⟨k+1,by omega,by go_num,HS.out,rfl⟩|exact⟨k+1,by omega,by go_num,HS.out,trivial⟩
     case measure=>simp[intOf];omega
    ·have HS:=Za (show vs.any (fun s=>s.toList==y.toList)=true from Xi.2 ⟨_,List.getElem_mem hlt,hd⟩)
     clear hnone hsome hr;go_wp2;go_ret
     exact⟨Zj (by rw[HF1.out,HS.out]),HN3.out⟩
   ·have HS:=Za (show vs.any (fun s=>s.toList==y.toList)=false by have h:=HE.out;rw[Xa (by omega)]at h;exact h)
    clear hnone hsome;go_wp2;go_ret
    exact⟨Zj (by rw[HF1.out,HS.out]),HN3.out⟩
def ZuY(u:RU)(l:List (List UInt8×List UInt8)):RU:=ZhB { u with q:=Ze2 l,hq:=decide (0<l.length) }
theorem ZuZ(ub rb:Nat)(v:Value)(R:RR)(u:RU)(bs:LA)(ps:List Pq)(w:World)(hu:URB w ub rb v)(h:RB w rb R)(hr:RIs w R u bs)(hl:R.bl.size≤300000)(hp:PlAt w v ps)(hlp:ps.length≤1000000)(hz:∀p∈ps,p.1.size≤300000∧p.2.size≤300000):Calls Tryz.prog 51 #[.pointer (some ⟨ub,0,none⟩)] w fun e w'=>e=.returned (.tuple #[])∧(∃R',RB w' rb R'∧RIs w' R' (ZuY u (ps.map tl2)) bs)∧But rb w w':=by
 have HU:=Za hu;have HB:=Za h;have HR:=Za hr;have HNE:=Za (hu.ne h);obtain⟨ao,cap,hve,-⟩:=id hp;subst hve
 have HQY:Hid (∀wz,Nx w wz→Calls Tryz.prog 111 #[.slice ao ps.length cap] wz fun e w'=>∃r:BA,e=.returned (.string r)∧tl r=Ze2 (ps.map tl2)∧Nx wz w'):=Za (fun wz hzz=>ZkA _ ps wz (hp.on hzz) hlp hz)
 obtain⟨a0,a1⟩:=hu.cells;clear hu h hr hp hz
 go_enter Tryz.func51,Tryz.ntmps51
 go_upto_region 0 with fail
 go_cut [0]from 2 (fun x wx=>∃t:BA,x=.pointer (some ⟨ub,0,none⟩)∧tl t=Ze2 (ps.map tl2)∧RB wx rb { R with q:=t }∧But rb w wx)
 case first=>
  go_region_with (go_at_call 111;refine(HQY.out _ (by first|exact Nx.rfl.drew|exact Nx.rfl|exact Nx.rfl.drew.drew)).mono ?_;rintro e w4 ⟨t,rfl,ht,hn4⟩;have HT:=Za ht;have HN4:=Za (show Nx w w4 from Nx.then (show Nx w _ by first|exact Nx.rfl.drew|exact Nx.rfl|exact Nx.rfl.drew.drew) hn4);have HB4:=Za (HB.out.on HN4.out);obtain⟨a0',a1'⟩:=(HU.out.on HN4.out).cells;have fS:=HB4.out.free 10;have cS:=HB4.out.cells.2.2.2.2.2.2.2.2.2.2.1;clear ht hn4)
  all_goals go_wp2_with fail
  all_goals go_meet
  all_goals first
   | exact⟨_,rfl,HT.out,HB4.out.s10 _,(But.nx HN4.out).set 10 _⟩
   | exact⟨_,HT.out,HB4.out.s10 _,(But.nx HN4.out).set 10 _⟩
 case rest=>
  obtain⟨t,rfl,ht,hB5,hbt5⟩:=hcut;have HT:=Za ht;have HB5:=Za hB5;have HBT5:=Za hbt5;have HU5:=Za (HU.out.but hbt5 HNE.out);clear ht hB5 hbt5 a0 a1;obtain⟨w5,hw5⟩:∃w5,w5=wc:=⟨_,rfl⟩;subst hw5;obtain⟨a0,a1⟩:=HU5.out.cells;have f9:=HB5.out.free 9;have c9:=HB5.out.cells.2.2.2.2.2.2.2.2.2.1;go_upto_region 1 with fail
  go_cut [0]from 13 (fun x wx=>x=.pointer (some ⟨ub,0,none⟩)∧RB wx rb { R with q:=t,hq:=decide (0<(ps.map tl2).length) }∧But rb w wx)
  case first=>
   have HDE:=Za (show decide ((0:Int)<(ps.length:Int))=decide (0<(ps.map tl2).length)by rw[Xb,decide_eq_decide];omega)
   generalize hgg:decide (0<(ps.map tl2).length)=hqv at *;have hde:decide ((0:Int)<(ps.length:Int))=hqv:=HDE.out
   have hdn:decide (0<ps.length)=hqv:=by rw[←hde,decide_eq_decide];omega
   go_region
   all_goals go_wp2_with fail
   all_goals go_meet
   all_goals first
    | exact⟨rfl,HB5.out.s9 _,HBT5.out.set 9 _⟩
    | exact⟨rfl,(HB5.out.s9 _).on Nx.rfl.drew,(HBT5.out.set 9 _).then (But.nx Nx.rfl.drew)⟩
    | exact⟨HB5.out.s9 _,HBT5.out.set 9 _⟩
    | exact⟨(HB5.out.s9 _).on Nx.rfl.drew,(HBT5.out.set 9 _).then (But.nx Nx.rfl.drew)⟩
  case rest=>
   obtain⟨rfl,hB6,hbt6⟩:=hcut;have HB6:=Za hB6;have HBT6:=Za hbt6;have HU6:=Za (HU.out.but hbt6 HNE.out);clear hB6 hbt6 a0 a1 f9 c9
   have HR6:Hid (RIs wc { R with q:=t,hq:=decide (0<(ps.map tl2).length) } { u with q:=Ze2 (ps.map tl2),hq:=decide (0<(ps.map tl2).length) } bs):=Za { HR.out.kp (HBT6.out.kp HB.out)with eq:=by rw[←HT.out,←HR.out.eq];rfl }
   go_wp2_with fail
   refine(ZuO ub rb _ _ _ bs wc HU6.out HB6.out HR6.out hl).mono ?_
   rintro e w7 ⟨rfl,hx,hbt⟩;have HX:=Za hx;have HBT7:=Za (HBT6.out.then hbt);clear hx hbt;go_wp2;obtain⟨R',k1,k2⟩:=HX.out;exact bodyPost_end (results_none rfl _ _ _) rfl ⟨rfl,⟨R',k1,k2⟩,HBT7.out⟩
theorem Zu0(ub rb:Nat)(v:Value)(R:RR)(u:RU)(bs:LA)(ps:List Pq)(w:World)(hu:URB w ub rb v)(h:RB w rb R)(hr:RIs w R u bs)(hl:R.bl.size≤300000)(hp:PlAt w v ps)(hlp:ps.length≤1000000)(hz:∀p∈ps,p.1.size≤300000∧p.2.size≤300000):Calls Tryz.prog 20 #[.pointer (some ⟨ub,0,none⟩)] w fun e w'=>e=.returned (.tuple #[])∧(∃R' v' qs,URB w' ub rb v'∧RB w' rb R'∧RIs w' R' (ZuY u (ZV ltW (ps.map tl2))) bs∧PlAt w' v' qs∧qs.map tl2=ZV ltW (ps.map tl2))∧Two ub rb w w':=by
 have HU:=Za hu;have HB:=Za h;have HR:=Za hr;have HZ:=Za hz;have HNE:=Za (hu.ne h);obtain⟨ao,cap,hve,-⟩:=id hp;subst hve
 have HS:=Za (ZoK _ ps w hp hlp (fun p hp=>Xf (hz p hp).1 (by omega)))
 obtain⟨a0,a1⟩:=hu.cells;clear hu h hr hp hz
 go_enter Tryz.func20,Tryz.ntmps20
 go_wp2_with fail
 refine HS.out.mono ?_
 rintro e w1 ⟨x,qs,rfl,ho,hqs,hn1⟩;have HN1:=Za hn1;have HU1:=Za (HU.out.on hn1);have HQS:=Za hqs;have HPL:=Za (OwnP.at ho)
 have hql:qs.length≤1000000:=by
  have e:=congrArg List.length hqs;rw[Xb,sortI_len,Xb]at e
  omega
 have HQZ:=Za (show ∀p∈qs,p.1.size≤300000∧p.2.size≤300000 from fun p hp=>by
  have hm:tl2 p∈ps.map tl2:=Zgt (by rw[←hqs];exact Xd.2 ⟨p,hp,rfl⟩)
  obtain⟨p',hp',e⟩:=Xd.1 hm;rw[←Znm e]
  exact HZ.out p' hp')
 obtain⟨ao1,cp1,hv1⟩:=Za7 ho;subst hv1;have f1:=HU1.out.free 1;obtain⟨b0,b1⟩:=HU1.out.cells;clear hn1 hqs ho a0 a1;go_upto_region 1 with fail;have HBT:Hid (But ub w1 (w1.setCell ⟨ub,1,none⟩ (.slice ao1 qs.length cp1))):=Za ((But.refl ub w1).set 1 _);have HU2:=Za (HU1.out.s1 (.slice ao1 qs.length cp1));have HB2:=Za ((HB.out.on HN1.out).but HBT.out (Ne.symm HNE.out));have HR2:=Za ((HR.out.on HN1.out).kpU (HBT.out.kpU HU1.out))
 have HP2:=Za (HPL.out.kp (HBT.out.kpU HU1.out) (by decide))
 clear b0 b1 f1;generalize w1.setCell ⟨ub,1,none⟩ (.slice ao1 qs.length cp1)=w2 at *;go_wp2_with fail
 refine(ZuZ ub rb _ R u bs qs w2 HU2.out HB2.out HR2.out hl HP2.out hql HQZ.out).mono ?_
 rintro e w3 ⟨rfl,hx,hbt⟩;rw[HQS.out]at hx;have HX:=Za hx;have HB3:=Za hbt;clear hx hbt;go_wp2;obtain⟨R',k1,k2⟩:=HX.out
 exact bodyPost_end (results_none rfl _ _ _) rfl ⟨rfl,⟨R',_,qs,HU2.out.but HB3.out HNE.out,k1,k2,HP2.out.kp (HB3.out.kp HB2.out) (by decide),HQS.out⟩,((Two.nx HN1.out).then (Two.l HBT.out)).then (Two.r HB3.out)⟩
def PairB(w:World)(pp pb ub:Nat):Prop:=w.heap[pp]?=some (Obj.cells #[.pointer (some ⟨pb,0,none⟩),.pointer (some ⟨ub,0,none⟩)] 49 (0,0))
theorem PairB.on{w w':World}{pp pb ub:Nat}(h:PairB w pp pb ub)(hb:Nx w w'):PairB w' pp pb ub:=(hb.block pp (Xe.1 h).1).trans h
theorem PairB.lt{w:World}{pp pb ub:Nat}(h:PairB w pp pb ub):pp<w.heap.size:=(Xe.1 h).1
theorem PairB.cells{w:World}{pp pb ub:Nat}(h:PairB w pp pb ub):w.cell? ⟨pp,0,none⟩=some (.pointer (some ⟨pb,0,none⟩))∧w.cell? ⟨pp,1,none⟩=some (.pointer (some ⟨ub,0,none⟩)):=by
 unfold PairB at h
 constructor<;>simp[World.cell?,h]
structure Both (w:World) (u:U) (pb ub rb:Nat) (r:Rc) (bs:List ByteArray) (R:RR) (rs:List ByteArray) (v:Value) (ps:List Pq):Prop where
 url:UrlB w pb r
 rc:RcIs w r u bs
 ref:URB w ub rb v
 rcd:RB w rb R
 ris:RIs w R (toR u) rs
 pl:PlAt w v ps
 list:ps.map tl2=Zs u.q
 wk:Wk u
theorem Both.on{w w':World}{u:U}{pb ub rb:Nat}{r:Rc}{bs:LA}{R:RR}{rs:LA}{v:Value}{ps:List Pq}(h:Both w u pb ub rb r bs R rs v ps)(hb:Nx w w'):Both w' u pb ub rb r bs R rs v ps:=
 { h with url:=h.url.on hb,rc:=h.rc.on hb,ref:=h.ref.on hb,rcd:=h.rcd.on hb,ris:=h.ris.on hb,pl:=h.pl.on hb }
theorem Zu2{s:BA}{l:LB}(h:tl s=l):s.size=l.length:=by rw[←tl_length,h]
theorem Both.rl{w:World}{u:U}{pb ub rb:Nat}{r:Rc}{bs:LA}{R:RR}{rs:LA}{v:Value}{ps:List Pq}(h:Both w u pb ub rb r bs R rs v ps):RL R:=by
 have e1:=h.ris.eq;have e2:=h.rc.eq
 have k:∀ {a b:BA} {l:LB},tl a=l→tl b=l→b.size≤300000→a.size≤300000:=fun ha hb hl=>by rw[Zu2 ha,←Zu2 hb];exact hl
 refine⟨k (show tl R.user=u.nam by rw[←show(R.u rs).user=tl R.user from rfl,e1];rfl) (show tl r.nam=u.nam by rw[←e2];rfl) h.rc.lnam,
  k (show tl R.pass=u.pw by rw[←show(R.u rs).pass=tl R.pass from rfl,e1];rfl) (show tl r.pw=u.pw by rw[←e2];rfl) h.rc.lpw,
  k (show tl R.htx=u.host by rw[←show(R.u rs).htx=tl R.htx from rfl,e1];rfl) (show tl r.host=u.host by rw[←e2];rfl) h.rc.lhost,?_,
  k (show tl R.bl=u.opath by rw[←show(R.u rs).bl=tl R.bl from rfl,e1];rfl) (show tl r.opath=u.opath by rw[←e2];rfl) h.rc.lopath,
  k (show tl R.q=u.q by rw[←show(R.u rs).q=tl R.q from rfl,e1];rfl) (show tl r.q=u.q by rw[←e2];rfl) h.rc.lq,
  k (show tl R.fr=u.fr by rw[←show(R.u rs).fr=tl R.fr from rfl,e1];rfl) (show tl r.fr=u.fr by rw[←e2];rfl) h.rc.lfr⟩
 have hp:R.port=(toR u).port:=by rw[←show(R.u rs).port=R.port from rfl,e1]
 have hl:u.port≤65535:=by rw[←show(r.u bs).port=u.port by rw[e2]];exact h.rc.lport
 rw[hp];unfold toR;simp only
 split<;>omega
theorem ZyR{u:U}(h:Wk u):ZuC (toR u):=by
 intro _;have hl:=h.path;rw[ZhX h]
 refine⟨by omega,fun h0=>?_⟩
 obtain⟨s1,s2⟩:=Zg1 (Za8 u);rw[←s1]at h0;have hs:=Zom h0;rw[s2 h0]
 refine⟨(Zum (Za8 u) (by omega)).host,?_⟩
 unfold toR;simp only
 split
 ·next hp=>have:=(hs.st.sd.port hp).1;omega
 ·omega
theorem ZyS{u:U}(h:Wk u){a0 a1 a2 a3 a4 a5 a6 a7 a8 a9 a10:BA}{e:Ending}(he:ZzL e (toR u))(h0:tl a0=ZnN u)(h1:tl a1=Zcj u)(h2:tl a2=Zcv u)(h3:tl a3=u.nam)(h4:tl a4=u.pw)(h5:tl a5=ZbF u)(h6:tl a6=u.host)(h7:tl a7=Zb4 u)(h8:tl a8=Za8 u)(h9:tl a9=ZkW u)(h10:tl a10=ZvI u):e=.returned (.agg #[.string a0,.string a1,.string a2,.string a3,.string a4,.string a5,.string a6,.string a7,.string a8,.string a9,.string a10]):=by obtain⟨t0,t1,t2,t3,t4,t5,t6,t7,t8,t9,t10,rfl,k0,k1,k2,k3,k4,k5,k6,k7,k8,k9,k10⟩:=he;rw[ZwO h]at k0;rw[Zrm h]at k1;rw[Zgs h.port]at k5;rw[ZwM h.port]at k7;rw[ZhX h]at k8;rw[Zdj (k0.trans h0.symm),Zdj (k1.trans h1.symm),Zdj (k2.trans h2.symm),Zdj (k3.trans h3.symm),Zdj (k4.trans h4.symm),Zdj (k5.trans h5.symm),Zdj (k6.trans h6.symm),Zdj (k7.trans h7.symm),Zdj (k8.trans h8.symm),Zdj (k9.trans h9.symm),Zdj (k10.trans h10.symm)]
theorem Zlu(pb:Nat)(r:Rc)(u:U)(bs:LA)(w:World)(h0:UrlB w pb r)(h:RcIs w r u bs)(ht:Tb w)(hpl:u.sch=[98,108,111,98]→(Za8 u).length≤9000):Calls Tryz.prog 54 #[.pointer (some ⟨pb,0,none⟩)] w fun e w'=>∃t:BA,e=.returned (.string t)∧tl t=Zcj u∧Nx w w':=by
 have HRC:=Za h;have HTB:=Za ht;have HPL:=Za hpl;obtain⟨a0,a1,a2,a3,a4,a5,a6,a7,a8,a9,a10,a11,a12,a13⟩:=h0.cells;clear h ht h0 hpl
 go_enter Tryz.func54,Tryz.ntmps54
 go_wp2_with fail
 refine(Zkj r u bs _ HRC.out HTB.out HPL.out).mono ?_
 rintro e w1 ⟨t,rfl,ht,-,hn⟩;have HT:=Za ht;have HN:=Za hn;clear ht hn a0 a1 a2 a3 a4 a5 a6 a7 a8 a9 a10 a11 a12 a13;go_wp2;go_ret;exact⟨t,rfl,HT.out,HN.out⟩
theorem Zqd(pp pb ub rb:Nat)(r:Rc)(u:U)(bs:LA)(R:RR)(rs:LA)(v:Value)(ps:List Pq)(w:World)(hp:PairB w pp pb ub)(hb:Both w u pb ub rb r bs R rs v ps)(ht:Tb w):Calls Tryz.prog 21 #[.pointer (some ⟨pp,0,none⟩)] w fun e w'=>e=.returned (.bool true)∧Nx w w':=by
 have HP:=Za hp;have HB:=Za hb;have HTB:=Za ht;have HRL:=Za hb.rl;have HBO:=Za (ZyR hb.wk);have HPL:=Za hb.wk.path;have HST:=Za hb.wk;obtain⟨p0,p1⟩:=hp.cells;clear hp hb ht
 go_enter Tryz.func21,Tryz.ntmps21
 go_wp2_with fail
 refine(ZyM pb r u bs _ HB.out.url HB.out.rc HTB.out (fun _=>HPL.out)).mono ?_
 rintro e w1 ⟨⟨a0,a1,a2,a3,a4,a5,a6,a7,a8,a9,a10,rfl,g0,g1,g2,g3,g4,g5,g6,g7,g8,g9,g10,-,-⟩,hn1⟩
 have HG:Hid (∀e,ZzL e (toR u)→e=.returned (.agg #[.string a0,.string a1,.string a2,.string a3,.string a4,.string a5,.string a6,.string a7,.string a8,.string a9,.string a10])):=Za (fun e he=>ZyS HST.out he g0 g1 g2 g3 g4 g5 g6 g7 g8 g9 g10)
 have G0:=Za g0;have G1:=Za g1;have HN1:=Za hn1;obtain⟨p01,p11⟩:=(HP.out.on (hn1.alloc (Obj.cells #[.string a0,.string a1,.string a2,.string a3,.string a4,.string a5,.string a6,.string a7,.string a8,.string a9,.string a10] 66))).cells;clear g0 g1 g2 g3 g4 g5 g6 g7 g8 g9 g10 hn1 p0 p1;go_wp2_with fail
 refine(Zxa ub rb v R (toR u) rs _ (HB.out.ref.on (HN1.out.alloc _)) (HB.out.rcd.on (HN1.out.alloc _)) (HB.out.ris.on (HN1.out.alloc _)) HRL.out HBO.out).mono ?_
 rintro e w2 ⟨ha,hn2⟩;obtain rfl:=HG.out e ha;have HA2:Hid (C11 w2 w1.heap.size (.string a0) (.string a1) (.string a2) (.string a3) (.string a4) (.string a5) (.string a6) (.string a7) (.string a8) (.string a9) (.string a10)):=Za ((show C11 (w1.alloc (Obj.cells #[.string a0,.string a1,.string a2,.string a3,.string a4,.string a5,.string a6,.string a7,.string a8,.string a9,.string a10] 66)) w1.heap.size (.string a0) (.string a1) (.string a2) (.string a3) (.string a4) (.string a5) (.string a6) (.string a7) (.string a8) (.string a9) (.string a10)from heap_alloc_new w1 _).on hn2);have HN2:=Za (show Nx w w2 from(HN1.out.alloc _).then hn2);obtain⟨p02,p12⟩:=(HP.out.on (HN2.out.alloc (Obj.cells #[.string a0,.string a1,.string a2,.string a3,.string a4,.string a5,.string a6,.string a7,.string a8,.string a9,.string a10] 66))).cells;clear ha hn2 p01 p11 HG;go_wp2_with fail
 refine(Zob pb r u bs _ (HB.out.url.on (HN2.out.alloc _)) (HB.out.rc.on (HN2.out.alloc _)) (HTB.out.on (HN2.out.alloc _))).mono ?_
 rintro e w3 ⟨t,rfl,ht,hn3⟩;obtain rfl:=Zdj (ht.trans G0.out.symm);have HA3:=Za ((HA2.out.on (Nx.rfl.alloc _)).on hn3);have HC3:Hid (C11 w3 w2.heap.size (.string t) (.string a1) (.string a2) (.string a3) (.string a4) (.string a5) (.string a6) (.string a7) (.string a8) (.string a9) (.string a10)):=Za ((show C11 (w2.alloc (Obj.cells #[.string t,.string a1,.string a2,.string a3,.string a4,.string a5,.string a6,.string a7,.string a8,.string a9,.string a10] 66)) w2.heap.size (.string t) (.string a1) (.string a2) (.string a3) (.string a4) (.string a5) (.string a6) (.string a7) (.string a8) (.string a9) (.string a10)from heap_alloc_new w2 _).on hn3);have HN3:=Za (show Nx w w3 from(HN2.out.alloc _).then hn3);obtain⟨p03,p13⟩:=(HP.out.on HN3.out).cells;clear ht hn3 p02 p12;go_wp2_with fail
 refine(Zlu pb r u bs _ (HB.out.url.on HN3.out) (HB.out.rc.on HN3.out) (HTB.out.on HN3.out) (fun _=>HPL.out)).mono ?_
 rintro e w4 ⟨t1,rfl,ht1,hn4⟩;obtain rfl:=Zdj (ht1.trans G1.out.symm);obtain⟨x0,x1,x2,x3,x4,x5,x6,x7,x8,x9,x10⟩:=(HA3.out.on hn4).cells;obtain⟨y0,y1,y2,y3,y4,y5,y6,y7,y8,y9,y10⟩:=(HC3.out.on hn4).cells;have HN4:=Za (HN3.out.then hn4);clear ht1 hn4 p03 p13;go_wp2;go_ret;exact⟨rfl,HN4.out⟩
def Zu3(e:Ending)(w w':World)(x:U×Int):Prop:=
 (x.2≠0∧e=.returned (.tuple #[.pointer none,.bool true])∧Nx w w') ∨
 (x.2=0∧∃pp pb ub rb r bs R rs v ps,e=.returned (.tuple #[.pointer (some ⟨pp,0,none⟩),.bool true])∧PairB w' pp pb ub∧Both w' x.1 pb ub rb r bs R rs v ps∧w.heap.size≤pp∧w.heap.size≤pb∧w.heap.size≤ub∧w.heap.size≤rb∧Nx w w')
theorem Zxm(w:World)(pb ub:Nat):PairB (w.alloc (Obj.cells #[.pointer (some ⟨pb,0,none⟩),.pointer (some ⟨ub,0,none⟩)] 49)) w.heap.size pb ub:=heap_alloc_new w _
theorem ZoM(s base:BA)(w:World)(hs:s.size≤maxLen)(hb:base.size≤maxLen)(ht:Tb w):Calls Tryz.prog 40 #[.string s,.string base,.bool false] w fun e w'=>Zu3 e w w' (Zcc (tl s) (tl base) false):=by
 have HTB:=Za ht;have HSM:=Za (ZwR (tl s) (tl base) false)
 have HQL:Hid ((Zvg (tl s) (tl base) false).2=0→(Zvg (tl s) (tl base) false).1.q.length≤90000):=Za (fun h0=>by
  obtain⟨s1,s2⟩:=HSM.out;rw[s2 (s1.trans h0)];have:=(Zlp (tl s) (tl base) false).q
  show(Zcc (tl s) (tl base) false).1.q.length≤90000
  omega)
 have HST:Hid ((Zcc (tl s) (tl base) false).2=0→St (Zcc (tl s) (tl base) false).1):=Za (fun h=>ZwK (tl s) (tl base) false h)
 have HPM:=Za (ZwW (tl s) (tl base) false);have HHM:=Za (Zlp (tl s) (tl base) false).q;have HNR:=Za (ZrP s base · hs hb HQL.out);clear ht
 go_enter Tryz.func40,Tryz.ntmps40
 go_wp2_with fail
 refine(ZrW s base false _ hs hb HTB.out).mono ?_
 rintro e w1 ⟨hp,hn1⟩;have HN1:=Za hn1;clear HQL hn1;generalize hpx:Zcc (tl s) (tl base) false=x at *;have HX:=Za hpx;clear hpx;obtain⟨u,err⟩:=x;generalize Zvg (tl s) (tl base) false=y at *;obtain⟨m,err2⟩:=y;obtain⟨he12,hm⟩:=HSM.out;simp only at he12 hm;subst he12;simp only at HST HPM HHM;clear HSM;rcases hp with⟨he,rfl⟩|⟨he,pb,r,bs,rfl,hu,hr,hpb⟩
 ·go_wp2_with fail
  refine(HNR.out _).mono ?_
  rintro e w2 hx;rcases hx with⟨-,rfl,hn2⟩|⟨h0,-⟩
  ·have HN2:=Za (HN1.out.then hn2)
   have he1:(err != err)=false:=by simp
   have he2:(err != 0)=true:=bne_iff_ne.2 he;have HER:=Za he;clear hn2 he;go_wp2;go_ret2;rw[HX.out];exact Or.inl ⟨HER.out,rfl,HN2.out⟩
  ·exact absurd h0 he
 ·simp only at he
  subst he;have hme:=hm rfl;have HUB:=Za hu
  replace hr:RcIs w1 r u bs:=hr
  have HRC:=Za hr;have HPB:=Za hpb;clear hm hu hr hpb;go_wp2_with fail
  refine(HNR.out _).mono ?_
  rintro e w2 hx;rcases hx with⟨h0,-⟩|⟨-,ub,rb,R,rs,v,ps,rfl,hU,hRB,hRI,hpl,hps,hub,hrb,hn2⟩
  ·exact absurd rfl h0
  ·replace hRI:RIs w2 R m rs:=hRI
   replace hps:ps.map tl2=ZiZ m:=hps
   rw[hme]at hRI hps
   have hst:=(HST.out (by trivial)).st
   have hwk:=St'.wk hst (by have:=HPM.out;omega) (by have:=HHM.out;omega)
   rw[Zud hwk]at hps;have HBO:=Za (show Both w2 u pb ub rb r bs R rs v ps from⟨HUB.out.on hn2,HRC.out.on hn2,hU,hRB,hRI,hpl,hps,hwk⟩);have HN2:=Za (HN1.out.then hn2);have HZ:=Za (show w.heap.size≤pb∧w.heap.size≤ub∧w.heap.size≤rb from⟨HPB.out,Xf HN1.out.size hub,Xf HN1.out.size hrb⟩);clear hU hRB hRI hpl hps hub hrb hn2 hst hwk hme HUB HRC HST HPM HHM HNR HPB;go_wp2;go_ret2;rw[HX.out];exact Or.inr ⟨rfl,w2.heap.size,pb,ub,rb,r,bs,R,rs,v,ps,rfl,Zxm w2 pb ub,HBO.out.on (Nx.rfl.alloc _),HN2.out.size,HZ.out.1,HZ.out.2.1,HZ.out.2.2,HN2.out.alloc _⟩
theorem ZrX(s base:BA)(w:World)(hs:s.size≤maxLen)(hb:base.size≤maxLen)(ht:Tb w):Calls Tryz.prog 17 #[.string s,.string base,.bool false] w fun e w'=>Zu3 e w w' (Zcc (tl s) (tl base) false):=by
 have HTB:=Za ht;clear ht
 go_enter Tryz.func17,Tryz.ntmps17
 go_wp2_with fail
 refine(ZoM s base _ hs hb HTB.out).mono ?_
 rintro e w1 hp;rcases hp with⟨he,rfl,hn⟩|⟨he,pp,pb,ub,rb,r,bs,R,rs,v,ps,rfl,hP,hB,h1,h2,h3,h4,hn⟩
 ·have HN:=Za hn
  have HER:=Za he;clear he hn;go_wp2;go_ret2;exact Or.inl ⟨HER.out,rfl,HN.out⟩
 ·have HER:=Za he
  have HP:=Za hP;have HB:=Za hB;have HZ:=Za (show w.heap.size≤pp∧w.heap.size≤pb∧w.heap.size≤ub∧w.heap.size≤rb from⟨h1,h2,h3,h4⟩);have HN:=Za hn;clear he hP hB h1 h2 h3 h4 hn;go_wp2_with fail
  refine(Zqd pp pb ub rb r _ bs R rs v ps _ HP.out HB.out (HTB.out.on HN.out)).mono ?_
  rintro e w2 ⟨rfl,hn2⟩;have HN2:=Za hn2;clear hn2;go_wp2;go_ret2;exact Or.inr ⟨HER.out,pp,pb,ub,rb,r,bs,R,rs,v,ps,rfl,HP.out.on HN2.out,HB.out.on HN2.out,HZ.out.1,HZ.out.2.1,HZ.out.2.2.1,HZ.out.2.2.2,HN.out.then HN2.out⟩
theorem Zu4(s t:BA)(w:World)(hs:s.size≤maxLen)(ht:t.size≤maxLen):Calls Tryz.prog 16 #[.string s,.string t] w fun e w'=>e=.returned (.bool (decide (65536<s.size)||decide (65536<t.size)))∧w=w':=by
 unfold maxLen at hs ht
 by_cases h1:65536<s.size
 ·go_enter Tryz.func16,Tryz.ntmps16
  go_wp2;go_ret
  exact⟨by simp,rfl⟩
 ·by_cases h2:65536<t.size
  ·go_enter Tryz.func16,Tryz.ntmps16
   go_wp2;go_ret
   exact⟨by simp[h2];omega,rfl⟩
  ·go_enter Tryz.func16,Tryz.ntmps16
   go_wp2;go_ret
   exact⟨by simp[h1,h2];omega,rfl⟩
theorem ZoN{w:World}{pp pb ub qb:Nat}{r:Rc}(h:PairB w pp pb ub)(hu:UrlB w qb r):pp≠qb:=by
 rintro rfl;unfold PairB at h;unfold UrlB at hu;rw[h]at hu;simp only[Option.some.injEq,Obj.cells.injEq]at hu
 exact absurd hu.2.1 (by decide)
theorem ZoO{w:World}{pp pb ub qb rb:Nat}{v:Value}(h:PairB w pp pb ub)(hu:URB w qb rb v):pp≠qb:=by
 rintro rfl;unfold PairB at h;unfold URB at hu;rw[h]at hu;simp only[Option.some.injEq,Obj.cells.injEq]at hu
 exact absurd hu.2.1 (by decide)
theorem ZoP{w:World}{pp pb ub qb:Nat}{R:RR}(h:PairB w pp pb ub)(hu:RB w qb R):pp≠qb:=by
 rintro rfl;unfold PairB at h;unfold RB at hu;rw[h]at hu;simp only[Option.some.injEq,Obj.cells.injEq]at hu
 exact absurd hu.2.1 (by decide)
theorem ZkD{w:World}{pb qb rb:Nat}{r:Rc}{v:Value}(h:UrlB w pb r)(hu:URB w qb rb v):pb≠qb:=by
 rintro rfl;unfold UrlB at h;unfold URB at hu;rw[h]at hu;simp only[Option.some.injEq,Obj.cells.injEq]at hu
 exact absurd hu.2.1 (by decide)
theorem ZkE{w:World}{pb qb:Nat}{r:Rc}{R:RR}(h:UrlB w pb r)(hu:RB w qb R):pb≠qb:=by
 rintro rfl;unfold UrlB at h;unfold RB at hu;rw[h]at hu;simp only[Option.some.injEq,Obj.cells.injEq]at hu
 exact absurd hu.2.1 (by decide)
theorem But.kpP{w w':World}{pb:Nat}{r:Rc}(hb:But pb w w')(h:UrlB w pb r):Kp 106 w w':=by
 intro k cs e fz hk he
 refine(hb.block k (Xe.1 hk).1 ?_).trans hk
 intro e';subst e';unfold UrlB at h;rw[hk]at h;simp only[Option.some.injEq,Obj.cells.injEq]at h;exact he h.2.1
theorem ZoQ(pp pb ub rb:Nat)(r:Rc)(u:U)(bs:LA)(R:RR)(rs:LA)(v:Value)(ps:List Pq)(w:World)(hp:PairB w pp pb ub)(hb:Both w u pb ub rb r bs R rs v ps):Calls Tryz.prog 22 #[.pointer (some ⟨pp,0,none⟩)] w fun e w'=>e=.returned (.bool true)∧Nx w w':=by
 have HP:=Za hp;have HB:=Za hb
 have HL:=Za (show ps.length=(Zs u.q).length by rw[←hb.list,Xb])
 have hc:=Za1 hb.list (Zjr hb.rc)
 have HZ:=Za (show ∀p∈ps,p.1.size≤300000∧p.2.size≤300000 from fun p hq=>by
  have hm:tl2 p∈Zs u.q:=by rw[←hb.list];exact Xd.2 ⟨p,hq,rfl⟩
  obtain⟨a,ha,he⟩:=Xd.1 hm;have h1:=Zgx a;have h2:=Zfb ha;have h3:=hb.wk.lq;rw[he]at h1;obtain⟨g1,g2⟩:=h1;have e1:(tl2 p).1.length=p.1.size:=tl_length _;have e2:(tl2 p).2.length=p.2.size:=tl_length _
  omega)
 have HQ:=Za (show Ze2 (ps.map tl2)=Zam (Zs u.q)by rw[hb.list];exact Zkr (Zg3 _))
 obtain⟨p0,p1⟩:=hp.cells;clear hp hb
 go_enter Tryz.func22,Tryz.ntmps22
 go_wp2_with fail
 refine(ZuL pb r u bs _ HB.out.url HB.out.rc).mono ?_
 rintro e w1 ⟨rfl,hn1⟩;have HN1:=Za hn1;obtain⟨p0',p1'⟩:=(HP.out.on hn1).cells;clear hn1 p0 p1;go_wp2_with fail
 refine(Zxh pb r u bs _ (HB.out.on HN1.out).url (HB.out.on HN1.out).rc).mono ?_
 rintro e w2 ⟨t,rfl,ht,hn2⟩;have HT:=Za ht;have HN2:=Za (HN1.out.then hn2);obtain⟨p0,p1⟩:=(HP.out.on HN2.out).cells;clear ht hn2 p0' p1';go_wp2_with fail
 refine(ZkC ub rb v ps _ (HB.out.on HN2.out).ref (HB.out.on HN2.out).pl).mono ?_
 rintro e w' ⟨rfl,rfl⟩
 obtain⟨ao,cap,hve⟩:∃ao cap,v=.slice ao ps.length cap:=by obtain⟨ao,cap,h,-⟩:=HB.out.pl;exact⟨ao,cap,h⟩
 subst hve;go_wp2_with fail
 refine(ZuW ub rb _ ps _ (HB.out.on HN2.out).ref (HB.out.on HN2.out).pl hc HZ.out).mono ?_
 rintro e w3 ⟨s,rfl,hs,hn3⟩;have HN3:=Za (HN2.out.then hn3)
 have heq:(t.toList==s.toList)=true:=by
  rw[ByteArray.toList_eq,ByteArray.toList_eq,beq_iff_eq]
  show tl t=tl s
  rw[HT.out,hs,HQ.out]
 have hlen:(((Zs u.q).length:Int)==(ps.length:Int))=true:=by rw[HL.out];simp
 clear hs hn3 p0 p1;go_wp2;go_ret
 exact⟨Zj (by rfl),HN3.out⟩
theorem Zjs(a b:Value)(ps qs:List Pq)(w:World)(ha:PlAt w a ps)(hb:PlAt w b qs):Calls Tryz.prog 59 #[a,b] w fun e w'=>e=.returned (.bool (decide (ps=qs)))∧Nx w w':=by
 obtain⟨ao,cap,rfl,hlc,hcap,hnone,hsome⟩:=ha;obtain⟨bo,cap2,rfl,hlc2,hcap2,hnone2,hsome2⟩:=hb;unfold maxLen at hcap hcap2
 by_cases hl:ps.length=qs.length
 ·have hl':((ps.length:Int) != (qs.length:Int))=false:=by rw[hl];simp
  have hl'':((ps.length:Int)==(qs.length:Int))=true:=by rw[hl];simp
  have HL:=Za hl;clear hl
  go_enter Tryz.func59,Tryz.ntmps59
  go_wp2
  go_loopw [5] (fun i wr=>∃k:Nat,k≤ps.length∧i=.int .i64 k∧ps.take k=qs.take k∧Nx w wr) (fun i _=>ps.length-(intOf i).toNat)
  case atStart=>exact⟨0,Xh _,rfl,rfl,Nx.rfl⟩
  case round=>
   obtain⟨k,hk,rfl,hE,hnx⟩:=hrel;have HE:=Za hE;have HN:=Za hnx;clear hE hnx
   by_cases hlt:k<ps.length
   ·have hlt2:k<qs.length:=by rw[←HL.out];exact hlt
    obtain⟨a,ha⟩:=Zc2 hlt hnone;subst ha;obtain⟨b,off,rfl,hr⟩:=hsome a rfl;obtain⟨c0,c1⟩:=(hr.on HN.out).cell hlt;obtain⟨a2,ha2⟩:=Zc2 hlt2 hnone2;subst ha2;obtain⟨b2,off2,rfl,hr2⟩:=hsome2 a2 rfl;obtain⟨d0,d1⟩:=(hr2.on HN.out).cell hlt2;clear hnone hsome hnone2 hsome2 hr hr2
    by_cases h1:ps[k].1=qs[k].1
    ·have h1':ps[k].1.toList=qs[k].1.toList:=congrArg ByteArray.toList h1
     by_cases h2:ps[k].2=qs[k].2
     ·have h2':ps[k].2.toList=qs[k].2.toList:=congrArg ByteArray.toList h2
      have HQ:=Za (ZlD HE.out hlt hlt2 (Prod.ext h1 h2));clear h1 h2;go_wp2
      go_region
      all_goals go_wp2
      all_goals go_roundw
      all_goals first|exact⟨k+1,by omega,by go_num,HQ.out,HN.out.drew⟩|(simp[intOf];omega)
     ·have h2':=Zif h2
      have HQ:=Za (show decide (ps=qs)=false from decide_eq_false fun e=>h2 (by subst e;rfl))
      clear h1 h2;go_wp2
      go_region
      all_goals go_wp2
      all_goals go_ret
      all_goals exact⟨by rw[HQ.out];rfl,HN.out.drew⟩
    ·have h1':=Zif h1
     have HQ:=Za (show decide (ps=qs)=false from decide_eq_false fun e=>h1 (by subst e;rfl))
     clear h1;go_wp2
     go_region
     all_goals go_wp2
     all_goals go_ret
     all_goals exact⟨by rw[HQ.out];rfl,HN.out.drew⟩
   ·have HQ:=Za (show decide (ps=qs)=true from decide_eq_true (by have h:=HE.out;rw[Xa (by omega),Xa (by have:=HL.out;omega)]at h;exact h))
    clear hnone hsome hnone2 hsome2;go_wp2;go_ret
    exact⟨by rw[HQ.out];rfl,HN.out⟩
 ·have hl':((ps.length:Int) != (qs.length:Int))=true:=by simp only[bne_iff_ne];omega
  have hl'':((ps.length:Int)==(qs.length:Int))=false:=beq_eq_false_iff_ne.2 (by omega)
  have HQ:=Za (show decide (ps=qs)=false from decide_eq_false fun e=>hl (by rw[e]))
  clear hl hnone hsome hnone2 hsome2
  go_enter Tryz.func59,Tryz.ntmps59
  go_wp2;go_ret
  exact⟨by rw[HQ.out];rfl,Nx.rfl⟩
theorem Zgu(a b:Value)(ps qs:LA)(w:World)(ha:ZbB w a ps)(hb:ZbB w b qs):Calls Tryz.prog 46 #[a,b] w fun e w'=>e=.returned (.bool (decide (ps=qs)))∧Nx w w':=by
 obtain⟨ao,cap,rfl,hlc,hcap,hnone,hsome⟩:=ha;obtain⟨bo,cap2,rfl,hlc2,hcap2,hnone2,hsome2⟩:=hb;unfold maxLen at hcap hcap2
 by_cases hl:ps.length=qs.length
 ·have hl':((ps.length:Int) != (qs.length:Int))=false:=by rw[hl];simp
  have hl'':((ps.length:Int)==(qs.length:Int))=true:=by rw[hl];simp
  have HL:=Za hl;clear hl
  go_enter Tryz.func46,Tryz.ntmps46
  go_wp2
  go_loopw [5] (fun i wr=>∃k:Nat,k≤ps.length∧i=.int .i64 k∧ps.take k=qs.take k∧Nx w wr) (fun i _=>ps.length-(intOf i).toNat)
  case atStart=>exact⟨0,Xh _,rfl,rfl,Nx.rfl⟩
  case round=>
   obtain⟨k,hk,rfl,hE,hnx⟩:=hrel;have HE:=Za hE;have HN:=Za hnx;clear hE hnx
   by_cases hlt:k<ps.length
   ·have hlt2:k<qs.length:=by rw[←HL.out];exact hlt
    obtain⟨a,ha⟩:=Zw hlt hnone;subst ha;obtain⟨b,off,rfl,hr⟩:=hsome a rfl;have c0:=(hr.on HN.out).cell hlt;obtain⟨a2,ha2⟩:=Zw hlt2 hnone2;subst ha2;obtain⟨b2,off2,rfl,hr2⟩:=hsome2 a2 rfl;have d0:=(hr2.on HN.out).cell hlt2;clear hnone hsome hnone2 hsome2 hr hr2
    by_cases h1:ps[k]=qs[k]
    ·have h1':ps[k].toList=qs[k].toList:=congrArg ByteArray.toList h1
     have hb1:(ps[k].toList==qs[k].toList)=true:=beq_iff_eq.2 h1'
     have hb2:(ps[k].toList != qs[k].toList)=false:=by rw[bne,hb1];rfl
     have HQ:=Za (show ps.take (k+1)=qs.take (k+1)by rw[Xc hlt,Xc hlt2,HE.out,h1])
     clear h1;go_wp2
     go_region
     all_goals go_wp2
     all_goals go_roundw
     all_goals first|exact⟨k+1,by omega,by go_num,HQ.out,HN.out.drew⟩|(simp[intOf];omega)
    ·have h1':=Zif h1
     have hb1:(ps[k].toList==qs[k].toList)=false:=beq_eq_false_iff_ne.2 h1'
     have hb2:(ps[k].toList != qs[k].toList)=true:=by rw[bne,hb1];rfl
     have HQ:=Za (show decide (ps=qs)=false from decide_eq_false fun e=>h1 (by subst e;rfl))
     clear h1;go_wp2
     go_region
     all_goals go_wp2
     all_goals go_ret
     all_goals exact⟨by rw[HQ.out];rfl,HN.out.drew⟩
   ·have HQ:=Za (show decide (ps=qs)=true from decide_eq_true (by have h:=HE.out;rw[Xa (by omega),Xa (by have:=HL.out;omega)]at h;exact h))
    clear hnone hsome hnone2 hsome2;go_wp2;go_ret
    exact⟨by rw[HQ.out];rfl,HN.out⟩
 ·have hl':((ps.length:Int) != (qs.length:Int))=true:=by simp only[bne_iff_ne];omega
  have hl'':((ps.length:Int)==(qs.length:Int))=false:=beq_eq_false_iff_ne.2 (by omega)
  have HQ:=Za (show decide (ps=qs)=false from decide_eq_false fun e=>hl (by rw[e]))
  clear hl hnone hsome hnone2 hsome2
  go_enter Tryz.func46,Tryz.ntmps46
  go_wp2;go_ret
  exact⟨by rw[HQ.out];rfl,Nx.rfl⟩
end Go.Proofs.YtchkhibgbnhjpabGreatDoor
