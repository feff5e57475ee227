import Derived.Test.YtchkhibgbnhjpabGreatDoorV34
open List renaming mem_append→Xa,getElem_mem→Xb,cons_append→Xc,length_take→Xd,mem_cons_of_mem→Xe,reverse_append→Xf,mem_filter→Xg,append_nil→Xh,length_pos_of_mem→Xi,reverse_reverse→Xj,dropWhile_cons→Xl,mem_singleton→Xm,length_append→Xn,all_eq_true→Xo,mem_reverse→Xp,mem_map→Xr
open Nat renaming zero_le→Xk,le_refl→Xs
namespace Go.Proofs.YtchkhibgbnhjpabGreatDoor
open Go.RowKit
set_option maxHeartbeats 8000000
set_option maxRecDepth 8000
theorem ZmL(pb:Nat)(r:Rc)(u:U)(bs:LA)(n:BA)(w:World)(h0:UrlB w pb r)(h:RcIs w r u bs)(hn:n.size≤1000000):Calls Tryz.prog 41 #[.pointer (some ⟨pb,0,none⟩),.string n] w fun e w'=>∃(t:BA) (b:Bool),e=.returned (.tuple #[.string t,.bool b])∧(n.size≤160→b=decide (0<((Zh u.q).filter (hitP (clean (tl n)) [] false)).length)∧tl t=Zlu ((Zh u.q).filter (hitP (clean (tl n)) [] false)))∧Nx w w':=by
 by_cases hl:n.size≤160
 ·refine(ZmH pb r u bs n w h0 h hl).mono ?_
  rintro e w' ⟨t,rfl,ht,hn⟩
  exact⟨t,_,rfl,fun _=>⟨rfl,ht⟩,hn⟩
 ·go_enter Tryz.func41,Tryz.ntmps41
  go_wp2_with fail
  refine(Zce n ⟨#[]⟩ _ (by unfold maxLen;omega) (Zg (by decide))).mono ?_
  rintro e w' ⟨rfl,rfl⟩
  rw[decide_eq_true (show 160<n.size∨160<(⟨#[]⟩:BA).size from Or.inl (by omega))]
  go_wp2;go_ret2
  exact⟨_,_,rfl,fun g=>absurd g hl,Nx.rfl⟩
theorem Zq8(pb:Nat)(r:Rc)(u:U)(bs:LA)(n x:BA)(valued:Bool)(w:World)(h0:UrlB w pb r)(h:RcIs w r u bs)(hn:n.size≤1000000)(hx:x.size≤1000000):Calls Tryz.prog 43 #[.pointer (some ⟨pb,0,none⟩),.string n,.string x,.bool valued] w fun e w'=>∃b:Bool,e=.returned (.bool b)∧(n.size≤160→x.size≤160→b=decide (0<((Zh u.q).filter (hitP (clean (tl n)) (clean (tl x)) valued)).length))∧Nx w w':=by
 by_cases hl:n.size≤160∧x.size≤160
 ·refine(ZqZ pb r u bs n x valued w h0 h hl.1 hl.2).mono ?_
  rintro e w' ⟨rfl,hn⟩
  exact⟨_,rfl,fun _ _=>rfl,hn⟩
 ·go_enter Tryz.func43,Tryz.ntmps43
  go_wp2_with fail
  refine(Zce n x _ (by unfold maxLen;omega) (by unfold maxLen;omega)).mono ?_
  rintro e w' ⟨rfl,rfl⟩
  rw[decide_eq_true (show 160<n.size∨160<x.size by omega)]
  go_wp2;go_ret
  exact⟨_,rfl,fun g1 g2=>absurd ⟨g1,g2⟩ hl,Nx.rfl⟩
theorem names_map(n:BA)(ps:List Pq):(ps.map tl2).filter (hitP (tl n) [] false)=(ps.filter (nameQ n)).map tl2:=by
 rw[List.filter_map]
 congr 1
 apply List.filter_congr
 intro p _
 show hitP (tl n) [] false (tl2 p)=nameQ n p
 unfold hitP nameQ tl2;rw[ByteArray.toList_eq,ByteArray.toList_eq];simp only[Bool.not_false,Bool.true_or,Bool.and_true]
 rfl
theorem Zpk(l:List Pq):Zlu (l.map tl2)=tl (Zgf l):=by cases l<;>rfl
theorem Zjs(pb:Nat)(r:Rc)(u:U)(bs:LA)(a0 a1 a2 a3 a4 a5 a6 a7 a8 a9 a10:BA)(w:World)(hu:UrlB w pb r)(hr:RcIs w r u bs)(h9:a9.size=0→Zh u.q=[]):Calls Tryz.prog 39 #[.pointer (some ⟨pb,0,none⟩),.agg #[.string a0,.string a1,.string a2,.string a3,.string a4,.string a5,.string a6,.string a7,.string a8,.string a9,.string a10]] w fun e w'=>e=.returned (.bool true)∧Nx w w':=by
 have HU:=Za hu;have HR:=Za hr;have H9:=Za h9;have HLQ:=Za (Zgd hr);clear hu hr h9
 go_enter Tryz.func39,Tryz.ntmps39
 have HC:=Za (show C11 (w.alloc (Obj.cells #[.string a0,.string a1,.string a2,.string a3,.string a4,.string a5,.string a6,.string a7,.string a8,.string a9,.string a10] 66)) w.heap.size (.string a0) (.string a1) (.string a2) (.string a3) (.string a4) (.string a5) (.string a6) (.string a7) (.string a8) (.string a9) (.string a10)from heap_alloc_new w _);have HN1:=Za (show Nx w (w.alloc (Obj.cells #[.string a0,.string a1,.string a2,.string a3,.string a4,.string a5,.string a6,.string a7,.string a8,.string a9,.string a10] 66))from Nx.rfl.alloc _);go_upto_region 1 with fail;generalize w.alloc (Obj.cells #[.string a0,.string a1,.string a2,.string a3,.string a4,.string a5,.string a6,.string a7,.string a8,.string a9,.string a10] 66)=w1 at *;go_wp2_with fail
 refine(Zpc pb r u bs _ (HU.out.on HN1.out) (HR.out.on HN1.out)).mono ?_
 rintro e w2 ⟨rfl,hn2⟩;have HN2:=Za (HN1.out.then hn2);have HC2:=Za (HC.out.on hn2);clear hn2 HC;go_wp2_with fail
 refine(Zeq pb r u bs _ (HU.out.on HN2.out) (HR.out.on HN2.out)).mono ?_
 rintro e w3 ⟨l,ps,rfl,hl3,hm3,hn3⟩;have hc:=ZaB hm3 HLQ.out;have HPL:=Za (hl3.at hc);have HSZ:=Za (Zd8 hm3 HLQ.out);have HM:=Za hm3
 have hpl:(Zh u.q).length=ps.length:=by rw[←hm3,List.length_map]
 have HN3:=Za (HN2.out.then hn3);have HC3:=Za (HC2.out.on hn3);obtain⟨ao,cap,hve⟩:=hl3.slice;subst hve
 have H9':=Za (show a9.size=0→ps=[]from fun g=>List.map_eq_nil_iff.1 (hm3.trans (H9.out g)))
 clear hl3 hm3 hn3 HC2 H9;rw[hpl];clear hpl;obtain⟨-,-,-,-,-,-,-,-,-,c9,-⟩:=HC3.out.cells
 have hl':((ps.length:Int) != (ps.length:Int))=false:=by simp
 have hl'':((ps.length:Int)==(ps.length:Int))=true:=by simp
 go_upto_region 3 with fail
 go_cut [29]from 30 (fun x wx=>x=.bool false∧Nx w3 wx)
 case first=>
  by_cases hz:a9.size=0
  ·have h0:=H9'.out hz
   subst h0;have hs:=Zf hz;go_wp2
   go_meet
   case rel=>exact⟨rfl,Nx.rfl⟩
  ·have hs:=Ze hz
   go_wp2
   go_meet
   case rel=>exact⟨rfl,Nx.rfl⟩
 case rest=>
  obtain⟨rfl,hnn⟩:=hcut;obtain⟨w4,hwn⟩:∃wn,wn=wc:=⟨_,rfl⟩;subst hwn;have HN4:=Za (HN3.out.then hnn);have HPL4:=Za (HPL.out.on hnn);clear hnn c9 HPL HC3 H9';obtain⟨ao2,cap2,hse,hlc,hcap,hnone,hsome⟩:=id HPL4.out
  obtain⟨rfl,-,rfl⟩:=(by simpa using hse:ao=ao2∧True∧cap=cap2)
  unfold maxLen at hcap;go_wp2
  go_loopw [7] (fun i wr=>∃k:Nat,k≤ps.length∧i=.int .i64 k∧Nx w4 wr) (fun i _=>ps.length-(intOf i).toNat)
  case atStart=>exact⟨0,Xk _,rfl,Nx.rfl⟩
  case round=>
   obtain⟨k,hk,rfl,hnx⟩:=hrel;have HNR:=Za (HN4.out.then hnx)
   by_cases hlt:k<ps.length
   ·obtain⟨a,ha⟩:=Za6 hlt hnone
    subst ha;obtain⟨b,off,rfl,hrow⟩:=hsome a rfl;have HROW:=Za (hrow.on hnx);obtain⟨c0,c1⟩:=(hrow.on hnx).cell hlt;have HPR:=Za (HPL4.out.on hnx)
    have hmem:tl2 ps[k]∈Zh u.q:=by rw[←HM.out];exact Xr.2 ⟨_,Xb _,rfl⟩
    have HCL:=Za (ZeJ _ _ hmem);obtain⟨hz1,hz2⟩:=HSZ.out ps[k] (Xb _)
    have HH:=Za (show 0<((Zh u.q).filter (hitP (tl ps[k].1) (tl ps[k].2) true)).length from Xi (Xg.2 ⟨hmem,by simp[hitP,tl2]⟩))
    have HV:=Za (show 0<((Zh u.q).filter (hitP (tl ps[k].1) [] false)).length from Xi (Xg.2 ⟨hmem,by simp[hitP,tl2]⟩))
    have HE1:=Za (show clean (tl ps[k].1)=tl ps[k].1 from HCL.out.1.clean);have HE2:=Za (show clean (tl ps[k].2)=tl ps[k].2 from HCL.out.2.clean);have HW4:=Za hnx
    have HCE:=Za (fun(w':World) (hw:Nx wr w')=>(HROW.out.on hw).cell hlt)
    clear hnone hsome hrow hnx hmem HCL;generalize ps[k]=d at *;obtain⟨cn,cv⟩:=d;simp only at c0 c1 hz1 hz2 HH HV HE1 HE2 HCE;obtain⟨w5,hw5⟩:∃w5,w5=wr:=⟨_,rfl⟩;subst hw5;go_wp2_with fail
    refine(ZmL pb r u bs cn _ (HU.out.on HNR.out) (HR.out.on HNR.out) hz1).mono ?_
    rintro e w6 ⟨tv,b1,rfl,hb1,hn6⟩;have HB1:=Za hb1;have HN6:=Za hn6;obtain⟨c0',c1'⟩:=HCE.out w6 hn6;clear hb1 hn6 c0 c1;go_upto_region 9 with fail
    go_cut [10]from 57 to 96 (fun x wx=>(∃b2:Bool,x=.bool b2∧(cn.size≤160→cv.size≤160→b2=true))∧Nx w6 wx)
    case first=>
     have HK:Hid (∀w',Nx w6 w'→w'.cell? ⟨b,off+k*2,none⟩=some (.string cn)∧w'.cell? ⟨b,off+k*2+1,none⟩=some (.string cv)):=Za (fun w' hx=>HCE.out w' (HN6.out.then hx))
     go_region_held (fun w'=>w'.cell? ⟨b,off+k*2,none⟩=some (.string cn)∧w'.cell? ⟨b,off+k*2+1,none⟩=some (.string cv)) (first|exact⟨c0',c1'⟩|exact HK.out _ HNZ.out) ((go_at_call 43;refine(Zq8 pb r u bs cn cv true _ (HU.out.on (by first|exact(HNR.out.then HN6.out).then Nx.rfl.drew|exact HNR.out.then HN6.out)) (HR.out.on (by first|exact(HNR.out.then HN6.out).then Nx.rfl.drew|exact HNR.out.then HN6.out)) hz1 hz2).mono ?_;rintro e wz ⟨b2,rfl,hb2,hnz⟩;have HB2:=Za hb2;clear hb2;have HNZ:=Za (show Nx w6 wz from Nx.then (show Nx w6 _ by first|exact Nx.rfl.drew|exact Nx.rfl) hnz);clear hnz))
     all_goals go_wp2_with fail
     all_goals go_meet
     all_goals exact⟨⟨_,rfl,fun g1 g2=>(HB2.out g1 g2).trans (decide_eq_true (by rw[HE1.out,HE2.out];exact HH.out))⟩,HNZ.out⟩
    case rest=>
     obtain⟨⟨b2,rfl,hb2⟩,hnn⟩:=hcut;obtain⟨w7,hwn⟩:∃wn,wn=wc:=⟨_,rfl⟩;subst hwn;have HB2:=Za hb2;have HN7:=Za (HN6.out.then hnn)
     have HF:=Za (show ∀w',Nx w7 w'→Calls Tryz.prog 95 #[.slice (some ⟨b,off,none⟩) ps.length cap,.string cn] w' fun e w''=>e=.returned (.string (Zgf (ps.filter (nameQ cn))))∧w'=w'' from fun w' hw=>ZmI _ ps cn w' (HPR.out.on (HN7.out.then hw)))
     obtain⟨d0,d1⟩:=HCE.out w7 HN7.out;clear hb2 hnn c0' c1'
     by_cases hl1:160<cn.size
     ·clear HB1 HB2
      go_wp2_with fail
      refine(HF.out _ (by first|exact Nx.rfl.drew|exact Nx.rfl)).mono ?_
      rintro e w' ⟨rfl,rfl⟩;go_wp2
      go_roundw
      case rel=>exact⟨k+1,by omega,by go_num,HW4.out.then (by first|exact HN7.out|exact HN7.out.drew)⟩
      case measure=>simp[intOf];omega
     ·by_cases hl2:160<cv.size
      ·clear HB1 HB2
       go_wp2_with fail
       refine(HF.out _ (by first|exact Nx.rfl.drew|exact Nx.rfl)).mono ?_
       rintro e w' ⟨rfl,rfl⟩;go_wp2
       go_roundw
       case rel=>exact⟨k+1,by omega,by go_num,HW4.out.then (by first|exact HN7.out|exact HN7.out.drew)⟩
       case measure=>simp[intOf];omega
      ·have hb2:=HB2.out (by omega) (by omega)
       obtain⟨hb1,ht1⟩:=HB1.out (by omega)
       rw[HE1.out,decide_eq_true HV.out]at hb1;rw[HE1.out,←HM.out,names_map,Zpk]at ht1;subst hb1;subst hb2;have hts:(tv.toList==(Zgf (ps.filter (nameQ cn))).toList)=true:=Zer ht1;have hts':(tv.toList != (Zgf (ps.filter (nameQ cn))).toList)=false:=ZgB hts;clear HB1 HB2 ht1;go_wp2_with fail
       refine(HF.out _ (by first|exact Nx.rfl.drew|exact Nx.rfl)).mono ?_
       rintro e w' ⟨rfl,rfl⟩;go_wp2
       go_roundw
       case rel=>exact⟨k+1,by omega,by go_num,HW4.out.then (by first|exact HN7.out|exact HN7.out.drew)⟩
       case measure=>simp[intOf];omega
   ·clear hnone hsome hnx
    go_wp2;go_ret;exact⟨rfl,HNR.out⟩
abbrev ZsU(a0 a1 a2 a3 a4 a5 a6 a7 a8 a9 a10:ByteArray):Array Value:=#[.string a0,.string a1,.string a2,.string a3,.string a4,.string a5,.string a6,.string a7,.string a8,.string a9,.string a10]
theorem Zjv{c:LB}(hc:c≠[]){l:LB}(h:ZaL c l=[]):l=[]:=by
 unfold ZaL at h
 split at h
 ·next e=>exact e
 ·exact absurd (List.append_eq_nil_iff.1 h).1 hc
theorem Zhn(pb:Nat)(r:Rc)(u:U)(bs:LA)(w:World)(hu:UrlB w pb r)(hr:RcIs w r u bs)(ht:Tb w)(hst:St u)(hpl:(pathU u).length≤9000):Calls Tryz.prog 14 #[.pointer (some ⟨pb,0,none⟩)] w fun e w'=>e=.returned (.bool true)∧Nx w w':=by
 have HU:=Za hu;have HR:=Za hr;have HTB:=Za ht;have HST:=Za hst;have HPL:=Za hpl;clear hu hr ht hst hpl
 go_enter Tryz.func14,Tryz.ntmps14
 go_wp2_with fail
 refine(ZeL pb r u bs _ HU.out HR.out HTB.out (fun _=>HPL.out)).mono ?_
 rintro e w1 ⟨ha,hn1⟩;have hz:=HR.out.five
 have hzh:u.host.length≤1000000:=by rw[←HR.out.eq];show(tl r.host).length≤_;rw[tl_length];have:=HR.out.lhost;omega
 have hzs:u.sch.length≤999999:=by rw[←HR.out.eq];show(tl r.sch).length≤_;rw[tl_length];have:=HR.out.lsch;omega
 obtain⟨v1,e1,hv1⟩:=ZmT u HST.out.st.sd hzs hz.2.1 hz.2.2.1 hz.2.2.2.1 hz.2.2.2.2 hzh e ha;obtain⟨v2,e2,hv2⟩:=Zkx u HST.out.st.wf hz.1 hz.2.1 hz.2.2.1 hz.2.2.2.1 hz.2.2.2.2 e ha;obtain⟨v3,e3,hv3⟩:=Zju u HST.out hz.1 e ha;obtain⟨a0,a1,a2,a3,a4,a5,a6,a7,a8,a9,a10,rfl,g0,g1,g2,g3,g4,g5,g6,g7,g8,g9,g10,-,-⟩:=ha
 have H9:=Za (show a9.size=0→Zh u.q=[]from fun g=>by
  have h:Z4 u=[]:=by rw[←g9];exact Zz g
  rw[Zjv (by decide) h]
  decide +kernel)
 obtain rfl:=Ending.returned.inj e1;obtain rfl:=Ending.returned.inj e2;obtain rfl:=Ending.returned.inj e3;have HV1:=Za hv1;have HV2:=Za hv2;have HV3:=Za hv3;have HN1:=Za (hn1.alloc (Obj.cells (ZsU a0 a1 a2 a3 a4 a5 a6 a7 a8 a9 a10) 66));have HC:=Za (show C11 (w1.alloc (Obj.cells (ZsU a0 a1 a2 a3 a4 a5 a6 a7 a8 a9 a10) 66)) w1.heap.size (.string a0) (.string a1) (.string a2) (.string a3) (.string a4) (.string a5) (.string a6) (.string a7) (.string a8) (.string a9) (.string a10)from heap_alloc_new w1 _);clear g0 g1 g2 g3 g4 g5 g6 g7 g8 g9 g10 hn1 hz hzh hzs e1 e2 e3 hv1 hv2 hv3;unfold ZsU at *;go_upto_region 2 with fail;generalize w1.alloc (Obj.cells #[.string a0,.string a1,.string a2,.string a3,.string a4,.string a5,.string a6,.string a7,.string a8,.string a9,.string a10] 66)=w2 at *;obtain⟨c0,c1,c2,c3,c4,c5,c6,c7,c8,c9,c10⟩:=HC.out.cells;go_wp2_with fail
 refine(HV1.out _).mono ?_
 rintro e w3 ⟨rfl,hn3⟩;have HN3:=Za (HN1.out.then hn3);have HC3:=Za (HC.out.on hn3);clear hn3 c0 c1 c2 c3 c4 c5 c6 c7 c8 c9 c10;obtain⟨c0,c1,c2,c3,c4,c5,c6,c7,c8,c9,c10⟩:=HC3.out.cells;go_wp2_with fail
 refine(HV2.out _).mono ?_
 rintro e w4 ⟨rfl,hn4⟩;have HN4:=Za (HN3.out.then hn4);have HC4:=Za (HC3.out.on hn4);clear hn4 c0 c1 c2 c3 c4 c5 c6 c7 c8 c9 c10;obtain⟨c0,c1,c2,c3,c4,c5,c6,c7,c8,c9,c10⟩:=HC4.out.cells;go_wp2_with fail
 refine(HV3.out _ (HTB.out.on HN4.out)).mono ?_
 rintro e w5 ⟨rfl,hn5⟩;have HN5:=Za (HN4.out.then hn5);have HC5:=Za (HC4.out.on hn5);clear hn5 c0 c1 c2 c3 c4 c5 c6 c7 c8 c9 c10;obtain⟨c0,c1,c2,c3,c4,c5,c6,c7,c8,c9,c10⟩:=HC5.out.cells;go_wp2_with fail
 refine(Zjs pb r u bs a0 a1 a2 a3 a4 a5 a6 a7 a8 a9 a10 _ (HU.out.on HN5.out) (HR.out.on HN5.out) H9.out).mono ?_
 rintro e w6 ⟨rfl,hn6⟩;have HN6:=Za (HN5.out.then hn6);clear hn6;go_wp2;go_ret;exact⟨rfl,HN6.out⟩
def ZeQ:List UInt8:=[104,116,116,112,58,47,47,104,47,63,122,61,49,38,37,69,70,37,66,68,37,57,69,61,50,38,37,70,48,37,57,70,37,57,56,37,56,48,61,51,38,122,61,48]
def ZrJ:List UInt8:=[104,116,116,112,58,47,47,104,47,63,122,61,49,38,122,61,48,38,37,70,48,37,57,70,37,57,56,37,56,48,61,51,38,37,69,70,37,66,68,37,57,69,61,50]
theorem Zrd:(Zat ZeQ [] false).2=0:=by decide +kernel
theorem ZmV:Zdg (ZS (Zat ZeQ [] false).1 (Zav ltB (Zh (Zat ZeQ [] false).1.q)))=ZrJ:=by decide +kernel
theorem ZsV:(ZR (Zav ltB (Zh (Zat ZeQ [] false).1.q))).length≤300000:=by decide +kernel
theorem Zgk(w:World)(ht:Tb w):Calls Tryz.prog 25 #[] w fun e w'=>e=.returned (.bool true)∧Nx w w':=by
 have HTB:=Za ht
 have HP:=Za (Zhk ⟨#[104,116,116,112,58,47,47,104,47,63,122,61,49,38,37,69,70,37,66,68,37,57,69,61,50,38,37,70,48,37,57,70,37,57,56,37,56,48,61,51,38,122,61,48]⟩ ⟨#[]⟩ false w (Zg (by decide)) (Zg (by decide)) ht)
 rw[show tl (⟨#[104,116,116,112,58,47,47,104,47,63,122,61,49,38,37,69,70,37,66,68,37,57,69,61,50,38,37,70,48,37,57,70,37,57,56,37,56,48,61,51,38,122,61,48]⟩:BA)=ZeQ from rfl,show tl (⟨#[]⟩:BA)=[]from rfl]at HP;have H0:=Za Zrd;have H1:=Za ZmV;have H2:=Za ZsV;generalize Zat ZeQ [] false=x at *;clear ht
 go_enter Tryz.func25,Tryz.ntmps25
 go_wp2_with fail
 refine HP.out.mono ?_
 rintro e w1 ⟨hp,hn1⟩;rcases hp with⟨he,rfl⟩|⟨he,pb,r,bs,rfl,hu,hr,hpb⟩
 ·exact absurd H0.out he
 ·have HU:=Za hu
  have HR:=Za hr;have HPB:=Za hpb;have HN1:=Za hn1;clear hu hr hpb hn1 he HP;go_wp2_with fail
  refine(Zjl pb r x.1 bs w1 HU.out HR.out H2.out).mono ?_
  rintro e w2 ⟨rfl,⟨r2,hu2,hr2⟩,hb2⟩;have HU2:=Za hu2;have HR2:=Za hr2;have HN2:=Za (show Nx w w2 from HN1.out.trans (hb2.below HPB.out HN1.out.size));clear hu2 hr2 hb2;go_wp2_with fail
  refine(Zj7 pb r2 _ bs w2 HU2.out HR2.out (HTB.out.on HN2.out)).mono ?_
  rintro e w3 ⟨t,rfl,htl,hn3⟩;rw[H1.out]at htl;have hq:=eqB htl;unfold ZrJ at hq;have HN3:=Za (HN2.out.then hn3);clear htl hn3;go_wp2;go_ret;exact⟨rfl,HN3.out⟩
theorem Zps:∀n:Fin 256,((formByte (UInt8.ofNat n.1)).all fun b=>decide (32≤b.toNat)&&decide (b.toNat≤126) && !Zx (b.toNat:Int) (tl (ZaN 2)) && !Zx (b.toNat:Int) (tl (ZaN 3)))=true:=by decide +kernel
theorem Zpt(sch:LB)(c:UInt8):Asis (SQ sch) (formByte c):=by
 intro b hb;have h:=Zps ⟨c.toNat,c.toNat_lt⟩;rw[show UInt8.ofNat (⟨c.toNat,c.toNat_lt⟩:Fin 256).1=c from UInt8.ofNat_toNat]at h;have h1:=Xo.1 h b hb;simp only[Bool.and_eq_true,decide_eq_true_eq,Bool.not_eq_true']at h1;obtain⟨⟨⟨h1,h2⟩,h3⟩,h4⟩:=h1
 refine⟨h1,h2,?_⟩
 unfold SQ Zbr
 split
 ·exact h4
 ·exact h3
theorem Zfs{set a b:LB}(ha:Asis set a)(hb:Asis set b):Asis set (a++b):=fun x hx=>(Xa.1 hx).elim (ha x) (hb x)
theorem Zpu(sch:LB){l:LB}(h:Cpt l):Asis (SQ sch) (ZaG l):=by rw[ZbC h];intro x hx;obtain⟨b,-,hb⟩:=List.mem_flatMap.1 hx;exact Zpt sch b x hb
theorem Zly(sch:LB){c:UInt8}(h:c=38∨c=61):Asis (SQ sch) [c]:=by
 intro b hb;rw[Xm]at hb;subst hb;unfold SQ Zbr;rcases h with rfl|rfl
 ·split<;>exact⟨by decide,by decide,by decide⟩
 ·split<;>exact⟨by decide,by decide,by decide⟩
theorem Zpv(sch:LB):∀ {ls:List LB},(∀a∈ls,Asis (SQ sch) a)→Asis (SQ sch) (Zbt 38 ls):=by
 intro ls
 induction ls with
 | nil=>intro _;exact ZaM _
 | cons a r ih=>
  intro h
  show Asis (SQ sch) (if r=[]then a else a++38::Zbt 38 r)
  split
  ·exact h a (by simp)
  ·exact Zfs (h a (by simp)) (Zfs (a:=[38]) (Zly sch (Or.inl rfl)) (ih (fun b hb=>h b (Xe _ hb))))
theorem Zre(sch:LB){ps:Lp}(h:∀p∈ps,Zjd p):Asis (SQ sch) (ZR ps):=by
 unfold ZR
 refine Zpv sch (fun a ha=>?_)
 obtain⟨p,hp,rfl⟩:=Xr.1 ha;exact Zfs (Zpu sch (h p hp).1) (Zfs (a:=[61]) (Zly sch (Or.inr rfl)) (Zpu sch (h p hp).2))
theorem Zdx(l:LB):∃n,l=dropBl l++List.replicate n 32:=by
 unfold dropBl
 have h:=List.takeWhile_append_dropWhile (p:=fun b:UInt8=>(b.toNat:Int)==32) (l:=l.reverse)
 have h2:=congrArg List.reverse h;rw[Xf,Xj]at h2
 refine⟨(l.reverse.takeWhile fun b=>(b.toNat:Int)==32).length,?_⟩
 conv=>lhs;rw[←h2]
 congr 1
 refine List.eq_replicate_iff.2 ⟨by simp,fun b hb=>?_⟩
 have hall:=List.all_takeWhile (p:=fun b:UInt8=>(b.toNat:Int)==32) (l:=l.reverse)
 have h3:=Xo.1 hall b (Xp.1 hb)
 exact UInt8.toNat_inj.1 (by have:=beq_iff_eq.1 h3;show b.toNat=32;omega)
theorem ZeR{l:LB}{b:UInt8}(h:b∈dropBl l):b∈l:=by obtain⟨n,e⟩:=Zdx l;rw[e];exact Xa.2 (Or.inl h)
theorem ZmW(l:LB):NoEnd (dropBl l):=by
 intro a h;unfold dropBl at h;have h1:=congrArg List.reverse h;rw[Xj,Xf]at h1
 have h2:(List.dropWhile (fun b:UInt8=>(b.toNat:Int)==32) l.reverse).head?=some 32:=by rw[h1];rfl
 have:=List.head?_dropWhile_not (fun b:UInt8=>(b.toNat:Int)==32) l.reverse
 rw[h2]at this
 simp at this
theorem Zjw{l:LB}(h:countSl false l=0):countSl false (dropBl l)=0:=by
 obtain⟨n,e⟩:=Zdx l
 cases hd:dropBl l with
 | nil=>rfl
 | cons c r=>
  rw[hd]at e;rw[e]at h
  show countSl false (c::r)=0
  cases hc:slB false c
  ·exact Zhb _ hc
  ·rw[Xc,countSl,if_pos hc]at h
   cases h
theorem ZmX{u:U}(h:St u){S:Lp}(hS:∀p∈S,Zjd p):St (ZS u S):=by
 unfold ZS
 split
 ·unfold ZbZ Zbe
  split
  ·next hq=>
   exact⟨{ h.st with sd:={ h.st.sd with pq:=pr_nil },wf:=⟨h.st.wf.nh,fun _=>rfl,h.st.wf.nf⟩,aq:=ZaM _ },fun _ _ g=>absurd (show u.hf=true from hq.resolve_left (by intro x;cases x)) (by have g':u.hf=false:=g;rw[g'];decide)⟩
  ·refine⟨{ h.st with sd:={ h.st.sd with pq:=pr_nil,popath:=fun b hb=>h.st.sd.popath b (ZeR hb) },wf:=⟨h.st.wf.nh,fun _=>rfl,h.st.wf.nf⟩,aq:=ZaM _,opq:=fun g=>?_,zop:=fun g=>?_ },fun _ _ _=>ZmW _⟩
   ·obtain⟨a,b,c,d⟩:=h.st.opq g
    exact⟨a,b,Zjw c,fun x hx=>d x (ZeR hx)⟩
   ·show dropBl u.opath=[]
    rw[h.st.zop g]
    rfl
 ·exact⟨{ h.st with sd:={ h.st.sd with pq:=Zkr hS },wf:=⟨h.st.wf.nh,(fun g=>by cases g),h.st.wf.nf⟩,aq:=Zre _ hS },(fun _ g=>by cases g)⟩
theorem Zjx{u:U}{S:Lp}(hS:∀p∈S,Zjd p):Zh (ZS u S).q=S:=by
 unfold ZS
 split
 ·next e=>
  rw[show(ZbZ u).q=[]by unfold ZbZ Zbe;split<;>rfl,e]
  decide +kernel
 ·exact Zf8 hS
structure ZkB (u v:U):Prop where
 sch:v.sch=u.sch
 nam:v.nam=u.nam
 pw:v.pw=u.pw
 hh:v.hh=u.hh
 host:v.host=u.host
 hp:v.hp=u.hp
 port:v.port=u.port
 op:v.op=u.op
 segs:v.segs=u.segs
 hf:v.hf=u.hf
 fr:v.fr=u.fr
 opath:v.opath=u.opath∨v.opath=dropBl u.opath
theorem Zco(u:U)(S:Lp):ZkB u (ZS u S):=by
 unfold ZS
 split
 ·unfold ZbZ Zbe
  split
  ·exact⟨rfl,rfl,rfl,rfl,rfl,rfl,rfl,rfl,rfl,rfl,rfl,Or.inl rfl⟩
  ·exact⟨rfl,rfl,rfl,rfl,rfl,rfl,rfl,rfl,rfl,rfl,rfl,Or.inr rfl⟩
 ·exact⟨rfl,rfl,rfl,rfl,rfl,rfl,rfl,rfl,rfl,rfl,rfl,Or.inl rfl⟩
theorem ZkC(a:LB)(n:Nat):trimB (a++List.replicate n 32)=trimB a:=by
 have hb:∀x∈List.replicate n (32:UInt8),Z2 x=true:=fun x hx=>by rw[(List.mem_replicate.1 hx).2];decide
 unfold trimB
 have hd:∀(p s:LB),(∀x∈p,Z2 x=true)→List.dropWhile Z2 (p++s)=List.dropWhile Z2 s:=by
  intro p s hp
  induction p with
  | nil=>rfl
  | cons x r ih=>rw[Xc,List.dropWhile_cons_of_pos (hp x (by simp)),ih (fun y hy=>hp y (Xe _ hy))]
 by_cases ha:∀x∈a,Z2 x=true
 ·rw[hd a _ ha]
  have h1:=hd (List.replicate n 32) [] hb;rw[Xh]at h1;have h2:=hd a [] ha;rw[Xh]at h2;rw[h1,h2]
 ·have key:∀s,List.dropWhile Z2 (a++s)=List.dropWhile Z2 a++s:=by
   intro s;clear hd hb
   induction a with
   | nil=>exact absurd (fun x hx=>by cases hx) ha
   | cons x r ih=>
    rw[Xc,Xl,Xl]
    split
    ·next hx=>exact ih (fun g=>ha (fun y hy=>(List.mem_cons.1 hy).elim (fun e=>e ▸ hx) (g y)))
    ·rfl
  rw[key,Xf,hd _ _ (fun x hx=>hb x (Xp.1 hx))]
theorem ZkD{l:LB}(hp:Pr l):ZbK (dropBl l)=ZbK l:=by
 have e:wholeText (dropBl l)=wholeText l:=by
  unfold wholeText;obtain⟨n,h⟩:=Zdx l
  have h1:clean l=l:=Zcc (fun b hb=>by have:=hp b hb;omega)
  have h2:clean (dropBl l)=dropBl l:=Zcc (fun b hb=>by have:=hp b (ZeR hb);omega)
  rw[h1,h2]
  congr 1
  conv=>rhs;rw[h]
  exact(ZkC _ _).symm
 unfold ZbK ZD;rw[e]
theorem Zgl{u v:U}(h:ZkB u v):pathU v=pathU u∨(u.op=true∧pathU v=dropBl (pathU u)):=by
 unfold pathU;rw[h.op,h.segs]
 cases u.op
 ·exact Or.inl rfl
 ·rcases h.opath with e|e
  ·exact Or.inl e
  ·exact Or.inr ⟨rfl,e⟩
theorem ZkE{u v:U}(h:ZkB u v)(hs:St u):ZZ v=ZZ u:=by
 have hpl:Zo v=Zo u:=by unfold Zo Zl ZC;rw[h.sch,h.hp,h.host,h.port]
 have ht:ZbK (pathU v)=ZbK (pathU u):=by
  rcases Zgl h with e|⟨ho,e⟩
  ·rw[e]
  ·rw[e]
   exact ZkD (by unfold pathU;rw[if_pos ho];exact hs.st.sd.popath)
 unfold ZZ Zbz;rw[h.sch,hpl,ht]
theorem ZmY(c:Int):∀(l r:LB),(∀b∈l,(b.toNat:Int)≠c∧(b.toNat:Int)≠35)→signsB c (l++r)=signsB c r:=by
 intro l r
 induction l with
 | nil=>intro _;rfl
 | cons b l ih=>
  intro h
  obtain⟨h1,h2⟩:=h b (by simp)
  rw[Xc,signsB,if_neg (by simpa using h1),if_neg (by simpa using h2)]
  exact ih (fun x hx=>h x (Xe _ hx))
theorem ZmZ{u:U}(h:St u)(hq:u.hq=false):signsB 63 (Zdg u)=false:=by
 have ne:∀ {b c:UInt8},b≠c→(b.toNat:Int)≠(c.toNat:Int):=fun hb e=>hb (UInt8.toNat_inj.1 (by omega))
 unfold Zdg Zad
 rw[hq,if_neg (by decide),Xh]
 rw[ZmY 63 (u.sch++[58]++Zbb u++pathU u) _ (by
  intro b hb;rcases Xa.1 hb with hb|hb
  ·have hc:b≠35∧b≠63:=by
    rcases Xa.1 hb with hb|hb
    ·rcases Xa.1 hb with hb|hb
     ·have:=ZrG h.st.sd.sc b hb;exact⟨this.1,this.2.1⟩
     ·rw[Xm]at hb;subst hb;exact⟨by decide,by decide⟩
    ·have:=ZqE h.st b hb;exact⟨this.1,this.2.1⟩
   exact⟨ne hc.2,ne hc.1⟩
  ·have:=ZsA h.st b hb
   exact⟨ne this.2,ne this.1⟩)]
 split
 ·rfl
 ·rfl
theorem PlAt.take{w:World}{a:Addr}{n cap:Nat}{qs:List Pq}(h:PlAt w (.slice (some a) qs.length cap) qs)(hn:n≤qs.length):PlAt w (.slice (some a) n cap) (qs.take n):=by
 obtain⟨ao,cap',he,hlc,hcap,hnone,hsome⟩:=h
 obtain⟨rfl,-,rfl⟩:=(by simpa using he:some a=ao∧True∧cap=cap')
 refine⟨some a,cap,by rw[Xd,Nat.min_eq_left hn],by rw[Xd];omega,hcap,(fun g=>by cases g),fun x hx=>?_⟩
 obtain⟨b,off,hb,cs,fz,hh,hc⟩:=hsome x hx
 refine⟨b,off,hb,cs,fz,hh,fun i hi=>?_⟩
 have hi':i<qs.length:=by rw[Xd]at hi;omega
 have:=hc i hi';rw[List.getElem_take];exact this
theorem Zrf{f:Pq→Bool}{qs:List Pq}{k:Nat}(h:k<qs.length):((qs.take (k+1)).filter f).length=((qs.take k).filter f).length+(if f qs[k]=true then 1 else 0):=by
 rw[Zcd f qs k h,Xn]
 cases f qs[k]<;>rfl
theorem OpK.s1{w:World}{b:Nat}{kd c:Int}{s t:BA}(h:OpK w b kd c s t)(x:Int):OpK (w.setCell ⟨b,1,none⟩ (.int .i64 x)) b kd x s t:=by
 unfold OpK at *;simp only[World.setCell,Array.getElem?_modify,if_pos,h]
 rfl
theorem ZkF(v1 v2:Value)(ps qs:List Pq)(c:Int)(s t:BA)(w:World)(h1:PlAt w v1 ps)(h2:PlAt w v2 qs)(hl1:ps.length≤1000000)(hl2:qs.length≤1000000)(hs:s.size≤maxLen)(ht:t.size≤maxLen)(hz:∀p∈qs,p.1.size≤1000000)(hB:∀p∈qs,∀b∈tl p.1,b.toNat≤244)(ho:∀i (h:i+1<qs.length),ZaH (tl qs[i+1].1) (tl qs[i].1)=false)(hm:ps.length=qs.length∧∀p∈ps,ps.filter (nameQ p.1)=qs.filter (nameQ p.1)):Calls Tryz.prog 64 #[v1,v2,.agg #[.int .i64 3,.int .i64 c,.string s,.string t]] w fun e w'=>e=.returned (.bool true)∧Nx w w':=by
 have H1:=Za h1;have H2:=Za h2;have HA:=Za hz;have HB:=Za hB;have HC:=Za ho;have HD:=Za hm;clear hz hB ho hm;obtain⟨ao,cap,hv1,hlc,hcap,hnone,hsome⟩:=h1;subst hv1;obtain⟨bo,cap2,hv2,hlc2,hcap2,hnone2,hsome2⟩:=h2;subst hv2;unfold maxLen at hcap hcap2
 have HPS:=Za (fun w'=>ZaQ s w' hs)
 have HPT:=Za (fun w'=>ZaQ t w' ht)
 clear hs ht
 go_enter Tryz.func64,Tryz.ntmps64
 have HOP:=Za (show OpK (w.alloc (Obj.cells #[.int .i64 3,.int .i64 c,.string s,.string t] 53)) w.heap.size 3 c s t from heap_alloc_new w _);have HN1:=Za (show Nx w (w.alloc (Obj.cells #[.int .i64 3,.int .i64 c,.string s,.string t] 53))from Nx.rfl.alloc _);go_upto_region 1 with fail;generalize w.alloc (Obj.cells #[.int .i64 3,.int .i64 c,.string s,.string t] 53)=w1 at *;obtain⟨o0,o1,o2,o3⟩:=HOP.out.cells;go_wp2_with fail
 refine(HPS.out _).mono ?_
 rintro e w' ⟨rfl,rfl⟩;go_wp2_with fail
 refine(HPT.out _).mono ?_
 rintro e w' ⟨rfl,rfl⟩;clear hnone hsome hnone2 hsome2;go_wp2_with fail
 refine(Zh8 _ qs _ (H2.out.on HN1.out) hl2 HA.out HB.out HC.out).mono ?_
 rintro e w2 ⟨rfl,hn2⟩;have HN2:=Za (HN1.out.then hn2);clear hn2;go_wp2_with fail
 refine(Ze7 _ _ ps qs _ (H1.out.on HN2.out) (H2.out.on HN2.out) hl1 HD.out.1 HD.out.2).mono ?_
 rintro e w3 ⟨rfl,hn3⟩;have HN3:=Za (HN2.out.then hn3);clear hn3;go_wp2;go_ret;exact⟨rfl,HN3.out⟩
theorem ZkG(v1 v2:Value)(ps qs:List Pq)(kd:Int)(c:Int)(s t:BA)(w:World)(h1:PlAt w v1 ps)(h2:PlAt w v2 qs)(_hl1:ps.length≤1000000)(_hl2:qs.length≤1000000)(hs:s.size≤maxLen)(ht:t.size≤maxLen)(hkd:(kd==3)=false)(hno:(ZaI (tl s)&&ZaI (tl t))=false):Calls Tryz.prog 64 #[v1,v2,.agg #[.int .i64 kd,.int .i64 c,.string s,.string t]] w fun e w'=>e=.returned (.bool true)∧Nx w w':=by
 have H1:=Za h1;have H2:=Za h2;obtain⟨ao,cap,hv1,hlc,hcap,hnone,hsome⟩:=h1;subst hv1;obtain⟨bo,cap2,hv2,hlc2,hcap2,hnone2,hsome2⟩:=h2;subst hv2;unfold maxLen at hcap hcap2
 have HPS:=Za (fun w'=>ZaQ s w' hs)
 have HPT:=Za (fun w'=>ZaQ t w' ht)
 clear hs ht
 go_enter Tryz.func64,Tryz.ntmps64
 have HOP:=Za (show OpK (w.alloc (Obj.cells #[.int .i64 kd,.int .i64 c,.string s,.string t] 53)) w.heap.size kd c s t from heap_alloc_new w _);have HN1:=Za (show Nx w (w.alloc (Obj.cells #[.int .i64 kd,.int .i64 c,.string s,.string t] 53))from Nx.rfl.alloc _);go_upto_region 1 with fail;generalize w.alloc (Obj.cells #[.int .i64 kd,.int .i64 c,.string s,.string t] 53)=w1 at *;obtain⟨o0,o1,o2,o3⟩:=HOP.out.cells;go_wp2_with fail
 refine(HPS.out _).mono ?_
 rintro e w' ⟨rfl,rfl⟩;go_wp2_with fail
 refine(HPT.out _).mono ?_
 rintro e w' ⟨rfl,rfl⟩;have HE:=Za hno;clear hnone hsome hnone2 hsome2 hno;generalize ZaI (tl s)=p1 at *;generalize ZaI (tl t)=p2 at *
 cases p1
 ·go_wp2
  go_ret;exact⟨rfl,HN1.out⟩
 ·cases p2
  ·go_wp2
   go_ret;exact⟨rfl,HN1.out⟩
  ·exact absurd HE.out (by decide)
theorem Zib(v1 v2:Value)(ps qs:List Pq)(c:Int)(s t:BA)(w:World)(h1:PlAt w v1 ps)(h2:PlAt w v2 qs)(hl1:ps.length≤1000000)(hl2:qs.length≤1000000)(hs:s.size≤maxLen)(ht:t.size≤maxLen)(hpl:ZaI (tl s)=true∧ZaI (tl t)=true)(hq:qs=ps++[(s,t)]):Calls Tryz.prog 64 #[v1,v2,.agg #[.int .i64 0,.int .i64 c,.string s,.string t]] w fun e w'=>e=.returned (.bool true)∧Nx w w':=by
 have H1:=Za h1;have H2:=Za h2;have HPL:=Za hpl;have HQ:=Za hq;clear hpl hq;obtain⟨ao,cap,hv1,hlc,hcap,hnone,hsome⟩:=h1;subst hv1;obtain⟨bo,cap2,hv2,hlc2,hcap2,hnone2,hsome2⟩:=h2;subst hv2;unfold maxLen at hcap hcap2
 have HPS:=Za (fun w'=>ZaQ s w' hs)
 have HPT:=Za (fun w'=>ZaQ t w' ht)
 clear hs ht
 go_enter Tryz.func64,Tryz.ntmps64
 have HOP:=Za (show OpK (w.alloc (Obj.cells #[.int .i64 0,.int .i64 c,.string s,.string t] 53)) w.heap.size 0 c s t from heap_alloc_new w _);have HN1:=Za (show Nx w (w.alloc (Obj.cells #[.int .i64 0,.int .i64 c,.string s,.string t] 53))from Nx.rfl.alloc _);go_upto_region 1 with fail;generalize w.alloc (Obj.cells #[.int .i64 0,.int .i64 c,.string s,.string t] 53)=w1 at *;obtain⟨o0,o1,o2,o3⟩:=HOP.out.cells;go_wp2_with fail
 refine(HPS.out _).mono ?_
 rintro e w' ⟨rfl,rfl⟩;go_wp2_with fail
 refine(HPT.out _).mono ?_
 rintro e w' ⟨rfl,rfl⟩;rw[HPL.out.1,HPL.out.2];have hq:=HQ.out
 have hlen:qs.length=ps.length+1:=by rw[hq,Xn];rfl
 obtain⟨ad,had⟩:=Za6 (k:=ps.length) (by omega) hnone2
 subst had;obtain⟨b,off,rfl,hrow⟩:=hsome2 ad rfl;have HRW:=Za hrow
 have hlt:ps.length<qs.length:=by omega
 obtain⟨k0,k1⟩:=(hrow.on HN1.out).cell hlt
 have hget:qs[ps.length]=(s,t):=by simp[hq]
 rw[hget]at k0 k1;simp only at k0 k1
 have HTK:=Za (show qs.take ps.length=ps by rw[hq,List.take_append_of_le_length (Xs _),List.take_length])
 have hlen':((qs.length:Int)==(ps.length:Int)+1)=true:=beq_iff_eq.2 (by omega)
 have HSP:=Za (H2.out.take (n:=ps.length) (by omega))
 have HCE:=Za (fun(w':World) (hw:Nx w1 w')=>(hrow.on (HN1.out.then hw)).cell hlt)
 rw[hget]at HCE;simp only at HCE;clear hnone hsome hnone2 hsome2 hrow hq hget;go_wp2_with fail
 refine(ZbW _ _ ps ps _ (H1.out.on HN1.out) (by have h:=HSP.out.on HN1.out;rw[HTK.out]at h;exact h)).mono ?_
 rintro e w2 ⟨rfl,hn2⟩;rw[decide_eq_true (rfl:ps=ps)];have HN2:=Za (HN1.out.then hn2);obtain⟨m0,m1⟩:=HCE.out w2 hn2;obtain⟨q0,q1,q2,q3⟩:=(HOP.out.on hn2).cells;have es:(s.toList==s.toList)=true:=Zer rfl;have et:(t.toList==t.toList)=true:=Zer rfl;clear hn2 k0 k1 o0 o1 o2 o3;go_wp2
 go_region
 all_goals go_wp2
 all_goals go_ret
 all_goals exact⟨rfl,HN2.out.drew⟩
theorem Zic(v1 v2:Value)(ps qs:List Pq)(c:Int)(s t:BA)(w:World)(h1:PlAt w v1 ps)(h2:PlAt w v2 qs)(hl1:ps.length≤1000000)(hl2:qs.length≤1000000)(hs:s.size≤maxLen)(ht:t.size≤maxLen)(hpl:ZaI (tl s)=true∧ZaI (tl t)=true)(hq:qs=ps.filter (Zcg c s t)):Calls Tryz.prog 64 #[v1,v2,.agg #[.int .i64 1,.int .i64 c,.string s,.string t]] w fun e w'=>e=.returned (.bool true)∧Nx w w':=by
 have H1:=Za h1;have H2:=Za h2;have HPL:=Za hpl
 have HA:=Za (show ∀p∈qs,Zcg c s t p=true from fun p hp=>by rw[hq]at hp;exact(Xg.1 hp).2)
 have HB:=Za hq.symm;clear hpl hq;obtain⟨ao,cap,hv1,hlc,hcap,hnone,hsome⟩:=h1;subst hv1;obtain⟨bo,cap2,hv2,hlc2,hcap2,hnone2,hsome2⟩:=h2;subst hv2;unfold maxLen at hcap hcap2
 have HPS:=Za (fun w'=>ZaQ s w' hs)
 have HPT:=Za (fun w'=>ZaQ t w' ht)
 clear hs ht
 go_enter Tryz.func64,Tryz.ntmps64
 have HOP:=Za (show OpK (w.alloc (Obj.cells #[.int .i64 1,.int .i64 c,.string s,.string t] 53)) w.heap.size 1 c s t from heap_alloc_new w _);have HN1:=Za (show Nx w (w.alloc (Obj.cells #[.int .i64 1,.int .i64 c,.string s,.string t] 53))from Nx.rfl.alloc _);go_upto_region 1 with fail;generalize w.alloc (Obj.cells #[.int .i64 1,.int .i64 c,.string s,.string t] 53)=w1 at *;obtain⟨o0,o1,o2,o3⟩:=HOP.out.cells;go_wp2_with fail
 refine(HPS.out _).mono ?_
 rintro e w' ⟨rfl,rfl⟩;go_wp2_with fail
 refine(HPT.out _).mono ?_
 rintro e w' ⟨rfl,rfl⟩;rw[HPL.out.1,HPL.out.2];go_wp2
 go_loopw [13] (fun i wr=>∃k:Nat,k≤qs.length∧i=.int .i64 k∧Nx w1 wr) (fun i _=>qs.length-(intOf i).toNat)
 case atStart=>exact⟨0,Xk _,rfl,Nx.rfl⟩
 case round=>
  obtain⟨k,hk,rfl,hnx⟩:=hrel;have HN:=Za hnx;have HNW:=Za (HN1.out.then hnx);obtain⟨q0,q1,q2,q3⟩:=(HOP.out.on hnx).cells
  by_cases hlt:k<qs.length
  ·obtain⟨ad,had⟩:=Za6 hlt hnone2
   subst had;obtain⟨b,off,rfl,hrow⟩:=hsome2 ad rfl;obtain⟨k0,k1⟩:=(hrow.on (HN1.out.then hnx)).cell hlt;have HL:=Za (HA.out qs[k] (Xb _));clear hnone hsome hnone2 hsome2 hrow hnx o0 o1 o2 o3;generalize qs[k]=d at *;obtain⟨cn,cv⟩:=d;simp only at k0 k1
   have HQ:=Za (show Zcg c s t (cn,cv)=!(cn.toList==s.toList&&(!(c==1)||cv.toList==t.toList))from rfl)
   cases hd1:(cn.toList==s.toList)
   ·clear HQ HL
    go_wp2
    go_region
    all_goals go_wp2
    all_goals go_roundw
    all_goals first|exact⟨k+1,by omega,by go_num,HN.out.drew⟩|(simp[intOf];omega)
   ·cases hc:(c==1)
    ·exact absurd HL.out (by rw[HQ.out,hd1,hc];simp)
    ·have hc':(c != 1)=false:=by simp only[bne,hc];rfl
     cases hd2:(cv.toList==t.toList)
     ·clear HQ HL
      go_wp2
      go_region
      all_goals go_wp2
      all_goals go_roundw
      all_goals first|exact⟨k+1,by omega,by go_num,HN.out.drew⟩|(simp[intOf];omega)
     ·exact absurd HL.out (by rw[HQ.out,hd1,hc,hd2];decide)
  ·clear hnone hsome hnone2 hsome2 hnx o0 o1 o2 o3
   obtain⟨w2,hw2⟩:∃w2,w2=wr:=⟨_,rfl⟩;subst hw2;go_wp2_with fail
   refine(Zdw _ ps 1 c s t _ (H1.out.on HNW.out) hl1).mono ?_
   rintro e w3 ⟨r3,rfl,hp3,hn3⟩;have HP3:=Za hp3;have HN3:=Za (HNW.out.then hn3);obtain⟨ao3,cp3,hv3,-⟩:=id hp3;subst hv3;clear hp3 hn3 q0 q1 q2 q3;go_wp2_with fail
   refine(Ze7 _ _ qs _ _ (H2.out.on HN3.out) HP3.out hl2 (by rw[HB.out]) (fun p _=>by rw[HB.out])).mono ?_
   rintro e w4 ⟨rfl,hn4⟩;have HN4:=Za (HN3.out.then hn4);clear hn4;go_wp2;go_ret;exact⟨rfl,HN4.out⟩
theorem Zm0(v1 v2:Value)(ps qs:List Pq)(c:Int)(s t:BA)(w:World)(h1:PlAt w v1 ps)(h2:PlAt w v2 qs)(hl1:ps.length≤1000000)(hl2:qs.length≤1000000)(hs:s.size≤maxLen)(ht:t.size≤maxLen)(hpl:ZaI (tl s)=true∧ZaI (tl t)=true)(hone:(qs.filter (nameQ s)).length=1)(hval:∀p∈qs,nameQ s p=true→p.2=t)(hw:ps.filter (Zcg 0 s t)=qs.filter (Zcg 0 s t)):Calls Tryz.prog 64 #[v1,v2,.agg #[.int .i64 2,.int .i64 c,.string s,.string t]] w fun e w'=>e=.returned (.bool true)∧Nx w w':=by
 have H1:=Za h1;have H2:=Za h2;have HPL:=Za hpl;have HA:=Za hval;have HB:=Za hone;have HC:=Za hw;clear hpl hval hone hw;obtain⟨ao,cap,hv1,hlc,hcap,hnone,hsome⟩:=h1;subst hv1;obtain⟨bo,cap2,hv2,hlc2,hcap2,hnone2,hsome2⟩:=h2;subst hv2;unfold maxLen at hcap hcap2
 have HPS:=Za (fun w'=>ZaQ s w' hs)
 have HPT:=Za (fun w'=>ZaQ t w' ht)
 clear hs ht
 go_enter Tryz.func64,Tryz.ntmps64
 have HOP:=Za (show OpK (w.alloc (Obj.cells #[.int .i64 2,.int .i64 c,.string s,.string t] 53)) w.heap.size 2 c s t from heap_alloc_new w _);have HN1:=Za (show Nx w (w.alloc (Obj.cells #[.int .i64 2,.int .i64 c,.string s,.string t] 53))from Nx.rfl.alloc _);go_upto_region 1 with fail;generalize w.alloc (Obj.cells #[.int .i64 2,.int .i64 c,.string s,.string t] 53)=w1 at *;obtain⟨o0,o1,o2,o3⟩:=HOP.out.cells;go_wp2_with fail
 refine(HPS.out _).mono ?_
 rintro e w' ⟨rfl,rfl⟩;go_wp2_with fail
 refine(HPT.out _).mono ?_
 rintro e w' ⟨rfl,rfl⟩;rw[HPL.out.1,HPL.out.2];go_wp2
 go_loopw [15,16] (fun m i wr=>∃k:Nat,k≤qs.length∧i=.int .i64 k∧m=.int .i64 (((qs.take k).filter (nameQ s)).length:Int)∧Nx w1 wr) (fun _ i _=>qs.length-(intOf i).toNat)
 case atStart=>exact⟨0,Xk _,rfl,rfl,Nx.rfl⟩
 case round=>
  obtain⟨k,hk,rfl,rfl,hnx⟩:=hrel;have HN:=Za hnx;have HNW:=Za (HN1.out.then hnx);obtain⟨q0,q1,q2,q3⟩:=(HOP.out.on hnx).cells
  by_cases hlt:k<qs.length
  ·obtain⟨ad,had⟩:=Za6 hlt hnone2
   subst had;obtain⟨b,off,rfl,hrow⟩:=hsome2 ad rfl;obtain⟨k0,k1⟩:=(hrow.on (HN1.out.then hnx)).cell hlt;have HL:=Za (HA.out qs[k] (Xb _));have HST:=Za (Zrf (f:=nameQ s) hlt)
   have hle:((qs.take k).filter (nameQ s)).length≤qs.length:=Nat.le_trans (List.length_filter_le _ _) (by rw[Xd];omega)
   clear hnone hsome hnone2 hsome2 hrow hnx o0 o1 o2 o3;generalize qs[k]=d at *;obtain⟨cn,cv⟩:=d;simp only at k0 k1 HL;generalize ((qs.take k).filter (nameQ s)).length=m at *;have HQ:=Za (show nameQ s (cn,cv)=(cn.toList==s.toList)from rfl)
   cases hd1:(cn.toList==s.toList)
   ·have HM:=Za (show((qs.take (k+1)).filter (nameQ s)).length=m by rw[HST.out,if_neg (by rw[HQ.out,hd1];decide)];rfl)
    clear HQ HL;go_wp2
    go_region
    all_goals go_wp2
    all_goals go_roundw
    all_goals first|exact⟨k+1,by omega,by go_num,by rw[HM.out],HN.out.drew⟩|(simp[intOf];omega)
   ·have HM:=Za (show((qs.take (k+1)).filter (nameQ s)).length=m+1 by rw[HST.out,if_pos (by rw[HQ.out,hd1])])
    have hvt:=HL.out (by rw[HQ.out,hd1])
    subst hvt;have et:(cv.toList==cv.toList)=true:=Zer rfl;have et':(cv.toList != cv.toList)=false:=ZgB et;clear HQ HL;go_wp2
    go_region
    go_wp2
    go_region
    all_goals go_wp2
    all_goals go_roundw
    all_goals first|exact⟨k+1,by omega,by go_num,by rw[HM.out];go_num,HN.out.drew.drew⟩|(simp[intOf];omega)
  ·have e:qs.take k=qs:=List.take_of_length_le (by omega)
   rw[e,HB.out];clear hnone hsome hnone2 hsome2 hnx o0 o1 o2 o3 e;obtain⟨w2,hw2⟩:∃w2,w2=wr:=⟨_,rfl⟩;subst hw2;have f1:=(HOP.out.on HN.out).free 1;have HOP3:=Za ((HOP.out.on HN.out).s1 0);have hlt1:w.heap.size<w2.heap.size:=(Array.getElem?_eq_some_iff.1 (HOP.out.on HN.out)).1;have HNS:=Za (show Nx w (w2.setCell ⟨w.heap.size,1,none⟩ (.int .i64 0))from Below.setCell (p:=⟨w.heap.size,1,none⟩) HNW.out (Xs _) _);go_upto_region 31 with fail;generalize w2.setCell ⟨w.heap.size,1,none⟩ (.int .i64 0)=w3 at *;clear q0 q1 q2 q3 f1;obtain⟨q0,q1,q2,q3⟩:=HOP3.out.cells;go_wp2_with fail
   refine(Zdw _ ps 2 0 s t _ (H1.out.on HNS.out) hl1).mono ?_
   rintro e w4 ⟨r4,rfl,hp4,hn4⟩;have HP4:=Za hp4;have HN4:=Za (HNS.out.then hn4);have HOP4:=Za (HOP3.out.on hn4);obtain⟨ao4,cp4,hv4,-⟩:=id hp4;subst hv4;clear hp4 hn4 q0 q1 q2 q3;obtain⟨q0,q1,q2,q3⟩:=HOP4.out.cells;go_wp2_with fail
   refine(Zdw _ qs 2 0 s t _ (H2.out.on HN4.out) hl2).mono ?_
   rintro e w5 ⟨r5,rfl,hp5,hn5⟩;have HP5:=Za hp5;have HN5:=Za hn5;obtain⟨ao5,cp5,hv5,-⟩:=id hp5;subst hv5;clear hp5 hn5 q0 q1 q2 q3;go_wp2_with fail
   refine(ZbW _ _ _ _ _ (HP4.out.on HN5.out) HP5.out).mono ?_
   rintro e w6 ⟨rfl,hn6⟩;rw[decide_eq_true HC.out];have HN6:=Za ((HN4.out.then HN5.out).then hn6);clear hn6;go_wp2;go_ret;exact⟨rfl,HN6.out⟩
end Go.Proofs.YtchkhibgbnhjpabGreatDoor
