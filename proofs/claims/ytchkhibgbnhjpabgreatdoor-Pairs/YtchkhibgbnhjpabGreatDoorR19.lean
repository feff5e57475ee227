import Derived.Test.YtchkhibgbnhjpabGreatDoorR15
open Bool renaming true_eq_false→Xb
open Int renaming mul_one→Xf
open List renaming getElem_mem→Xa,nil_append→Xe,length_pos_iff→Xh
open Nat renaming add_zero→Xc,le_refl→Xd,zero_add→Xg,zero_le→Xi
namespace Go.Proofs.YtchkhibgbnhjpabGreatDoor
open Go.RowKit
set_option maxHeartbeats 4000000
set_option maxRecDepth 100000
def Zc9(c:Int):Bool:=alpha c||numeral c||among c [43,45,46]
def Zl7(a:List Int):Bool:=alpha (a.headD 0) && !a.isEmpty&&a.all Zc9
def schemeOf(l:List Int):List UInt8×List Int×Bool:=
 if(cut l [58]).2.2&&Zl7 (cut l [58]).1 then(lower (Zb (cut l [58]).1),(cut l [58]).2.1,true)else([],l,false)
theorem Zhm(v:Value)(l:LI)(w:World)(hv:IntsAt w v l)(hn:l.length≤100000)(hp:∀c∈l,Pt c):Calls Tryz.prog 172 #[v] w fun e w'=>∃(r:BA) (v':Value),e=.returned (.tuple #[.string r,v',.bool (schemeOf l).2.2])∧tl r=(schemeOf l).1∧IntsAt w' v' (schemeOf l).2.1∧Nx w w':=by
 have HV:=Za hv
 have HPC:=Za (fun c (h:c∈(cut l [58]).1)=>hp c (ZR (Or.inl h)))
 have HLC:=Za (Zce l [58])
 have HS:=Za (show schemeOf l=if(cut l [58]).2.2&&Zl7 (cut l [58]).1 then(lower (Zb (cut l [58]).1),(cut l [58]).2.1,true)else([],l,false)from rfl)
 go_enter Tryz.func172,Tryz.ntmps172
 go_wp2_with fail
 refine(Zdx _ l _ _ (Ze (by decide)) hv).mono ?_
 rintro e w1 ⟨v1,v2,rfl,hv1,hv2,hn1⟩;rw[show tl ⟨#[58]⟩=[58]from rfl]at hv1 hv2 ⊢;have HVN:=Za (HV.out.on hn1);have HN1:=Za hn1;clear hv hn1 HV hp;generalize cut l [58]=q at *;obtain⟨a,b,ok⟩:=q;simp only at *;have HV1:=Za hv1;have HV2:=Za hv2;clear hv2
 cases ok
 ·have HF:=Za (show schemeOf l=([],l,false)by rw[HS.out,if_neg (by simp)])
  clear HS;go_wp2
  go_ret3
  exact⟨_,_,by rw[HF.out];rfl,by rw[HF.out];rfl,by rw[HF.out];exact HVN.out,HN1.out⟩
 by_cases ha:a=[]
 ·subst ha
  have HF:=Za (show schemeOf l=([],l,false)by rw[HS.out,if_neg (by simp[Zl7])])
  clear HS;obtain⟨ao,cap,rfl,hlc,hcap,_,_⟩:=hv1;go_wp2
  go_ret3
  exact⟨_,_,by rw[HF.out];rfl,by rw[HF.out];rfl,by rw[HF.out];exact HVN.out,HN1.out⟩
 have hal:0<a.length:=Xh.2 ha;obtain⟨ab,aoff,acap,rfl,hlc,hcap,hr⟩:=hv1.open_ hal;unfold maxLen at hcap;have c0:=hr.cell hal;simp only[Xc]at c0;have HR:=Za hr;clear hr hv1
 have hhd:a.headD 0=a[0]:=by cases a with|nil=>exact absurd rfl ha|cons=>rfl
 have hane:a.isEmpty=false:=by cases a with|nil=>exact absurd rfl ha|cons=>rfl
 have HOK:=Za (show Zl7 a=(alpha a[0]&&a.all Zc9)by unfold Zl7;rw[hhd,hane];simp)
 clear ha hhd hane;generalize hfa:alpha a[0]=fa at *;have HFA:=Za hfa;clear hfa;go_wp2_with fail
 refine(ZcX _ _).mono ?_
 rintro e w' ⟨rfl,rfl⟩;rw[HFA.out]
 cases fa
 ·have HF:=Za (show schemeOf l=([],l,false)by rw[HS.out,if_neg (by rw[HOK.out];simp)])
  clear HS;go_wp2_with fail
  go_loop [9] (fun i=>i=.int .i64 0) (fun _=>0)
  case atStart=>rfl
  case round=>
   subst hrel
   go_wp2_with (first|(go_at_call 210;refine(ZcX _ _).mono ?_;rintro e w' ⟨rfl,rfl⟩)|(go_at_call 211;refine(ZcY _ _).mono ?_;rintro e w' ⟨rfl,rfl⟩)|(go_at_call 175;refine(Za2 _ _ _ (Ze (by decide))).mono ?_;rintro e w' ⟨rfl,rfl⟩))
   go_ret3
   exact⟨_,_,by rw[HF.out];rfl,by rw[HF.out];rfl,by rw[HF.out];exact HVN.out,HN1.out⟩
 ·go_wp2_with fail
  go_loop [9] (fun i=>∃k:Nat,k≤a.length∧i=.int .i64 k∧(a.take k).all Zc9=true) (fun i=>a.length-(intOf i).toNat)
  case atStart=>exact⟨0,Xi _,rfl,rfl⟩
  case round=>
   obtain⟨k,hk,rfl,hall⟩:=hrel;have HALL:=Za hall;clear hall
   by_cases hlt:k<a.length
   ·have ck:=HR.out.cell hlt
    cases hsg:Zc9 a[k]
    ·have HF:=Za (show schemeOf l=([],l,false)by
      rw[HS.out,if_neg];rw[HOK.out]
      have:a.all Zc9=false:=by rw[List.all_eq_false];exact⟨a[k],Xa _,by simp[hsg]⟩
      simp[this])
     have hsg2:=hsg;unfold Zc9 at hsg2;simp only[Bool.or_eq_false_iff]at hsg2;obtain⟨⟨s1,s2⟩,s3⟩:=hsg2;have HS1:=Za s1;have HS2:=Za s2;have HS3:=Za s3;clear s1 s2 s3 hsg HS;go_wp2_with fail
     refine(ZcX _ _).mono ?_
     rintro e w' ⟨rfl,rfl⟩;rw[HS1.out];go_wp2_with fail
     refine(ZcY _ _).mono ?_
     rintro e w' ⟨rfl,rfl⟩;rw[HS2.out];go_wp2_with fail
     refine(Za2 _ _ _ (Ze (by decide))).mono ?_
     rintro e w' ⟨rfl,rfl⟩;rw[show tl ⟨#[43,45,46]⟩=[43,45,46]from rfl,HS3.out];go_wp2
     go_ret3
     exact⟨_,_,by rw[HF.out];rfl,by rw[HF.out];rfl,by rw[HF.out];exact HVN.out,HN1.out⟩
    ·have HNEXT:=Za (Zf8 hlt HALL.out hsg)
     have hsg2:=hsg;unfold Zc9 at hsg2;simp only[Bool.or_eq_true]at hsg2;have HSG:=Za hsg2;clear hsg hsg2;go_wp2_with fail
     refine(ZcX _ _).mono ?_
     rintro e w' ⟨rfl,rfl⟩;generalize alpha a[k]=b1 at *;go_wp2_with fail
     refine(ZcY _ _).mono ?_
     rintro e w' ⟨rfl,rfl⟩;generalize numeral a[k]=b2 at *;go_wp2_with fail
     refine(Za2 _ _ _ (Ze (by decide))).mono ?_
     rintro e w' ⟨rfl,rfl⟩;rw[show tl ⟨#[43,45,46]⟩=[43,45,46]from rfl];generalize among a[k] [43,45,46]=b3 at *;have hsg3:=HSG.out
     cases b1<;>cases b2<;>cases b3
     ·simp at hsg3
     all_goals
      clear hsg3 HSG;go_wp2
      go_round
      case rel=>exact⟨k+1,by omega,by go_num,HNEXT.out⟩
      case measure=>simp[intOf];omega
   ·rw[List.take_of_length_le (by omega)]at HALL
    have HF:=Za (show schemeOf l=(lower (Zb a),b,true)by rw[HS.out,if_pos (by rw[HOK.out,HALL.out];rfl)])
    clear HS;have hle:=HLC.out.1;go_wp2_with fail
    refine(ZbC _ a _ HV1.out (by omega) HPC.out).mono ?_
    rintro e w2 ⟨r,rfl,hr,hn2⟩
    have hrs:r.size≤400000:=by have h:=Zbh a;rw[←hr,tl_length]at h;omega
    go_wp2_with fail
    refine(ZeA _ _ (by omega)).mono ?_
    rintro e w3 ⟨t,rfl,ht,hn3⟩
    have HT:=Za (show tl t=lower (Zb a)by rw[ht,hr])
    clear ht hr;go_wp2
    go_ret3
    exact⟨_,_,by rw[HF.out];rfl,by rw[HF.out];exact HT.out,by rw[HF.out];exact(HV2.out.on hn2).on hn3,(HN1.out.then hn2).then hn3⟩
def ZO:List UInt8:=[102,105,108,101]
def shorter(sch:List UInt8)(bs:List ByteArray):List ByteArray:=if bs.length=1∧sch=ZO∧drive (tl (bs.headD ⟨#[]⟩))=true then bs else bs.dropLast
theorem Zv4{w:World}{b off:Nat}{bs:LA}(h:RowAt 9 Value.string w b off bs):∀(j:Nat) (u:Value),(bs.map Value.string)[j]?=some u→w.cell? ((⟨b,off,none⟩:Addr).add j)=some u:=by
 intro j u hu;rw[Addr.add_lit]
 have hj:j<bs.length:=by have:=(List.getElem?_eq_some_iff.1 hu).1;simpa using this
 rw[h.cell hj]
 simp[List.getElem?_eq_getElem hj]at hu
 rw[hu]
theorem Zgk{w:World}{base base':Nat}{e:TypeId}{size:Nat}{v:Value}{n:Nat}{xs:List Value}(h:w.ownsRow base e size v n xs)(hb:base'≤base):w.ownsRow base' e size v n xs:=by
 obtain⟨h1,h2⟩:=h
 refine⟨h1,?_⟩
 rcases h2 with h2|⟨g,cap,cur,hv,hg,r⟩
 ·exact Or.inl h2
 ·exact Or.inr ⟨g,cap,cur,hv,by omega,r⟩
theorem ZbK(w:World)(base:Nat):ZcE w base (.slice none 0 0) []:=World.ownsRow_nil _ _ _ _
theorem Zv5(w:World)(y:BA):ZcE (w.alloc (.cells #[.string y] 9)) w.heap.size (.slice (some ⟨w.heap.size,0,none⟩) 1 1) [y]:=
 ⟨rfl,.inr ⟨w.heap.size,1,#[.string y],rfl,Xd _,heap_alloc_new w _,Xd _,by decide,rfl,rfl⟩⟩
theorem ZiE(rb:Nat)(sch:BA)(v:Value)(bs:LA)(w:World)(hsc:w.cell? ⟨rb,0,none⟩=some (.string sch))(hv:ZbB w v bs)(hb:∀x∈bs,x.size≤1000000)(hl:bs.length≤1000000):Calls Tryz.prog 218 #[.pointer (some ⟨rb,0,none⟩),v] w fun e w'=>∃v',e=.returned v'∧ZcE w' w.heap.size v' (shorter (tl sch) bs)∧Nx w w':=by
 by_cases h0:bs=[]
 ·subst h0
  have HF:=Za (show shorter (tl sch) []=[]by unfold shorter;rw[if_neg (by simp)];rfl)
  obtain⟨ao,cap,rfl,hlc,hcap,_,_⟩:=hv;unfold maxLen at hcap
  go_enter Tryz.func218,Tryz.ntmps218
  go_wp2;go_ret
  exact⟨_,rfl,by rw[HF.out];exact ZbK _ _,Nx.rfl⟩
 have hlen:0<bs.length:=Xh.2 h0;obtain⟨b,off,cap,rfl,hlc,hcap,hr⟩:=hv.open_ hlen;have HCAP:=Za hcap;unfold maxLen at hcap;have c0:=hr.cell hlen;simp only[Xc]at c0
 have hne:((bs.length:Int)==0)=false:=by simp only[beq_eq_false_iff_ne,ne_eq];omega
 have HDL:=Za (show ∀W,Nx w W→RowAt 9 Value.string W b off bs.dropLast from fun W hW=>by rw[List.dropLast_eq_take];exact(hr.on hW).take _)
 have hdl:bs.dropLast.length=bs.length-1:=List.length_dropLast;have HDLL:=Za hdl
 have hhd:bs.headD ⟨#[]⟩=bs[0]:=by cases bs with|nil=>exact absurd rfl h0|cons=>rfl
 have HHD:=Za hhd;have hb0:=hb bs[0] (Xa _);clear hv hr hb h0 hdl hhd
 have HARM:=Za (show ∀W,Nx w W→(∀j u,(bs.dropLast.map Value.string)[j]?=some u→W.cell? ((⟨b,off,none⟩:Addr).add j)=some u)from fun W hW=>Zv4 (HDL.out W hW))
 have HLM:=Za (show(bs.dropLast.map Value.string).length=bs.length-1 by rw[List.length_map];exact HDLL.out)
 have HONE:=Za (show ∀u∈bs.dropLast.map Value.string,u.oneCell'=true by intro u hu;obtain⟨x,_,rfl⟩:=List.mem_map.1 hu;rfl)
 by_cases h1:bs.length=1
 ·have h1':((bs.length:Int)==1)=true:=by simp[h1]
  have hlx:bs=[bs[0]]:=by
   match bs,h1 with
   | [x],_=>rfl
  by_cases hf:tl sch=ZO
  ·have hf':=eqB hf
   simp only[ZO]at hf'
   cases hd:drive (tl bs[0])
   ·have HF:=Za (show shorter (tl sch) bs=bs.dropLast by unfold shorter;rw[if_neg (by rw[HHD.out,hd];simp)])
    have HD:=Za hd;clear hd hf hlx h1
    go_enter Tryz.func218,Tryz.ntmps218
    go_wp2_with fail
    refine(ZjJ _ _ hb0).mono ?_
    rintro e w1 ⟨rfl,hn1⟩;rw[HD.out]
    go_wp2_with (at_builtin;go_must (refine Zdy w1 78 9 (.string ByteArray.empty) 16 Tryz.underlying78 ZhZ rfl rfl _ _ rfl w.heap.size (.slice none 0 0) 0 [] rfl (World.ownsRow_nil _ _ _ _) ⟨b,off,none⟩ (bs.length-1) cap (bs.dropLast.map Value.string) rfl HLM.out (HARM.out _ hn1) HONE.out (by omega) (by decide) hn1.size ?_;intro v' w2 ho2 hb2 _;have HO2:=Za ho2;clear ho2))
    go_ret
    exact⟨_,rfl,by rw[HF.out];have h:=HO2.out;rw[Xg,Xe,←HDLL.out]at h;exact h,hn1.trans hb2⟩
   ·have HF:=Za (show shorter (tl sch) bs=[bs[0]]by unfold shorter;rw[if_pos ⟨h1,hf,by rw[HHD.out];exact hd⟩];exact hlx)
    have HD:=Za hd;clear hd hf hlx h1
    go_enter Tryz.func218,Tryz.ntmps218
    go_wp2_with fail
    refine(ZjJ _ _ hb0).mono ?_
    rintro e w1 ⟨rfl,hn1⟩;rw[HD.out];have c1:w1.cell? ⟨b,off,none⟩=some (.string bs[0]):=(hn1.cell (p:=⟨b,off,none⟩) (World.block_lt_of_cell? w ⟨b,off,none⟩ c0)).trans c0;go_wp2;go_ret
    exact⟨_,rfl,by rw[HF.out];exact Zgk (Zv5 w1 _) hn1.size,hn1.alloc _⟩
  ·have hf':=neB hf
   simp only[ZO]at hf'
   have HF:=Za (show shorter (tl sch) bs=bs.dropLast by unfold shorter;rw[if_neg (fun h=>hf h.2.1)])
   clear hf hlx h1
   go_enter Tryz.func218,Tryz.ntmps218
   go_wp2_with (at_builtin;go_must (refine Zdy w 78 9 (.string ByteArray.empty) 16 Tryz.underlying78 ZhZ rfl rfl _ _ rfl w.heap.size (.slice none 0 0) 0 [] rfl (World.ownsRow_nil _ _ _ _) ⟨b,off,none⟩ (bs.length-1) cap (bs.dropLast.map Value.string) rfl HLM.out (HARM.out w Nx.rfl) HONE.out (by omega) (by decide) (Xd _) ?_;intro v' w2 ho2 hb2 _;have HO2:=Za ho2;clear ho2))
   go_ret
   exact⟨_,rfl,by rw[HF.out];have h:=HO2.out;rw[Xg,Xe,←HDLL.out]at h;exact h,(Below.refl w.heap.size w).trans hb2⟩
 ·have h1':((bs.length:Int)==1)=false:=by simp only[beq_eq_false_iff_ne,ne_eq];omega
  have HF:=Za (show shorter (tl sch) bs=bs.dropLast by unfold shorter;rw[if_neg (fun h=>h1 h.1)])
  clear h1
  go_enter Tryz.func218,Tryz.ntmps218
  go_wp2_with (at_builtin;go_must (refine Zdy w 78 9 (.string ByteArray.empty) 16 Tryz.underlying78 ZhZ rfl rfl _ _ rfl w.heap.size (.slice none 0 0) 0 [] rfl (World.ownsRow_nil _ _ _ _) ⟨b,off,none⟩ (bs.length-1) cap (bs.dropLast.map Value.string) rfl HLM.out (HARM.out w Nx.rfl) HONE.out (by omega) (by decide) (Xd _) ?_;intro v' w2 ho2 hb2 _;have HO2:=Za ho2;clear ho2))
  go_ret
  exact⟨_,rfl,by rw[HF.out];have h:=HO2.out;rw[Xg,Xe,←HDLL.out]at h;exact h,(Below.refl w.heap.size w).trans hb2⟩
def fourGo(n:Nat):Nat→Int→List (List Int)→Int×Bool
 | _,sum,[]=>(sum,true)
 | i,sum,p::r=>
  if(valueOf p).2=false∨(if i+1=n then 256^(4-i)else 256)≤(valueOf p).1 then(0,false)
  else fourGo n (i+1) (sum+(valueOf p).1*(if i+1=n then 1 else 256^(3-i))) r
def fourOf(ps:List (List Int)):Int×Bool:=if 4<ps.length then(0,false)else fourGo ps.length 0 0 ps
theorem FA.at_{w:World}{vs:List Value}{ps:List LI}(h:FA w vs ps){i:Nat}(hi:i<ps.length):IntsAt w (vs[i]'(by have:=h.1;omega)) ps[i]:=h.2 i _ hi
theorem ZnY(base:Int)(hb:0≤base)(t:LB):∀n:Int,0≤n→n≤1099511627776→0≤(fin (vGo base n t)).1∧(fin (vGo base n t)).1≤1099511627776:=by
 induction t with
 | nil=>intro n h0 h1;exact⟨h0,h1⟩
 | cons c r ih=>
  intro n h0 h1;rw[vGo]
  split
  ·exact⟨by decide,by decide⟩
  ·refine ih _ ?_ ?_
   ·unfold Zeu
    split
    ·omega
    ·have:0≤n*base:=Int.mul_nonneg h0 hb
     omega
   ·unfold Zeu
    split<;>omega
theorem ZiF(l:LI):0≤(valueOf l).1∧(valueOf l).1≤1099511627776:=by
 unfold valueOf valueStr
 split
 ·exact⟨by decide,by decide⟩
 split
 ·exact ZnY _ (by decide) _ _ (by decide) (by decide)
 split
 ·exact ZnY _ (by decide) _ _ (by decide) (by decide)
 ·exact ZnY _ (by decide) _ _ (by decide) (by decide)
theorem ZbO(n i:Nat)(sum:Int)(ps:List LI)(h:i<ps.length)(T P:Int)(hT:(if i+1=n then 256^(4-i)else 256)=T)(hP:(if i+1=n then 1 else 256^(3-i))=P):fourGo n i sum (ps.drop i)=if(valueOf ps[i]).2=false∨T≤(valueOf ps[i]).1 then(0,false)else fourGo n (i+1) (sum+(valueOf ps[i]).1*P) (ps.drop (i+1)):=by rw[List.drop_eq_getElem_cons h,fourGo,hT,hP]
theorem ZgN(v:Value)(ps:List LI)(w:World)(hv:PartsAt w v ps)(hn:∀p∈ps,p.length≤100000)(hp:∀p∈ps,∀c∈p,Pt c):Calls Tryz.prog 251 #[v] w fun e w'=>e=.returned (.tuple #[.int .i64 (fourOf ps).1,.bool (fourOf ps).2])∧Nx w w':=by
 obtain⟨vs,hvs,hfa⟩:=hv;have hlen:=hfa.1;have HFA:=Za hfa;have HPN:=Za hn;have HPP:=Za hp;clear hfa hn hp;obtain⟨ao,cap,rfl,hlc,hcap,hnone,hsome⟩:=hvs;unfold maxLen at hcap
 by_cases h4:4<ps.length
 ·have HE:=Za (show fourOf ps=(0,false)by unfold fourOf;rw[if_pos h4])
  go_enter Tryz.func251,Tryz.ntmps251
  go_wp2;go_ret2
  exact⟨by rw[HE.out];rfl,Nx.rfl⟩
 have h4':decide (4<(ps.length:Int))=false:=by simp only[decide_eq_false_iff_not];omega
 have HE0:=Za (show fourOf ps=fourGo ps.length 0 0 ps by unfold fourOf;rw[if_neg h4])
 go_enter Tryz.func251,Tryz.ntmps251
 go_wp2
 go_loopw [5,6] (fun x i wr=>∃(k:Nat) (sum:Int),k≤ps.length∧i=.int .i64 k∧x=.int .i64 sum∧0≤sum∧sum≤k*17592186044416∧fourOf ps=fourGo ps.length k sum (ps.drop k)∧Nx w wr) (fun _ i _=>ps.length-(intOf i).toNat)
 case atStart=>exact⟨0,0,Xi _,rfl,rfl,by omega,by omega,HE0.out,Nx.rfl⟩
 case round=>
  clear HE0;obtain⟨k,sum,hk,rfl,rfl,hs0,hs1,hE,hnx⟩:=hrel;have HE:=Za hE;have HN:=Za hnx;clear hE hnx
  by_cases hlt:k<ps.length
  ·obtain⟨a,ha⟩:=Zw (k:=k) (by omega) hnone
   subst ha;obtain⟨b,off,rfl,hr⟩:=hsome a rfl
   have hck:=(hr.on HN.out).cell (i:=k) (by omega)
   simp only[id]at hck;have HVK:=Za ((HFA.out.at_ hlt).on HN.out);clear hnone hsome hr;obtain⟨hv0,hv1⟩:=ZiF ps[k]
   have hk4:k=0∨k=1∨k=2∨k=3:=by omega
   by_cases hlast:k+1=ps.length
   ·have hlast1:¬k<ps.length-1:=by omega
    rcases hk4 with rfl|rfl|rfl|rfl
    ·have HS:=Za (ZbO ps.length 0 sum ps hlt 4294967296 1 (by rw[if_pos hlast];decide) (by rw[if_pos hlast]))
     have hrel1:((ps.length:Int)-1≤0):=by omega
     clear hlast hlast1;simp only[Xc]at hck;go_wp2_with fail
     refine(ZaJ _ ps[0] _ HVK.out (HPN.out _ (Xa _)) (HPP.out _ (Xa _))).mono ?_
     rintro e w1 ⟨rfl,hn1⟩;generalize hq:valueOf ps[0]=q at *;clear hq;obtain⟨vv,ok⟩:=q;simp only at hv0 hv1 HS;have HN1:=Za (HN.out.then hn1);clear hn1;go_wp2_with fail
     go_loop [9,10,11] (fun top place kk=>∃m:Nat,0≤m∧m≤3∧kk=.int .i64 m∧top=.int .i64 (256*256^(m-0))∧place=.int .i64 1) (fun _ _ kk=>3-(intOf kk).toNat)
     case atStart=>exact⟨0,by omega,by omega,rfl,rfl,rfl⟩
     case round=>
      obtain⟨m,hm0,hm3,rfl,rfl,rfl⟩:=hrel
      have hm4:m=0∨m=1∨m=2∨m=3:=by omega
      by_cases hm:m<3
      ·rcases hm4 with rfl|rfl|rfl|rfl
       ·go_wp2
        go_round
        case rel=>exact⟨1,by omega,by omega,rfl,rfl,rfl⟩
        case measure=>simp[intOf]
       ·go_wp2
        go_round
        case rel=>exact⟨2,by omega,by omega,rfl,rfl,rfl⟩
        case measure=>simp[intOf]
       ·go_wp2
        go_round
        case rel=>exact⟨3,by omega,by omega,rfl,rfl,rfl⟩
        case measure=>simp[intOf]
       ·omega
      ·have hm3':m=3:=by omega
       subst hm3';clear hm hm4 hm0 hm3;simp only[Nat.reduceSub,Int.reducePow,Int.reduceMul]
       cases ok
       ·have HF:=Za (show fourOf ps=(0,false)by rw[HE.out,HS.out,if_pos (Or.inl rfl)])
        go_wp2;go_ret2
        exact⟨by rw[HF.out];rfl,HN1.out⟩
       by_cases hge:4294967296≤vv
       ·have HF:=Za (show fourOf ps=(0,false)by rw[HE.out,HS.out,if_pos (Or.inr hge)])
        go_wp2;go_ret2
        exact⟨by rw[HF.out];rfl,HN1.out⟩
       ·have HF:=Za (show fourOf ps=fourGo ps.length (0+1) (sum+vv) (ps.drop (0+1))by rw[HE.out,HS.out,if_neg (by simp only[Xb,false_or];exact hge),Xf])
        go_wp2
        go_roundw
        case rel=>exact⟨_,_,_,_,⟨1,by omega,rfl,sum+vv,rfl,by omega,by omega,HF.out,HN1.out⟩,rfl,rfl,rfl,rfl⟩
        case measure=>simp[intOf];omega
    ·have HS:=Za (ZbO ps.length 1 sum ps hlt 16777216 1 (by rw[if_pos hlast];decide) (by rw[if_pos hlast]))
     have hrel1:((ps.length:Int)-1≤1):=by omega
     clear hlast hlast1
     skip
     go_wp2_with fail
     refine(ZaJ _ ps[1] _ HVK.out (HPN.out _ (Xa _)) (HPP.out _ (Xa _))).mono ?_
     rintro e w1 ⟨rfl,hn1⟩;generalize hq:valueOf ps[1]=q at *;clear hq;obtain⟨vv,ok⟩:=q;simp only at hv0 hv1 HS;have HN1:=Za (HN.out.then hn1);clear hn1;go_wp2_with fail
     go_loop [9,10,11] (fun top place kk=>∃m:Nat,1≤m∧m≤3∧kk=.int .i64 m∧top=.int .i64 (256*256^(m-1))∧place=.int .i64 1) (fun _ _ kk=>3-(intOf kk).toNat)
     case atStart=>exact⟨1,by omega,by omega,rfl,rfl,rfl⟩
     case round=>
      obtain⟨m,hm0,hm3,rfl,rfl,rfl⟩:=hrel
      have hm4:m=1∨m=2∨m=3:=by omega
      by_cases hm:m<3
      ·rcases hm4 with rfl|rfl|rfl
       ·go_wp2
        go_round
        case rel=>exact⟨2,by omega,by omega,rfl,rfl,rfl⟩
        case measure=>simp[intOf]
       ·go_wp2
        go_round
        case rel=>exact⟨3,by omega,by omega,rfl,rfl,rfl⟩
        case measure=>simp[intOf]
       ·omega
      ·have hm3':m=3:=by omega
       subst hm3';clear hm hm4 hm0 hm3;simp only[Nat.reduceSub,Int.reducePow,Int.reduceMul]
       cases ok
       ·have HF:=Za (show fourOf ps=(0,false)by rw[HE.out,HS.out,if_pos (Or.inl rfl)])
        go_wp2;go_ret2
        exact⟨by rw[HF.out];rfl,HN1.out⟩
       by_cases hge:16777216≤vv
       ·have HF:=Za (show fourOf ps=(0,false)by rw[HE.out,HS.out,if_pos (Or.inr hge)])
        go_wp2;go_ret2
        exact⟨by rw[HF.out];rfl,HN1.out⟩
       ·have HF:=Za (show fourOf ps=fourGo ps.length (1+1) (sum+vv) (ps.drop (1+1))by rw[HE.out,HS.out,if_neg (by simp only[Xb,false_or];exact hge),Xf])
        go_wp2
        go_roundw
        case rel=>exact⟨_,_,_,_,⟨2,by omega,rfl,sum+vv,rfl,by omega,by omega,HF.out,HN1.out⟩,rfl,rfl,rfl,rfl⟩
        case measure=>simp[intOf];omega
    ·have HS:=Za (ZbO ps.length 2 sum ps hlt 65536 1 (by rw[if_pos hlast];decide) (by rw[if_pos hlast]))
     have hrel1:((ps.length:Int)-1≤2):=by omega
     clear hlast hlast1
     skip
     go_wp2_with fail
     refine(ZaJ _ ps[2] _ HVK.out (HPN.out _ (Xa _)) (HPP.out _ (Xa _))).mono ?_
     rintro e w1 ⟨rfl,hn1⟩;generalize hq:valueOf ps[2]=q at *;clear hq;obtain⟨vv,ok⟩:=q;simp only at hv0 hv1 HS;have HN1:=Za (HN.out.then hn1);clear hn1;go_wp2_with fail
     go_loop [9,10,11] (fun top place kk=>∃m:Nat,2≤m∧m≤3∧kk=.int .i64 m∧top=.int .i64 (256*256^(m-2))∧place=.int .i64 1) (fun _ _ kk=>3-(intOf kk).toNat)
     case atStart=>exact⟨2,by omega,by omega,rfl,rfl,rfl⟩
     case round=>
      obtain⟨m,hm0,hm3,rfl,rfl,rfl⟩:=hrel
      have hm4:m=2∨m=3:=by omega
      by_cases hm:m<3
      ·rcases hm4 with rfl|rfl
       ·go_wp2
        go_round
        case rel=>exact⟨3,by omega,by omega,rfl,rfl,rfl⟩
        case measure=>simp[intOf]
       ·omega
      ·have hm3':m=3:=by omega
       subst hm3';clear hm hm4 hm0 hm3;simp only[Nat.reduceSub,Int.reducePow,Int.reduceMul]
       cases ok
       ·have HF:=Za (show fourOf ps=(0,false)by rw[HE.out,HS.out,if_pos (Or.inl rfl)])
        go_wp2;go_ret2
        exact⟨by rw[HF.out];rfl,HN1.out⟩
       by_cases hge:65536≤vv
       ·have HF:=Za (show fourOf ps=(0,false)by rw[HE.out,HS.out,if_pos (Or.inr hge)])
        go_wp2;go_ret2
        exact⟨by rw[HF.out];rfl,HN1.out⟩
       ·have HF:=Za (show fourOf ps=fourGo ps.length (2+1) (sum+vv) (ps.drop (2+1))by rw[HE.out,HS.out,if_neg (by simp only[Xb,false_or];exact hge),Xf])
        go_wp2
        go_roundw
        case rel=>exact⟨_,_,_,_,⟨3,by omega,rfl,sum+vv,rfl,by omega,by omega,HF.out,HN1.out⟩,rfl,rfl,rfl,rfl⟩
        case measure=>simp[intOf];omega
    ·have HS:=Za (ZbO ps.length 3 sum ps hlt 256 1 (by rw[if_pos hlast];decide) (by rw[if_pos hlast]))
     have hrel1:((ps.length:Int)-1≤3):=by omega
     clear hlast hlast1
     skip
     go_wp2_with fail
     refine(ZaJ _ ps[3] _ HVK.out (HPN.out _ (Xa _)) (HPP.out _ (Xa _))).mono ?_
     rintro e w1 ⟨rfl,hn1⟩;generalize hq:valueOf ps[3]=q at *;clear hq;obtain⟨vv,ok⟩:=q;simp only at hv0 hv1 HS;have HN1:=Za (HN.out.then hn1);clear hn1;go_wp2_with fail
     go_loop [9,10,11] (fun top place kk=>∃m:Nat,3≤m∧m≤3∧kk=.int .i64 m∧top=.int .i64 (256*256^(m-3))∧place=.int .i64 1) (fun _ _ kk=>3-(intOf kk).toNat)
     case atStart=>exact⟨3,by omega,by omega,rfl,rfl,rfl⟩
     case round=>
      obtain⟨m,hm0,hm3,rfl,rfl,rfl⟩:=hrel
      have hm4:m=3:=by omega
      by_cases hm:m<3
      ·omega
      ·have hm3':m=3:=by omega
       subst hm3';clear hm hm4 hm0 hm3;simp only[Nat.reduceSub,Int.reducePow,Int.reduceMul]
       cases ok
       ·have HF:=Za (show fourOf ps=(0,false)by rw[HE.out,HS.out,if_pos (Or.inl rfl)])
        go_wp2;go_ret2
        exact⟨by rw[HF.out];rfl,HN1.out⟩
       by_cases hge:256≤vv
       ·have HF:=Za (show fourOf ps=(0,false)by rw[HE.out,HS.out,if_pos (Or.inr hge)])
        go_wp2;go_ret2
        exact⟨by rw[HF.out];rfl,HN1.out⟩
       ·have HF:=Za (show fourOf ps=fourGo ps.length (3+1) (sum+vv) (ps.drop (3+1))by rw[HE.out,HS.out,if_neg (by simp only[Xb,false_or];exact hge),Xf])
        go_wp2
        go_roundw
        case rel=>exact⟨_,_,_,_,⟨4,by omega,rfl,sum+vv,rfl,by omega,by omega,HF.out,HN1.out⟩,rfl,rfl,rfl,rfl⟩
        case measure=>simp[intOf];omega
   ·rcases hk4 with rfl|rfl|rfl|rfl
    ·have HS:=Za (ZbO ps.length 0 sum ps hlt 256 16777216 (by rw[if_neg hlast]) (by rw[if_neg hlast];decide))
     have hrel1:(0<(ps.length:Int)-1):=by omega
     clear hlast;simp only[Xc]at hck;go_wp2_with fail
     refine(ZaJ _ ps[0] _ HVK.out (HPN.out _ (Xa _)) (HPP.out _ (Xa _))).mono ?_
     rintro e w1 ⟨rfl,hn1⟩;generalize hq:valueOf ps[0]=q at *;clear hq;obtain⟨vv,ok⟩:=q;simp only at hv0 hv1 HS;have HN1:=Za (HN.out.then hn1);clear hn1;go_wp2_with fail
     go_loop [9,10,11] (fun top place kk=>∃m:Nat,0≤m∧m≤3∧kk=.int .i64 m∧top=.int .i64 256∧place=.int .i64 (256^(m-0))) (fun _ _ kk=>3-(intOf kk).toNat)
     case atStart=>exact⟨0,by omega,by omega,rfl,rfl,rfl⟩
     case round=>
      obtain⟨m,hm0,hm3,rfl,rfl,rfl⟩:=hrel
      have hm4:m=0∨m=1∨m=2∨m=3:=by omega
      by_cases hm:m<3
      ·rcases hm4 with rfl|rfl|rfl|rfl
       ·go_wp2
        go_round
        case rel=>exact⟨1,by omega,by omega,rfl,rfl,rfl⟩
        case measure=>simp[intOf]
       ·go_wp2
        go_round
        case rel=>exact⟨2,by omega,by omega,rfl,rfl,rfl⟩
        case measure=>simp[intOf]
       ·go_wp2
        go_round
        case rel=>exact⟨3,by omega,by omega,rfl,rfl,rfl⟩
        case measure=>simp[intOf]
       ·omega
      ·have hm3':m=3:=by omega
       subst hm3';clear hm hm4 hm0 hm3;simp only[Nat.reduceSub,Int.reducePow]
       cases ok
       ·have HF:=Za (show fourOf ps=(0,false)by rw[HE.out,HS.out,if_pos (Or.inl rfl)])
        go_wp2;go_ret2
        exact⟨by rw[HF.out];rfl,HN1.out⟩
       by_cases hge:256≤vv
       ·have HF:=Za (show fourOf ps=(0,false)by rw[HE.out,HS.out,if_pos (Or.inr hge)])
        go_wp2;go_ret2
        exact⟨by rw[HF.out];rfl,HN1.out⟩
       ·have HF:=Za (show fourOf ps=fourGo ps.length (0+1) (sum+vv*16777216) (ps.drop (0+1))by rw[HE.out,HS.out,if_neg (by simp only[Xb,false_or];exact hge)])
        go_wp2
        go_roundw
        case rel=>exact⟨_,_,_,_,⟨1,by omega,rfl,sum+vv*16777216,rfl,by omega,by omega,HF.out,HN1.out⟩,rfl,rfl,rfl,rfl⟩
        case measure=>simp[intOf];omega
    ·have HS:=Za (ZbO ps.length 1 sum ps hlt 256 65536 (by rw[if_neg hlast]) (by rw[if_neg hlast];decide))
     have hrel1:(1<(ps.length:Int)-1):=by omega
     clear hlast
     skip
     go_wp2_with fail
     refine(ZaJ _ ps[1] _ HVK.out (HPN.out _ (Xa _)) (HPP.out _ (Xa _))).mono ?_
     rintro e w1 ⟨rfl,hn1⟩;generalize hq:valueOf ps[1]=q at *;clear hq;obtain⟨vv,ok⟩:=q;simp only at hv0 hv1 HS;have HN1:=Za (HN.out.then hn1);clear hn1;go_wp2_with fail
     go_loop [9,10,11] (fun top place kk=>∃m:Nat,1≤m∧m≤3∧kk=.int .i64 m∧top=.int .i64 256∧place=.int .i64 (256^(m-1))) (fun _ _ kk=>3-(intOf kk).toNat)
     case atStart=>exact⟨1,by omega,by omega,rfl,rfl,rfl⟩
     case round=>
      obtain⟨m,hm0,hm3,rfl,rfl,rfl⟩:=hrel
      have hm4:m=1∨m=2∨m=3:=by omega
      by_cases hm:m<3
      ·rcases hm4 with rfl|rfl|rfl
       ·go_wp2
        go_round
        case rel=>exact⟨2,by omega,by omega,rfl,rfl,rfl⟩
        case measure=>simp[intOf]
       ·go_wp2
        go_round
        case rel=>exact⟨3,by omega,by omega,rfl,rfl,rfl⟩
        case measure=>simp[intOf]
       ·omega
      ·have hm3':m=3:=by omega
       subst hm3';clear hm hm4 hm0 hm3;simp only[Nat.reduceSub,Int.reducePow]
       cases ok
       ·have HF:=Za (show fourOf ps=(0,false)by rw[HE.out,HS.out,if_pos (Or.inl rfl)])
        go_wp2;go_ret2
        exact⟨by rw[HF.out];rfl,HN1.out⟩
       by_cases hge:256≤vv
       ·have HF:=Za (show fourOf ps=(0,false)by rw[HE.out,HS.out,if_pos (Or.inr hge)])
        go_wp2;go_ret2
        exact⟨by rw[HF.out];rfl,HN1.out⟩
       ·have HF:=Za (show fourOf ps=fourGo ps.length (1+1) (sum+vv*65536) (ps.drop (1+1))by rw[HE.out,HS.out,if_neg (by simp only[Xb,false_or];exact hge)])
        go_wp2
        go_roundw
        case rel=>exact⟨_,_,_,_,⟨2,by omega,rfl,sum+vv*65536,rfl,by omega,by omega,HF.out,HN1.out⟩,rfl,rfl,rfl,rfl⟩
        case measure=>simp[intOf];omega
    ·have HS:=Za (ZbO ps.length 2 sum ps hlt 256 256 (by rw[if_neg hlast]) (by rw[if_neg hlast];decide))
     have hrel1:(2<(ps.length:Int)-1):=by omega
     clear hlast
     skip
     go_wp2_with fail
     refine(ZaJ _ ps[2] _ HVK.out (HPN.out _ (Xa _)) (HPP.out _ (Xa _))).mono ?_
     rintro e w1 ⟨rfl,hn1⟩;generalize hq:valueOf ps[2]=q at *;clear hq;obtain⟨vv,ok⟩:=q;simp only at hv0 hv1 HS;have HN1:=Za (HN.out.then hn1);clear hn1;go_wp2_with fail
     go_loop [9,10,11] (fun top place kk=>∃m:Nat,2≤m∧m≤3∧kk=.int .i64 m∧top=.int .i64 256∧place=.int .i64 (256^(m-2))) (fun _ _ kk=>3-(intOf kk).toNat)
     case atStart=>exact⟨2,by omega,by omega,rfl,rfl,rfl⟩
     case round=>
      obtain⟨m,hm0,hm3,rfl,rfl,rfl⟩:=hrel
      have hm4:m=2∨m=3:=by omega
      by_cases hm:m<3
      ·rcases hm4 with rfl|rfl
       ·go_wp2
        go_round
        case rel=>exact⟨3,by omega,by omega,rfl,rfl,rfl⟩
        case measure=>simp[intOf]
       ·omega
      ·have hm3':m=3:=by omega
       subst hm3';clear hm hm4 hm0 hm3;simp only[Nat.reduceSub,Int.reducePow]
       cases ok
       ·have HF:=Za (show fourOf ps=(0,false)by rw[HE.out,HS.out,if_pos (Or.inl rfl)])
        go_wp2;go_ret2
        exact⟨by rw[HF.out];rfl,HN1.out⟩
       by_cases hge:256≤vv
       ·have HF:=Za (show fourOf ps=(0,false)by rw[HE.out,HS.out,if_pos (Or.inr hge)])
        go_wp2;go_ret2
        exact⟨by rw[HF.out];rfl,HN1.out⟩
       ·have HF:=Za (show fourOf ps=fourGo ps.length (2+1) (sum+vv*256) (ps.drop (2+1))by rw[HE.out,HS.out,if_neg (by simp only[Xb,false_or];exact hge)])
        go_wp2
        go_roundw
        case rel=>exact⟨_,_,_,_,⟨3,by omega,rfl,sum+vv*256,rfl,by omega,by omega,HF.out,HN1.out⟩,rfl,rfl,rfl,rfl⟩
        case measure=>simp[intOf];omega
    ·omega
  ·have HF:=Za (show fourOf ps=(sum,true)by rw[HE.out,List.drop_of_length_le (by omega),fourGo])
   go_wp2;go_ret2
   exact⟨by rw[HF.out];rfl,HN.out⟩
end Go.Proofs.YtchkhibgbnhjpabGreatDoor
