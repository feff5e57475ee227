import Derived.Test.YtchkhibgbnhjpabGreatDoorR21
import Derived.Deep.AppendLies
import Derived.Laws.AppendOwnNone
open Bool renaming true_eq_false→Xi,true_and→Xm
open List renaming drop_of_length_le→Xa,length_drop→Xb,eq_nil_of_length_eq_zero→Xc,length_append→Xd,drop_eq_getElem_cons→Xe,length_take→Xg,getElem?_eq_getElem→Xh,length_cons→Xj,map_append→Xk,append_nil→Xl
open Nat renaming zero_le→Xf,le_refl→Xn
namespace Go.Proofs.YtchkhibgbnhjpabGreatDoor
open Go.RowKit
set_option maxHeartbeats 2000000
set_option maxRecDepth 100000
def Zb9:Int→List Int→Option Int
 | v,[]=>some v
 | v,c::r=>if digit c<0 then none else Zb9 (16*v+digit c) r
def Zbd(p:List Int):Option Int:=if p.length<1∨4<p.length then none else Zb9 0 p
def grpGoR(en:Bool):List (List Int)→Option (List Int)
 | []=>some []
 | p::r=>
  if(cut p [46]).2.2=true∧en=true∧r=[]then(if(dotted p).2 then some (dotted p).1 else none)
  else match Zbd p with
   | none=>none
   | some v=>(grpGoR en r).map (v :: ·)
def groups(l:List Int)(en:Bool):List Int×Bool:=
 if l=[]then([],true)else match grpGoR en (parts l [58])with|some q=>(q,true)|none=>([],false)
theorem ZqZ{en:Bool}{ps:List LI}{k:Nat}(hk:k<ps.length)(h1:(cut ps[k] [46]).2.2=true)(h2:en=true)(h3:k+1=ps.length):grpGoR en (ps.drop k)=if(dotted ps[k]).2 then some (dotted ps[k]).1 else none:=by rw[Xe hk,grpGoR,if_pos ⟨h1,h2,List.drop_eq_nil_of_le (by omega)⟩]
theorem Zq0{en:Bool}{ps:List LI}{k:Nat}(hk:k<ps.length)(h:¬((cut ps[k] [46]).2.2=true∧en=true∧k+1=ps.length)):grpGoR en (ps.drop k)=match Zbd ps[k]with|none=>none|some v=>(grpGoR en (ps.drop (k+1))).map (v :: ·):=by
 rw[Xe hk,grpGoR,if_neg];rintro⟨a,b,c⟩
 refine h ⟨a,b,?_⟩
 have:=congrArg List.length c;rw[Xb,List.length_nil]at this
 omega
theorem ZgP{v:Int}{p:LI}{k:Nat}(hk:k<p.length):Zb9 v (p.drop k)=if digit p[k]<0 then none else Zb9 (16*v+digit p[k]) (p.drop (k+1)):=by rw[Xe hk,Zb9]
theorem Zk8{ops:Array Oper}{rest:List Oper}{o:Oper}{a:Act}{Q:Exit→Act→World→Prop}(w:World)(ys:LI)(b off:Nat)(hrow:RowAt 3 (Value.int .i64) w b off ys)
  (hgd:o.guard=none) (s x:Operand) (ho:o.op=.call { callee:=.builtin .append,args:=#[s,x],argTypes:=#[124,124] })
  (base:Nat) (v:Value) (l:LI) (hs:a.eval s=v) (hown:OwnI w base v l) (c:Nat) (hx:a.eval x=.slice (some ⟨b,off,none⟩) ys.length c)
  (hn:l.length+ys.length<1099511627776) (hbase:base≤w.heap.size)
  (h:∀v' w',OwnI w' base v' (l++ys)→Below base w w'→wpList Tryz.prog ops Q rest (a.put o.dst v') w'):wpList Tryz.prog ops Q (o::rest) a w:=by
 refine Zdy w _ _ (.int .i64 0) 8 Tryz.underlying124 Zex rfl hgd s x ho base v l.length _ hs hown ⟨b,off,none⟩ ys.length c (ys.map (Value.int .i64)) hx (by simp) ?_ ?_ (by omega) (by decide) hbase ?_
 ·intro j u hu
  rw[Addr.add_lit]
  have hj:j<ys.length:=by have:=(List.getElem?_eq_some_iff.1 hu).1;simpa using this
  rw[hrow.cell hj]
  simp[Xh hj]at hu
  rw[hu]
 ·intro u hu
  obtain⟨x,_,rfl⟩:=List.mem_map.1 hu
  rfl
 ·intro v' w' h1 h2 _
  refine h v' w' ?_ h2
  unfold OwnI;rw[Xd,Xk];exact h1
theorem ZiK{vv d:Int}{m:Nat}(h:vv+1≤16^m)(hd:d≤15):16*vv+d+1≤16^(m+1):=by
 have e:(16:Int)^(m+1)=16*16^m:=by rw[Int.pow_succ,Int.mul_comm]
 rw[e]
 omega
theorem ZiL{vv:Int}{m:Nat}(h:vv+1≤16^m)(hm:m≤4):vv≤65535:=by
 match m,hm with
 | 0,_=>simp at h;omega
 | 1,_=>simp at h;omega
 | 2,_=>simp at h;omega
 | 3,_=>simp at h;omega
 | 4,_=>simp at h;omega
theorem Zj3{p:LI}(h:(dotted p).2=true):(dotted p).1.length=2:=by
 unfold dotted at *
 split at h
 ·rfl
 ·cases h
theorem Zfm(v:Value)(l:LI)(en:Bool)(w:World)(hv:IntsAt w v l)(hl:l.length≤80000):Calls Tryz.prog 245 #[v,.bool en] w fun e w'=>∃v',e=.returned (.tuple #[v',.bool (groups l en).2])∧OwnI w' w.heap.size v' (groups l en).1∧Nx w w':=by
 by_cases h0:l=[]
 ·subst h0
  obtain⟨ao,cap,rfl,hlc,hcap,_,_⟩:=hv
  go_enter Tryz.func245,Tryz.ntmps245
  go_wp2;go_ret2;exact⟨_,rfl,World.ownsRow_nil _ _ _ _,Nx.rfl⟩
 have hl0:((l.length:Int)==0)=false:=by simp only[beq_eq_false_iff_ne,ne_eq];intro h;exact h0 (Xc (by omega))
 have HG:=Za (show groups l en=match grpGoR en (parts l (tl ⟨#[58]⟩))with|some q=>(q,true)|none=>([],false)by unfold groups;rw[if_neg h0];rfl)
 have HPM:=Za (ZaQ l (tl ⟨#[58]⟩));have HV:=Za hv;clear h0;obtain⟨lo,lcap,rfl,hllc,hlcap,_,_⟩:=hv;unfold maxLen at hlcap
 go_enter Tryz.func245,Tryz.ntmps245
 go_wp2_with fail
 refine(ZdO _ l _ _ (Ze (by decide)) HV.out (by omega)).mono ?_
 rintro e w1 ⟨vp,rfl,⟨vs,hvs,hfa⟩,hn1⟩;generalize parts l (tl ⟨#[58]⟩)=ps at *;have hlen:=hfa.1;have HFA:=Za hfa;have HN1:=Za hn1;have HMEM:=Za HPM.out.2;have hpl:=HPM.out.1;have hz1:=hn1.size;clear hfa hn1 HPM HV;obtain⟨ao,cap,rfl,hlc,hcap,hnone,hsome⟩:=hvs;unfold maxLen at hcap;rw[hlen];rw[hlen]at hlc;go_wp2
 go_loopw [6,8] (fun o i wr=>∃(k:Nat) (q:LI),k≤ps.length∧i=.int .i64 k∧OwnI wr w1.heap.size o q∧grpGoR en ps=(grpGoR en (ps.drop k)).map (q++·)∧q.length≤2*k∧Nx w1 wr) (fun _ i _=>ps.length-(intOf i).toNat)
 case atStart=>exact⟨0,[],Xf _,rfl,World.ownsRow_nil _ _ _ _,by simp,by simp,Nx.rfl⟩
 case round=>
  obtain⟨k,q,hk,rfl,hown,hE,hql,hnx⟩:=hrel;have HO:=Za hown;have HE:=Za hE;have HN:=Za hnx;clear hown hE hnx
  by_cases hlt:k<ps.length
  ·obtain⟨a,ha⟩:=Zw (k:=k) (by omega) hnone
   subst ha;obtain⟨b,off,rfl,hr⟩:=hsome a rfl
   have hck:=(hr.on HN.out).cell (i:=k) (by omega)
   simp only[id]at hck;have HVK:=Za ((HFA.out.at_ hlt).on HN.out);obtain⟨hm1,hm2⟩:=HMEM.out ps[k] (List.getElem_mem _);have HROW:=Za (hr.on HN.out);clear hnone hsome hr hm2
   obtain⟨po,pcap,hpv⟩:∃po pcap,vs[k]=.slice po ps[k].length pcap:=by obtain⟨po,pcap,e,_⟩:=HVK.out;exact⟨po,pcap,e⟩
   have HPV:=Za hpv;clear hpv
   have HDOT:=Za (fun(h1:(cut ps[k] [46]).2.2=true) (h2:en=true) (h3:k+1=ps.length)=>ZqZ hlt h1 h2 h3)
   have HGRP:=Za (fun(h:¬((cut ps[k] [46]).2.2=true∧en=true∧k+1=ps.length))=>Zq0 (en:=en) hlt h)
   generalize ps[k]=p at *;go_wp2_with fail
   refine(Zdx _ p _ _ (Ze (by decide)) HVK.out).mono ?_
   rintro e w2 ⟨c1,c2,rfl,_,_,hn2⟩;rw[show tl ⟨#[46]⟩=[46]from rfl];have HN2:=Za (HN.out.then hn2);have HO2:=Za (ZbP HO.out hn2);have HVK2:=Za (HVK.out.on hn2)
   have hck2:=(HROW.out.on hn2).cell (i:=k) (by omega)
   simp only[id]at hck2;have HROW2:=Za (HROW.out.on hn2);have hz2:=HN2.out.size;clear hn2 hck HO HVK HROW HN;generalize hdot:(cut p [46]).2.2=dot at *;clear hdot
   by_cases hD:dot=true∧en=true∧k+1=ps.length
   ·obtain⟨rfl,rfl,hlast⟩:=hD
    have HQ:=Za (HDOT.out rfl rfl hlast)
    have hl':((k:Int)==(ps.length:Int)-1)=true:=by simp only[beq_iff_eq];omega
    have HNILS:=Za (show ps.drop (k+1)=[]from Xa (by omega))
    have HTWO:=Za (Zj3 (p:=p));clear hlast HGRP HDOT;go_wp2_with fail
    refine(ZqY _ p _ HVK2.out (by omega)).mono ?_
    rintro e w3 ⟨v3,rfl,hv3,hn3⟩;generalize dotted p=dd at *;obtain⟨dq,ok⟩:=dd;simp only at *;have HN3:=Za (HN2.out.then hn3);have HO3:=Za (ZbP HO2.out hn3);have hz3:=HN3.out.size;clear hn3
    cases ok
    ·have HF:=Za (show groups l true=([],false)by rw[HG.out,HE.out,HQ.out];rfl)
     go_wp2;go_ret2
     exact⟨_,by rw[HF.out];rfl,by rw[HF.out];exact World.ownsRow_nil _ _ _ _,HN1.out.then HN3.out⟩
    ·have h2:=HTWO.out rfl
     obtain⟨db,doff,dcap,rfl,hdlc,hdcap,hdrow⟩:=hv3.open_ (k:=0) (by omega)
     have HDR:=Za hdrow
     have HNXT:=Za (show grpGoR true ps=(grpGoR true (ps.drop (k+1))).map (q++dq++·)by rw[HE.out,HQ.out,HNILS.out];simp[grpGoR])
     have hqd:q.length+dq.length<1099511627776:=by omega
     have hq2:q.length+dq.length≤2*(k+1):=by omega
     clear hdrow hv3 h2
     go_wp2_with (at_builtin;go_must (refine Zk8 w3 dq db doff HDR.out rfl _ _ rfl w1.heap.size u6 q rfl HO3.out dcap rfl hqd hz3 ?_;intro v' w5 ho5 hb5;have HO5:=Za ho5;clear ho5))
     go_roundw
     case rel=>exact⟨k+1,q++dq,by omega,by go_num,HO5.out,HNXT.out,by rw[Xd];exact hq2,HN3.out.trans hb5⟩
     case measure=>simp[intOf];omega
   have HND:=Za hD
   have hdec:dot=false∨(dot=true∧en=false)∨(dot=true∧en=true∧((k:Int)==(ps.length:Int)-1)=false):=by
    cases dot
    ·exact Or.inl rfl
    ·cases en
     ·exact Or.inr (Or.inl ⟨rfl,rfl⟩)
     ·exact Or.inr (Or.inr ⟨rfl,rfl,by simp only[beq_eq_false_iff_ne,ne_eq];intro h;exact hD ⟨rfl,rfl,by omega⟩⟩)
   clear hD HDOT;rcases hdec with rfl|⟨rfl,rfl⟩|⟨rfl,rfl,hl'⟩
   ·skip
    have HGV:=Za (HGRP.out HND.out)
    by_cases hb:p.length<1∨4<p.length
    ·have HF:=Za (show groups l en=([],false)by rw[HG.out,HE.out,HGV.out,show Zbd p=none from if_pos hb];rfl)
     rw[HPV.out]at hck2;rcases hb with hb|hb
     ·go_wp2
      go_ret2
      exact⟨_,by rw[HF.out];rfl,by rw[HF.out];exact World.ownsRow_nil _ _ _ _,HN1.out.then HN2.out⟩
     ·go_wp2
      go_ret2
      exact⟨_,by rw[HF.out];rfl,by rw[HF.out];exact World.ownsRow_nil _ _ _ _,HN1.out.then HN2.out⟩
    have hp1:1≤p.length:=by omega
    have hp4:p.length≤4:=by omega
    have HVAL:=Za (show Zbd p=Zb9 0 p from if_neg hb);clear hb
    obtain⟨pb,poff,pc2,hpe,hplc,hpcap,hprow⟩:=HVK2.out.open_ (k:=0) (by omega)
    unfold maxLen at hpcap;rw[hpe]at hck2;have HPROW:=Za hprow;clear hprow hpe;go_wp2
    go_loop [14,15] (fun x j=>∃(m:Nat) (vv:Int),m≤p.length∧j=.int .i64 m∧x=.int .i64 vv∧0≤vv∧Hid (vv+1≤16^m)∧Hid (Zb9 0 p=Zb9 vv (p.drop m))) (fun _ j=>p.length-(intOf j).toNat)
    case atStart=>exact⟨0,0,Xf _,rfl,rfl,by omega,by show(0:Int)+1≤16^0;decide,rfl⟩
    case round=>
     obtain⟨m,vv,hm,rfl,rfl,hv0,HV1,HHX⟩:=hrel
     have hv1:=ZiL HV1.out (by omega)
     by_cases hml:m<p.length
     ·have hcp:=HPROW.out.cell hml
      obtain⟨hd0,hd1⟩:=ZdH p[m];have HSTP:=Za (ZgP (v:=vv) hml)
      by_cases hneg:digit p[m]<0
      ·have HF:=Za (show groups l en=([],false)by rw[HG.out,HE.out,HGV.out,HVAL.out,HHX.out,HSTP.out,if_pos hneg];rfl)
       go_wp2_with (go_at_call 286;refine(ZC _ _).mono ?_;rintro e w' ⟨rfl,rfl⟩)
       go_ret2
       exact⟨_,by rw[HF.out];rfl,by rw[HF.out];exact World.ownsRow_nil _ _ _ _,HN1.out.then HN2.out⟩
      ·have HNXT:=Za (HHX.out.trans (HSTP.out.trans (if_neg hneg)))
       have HBND:=Za (ZiK HV1.out hd1)
       go_wp2_with (go_at_call 286;refine(ZC _ _).mono ?_;rintro e w' ⟨rfl,rfl⟩)
       go_round
       case rel=>exact⟨m+1,16*vv+digit p[m],by omega,by go_num,rfl,by omega,HBND.out,HNXT.out⟩
       case measure=>simp[intOf];omega
     ·have HFIN:=Za (show Zb9 0 p=some vv by rw[HHX.out,Xa (by omega),Zb9])
      have HNXT:=Za (show grpGoR en ps=(grpGoR en (ps.drop (k+1))).map (q++[vv]++·)by rw[HE.out,HGV.out,HVAL.out,HFIN.out];cases grpGoR en (ps.drop (k+1))<;>simp)
      have hql2:q.length<1099511627776:=by omega
      go_wp2_with (at_builtin;go_must (refine ZbW w2 vv rfl _ _ rfl w1.heap.size u6 q rfl HO2.out rfl hql2 hz2 ?_;intro v' w5 ho5 hb5 _;have HO5:=Za ho5;clear ho5))
      go_roundw
      case rel=>exact⟨k+1,q++[vv],by omega,by go_num,HO5.out,HNXT.out,by simp;omega,HN2.out.trans hb5⟩
      case measure=>simp[intOf];omega
   ·skip
    have HGV:=Za (HGRP.out HND.out)
    by_cases hb:p.length<1∨4<p.length
    ·have HF:=Za (show groups l false=([],false)by rw[HG.out,HE.out,HGV.out,show Zbd p=none from if_pos hb];rfl)
     rw[HPV.out]at hck2;rcases hb with hb|hb
     ·go_wp2
      go_ret2
      exact⟨_,by rw[HF.out];rfl,by rw[HF.out];exact World.ownsRow_nil _ _ _ _,HN1.out.then HN2.out⟩
     ·go_wp2
      go_ret2
      exact⟨_,by rw[HF.out];rfl,by rw[HF.out];exact World.ownsRow_nil _ _ _ _,HN1.out.then HN2.out⟩
    have hp1:1≤p.length:=by omega
    have hp4:p.length≤4:=by omega
    have HVAL:=Za (show Zbd p=Zb9 0 p from if_neg hb);clear hb
    obtain⟨pb,poff,pc2,hpe,hplc,hpcap,hprow⟩:=HVK2.out.open_ (k:=0) (by omega)
    unfold maxLen at hpcap;rw[hpe]at hck2;have HPROW:=Za hprow;clear hprow hpe;go_wp2
    go_loop [14,15] (fun x j=>∃(m:Nat) (vv:Int),m≤p.length∧j=.int .i64 m∧x=.int .i64 vv∧0≤vv∧Hid (vv+1≤16^m)∧Hid (Zb9 0 p=Zb9 vv (p.drop m))) (fun _ j=>p.length-(intOf j).toNat)
    case atStart=>exact⟨0,0,Xf _,rfl,rfl,by omega,by show(0:Int)+1≤16^0;decide,rfl⟩
    case round=>
     obtain⟨m,vv,hm,rfl,rfl,hv0,HV1,HHX⟩:=hrel
     have hv1:=ZiL HV1.out (by omega)
     by_cases hml:m<p.length
     ·have hcp:=HPROW.out.cell hml
      obtain⟨hd0,hd1⟩:=ZdH p[m];have HSTP:=Za (ZgP (v:=vv) hml)
      by_cases hneg:digit p[m]<0
      ·have HF:=Za (show groups l false=([],false)by rw[HG.out,HE.out,HGV.out,HVAL.out,HHX.out,HSTP.out,if_pos hneg];rfl)
       go_wp2_with (go_at_call 286;refine(ZC _ _).mono ?_;rintro e w' ⟨rfl,rfl⟩)
       go_ret2
       exact⟨_,by rw[HF.out];rfl,by rw[HF.out];exact World.ownsRow_nil _ _ _ _,HN1.out.then HN2.out⟩
      ·have HNXT:=Za (HHX.out.trans (HSTP.out.trans (if_neg hneg)))
       have HBND:=Za (ZiK HV1.out hd1)
       go_wp2_with (go_at_call 286;refine(ZC _ _).mono ?_;rintro e w' ⟨rfl,rfl⟩)
       go_round
       case rel=>exact⟨m+1,16*vv+digit p[m],by omega,by go_num,rfl,by omega,HBND.out,HNXT.out⟩
       case measure=>simp[intOf];omega
     ·have HFIN:=Za (show Zb9 0 p=some vv by rw[HHX.out,Xa (by omega),Zb9])
      have HNXT:=Za (show grpGoR false ps=(grpGoR false (ps.drop (k+1))).map (q++[vv]++·)by rw[HE.out,HGV.out,HVAL.out,HFIN.out];cases grpGoR false (ps.drop (k+1))<;>simp)
      have hql2:q.length<1099511627776:=by omega
      go_wp2_with (at_builtin;go_must (refine ZbW w2 vv rfl _ _ rfl w1.heap.size u6 q rfl HO2.out rfl hql2 hz2 ?_;intro v' w5 ho5 hb5 _;have HO5:=Za ho5;clear ho5))
      go_roundw
      case rel=>exact⟨k+1,q++[vv],by omega,by go_num,HO5.out,HNXT.out,by simp;omega,HN2.out.trans hb5⟩
      case measure=>simp[intOf];omega
   ·skip
    have HGV:=Za (HGRP.out HND.out)
    by_cases hb:p.length<1∨4<p.length
    ·have HF:=Za (show groups l true=([],false)by rw[HG.out,HE.out,HGV.out,show Zbd p=none from if_pos hb];rfl)
     rw[HPV.out]at hck2;rcases hb with hb|hb
     ·go_wp2
      go_ret2
      exact⟨_,by rw[HF.out];rfl,by rw[HF.out];exact World.ownsRow_nil _ _ _ _,HN1.out.then HN2.out⟩
     ·go_wp2
      go_ret2
      exact⟨_,by rw[HF.out];rfl,by rw[HF.out];exact World.ownsRow_nil _ _ _ _,HN1.out.then HN2.out⟩
    have hp1:1≤p.length:=by omega
    have hp4:p.length≤4:=by omega
    have HVAL:=Za (show Zbd p=Zb9 0 p from if_neg hb);clear hb
    obtain⟨pb,poff,pc2,hpe,hplc,hpcap,hprow⟩:=HVK2.out.open_ (k:=0) (by omega)
    unfold maxLen at hpcap;rw[hpe]at hck2;have HPROW:=Za hprow;clear hprow hpe;go_wp2
    go_loop [14,15] (fun x j=>∃(m:Nat) (vv:Int),m≤p.length∧j=.int .i64 m∧x=.int .i64 vv∧0≤vv∧Hid (vv+1≤16^m)∧Hid (Zb9 0 p=Zb9 vv (p.drop m))) (fun _ j=>p.length-(intOf j).toNat)
    case atStart=>exact⟨0,0,Xf _,rfl,rfl,by omega,by show(0:Int)+1≤16^0;decide,rfl⟩
    case round=>
     obtain⟨m,vv,hm,rfl,rfl,hv0,HV1,HHX⟩:=hrel
     have hv1:=ZiL HV1.out (by omega)
     by_cases hml:m<p.length
     ·have hcp:=HPROW.out.cell hml
      obtain⟨hd0,hd1⟩:=ZdH p[m];have HSTP:=Za (ZgP (v:=vv) hml)
      by_cases hneg:digit p[m]<0
      ·have HF:=Za (show groups l true=([],false)by rw[HG.out,HE.out,HGV.out,HVAL.out,HHX.out,HSTP.out,if_pos hneg];rfl)
       go_wp2_with (go_at_call 286;refine(ZC _ _).mono ?_;rintro e w' ⟨rfl,rfl⟩)
       go_ret2
       exact⟨_,by rw[HF.out];rfl,by rw[HF.out];exact World.ownsRow_nil _ _ _ _,HN1.out.then HN2.out⟩
      ·have HNXT:=Za (HHX.out.trans (HSTP.out.trans (if_neg hneg)))
       have HBND:=Za (ZiK HV1.out hd1)
       go_wp2_with (go_at_call 286;refine(ZC _ _).mono ?_;rintro e w' ⟨rfl,rfl⟩)
       go_round
       case rel=>exact⟨m+1,16*vv+digit p[m],by omega,by go_num,rfl,by omega,HBND.out,HNXT.out⟩
       case measure=>simp[intOf];omega
     ·have HFIN:=Za (show Zb9 0 p=some vv by rw[HHX.out,Xa (by omega),Zb9])
      have HNXT:=Za (show grpGoR true ps=(grpGoR true (ps.drop (k+1))).map (q++[vv]++·)by rw[HE.out,HGV.out,HVAL.out,HFIN.out];cases grpGoR true (ps.drop (k+1))<;>simp)
      have hql2:q.length<1099511627776:=by omega
      go_wp2_with (at_builtin;go_must (refine ZbW w2 vv rfl _ _ rfl w1.heap.size u6 q rfl HO2.out rfl hql2 hz2 ?_;intro v' w5 ho5 hb5 _;have HO5:=Za ho5;clear ho5))
      go_roundw
      case rel=>exact⟨k+1,q++[vv],by omega,by go_num,HO5.out,HNXT.out,by simp;omega,HN2.out.trans hb5⟩
      case measure=>simp[intOf];omega
  ·have HF:=Za (show groups l en=(q,true)by rw[HG.out,HE.out,Xa (by omega)];simp[grpGoR])
   go_wp2;go_ret2
   exact⟨_,by rw[HF.out];rfl,by rw[HF.out];exact Zgk HO.out hz1,HN1.out.then HN.out⟩
def Zhs(l:List Int)(i:Nat):List Int×Bool:=
 if(groups (l.take i) false).2=false∨(groups (l.drop (i+2)) true).2=false∨7<(groups (l.take i) false).1.length+(groups (l.drop (i+2)) true).1.length then([],false)
 else((groups (l.take i) false).1++List.replicate (8-((groups (l.take i) false).1.length+(groups (l.drop (i+2)) true).1.length)) 0++(groups (l.drop (i+2)) true).1,true)
def Zbz(l:List Int)(i:Nat):List Int×Bool:=
 if i+1<l.length then(if l.getD i 0=58∧l.getD (i+1) 0=58 then Zhs l i else Zbz l (i+1))
 else((groups l true).1,(groups l true).2&&(groups l true).1.length==8)
 termination_by l.length-i
 decreasing_by omega
def address(l:List Int):List Int×Bool:=Zbz l 0
def Dj(v2 v:Value):Prop:=v2.ownBlock=none∨v2.ownBlock≠v.ownBlock
theorem ZpM{ops:Array Oper}{rest:List Oper}{o:Oper}{a:Act}{Q:Exit→Act→World→Prop}(w:World)(base2:Nat)(v2:Value)(l2:LI)(hown2:OwnI w base2 v2 l2)
  (hgd:o.guard=none) (s x:Operand) (ho:o.op=.call { callee:=.builtin .append,args:=#[s,x],argTypes:=#[124,124] })
  (base:Nat) (v:Value) (l:LI) (hs:a.eval s=v) (hown:OwnI w base v l) (hdj:Dj v2 v) (hx:a.eval x=.slice (some ⟨w.heap.size,0,none⟩) 1 1)
  (hn:l.length<1000000) (hbase:base≤w.heap.size)
  (h:∀v' w',OwnI w' base v' (l++[0])→OwnI w' base2 v2 l2→Dj v2 v'→Below base w w'→wpList Tryz.prog ops Q rest (a.put o.dst v') w'):
  wpList Tryz.prog ops Q (o::rest) a (w.alloc (.cells #[.int .i64 0] 3)):=by
 obtain⟨i,hi,hz0,hz1,hz2⟩:=info_parts Zex
 refine wpList_append_lies (w.alloc (.cells #[.int .i64 0] 3)) hgd s x _ ho base _ i (.int .i64 0) 1 8 Tryz.underlying124 hi hz0 hz1 hz2 rfl (by decide) v l.length _ hs (World.ownsRow.alloc hown _) ⟨w.heap.size,0,none⟩ 1 1 [.int .i64 0] hx rfl (Zf4 (by simp)) (by simp[Value.oneCell']) (by decide) (by unfold maxLen;omega) (by omega) (by simp;omega) _ rfl ?_
 intro g cap w' h2 h3 h4 _
 refine h _ w' ?_ ((World.ownsRow.alloc hown2 _).kept h3 hdj) ?_ (((Below.refl base w).alloc hbase _).grown h3 (by simp;omega) (fun k hk=>(hown.lt k hk).1))
 ·unfold OwnI
  rw[Xd,Xk];exact h2
 ·cases hv2:v2.ownBlock with
  | none=>exact Or.inl hv2
  | some k=>
   right
   rw[hv2]
   show some k≠some g
   intro e;have hk:=(hown2.lt k hv2).2;rcases h4 with h4|h4
   ·rcases hdj with h5|h5
    ·rw[h5]at hv2;cases hv2
    ·exact h5 (by rw[hv2,h4,e])
   ·have e2:=Option.some.inj e
    rw[World.size_alloc]at h4
    omega
theorem Zxx{w1 w2:World}{B:Nat}{va vb:Value}{qa qb:LI}(ha:OwnI w1 B va qa)(hb:OwnI w2 w1.heap.size vb qb):Dj vb va:=by
 cases e:vb.ownBlock with
 | none=>exact Or.inl e
 | some k=>
  right
  rw[e];intro h;have h1:=(hb.lt k e).1;have h2:=(ha.lt k h.symm).2
  omega
theorem Zj4{q qa:LI}(h:q=qa++List.replicate (q.length-qa.length) 0)(hl:qa.length≤q.length):q++[0]=qa++List.replicate ((q++[0]).length-qa.length) 0:=by rw[Xd,show q.length + [(0:Int)].length-qa.length=(q.length-qa.length)+1 by simp;omega,List.replicate_succ',←List.append_assoc,←h]
theorem Ztk{α:Type}{e:TypeId}{f:α→Value}{w:World}{l:List α}{b off cap:Nat}(h:SlAt e f w (.slice (some ⟨b,off,none⟩) l.length cap) l):RowAt e f w b off l:=by obtain⟨ao,c,e1,_,_,_,hs⟩:=h;simp only[Value.slice.injEq]at e1;obtain⟨b',off',ea,hr⟩:=hs _ e1.1.symm;simp only[Addr.mk.injEq]at ea;obtain⟨rfl,rfl,_⟩:=ea;exact hr
theorem ZcN{l:LI}{i:Nat}(h:i<l.length):l.getD i 0=l[i]:=by rw[List.getD_eq_getElem?_getD,Xh h];rfl
theorem Zjm(en:Bool)(ps:List LI):∀q,grpGoR en ps=some q→q.length≤2*ps.length:=by
 induction ps with
 | nil=>intro q h;simp only[grpGoR,Option.some.injEq]at h;subst h;simp
 | cons p r ih=>
  intro q h;rw[grpGoR]at h
  split at h
  ·split at h
   ·rename_i hd
    simp only[Option.some.injEq]at h;subst h;have:=Zj3 hd;simp only[Xj];omega
   ·cases h
  ·split at h
   ·cases h
   ·cases hr:grpGoR en r with
    | none=>rw[hr]at h;cases h
    | some z=>
     rw[hr]at h;simp only[Option.map_some,Option.some.injEq]at h;subst h;have:=ih z hr;simp only[Xj];omega
theorem Zj5(l:LI)(en:Bool):(groups l en).1.length≤2*(l.length+1):=by
 unfold groups
 split
 ·simp
 ·cases h:grpGoR en (parts l [58])with
  | none=>simp
  | some q=>
   have h1:=Zjm en _ q h;have h2:=(ZaQ l [58]).1;simp only;omega
theorem Zn1(v:Value)(l:LI)(w:World)(hv:IntsAt w v l)(hl:l.length≤80000):Calls Tryz.prog 213 #[v] w fun e w'=>∃v',e=.returned (.tuple #[v',.bool (address l).2])∧IntsAt w' v' (address l).1∧Nx w w':=by
 have HV:=Za hv;obtain⟨ao,cap,rfl,hlc,hcap,hnone,hsome⟩:=hv;have HCAP:=Za hcap;unfold maxLen at hcap
 go_enter Tryz.func213,Tryz.ntmps213
 go_wp2
 go_loop [4] (fun x=>∃i:Nat,i≤l.length∧x=.int .i64 i∧address l=Zbz l i) (fun x=>l.length-(intOf x).toNat)
 case atStart=>exact⟨0,Xf _,rfl,rfl⟩
 case round=>
  obtain⟨i,hi,rfl,hE⟩:=hrel
  by_cases hlt:i+1<l.length
  ·obtain⟨a,ha⟩:=Zw (k:=i) (by omega) hnone
   subst ha;obtain⟨b,off,rfl,hr⟩:=hsome a rfl
   have c0:=hr.cell (i:=i) (by omega)
   have c1:=hr.cell (i:=i+1) hlt;have HR:=Za hr;clear hnone hsome hr
   rw[Zbz,if_pos hlt,ZcN (by omega:i<l.length),ZcN hlt]at hE
   by_cases h1:l[i]=58
   ·by_cases h2:l[i+1]=58
    ·have HE:=Za (hE.trans (if_pos ⟨h1,h2⟩))
     rw[h1]at c0;rw[h2]at c1;clear h1 h2 hE;have HLA:=Za (Zj5 (l.take i) false);have HLB:=Za (Zj5 (l.drop (i+2)) true)
     have HAT:=Za (show Zhs l i=if(groups (l.take i) false).2=false∨(groups (l.drop (i+2)) true).2=false∨7<(groups (l.take i) false).1.length+(groups (l.drop (i+2)) true).1.length then([],false)else((groups (l.take i) false).1++List.replicate (8-((groups (l.take i) false).1.length+(groups (l.drop (i+2)) true).1.length)) 0++(groups (l.drop (i+2)) true).1,true)from rfl)
     have HS1:=Za (Zdw HR.out hlc HCAP.out i (by omega))
     go_wp2_with fail
     refine(Zfm _ (l.take i) false _ HS1.out (by rw[Xg];omega)).mono ?_
     rintro e w1 ⟨va,rfl,hoa,hn1⟩;generalize groups (l.take i) false=ga at *;obtain⟨qa,oka⟩:=ga;simp only at *;have HOA1:=Za hoa;have HN1:=Za hn1;obtain⟨aao,acap,hae⟩:=Zb5 hoa;subst hae;have HR1:=Za (HR.out.on hn1);clear hn1 hoa HR c0 c1;have HS2:=Za (Zju HR1.out (i+2) 0);have HS3:=Za (ZfE HR1.out hlc HCAP.out (i+2));go_wp2_with fail
     ·refine(Zfm _ (l.drop (i+2)) true _ (HS2.out (by omega) (Xf _)) (by rw[Xb];omega)).mono ?_
      rintro e w2 ⟨vb,rfl,hob,hn2⟩;generalize groups (l.drop (i+2)) true=gb at *;obtain⟨qb,okb⟩:=gb;simp only at *;have HOA:=Za (ZbP HOA1.out hn2);have HOB:=Za hob;have HN2:=Za (HN1.out.then hn2);have HDJ:=Za (Zxx HOA1.out hob);have hla:=HLA.out;have hlb:=HLB.out;rw[Xg]at hla;rw[Xb]at hlb;have hz1:=HN1.out.size;have hz2:=HN2.out.size;obtain⟨bo,bcap,hbe⟩:=Zb5 hob;clear hn2 hob;subst hbe
      cases oka
      ·have HF:=Za (show address l=([],false)by rw[HE.out,HAT.out,if_pos (Or.inl rfl)])
       go_wp2;go_ret2
       exact⟨_,by rw[HF.out];rfl,by rw[HF.out];exact SlAt.nil _,HN2.out⟩
      cases okb
      ·have HF:=Za (show address l=([],false)by rw[HE.out,HAT.out,if_pos (Or.inr (Or.inl rfl))])
       go_wp2;go_ret2
       exact⟨_,by rw[HF.out];rfl,by rw[HF.out];exact SlAt.nil _,HN2.out⟩
      by_cases h7:7<qa.length+qb.length
      ·have HF:=Za (show address l=([],false)by rw[HE.out,HAT.out,if_pos (Or.inr (Or.inr h7))])
       go_wp2;go_ret2
       exact⟨_,by rw[HF.out];rfl,by rw[HF.out];exact SlAt.nil _,HN2.out⟩
      have HF:=Za (show address l=(qa++List.replicate (8-(qa.length+qb.length)) 0++qb,true)by rw[HE.out,HAT.out,if_neg (by simp only[Xi,false_or];exact h7)])
      clear HE HAT
      have h7':decide (7<(qa.length:Int)+(qb.length:Int))=false:=by simp only[decide_eq_false_iff_not];omega
      go_wp2
      go_loopw [5] (fun x wr=>∃q:LI,OwnI wr w.heap.size x q∧OwnI wr w1.heap.size (.slice bo qb.length bcap) qb∧Dj (.slice bo qb.length bcap) x∧Hid (q=qa++List.replicate (q.length-qa.length) 0)∧qa.length≤q.length∧q.length+qb.length≤8∧Nx w wr) (fun x _=>8-ZaT x)
      case atStart=>exact⟨qa,HOA.out,HOB.out,HDJ.out,by show qa=qa++List.replicate (qa.length-qa.length) 0;simp,Xn _,by omega,HN2.out⟩
      case round=>
       clear HOA HOB HDJ;obtain⟨q,hq1,hq2,hq3,HQ4,hq5,hq6,hq7⟩:=hrel;obtain⟨qo,qcap,hqe⟩:=Zb5 hq1;subst hqe;have HQ1:=Za hq1;have HQ2:=Za hq2;have HQ3:=Za hq3;have HQ7:=Za hq7;have hzq:=hq7.size;clear hq1 hq2 hq3 hq7
       by_cases h8:q.length+qb.length<8
       ·have hqs:q.length<1000000:=by omega
        have HQN:=Za (Zj4 HQ4.out hq5)
        go_wp2_with (at_builtin;go_must (refine ZpM wr w1.heap.size (.slice bo qb.length bcap) qb HQ2.out rfl _ _ rfl w.heap.size (.slice qo q.length qcap) q rfl HQ1.out HQ3.out rfl hqs hzq ?_;intro v' w5 ho5 ho6 hd5 hb5;have HO5:=Za ho5;have HO6:=Za ho6;have HD5:=Za hd5;clear ho5 ho6 hd5))
        go_roundw
        case rel=>exact⟨q++[0],HO5.out,HO6.out,HD5.out,HQN.out,by simp;omega,by simp;omega,HQ7.out.trans hb5⟩
        case measure=>
         obtain⟨o5,c5,e5⟩:=Zb5 HO5.out;rw[e5]
         simp[ZaT];omega
       ·have HFN:=Za (show(address l).1=q++qb∧(address l).2=true by
         rw[HF.out]
         refine⟨?_,rfl⟩
         have h:=HQ4.out
         rw[show q.length-qa.length=8-(qa.length+qb.length)by omega]at h
         rw[h])
        obtain⟨hb1,⟨hb2,hb3⟩|⟨g,gcap,cur,hb2,hb3⟩⟩:=HQ2.out
        ·have hqb:qb=[]:=Xc hb3
         have hbo:bo=none∧bcap=0:=by simp only[Value.slice.injEq]at hb2;exact⟨hb2.1,hb2.2.2⟩
         obtain⟨rfl,rfl⟩:=hbo;have HFN2:=HFN.out;rw[hqb,Xl]at HFN2;have HF3:=Za HFN2;rw[hb3]at h7' h8 hq6 ⊢;obtain⟨i0,hi0,_,_,_⟩:=info_parts Zex;clear HF HFN HFN2 hb1 hb2 hb3 hqb HQ2 HQ3 HQ4
         go_wp2_with (at_builtin;go_must (refine wpList_append_own_none rfl _ _ 124 rfl w.heap.size 3 i0 1 Tryz.underlying124 hi0 (.slice qo q.length qcap) q.length (q.map (Value.int .i64)) rfl HQ1.out rfl ?_))
         go_ret2
         exact⟨_,by rw[HF3.out.2];rfl,by rw[HF3.out.1];exact OwnI.ints HQ1.out,HQ7.out⟩
        ·have hbo:bo=some ⟨g,0,none⟩∧bcap=gcap:=by simp only[Value.slice.injEq]at hb2;exact⟨hb2.1,hb2.2.2⟩
         obtain⟨rfl,rfl⟩:=hbo;have HRB:=Za (Ztk (OwnI.ints HQ2.out))
         have hqs:q.length+qb.length<1099511627776:=by omega
         clear HF hb1 hb2 hb3 HQ2 HQ3 HQ4
         go_wp2_with (at_builtin;go_must (refine Zk8 wr qb g 0 HRB.out rfl _ _ rfl w.heap.size (.slice qo q.length qcap) q rfl HQ1.out bcap rfl hqs hzq ?_;intro v' w5 ho5 hb5;have HO5:=Za ho5;clear ho5))
         go_ret2
         exact⟨_,by rw[HFN.out.2];rfl,by rw[HFN.out.1];exact OwnI.ints HO5.out,HQ7.out.trans hb5⟩
     ·refine(Zfm _ (l.drop (i+2)) true _ (HS3.out (by omega)) (by rw[Xb];omega)).mono ?_
      rintro e w2 ⟨vb,rfl,hob,hn2⟩;generalize groups (l.drop (i+2)) true=gb at *;obtain⟨qb,okb⟩:=gb;simp only at *;have HOA:=Za (ZbP HOA1.out hn2);have HOB:=Za hob;have HN2:=Za (HN1.out.then hn2);have HDJ:=Za (Zxx HOA1.out hob);have hla:=HLA.out;have hlb:=HLB.out;rw[Xg]at hla;rw[Xb]at hlb;have hz1:=HN1.out.size;have hz2:=HN2.out.size;obtain⟨bo,bcap,hbe⟩:=Zb5 hob;clear hn2 hob;subst hbe
      cases oka
      ·have HF:=Za (show address l=([],false)by rw[HE.out,HAT.out,if_pos (Or.inl rfl)])
       go_wp2;go_ret2
       exact⟨_,by rw[HF.out];rfl,by rw[HF.out];exact SlAt.nil _,HN2.out⟩
      cases okb
      ·have HF:=Za (show address l=([],false)by rw[HE.out,HAT.out,if_pos (Or.inr (Or.inl rfl))])
       go_wp2;go_ret2
       exact⟨_,by rw[HF.out];rfl,by rw[HF.out];exact SlAt.nil _,HN2.out⟩
      by_cases h7:7<qa.length+qb.length
      ·have HF:=Za (show address l=([],false)by rw[HE.out,HAT.out,if_pos (Or.inr (Or.inr h7))])
       go_wp2;go_ret2
       exact⟨_,by rw[HF.out];rfl,by rw[HF.out];exact SlAt.nil _,HN2.out⟩
      have HF:=Za (show address l=(qa++List.replicate (8-(qa.length+qb.length)) 0++qb,true)by rw[HE.out,HAT.out,if_neg (by simp only[Xi,false_or];exact h7)])
      clear HE HAT
      have h7':decide (7<(qa.length:Int)+(qb.length:Int))=false:=by simp only[decide_eq_false_iff_not];omega
      go_wp2
      go_loopw [5] (fun x wr=>∃q:LI,OwnI wr w.heap.size x q∧OwnI wr w1.heap.size (.slice bo qb.length bcap) qb∧Dj (.slice bo qb.length bcap) x∧Hid (q=qa++List.replicate (q.length-qa.length) 0)∧qa.length≤q.length∧q.length+qb.length≤8∧Nx w wr) (fun x _=>8-ZaT x)
      case atStart=>exact⟨qa,HOA.out,HOB.out,HDJ.out,by show qa=qa++List.replicate (qa.length-qa.length) 0;simp,Xn _,by omega,HN2.out⟩
      case round=>
       clear HOA HOB HDJ;obtain⟨q,hq1,hq2,hq3,HQ4,hq5,hq6,hq7⟩:=hrel;obtain⟨qo,qcap,hqe⟩:=Zb5 hq1;subst hqe;have HQ1:=Za hq1;have HQ2:=Za hq2;have HQ3:=Za hq3;have HQ7:=Za hq7;have hzq:=hq7.size;clear hq1 hq2 hq3 hq7
       by_cases h8:q.length+qb.length<8
       ·have hqs:q.length<1000000:=by omega
        have HQN:=Za (Zj4 HQ4.out hq5)
        go_wp2_with (at_builtin;go_must (refine ZpM wr w1.heap.size (.slice bo qb.length bcap) qb HQ2.out rfl _ _ rfl w.heap.size (.slice qo q.length qcap) q rfl HQ1.out HQ3.out rfl hqs hzq ?_;intro v' w5 ho5 ho6 hd5 hb5;have HO5:=Za ho5;have HO6:=Za ho6;have HD5:=Za hd5;clear ho5 ho6 hd5))
        go_roundw
        case rel=>exact⟨q++[0],HO5.out,HO6.out,HD5.out,HQN.out,by simp;omega,by simp;omega,HQ7.out.trans hb5⟩
        case measure=>
         obtain⟨o5,c5,e5⟩:=Zb5 HO5.out;rw[e5]
         simp[ZaT];omega
       ·have HFN:=Za (show(address l).1=q++qb∧(address l).2=true by
         rw[HF.out]
         refine⟨?_,rfl⟩
         have h:=HQ4.out
         rw[show q.length-qa.length=8-(qa.length+qb.length)by omega]at h
         rw[h])
        obtain⟨hb1,⟨hb2,hb3⟩|⟨g,gcap,cur,hb2,hb3⟩⟩:=HQ2.out
        ·have hqb:qb=[]:=Xc hb3
         have hbo:bo=none∧bcap=0:=by simp only[Value.slice.injEq]at hb2;exact⟨hb2.1,hb2.2.2⟩
         obtain⟨rfl,rfl⟩:=hbo;have HFN2:=HFN.out;rw[hqb,Xl]at HFN2;have HF3:=Za HFN2;rw[hb3]at h7' h8 hq6 ⊢;obtain⟨i0,hi0,_,_,_⟩:=info_parts Zex;clear HF HFN HFN2 hb1 hb2 hb3 hqb HQ2 HQ3 HQ4
         go_wp2_with (at_builtin;go_must (refine wpList_append_own_none rfl _ _ 124 rfl w.heap.size 3 i0 1 Tryz.underlying124 hi0 (.slice qo q.length qcap) q.length (q.map (Value.int .i64)) rfl HQ1.out rfl ?_))
         go_ret2
         exact⟨_,by rw[HF3.out.2];rfl,by rw[HF3.out.1];exact OwnI.ints HQ1.out,HQ7.out⟩
        ·have hbo:bo=some ⟨g,0,none⟩∧bcap=gcap:=by simp only[Value.slice.injEq]at hb2;exact⟨hb2.1,hb2.2.2⟩
         obtain⟨rfl,rfl⟩:=hbo;have HRB:=Za (Ztk (OwnI.ints HQ2.out))
         have hqs:q.length+qb.length<1099511627776:=by omega
         clear HF hb1 hb2 hb3 HQ2 HQ3 HQ4
         go_wp2_with (at_builtin;go_must (refine Zk8 wr qb g 0 HRB.out rfl _ _ rfl w.heap.size (.slice qo q.length qcap) q rfl HQ1.out bcap rfl hqs hzq ?_;intro v' w5 ho5 hb5;have HO5:=Za ho5;clear ho5))
         go_ret2
         exact⟨_,by rw[HFN.out.2];rfl,by rw[HFN.out.1];exact OwnI.ints HO5.out,HQ7.out.trans hb5⟩
    ·have HE:=Za (hE.trans (if_neg (fun h=>h2 h.2)))
     have h2':(l[i+1]==58)=false:=by simp[h2]
     rw[h1]at c0;clear h1 h2 hE;go_wp2
     go_round
     case rel=>exact⟨i+1,by omega,by go_num,HE.out⟩
     case measure=>simp[intOf];omega
   ·have HE:=Za (hE.trans (if_neg (fun h=>h1 h.1)))
    have h1':(l[i]==58)=false:=by simp[h1]
    clear h1 hE;go_wp2
    go_round
    case rel=>exact⟨i+1,by omega,by go_num,HE.out⟩
    case measure=>simp[intOf];omega
  ·rw[Zbz,if_neg hlt]at hE
   have HE:=Za hE;clear hE;go_wp2_with fail
   refine(Zfm _ l true _ HV.out hl).mono ?_
   rintro e w1 ⟨v1,rfl,hv1,hn1⟩;generalize groups l true=q at *;obtain⟨qa,ok⟩:=q;simp only at *;obtain⟨po,pcap,rfl⟩:=Zb5 hv1;have HO:=Za hv1;clear hv1
   cases ok
   ·go_wp2
    go_ret2
    exact⟨_,by rw[HE.out];rfl,by rw[HE.out];exact OwnI.ints HO.out,hn1⟩
   ·by_cases h8:qa.length=8
    ·have h8':((qa.length:Int)==8)=true:=by simp[h8]
     have HB:=Za (show(qa.length==8)=true by simp[h8])
     clear h8;go_wp2;go_ret2
     exact⟨_,by rw[HE.out];simp only[Xm,HB.out];rfl,by rw[HE.out];exact OwnI.ints HO.out,hn1⟩
    ·have h8':((qa.length:Int)==8)=false:=by simp only[beq_eq_false_iff_ne,ne_eq];omega
     have HB:=Za (show(qa.length==8)=false by simp[h8])
     clear h8;go_wp2;go_ret2
     exact⟨_,by rw[HE.out];simp only[Xm,HB.out];rfl,by rw[HE.out];exact OwnI.ints HO.out,hn1⟩
end Go.Proofs.YtchkhibgbnhjpabGreatDoor
