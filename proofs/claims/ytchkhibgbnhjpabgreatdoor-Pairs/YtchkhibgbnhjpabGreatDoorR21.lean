import Derived.Test.YtchkhibgbnhjpabGreatDoorR20
open Bool renaming and_eq_true→Xf,and_true→Xl
open List renaming mem_singleton→Xa,map_append→Xb,mem_append→Xc,getElem_set_self→Xd,length_cons→Xe,mem_cons_of_mem→Xg,foldl_nil→Xi,getD_eq_getElem?_getD→Xj,all_cons→Xk,all_nil→Xm,take_of_length_le→Xn,length_set→Xo,mem_cons→Xq,eq_nil_of_length_eq_zero→Xr,foldl_cons→Xs,drop_eq_getElem_cons→Xt,getElem?_eq_getElem→Xu,drop_of_length_le→Xv,mem_cons_self→Xx,foldl_append→Xz,all_append→XA,take_zero→XB,set_set→XC
open Nat renaming le_trans→Xh,le_refl→Xp,zero_le→Xw
namespace Go.Proofs.YtchkhibgbnhjpabGreatDoor
open Go.RowKit
set_option maxHeartbeats 4000000
set_option maxRecDepth 100000
def SchAt(w:World)(rb:Nat)(sch:ByteArray):Prop:=∃(cs:Array Value) (fz:Nat×Nat),w.heap[rb]?=some (Obj.cells cs 130 fz)∧cs[0]?=some (.string sch)
theorem SchAt.cell{w:World}{rb:Nat}{sch:BA}(h:SchAt w rb sch):w.cell? ⟨rb,0,none⟩=some (.string sch):=by
 obtain⟨cs,fz,hh,hc⟩:=h
 simpa [World.cell?,hh]using hc
theorem SchAt.on{w w':World}{rb:Nat}{sch:BA}(h:SchAt w rb sch)(hb:Nx w w'):SchAt w' rb sch:=by obtain⟨cs,fz,hh,hc⟩:=h;exact⟨cs,fz,(hb.block rb (Array.getElem?_eq_some_iff.1 hh).1).trans hh,hc⟩
theorem SchAt.kp{w w':World}{rb:Nat}{sch:BA}(h:SchAt w rb sch)(hb:Kp 9 w w'):SchAt w' rb sch:=by
 obtain⟨cs,fz,hh,hc⟩:=h
 exact⟨cs,fz,hb rb cs _ fz hh (by decide),hc⟩
def ZcM:List UInt8:=[32,34,35,60,62,63,94,96,123,125]
def Zcn(sch:List UInt8)(p:List (List UInt8)):List (List UInt8):=if p.length=1∧sch=ZO∧drive (p.headD [])=true then p else p.dropLast
def Zas(sch:List UInt8)(p:List (List UInt8))(s:List Int)(last:Bool):List (List UInt8):=
 if dots (encoded s ZcM)=0 then p++[if letter s=true∧sch=ZO∧p=[]then(encoded s ZcM).take 1++[58]else encoded s ZcM]
 else if dots (encoded s ZcM)=2 then(if last then Zcn sch p++[[]]else Zcn sch p)
 else(if last then p++[[]]else p)
def ZfC(sch:List UInt8):List (List UInt8)→List (List Int)→List (List UInt8)
 | p,[]=>p
 | p,s::r=>ZfC sch (Zas sch p s r.isEmpty) r
def walked(sch:List UInt8)(p:List (List UInt8))(l:List Int):List (List UInt8):=ZfC sch p (parts l (tl (Zl sch)))
theorem ZiG(sch:LB)(bs:LA):(shorter sch bs).map tl=Zcn sch (bs.map tl):=by
 unfold shorter Zcn
 have hh:(bs.map tl).headD []=tl (bs.headD ⟨#[]⟩):=by cases bs<;>rfl
 rw[List.length_map,hh]
 split
 ·rfl
 ·rw[List.map_dropLast]
theorem ZiH(sch:LB)(bs:LA):(shorter sch bs).length≤bs.length∧∀x∈shorter sch bs,x∈bs:=by
 unfold shorter
 split
 ·exact⟨Xp _,fun _ h=>h⟩
 ·exact⟨by rw[List.length_dropLast];omega,fun x h=>List.dropLast_subset _ h⟩
theorem Zb5{w:World}{base:Nat}{e:TypeId}{v:Value}{n:Nat}{xs:List Value}(h:w.ownsRow base e 1 v n xs):∃ao cap,v=.slice ao n cap:=by
 obtain⟨_,⟨rfl,rfl⟩|⟨g,cap,cur,rfl,_⟩⟩:=h
 ·exact⟨_,_,rfl⟩
 ·exact⟨_,_,rfl⟩
theorem ZpC(s:LB):dots s=0∨dots s=1∨dots s=2:=by
 unfold dots cands;simp only[Zc4]
 repeat (first|(split;simp)|simp)
theorem ZaQ(l:LI)(t:LB):(parts l t).length≤l.length+1∧∀p∈parts l t,p.length≤l.length∧∀c∈p,c∈l:=by
 induction l with
 | nil=>
  refine⟨by simp[parts],fun p hp=>?_⟩
  simp only[parts,Xq,List.not_mem_nil,or_false]at hp;subst hp
  simp
 | cons c r ih=>
  obtain⟨ih1,ih2⟩:=ih;rw[parts]
  split
  ·refine⟨by simp only[Xe];omega,fun p hp=>?_⟩
   rcases Xq.1 hp with rfl|hp
   ·simp
   ·obtain⟨h1,h2⟩:=ih2 p hp
    exact⟨by simp only[Xe];omega,fun x hx=>Xg _ (h2 x hx)⟩
  ·obtain⟨a,q,hq⟩:=ZkO r t
   rw[hq]at ih1 ih2 ⊢;simp only
   refine⟨by simp only[Xe]at *;omega,fun p hp=>?_⟩
   rcases Xq.1 hp with rfl|hp
   ·obtain⟨h1,h2⟩:=ih2 a (Xx ..)
    refine⟨by simp only[Xe];omega,fun x hx=>?_⟩
    rcases Xq.1 hx with rfl|hx
    ·exact Xx ..
    ·exact Xg _ (h2 x hx)
   ·obtain⟨h1,h2⟩:=ih2 p (Xg _ hp)
    exact⟨by simp only[Xe];omega,fun x hx=>Xg _ (h2 x hx)⟩
theorem Zti(set:LB)(c:Int):1≤(encPt set c).length:=by
 have h:=ZfF c;unfold encPt
 split
 ·cases hu:utf c with
  | nil=>rw[hu]at h;simp at h
  | cons x q=>simp[pct]
 ·simpa using h
theorem ZiI(l:LI)(set:LB)(h:0<l.length):1≤(encoded l set).length:=by
 cases l with
 | nil=>simp at h
 | cons c r=>
  have:=Zti set c;simp only[encoded,List.flatMap_cons,List.length_append]
  omega
theorem ZnZ(sch:LB)(p:List LB)(ps:List LI)(k:Nat)(h:k<ps.length):ZfC sch p (ps.drop k)=ZfC sch (Zas sch p ps[k] (decide (k+1=ps.length))) (ps.drop (k+1)):=by
 rw[Xt h,ZfC]
 congr 2
 rw[Bool.eq_iff_iff,List.isEmpty_iff,decide_eq_true_eq,List.drop_eq_nil_iff]
 omega
theorem ZaR(rb:Nat)(sch:BA)(p:Value)(bs:LA)(v:Value)(l:LI)(base:Nat)(w:World)(hsc:SchAt w rb sch)(hbase:base≤w.heap.size)(hown:ZcE w base p bs)
  (hbs:∀x∈bs,x.size≤1000000) (hbl:bs.length≤100000) (hv:IntsAt w v l) (hl:l.length≤80000) (hp:∀c∈l,Pt c):
  Calls Tryz.prog 184 #[.pointer (some ⟨rb,0,none⟩),p,v] w fun e w'=>∃v' bs',e=.returned v'∧ZcE w' base v' bs'∧bs'.map tl=walked (tl sch) (bs.map tl) l∧bs'.length≤bs.length+l.length+1∧(∀x∈bs',x.size≤1000000)∧Below base w w'∧Kp 9 w w':=by
 have hsc0:=hsc.cell;have HOWN:=Za hown;have HSC:=Za hsc;have HV:=Za hv;have HBS:=Za hbs;have hsl:=Zd9 (tl sch);have HW:=Za (show walked (tl sch) (bs.map tl) l=ZfC (tl sch) (bs.map tl) (parts l (tl (Zl (tl sch))))from rfl);have HPM:=Za (ZaQ l (tl (Zl (tl sch))));have HPP:=Za hp;generalize hS:Zl (tl sch)=sl at *;have HSL:=Za hS;clear hS hown hsc hv hbs hp
 go_enter Tryz.func184,Tryz.ntmps184
 go_wp2_with fail
 refine(Zea _ _).mono ?_
 rintro e w1 ⟨rfl,hn1⟩;rw[HSL.out];go_wp2_with fail
 refine(ZdO _ l _ _ (Ze (by omega)) (HV.out.on hn1) (by omega)).mono ?_
 rintro e w2 ⟨vp,rfl,⟨vs,hvs,hfa⟩,hn2⟩;generalize parts l (tl sl)=ps at *;have hlen:=hfa.1;have HFA:=Za hfa;have HN2:=Za (hn1.then hn2);have HSC2:=Za ((HSC.out.on hn1).on hn2);have HOWN2:=Za (ZbP (ZbP HOWN.out hn1) hn2)
 have hz2:base≤w2.heap.size:=by have:=hn1.size;have:=hn2.size;omega
 have HMEM:=Za HPM.out.2;have hpl:=HPM.out.1;clear hfa hn1 hn2 HSC HOWN HV HPM hsc0;obtain⟨ao,cap,rfl,hlc,hcap,hnone,hsome⟩:=hvs;unfold maxLen at hcap;rw[hlen];rw[hlen]at hlc;go_wp2
 go_loopw [1,9] (fun pv i wr=>∃(k:Nat) (cs:LA),k≤ps.length∧i=.int .i64 k∧ZcE wr base pv cs∧walked (tl sch) (bs.map tl) l=ZfC (tl sch) (cs.map tl) (ps.drop k)∧cs.length≤bs.length+k∧(∀x∈cs,x.size≤1000000)∧Below base w2 wr∧Kp 9 w2 wr) (fun _ i _=>ps.length-(intOf i).toNat)
 case atStart=>exact⟨0,bs,Xw _,rfl,HOWN2.out,HW.out,by omega,HBS.out,Below.refl _ _,Kp.rfl⟩
 case round=>
  clear HW HBS HOWN2;obtain⟨k,cs,hk,rfl,hown,hE,hcl,hcs,hbw,hkp⟩:=hrel;obtain⟨po,pcap,hpe⟩:=Zb5 hown;subst hpe;have HO:=Za hown;have HE:=Za hE;have HCS:=Za hcs;have HB:=Za hbw;have HK:=Za hkp;have hz:=Xh hz2 hbw.size;clear hown hE hcs hbw hkp
  by_cases hlt:k<ps.length
  ·obtain⟨a,ha⟩:=Zw (k:=k) (by omega) hnone
   subst ha;obtain⟨b,off,rfl,hr⟩:=hsome a rfl
   have hrw:=hr.kp HK.out (by decide)
   have hck:=hrw.cell (i:=k) (by omega)
   simp only[id]at hck
   have HVK:=Za ((HFA.out.at_ hlt).kp HK.out (by decide))
   obtain⟨hm1,hm2⟩:=HMEM.out ps[k] (List.getElem_mem _)
   have HPK:=Za (fun c (h:c∈ps[k])=>HPP.out c (hm2 c h))
   have HST:=Za (ZnZ (tl sch) (cs.map tl) ps k hlt);have HRW:=Za hrw;clear hnone hsome hr hrw hm2;generalize ps[k]=seg at *
   by_cases hl:k+1=ps.length
   ·have hl':((k:Int)==(ps.length:Int)-1)=true:=by simp only[beq_iff_eq];omega
    rw[decide_eq_true hl]at HST;clear hl;go_wp2_with fail
    refine(Z5 _ seg _ _ HVK.out (Ze (by decide)) (by omega) HPK.out).mono ?_
    rintro e w3 ⟨r,rfl,hr,hn3⟩;have hr':tl r=encoded seg ZcM:=hr
    have hrs:r.size≤960000:=by have h:=Zc3 seg ZcM;rw[←hr',tl_length]at h;omega
    have HRR:=Za hr'
    have HRP:=Za (show letter seg=true→1≤r.size from fun h=>by have hh:0<seg.length:=by {cases seg with|nil=>simp[letter]at h|cons=>simp};have h2:=ZiI seg ZcM hh;rw[←hr',tl_length]at h2;exact h2)
    have HN3:=Za hn3;have HO3:=Za (ZbP HO.out hn3);have HVK3:=Za (HVK.out.on hn3)
    have hck3:=(HRW.out.on hn3).cell (i:=k) (by omega)
    simp only[id]at hck3;have HSC3:=Za ((HSC2.out.kp HK.out).on hn3);have hz3:=Xh hz hn3.size;clear hr hr' hn3 hck HVK HO HRW;go_wp2_with fail
    refine(Zpb _ _ (by omega)).mono ?_
    rintro e w4 ⟨rfl,hn4⟩;rw[HRR.out];have HN4:=Za (HN3.out.then hn4);have HO4:=Za (ZbP HO3.out hn4);have HVK4:=Za (HVK3.out.on hn4)
    have hck4:w4.cell? ⟨b,off+k,none⟩=some (vs[k]'(by omega)):=(hn4.cell (p:=⟨b,off+k,none⟩) (World.block_lt_of_cell? w3 ⟨b,off+k,none⟩ hck3)).trans hck3
    have HSC4:=Za (HSC3.out.on hn4);have hz4:=Xh hz3 hn4.size;clear hn4 hck3 HVK3 HO3 HSC3 HN3;have hsc4:=HSC4.out.cell
    have hcl4:cs.length<1099511627776:=by omega
    rcases ZpC (encoded seg ZcM)with hd|hd|hd
    ·rw[hd]
     have HOne:=Za (show Zas (tl sch) (cs.map tl) seg true=cs.map tl++[if letter seg=true∧tl sch=ZO∧cs.map tl=[]then(encoded seg ZcM).take 1++[58]else encoded seg ZcM]by unfold Zas;rw[if_pos hd])
     clear hd;go_wp2_with fail
     refine(Zbw _ seg _ HVK4.out).mono ?_
     rintro e w' ⟨rfl,rfl⟩;generalize hlt2:letter seg=lt at *;clear hlt2
     cases lt
     ·have HNew:=Za (show Zas (tl sch) (cs.map tl) seg true=cs.map tl++[tl r]by rw[HOne.out,if_neg (by simp),HRR.out])
      go_wp2_with (at_builtin;go_must (refine Zb0 w4 r rfl _ _ rfl base (.slice po cs.length pcap) cs rfl HO4.out rfl hcl4 hz4 ?_;intro v' w5 ho5 hb5 hk5;have HO5:=Za ho5;clear ho5))
      go_roundw
      case rel=>exact⟨k+1,cs++[r],by omega,by go_num,HO5.out,by rw[HE.out,HST.out,HNew.out,Xb];rfl,by simp;omega,fun z hz=>by rcases Xc.1 hz with h|h;exact HCS.out z h;rw[Xa.1 h];exact(by omega:r.size≤1000000),(HB.out.trans (HN4.out.mono hz)).trans hb5,(HK.out.then (Nx.kp HN4.out)).then hk5⟩
      case measure=>simp[intOf];omega
     by_cases hf:tl sch=ZO
     ·have hf':=eqB hf
      simp only[ZO]at hf'
      by_cases hcs0:cs=[]
      ·have HNew:=Za (show Zas (tl sch) (cs.map tl) seg true=cs.map tl++[(encoded seg ZcM).take 1++[58]]by rw[HOne.out,if_pos ⟨rfl,hf,by rw[hcs0];rfl⟩])
       have hc0:((cs.length:Int)==0)=true:=by rw[hcs0];rfl
       have hl1:1≤r.size:=HRP.out rfl;clear hcs0 hf
       have HYT:=Za (show tl (r.extract 0 1++⟨#[58]⟩)=(encoded seg ZcM).take 1++[58]by rw[tl_append,tl_to,HRR.out];rfl)
       rw[←HYT.out]at HNew
       have hys:(r.extract 0 1++(⟨#[58]⟩:BA)).size≤1000000:=by have h:=congrArg List.length HYT.out;rw[tl_length]at h;rw[h];simp;omega
       go_wp2_with (at_builtin;go_must (refine Zb0 w4 (r.extract 0 1++(⟨#[58]⟩:BA)) rfl _ _ rfl base (.slice po cs.length pcap) cs rfl HO4.out rfl hcl4 hz4 ?_;intro v' w5 ho5 hb5 hk5;have HO5:=Za ho5;clear ho5))
       go_roundw
       case rel=>exact⟨k+1,cs++[(r.extract 0 1++(⟨#[58]⟩:BA))],by omega,by go_num,HO5.out,by rw[HE.out,HST.out,HNew.out,Xb];rfl,by simp;omega,fun z hz=>by rcases Xc.1 hz with h|h;exact HCS.out z h;rw[Xa.1 h];exact hys,(HB.out.trans (HN4.out.mono hz)).trans hb5,(HK.out.then (Nx.kp HN4.out)).then hk5⟩
       case measure=>simp[intOf];omega
      ·have HNew:=Za (show Zas (tl sch) (cs.map tl) seg true=cs.map tl++[tl r]by rw[HOne.out,if_neg (fun h=>hcs0 (by have:=h.2.2;simpa using this)),HRR.out])
       have hc0:((cs.length:Int)==0)=false:=by simp only[beq_eq_false_iff_ne,ne_eq];intro h;exact hcs0 (Xr (by omega))
       clear hcs0 hf
       go_wp2_with (at_builtin;go_must (refine Zb0 w4 r rfl _ _ rfl base (.slice po cs.length pcap) cs rfl HO4.out rfl hcl4 hz4 ?_;intro v' w5 ho5 hb5 hk5;have HO5:=Za ho5;clear ho5))
       go_roundw
       case rel=>exact⟨k+1,cs++[r],by omega,by go_num,HO5.out,by rw[HE.out,HST.out,HNew.out,Xb];rfl,by simp;omega,fun z hz=>by rcases Xc.1 hz with h|h;exact HCS.out z h;rw[Xa.1 h];exact(by omega:r.size≤1000000),(HB.out.trans (HN4.out.mono hz)).trans hb5,(HK.out.then (Nx.kp HN4.out)).then hk5⟩
       case measure=>simp[intOf];omega
     ·have HNew:=Za (show Zas (tl sch) (cs.map tl) seg true=cs.map tl++[tl r]by rw[HOne.out,if_neg (fun h=>hf h.2.1),HRR.out])
      have hf':=neB hf;simp only[ZO]at hf';clear hf
      go_wp2_with (at_builtin;go_must (refine Zb0 w4 r rfl _ _ rfl base (.slice po cs.length pcap) cs rfl HO4.out rfl hcl4 hz4 ?_;intro v' w5 ho5 hb5 hk5;have HO5:=Za ho5;clear ho5))
      go_roundw
      case rel=>exact⟨k+1,cs++[r],by omega,by go_num,HO5.out,by rw[HE.out,HST.out,HNew.out,Xb];rfl,by simp;omega,fun z hz=>by rcases Xc.1 hz with h|h;exact HCS.out z h;rw[Xa.1 h];exact(by omega:r.size≤1000000),(HB.out.trans (HN4.out.mono hz)).trans hb5,(HK.out.then (Nx.kp HN4.out)).then hk5⟩
      case measure=>simp[intOf];omega
    ·rw[hd]
     have HNew:=Za (show Zas (tl sch) (cs.map tl) seg true=cs.map tl++[tl ⟨#[]⟩]by unfold Zas;rw[if_neg (by omega),if_neg (by omega)];rfl)
     clear hd
     go_wp2_with (at_builtin;go_must (refine Zb0 w4 ⟨#[]⟩ rfl _ _ rfl base (.slice po cs.length pcap) cs rfl HO4.out rfl hcl4 hz4 ?_;intro v' w5 ho5 hb5 hk5;have HO5:=Za ho5;clear ho5))
     go_roundw
     case rel=>exact⟨k+1,cs++[⟨#[]⟩],by omega,by go_num,HO5.out,by rw[HE.out,HST.out,HNew.out,Xb];rfl,by simp;omega,fun z hz=>by rcases Xc.1 hz with h|h;exact HCS.out z h;rw[Xa.1 h];exact(by decide),(HB.out.trans (HN4.out.mono hz)).trans hb5,(HK.out.then (Nx.kp HN4.out)).then hk5⟩
     case measure=>simp[intOf];omega
    ·rw[hd]
     have HSH:=Za (ZiH (tl sch) cs);have HSM:=Za (ZiG (tl sch) cs)
     have HNew:=Za (show Zas (tl sch) (cs.map tl) seg true=(shorter (tl sch) cs).map tl++[tl ⟨#[]⟩]by unfold Zas;rw[if_neg (by omega),if_pos hd,HSM.out];rfl)
     clear hd;go_wp2_with fail
     refine(ZiE rb sch _ cs _ hsc4 (ZQ HO4.out) HCS.out (by omega)).mono ?_
     rintro e w6 ⟨v6,rfl,ho6,hn6⟩;have HO6:=Za (Zgk ho6 hz4);have HN6:=Za (HN4.out.then hn6);have hz6:=Xh hz4 hn6.size
     have hsl6:(shorter (tl sch) cs).length<1099511627776:=by have:=HSH.out.1;omega
     clear ho6 hn6
     go_wp2_with (at_builtin;go_must (refine Zb0 w6 ⟨#[]⟩ rfl _ _ rfl base v6 (shorter (tl sch) cs) rfl HO6.out rfl hsl6 hz6 ?_;intro v' w5 ho5 hb5 hk5;have HO5:=Za ho5;clear ho5))
     go_roundw
     case rel=>exact⟨k+1,shorter (tl sch) cs++[⟨#[]⟩],by omega,by go_num,HO5.out,by rw[HE.out,HST.out,HNew.out,Xb];rfl,by have:=HSH.out.1;simp;omega,fun z hz=>by rcases Xc.1 hz with h|h;exact HCS.out z (HSH.out.2 z h);rw[Xa.1 h];decide,(HB.out.trans (HN6.out.mono hz)).trans hb5,(HK.out.then (Nx.kp HN6.out)).then hk5⟩
     case measure=>simp[intOf];omega
   ·have hl':((k:Int)==(ps.length:Int)-1)=false:=by simp only[beq_eq_false_iff_ne,ne_eq];omega
    rw[decide_eq_false hl]at HST;clear hl;go_wp2_with fail
    refine(Z5 _ seg _ _ HVK.out (Ze (by decide)) (by omega) HPK.out).mono ?_
    rintro e w3 ⟨r,rfl,hr,hn3⟩;have hr':tl r=encoded seg ZcM:=hr
    have hrs:r.size≤960000:=by have h:=Zc3 seg ZcM;rw[←hr',tl_length]at h;omega
    have HRR:=Za hr'
    have HRP:=Za (show letter seg=true→1≤r.size from fun h=>by have hh:0<seg.length:=by {cases seg with|nil=>simp[letter]at h|cons=>simp};have h2:=ZiI seg ZcM hh;rw[←hr',tl_length]at h2;exact h2)
    have HN3:=Za hn3;have HO3:=Za (ZbP HO.out hn3);have HVK3:=Za (HVK.out.on hn3)
    have hck3:=(HRW.out.on hn3).cell (i:=k) (by omega)
    simp only[id]at hck3;have HSC3:=Za ((HSC2.out.kp HK.out).on hn3);have hz3:=Xh hz hn3.size;clear hr hr' hn3 hck HVK HO HRW;go_wp2_with fail
    refine(Zpb _ _ (by omega)).mono ?_
    rintro e w4 ⟨rfl,hn4⟩;rw[HRR.out];have HN4:=Za (HN3.out.then hn4);have HO4:=Za (ZbP HO3.out hn4);have HVK4:=Za (HVK3.out.on hn4)
    have hck4:w4.cell? ⟨b,off+k,none⟩=some (vs[k]'(by omega)):=(hn4.cell (p:=⟨b,off+k,none⟩) (World.block_lt_of_cell? w3 ⟨b,off+k,none⟩ hck3)).trans hck3
    have HSC4:=Za (HSC3.out.on hn4);have hz4:=Xh hz3 hn4.size;clear hn4 hck3 HVK3 HO3 HSC3 HN3;have hsc4:=HSC4.out.cell
    have hcl4:cs.length<1099511627776:=by omega
    rcases ZpC (encoded seg ZcM)with hd|hd|hd
    ·rw[hd]
     have HOne:=Za (show Zas (tl sch) (cs.map tl) seg false=cs.map tl++[if letter seg=true∧tl sch=ZO∧cs.map tl=[]then(encoded seg ZcM).take 1++[58]else encoded seg ZcM]by unfold Zas;rw[if_pos hd])
     clear hd;go_wp2_with fail
     refine(Zbw _ seg _ HVK4.out).mono ?_
     rintro e w' ⟨rfl,rfl⟩;generalize hlt2:letter seg=lt at *;clear hlt2
     cases lt
     ·have HNew:=Za (show Zas (tl sch) (cs.map tl) seg false=cs.map tl++[tl r]by rw[HOne.out,if_neg (by simp),HRR.out])
      go_wp2_with (at_builtin;go_must (refine Zb0 w4 r rfl _ _ rfl base (.slice po cs.length pcap) cs rfl HO4.out rfl hcl4 hz4 ?_;intro v' w5 ho5 hb5 hk5;have HO5:=Za ho5;clear ho5))
      go_roundw
      case rel=>exact⟨k+1,cs++[r],by omega,by go_num,HO5.out,by rw[HE.out,HST.out,HNew.out,Xb];rfl,by simp;omega,fun z hz=>by rcases Xc.1 hz with h|h;exact HCS.out z h;rw[Xa.1 h];exact(by omega:r.size≤1000000),(HB.out.trans (HN4.out.mono hz)).trans hb5,(HK.out.then (Nx.kp HN4.out)).then hk5⟩
      case measure=>simp[intOf];omega
     by_cases hf:tl sch=ZO
     ·have hf':=eqB hf
      simp only[ZO]at hf'
      by_cases hcs0:cs=[]
      ·have HNew:=Za (show Zas (tl sch) (cs.map tl) seg false=cs.map tl++[(encoded seg ZcM).take 1++[58]]by rw[HOne.out,if_pos ⟨rfl,hf,by rw[hcs0];rfl⟩])
       have hc0:((cs.length:Int)==0)=true:=by rw[hcs0];rfl
       have hl1:1≤r.size:=HRP.out rfl;clear hcs0 hf
       have HYT:=Za (show tl (r.extract 0 1++⟨#[58]⟩)=(encoded seg ZcM).take 1++[58]by rw[tl_append,tl_to,HRR.out];rfl)
       rw[←HYT.out]at HNew
       have hys:(r.extract 0 1++(⟨#[58]⟩:BA)).size≤1000000:=by have h:=congrArg List.length HYT.out;rw[tl_length]at h;rw[h];simp;omega
       go_wp2_with (at_builtin;go_must (refine Zb0 w4 (r.extract 0 1++(⟨#[58]⟩:BA)) rfl _ _ rfl base (.slice po cs.length pcap) cs rfl HO4.out rfl hcl4 hz4 ?_;intro v' w5 ho5 hb5 hk5;have HO5:=Za ho5;clear ho5))
       go_roundw
       case rel=>exact⟨k+1,cs++[(r.extract 0 1++(⟨#[58]⟩:BA))],by omega,by go_num,HO5.out,by rw[HE.out,HST.out,HNew.out,Xb];rfl,by simp;omega,fun z hz=>by rcases Xc.1 hz with h|h;exact HCS.out z h;rw[Xa.1 h];exact hys,(HB.out.trans (HN4.out.mono hz)).trans hb5,(HK.out.then (Nx.kp HN4.out)).then hk5⟩
       case measure=>simp[intOf];omega
      ·have HNew:=Za (show Zas (tl sch) (cs.map tl) seg false=cs.map tl++[tl r]by rw[HOne.out,if_neg (fun h=>hcs0 (by have:=h.2.2;simpa using this)),HRR.out])
       have hc0:((cs.length:Int)==0)=false:=by simp only[beq_eq_false_iff_ne,ne_eq];intro h;exact hcs0 (Xr (by omega))
       clear hcs0 hf
       go_wp2_with (at_builtin;go_must (refine Zb0 w4 r rfl _ _ rfl base (.slice po cs.length pcap) cs rfl HO4.out rfl hcl4 hz4 ?_;intro v' w5 ho5 hb5 hk5;have HO5:=Za ho5;clear ho5))
       go_roundw
       case rel=>exact⟨k+1,cs++[r],by omega,by go_num,HO5.out,by rw[HE.out,HST.out,HNew.out,Xb];rfl,by simp;omega,fun z hz=>by rcases Xc.1 hz with h|h;exact HCS.out z h;rw[Xa.1 h];exact(by omega:r.size≤1000000),(HB.out.trans (HN4.out.mono hz)).trans hb5,(HK.out.then (Nx.kp HN4.out)).then hk5⟩
       case measure=>simp[intOf];omega
     ·have HNew:=Za (show Zas (tl sch) (cs.map tl) seg false=cs.map tl++[tl r]by rw[HOne.out,if_neg (fun h=>hf h.2.1),HRR.out])
      have hf':=neB hf;simp only[ZO]at hf';clear hf
      go_wp2_with (at_builtin;go_must (refine Zb0 w4 r rfl _ _ rfl base (.slice po cs.length pcap) cs rfl HO4.out rfl hcl4 hz4 ?_;intro v' w5 ho5 hb5 hk5;have HO5:=Za ho5;clear ho5))
      go_roundw
      case rel=>exact⟨k+1,cs++[r],by omega,by go_num,HO5.out,by rw[HE.out,HST.out,HNew.out,Xb];rfl,by simp;omega,fun z hz=>by rcases Xc.1 hz with h|h;exact HCS.out z h;rw[Xa.1 h];exact(by omega:r.size≤1000000),(HB.out.trans (HN4.out.mono hz)).trans hb5,(HK.out.then (Nx.kp HN4.out)).then hk5⟩
      case measure=>simp[intOf];omega
    ·rw[hd]
     have HNew:=Za (show Zas (tl sch) (cs.map tl) seg false=cs.map tl by unfold Zas;rw[if_neg (by omega),if_neg (by omega)];rfl)
     clear hd;go_wp2
     go_roundw
     case rel=>exact⟨k+1,cs,by omega,by go_num,HO4.out,by rw[HE.out,HST.out,HNew.out],by omega,HCS.out,HB.out.trans (HN4.out.mono hz),HK.out.then (Nx.kp HN4.out)⟩
     case measure=>simp[intOf];omega
    ·rw[hd]
     have HSH:=Za (ZiH (tl sch) cs);have HSM:=Za (ZiG (tl sch) cs)
     have HNew:=Za (show Zas (tl sch) (cs.map tl) seg false=(shorter (tl sch) cs).map tl by unfold Zas;rw[if_neg (by omega),if_pos hd,HSM.out];rfl)
     clear hd;go_wp2_with fail
     refine(ZiE rb sch _ cs _ hsc4 (ZQ HO4.out) HCS.out (by omega)).mono ?_
     rintro e w6 ⟨v6,rfl,ho6,hn6⟩;have HO6:=Za (Zgk ho6 hz4);have HN6:=Za (HN4.out.then hn6);clear ho6 hn6;go_wp2
     go_roundw
     case rel=>exact⟨k+1,shorter (tl sch) cs,by omega,by go_num,HO6.out,by rw[HE.out,HST.out,HNew.out],by have:=HSH.out.1;omega,fun z hz=>HCS.out z (HSH.out.2 z hz),HB.out.trans (HN6.out.mono hz),HK.out.then (Nx.kp HN6.out)⟩
     case measure=>simp[intOf];omega
  ·have HF:=Za (show walked (tl sch) (bs.map tl) l=cs.map tl by rw[HE.out,Xv (by omega),ZfC])
   go_wp2;go_ret
   exact⟨_,cs,rfl,HO.out,HF.out.symm,by omega,HCS.out,(HN2.out.mono hbase).trans HB.out,(Nx.kp HN2.out).then HK.out⟩
def dgo(n c:Int):Int:=10*n+c-48
def byteBad(p:List Int):Bool:=ZP p==false||decide (3<p.length)||(decide (1<p.length)&&p.headD 0==48)
def ZeT(p:List Int):Option Int:=if byteBad p then none else if 255<p.foldl dgo 0 then none else some (p.foldl dgo 0)
def Z8:List (List Int)→Option (List Int)
 | []=>some []
 | p::r=>match ZeT p with
  | none=>none
  | some b=>(Z8 r).map (b :: ·)
def RowN(w:World)(nb:Nat)(ns:List Int):Prop:=w.heap[nb]?=some (Obj.cells (ns.map (Value.int .i64)).toArray 3 (0,0))
theorem RowN.cell{w:World}{nb:Nat}{ns:LI}(h:RowN w nb ns){i:Nat}(hi:i<ns.length):w.cell? ⟨nb,i,none⟩=some (.int .i64 ns[i]):=by
 unfold RowN at h
 simp[World.cell?,h,Xu hi]
theorem RowN.free{w:World}{nb:Nat}{ns:LI}(h:RowN w nb ns)(i:Nat):w.frozen? ⟨nb,i,none⟩=false:=by
 unfold RowN at h
 simp[World.frozen?,h]
theorem RowN.set{w:World}{nb:Nat}{ns:LI}(h:RowN w nb ns)(i:Nat)(x:Int):RowN (w.setCell ⟨nb,i,none⟩ (.int .i64 x)) nb (ns.set i x):=by
 unfold RowN at *;simp only[World.setCell,Array.getElem?_modify,if_pos,h]
 simp[List.map_set]
theorem Zgl(p:LI)(h:p.all numeral=true)(hl:p.length≤3):0≤p.foldl dgo 0∧p.foldl dgo 0≤999:=by
 match p,hl with
 | [],_=>exact⟨by decide,by decide⟩
 | [a],_=>
  simp only[Xk,Xm,Xl,numeral,decide_eq_true_eq]at h;simp only[Xs,Xi,dgo];omega
 | [a,b],_=>
  simp only[Xk,Xm,Xl,numeral,Xf,decide_eq_true_eq]at h;simp only[Xs,Xi,dgo];omega
 | [a,b,c],_=>
  simp only[Xk,Xm,Xl,numeral,Xf,decide_eq_true_eq]at h;simp only[Xs,Xi,dgo];omega
theorem ZzH(w:World):(Instr.makeSlice 124 (.int .i64 4) (.int .i64 4)).run Tryz.prog w=.ok (.slice (some ⟨w.heap.size,0,none⟩) 4 4) (w.alloc (.cells #[.int .i64 0,.int .i64 0,.int .i64 0,.int .i64 0] 3)):=by kernel_rfl
theorem Zhp{p:LI}(h1:1<p.length)(h2:p.headD 0=48):byteBad p=true:=by unfold byteBad;rw[decide_eq_true h1,h2];simp
theorem Zj2{p:LI}(ha:ZP p=true)(h3:¬3<p.length)(h1:¬(1<p.length∧p.headD 0=48)):byteBad p=false:=by
 unfold byteBad;rw[ha,decide_eq_false h3]
 by_cases h:1<p.length
 ·have:¬p.headD 0=48:=fun e=>h1 ⟨h,e⟩
  simp only[Bool.or_eq_false_iff,Bool.and_eq_false_iff,beq_eq_false_iff_ne,ne_eq]
  exact⟨⟨by decide,trivial⟩,Or.inr this⟩
 ·rw[decide_eq_false h];rfl
theorem ZpJ{p:LI}(h:0<p.length):p.headD 0=p[0]:=by
 cases p with
 | nil=>simp at h
 | cons=>rfl
theorem Zfl{w:World}{o:Obj}{p:Addr}{u:Value}(h:w.cell? p=some u):(w.alloc o).drew.cell? p=some u:=
 ((Nx.rfl.alloc o).cell (World.block_lt_of_cell? w p h)).trans h
theorem Zk7{n:Int}(h0:0≤n)(h1:n≤1000000):IntKind.i64.wrap n=n:=by rw[IntWalk.i64_left,IntWalk.wrap64_in n ⟨by omega,by omega⟩]
theorem Zhq(ps:List LI)(k:Nat)(h:k<ps.length):Z8 (ps.drop k)=match ZeT ps[k]with|none=>none|some b=>(Z8 (ps.drop (k+1))).map (b :: ·):=by rw[Xt h,Z8]
theorem Zhr{ps:List LI}{ns:LI}{k:Nat}{x:Int}(hk:k<ps.length)(hl:k<ns.length)(hE:Z8 ps=(Z8 (ps.drop k)).map (ns.take k++·))(hb:ZeT ps[k]=some x):Z8 ps=(Z8 (ps.drop (k+1))).map ((ns.set k x).take (k+1)++·):=by
 rw[hE,Zhq ps k hk,hb]
 have e:(ns.set k x).take (k+1)=ns.take k++[x]:=by rw[List.take_succ_eq_append_getElem (by simpa using hl),Xd,List.take_set_of_le (Xp _)]
 rw[e]
 cases Z8 (ps.drop (k+1))<;>simp
theorem Zdb{ps:List LI}{ns:LI}{k:Nat}(hk:k<ps.length)(hE:Z8 ps=(Z8 (ps.drop k)).map (ns.take k++·))(hb:ZeT ps[k]=none):Z8 ps=none:=by
 rw[hE,Zhq ps k hk,hb]
 rfl
theorem ZpK{ns:LI}{k:Nat}(h:ns.getD k 0=0):ns.set k 0=ns:=by
 apply List.ext_getElem
 ·simp
 ·intro i h1 h2
  by_cases e:k=i
  ·subst e
   rw[Xd];rw[Xj,Xu h2]at h;exact h.symm
  ·rw[List.getElem_set_ne e]
theorem Zzf{α:Type}{e:TypeId}{f:α→Value}{w:World}{v:Value}{l:List α}{b off cap:Nat}(h:SlAt e f w v l)(hv:v=.slice (some ⟨b,off,none⟩) l.length cap)(_hl:0<l.length):RowAt e f w b off l:=by obtain⟨ao,c,e1,_,_,_,hs⟩:=h;rw[hv]at e1;simp only[Value.slice.injEq]at e1;obtain⟨b',off',ea,hr⟩:=hs _ e1.1.symm;simp only[Addr.mk.injEq]at ea;obtain⟨rfl,rfl,_⟩:=ea;exact hr
theorem Zmk{ns:LI}{k:Nat}{x:Int}(h:∀j,k≤j→ns.getD j 0=0):∀j,k+1≤j→(ns.set k x).getD j 0=0:=by
 intro j hj
 rw[Xj,List.getElem?_set_ne (by omega),←Xj]
 exact h j (by omega)
theorem ZpL{ns:LI}{k:Nat}{x:Int}(h:∀y∈ns,0≤y∧y≤255)(h0:0≤x)(h1:x≤255):∀y∈ns.set k x,0≤y∧y≤255:=by
 intro y hy;rcases List.mem_or_eq_of_mem_set hy with hy|rfl
 ·exact h y hy
 ·exact⟨h0,h1⟩
theorem ZqX(w:World):RowN (w.alloc (.cells #[.int .i64 0,.int .i64 0,.int .i64 0,.int .i64 0] 3)) w.heap.size [0,0,0,0]:=heap_alloc_new w _
theorem ZiJ{ps:List LI}{q:LI}(h:Z8 ps=some q):ps.length=q.length:=by
 induction ps generalizing q with
 | nil=>simp only[Z8,Option.some.injEq]at h;subst h;rfl
 | cons p r ih=>
  rw[Z8]at h
  split at h
  ·cases h
  ·cases hr:Z8 r with
   | none=>rw[hr]at h;cases h
   | some z=>rw[hr]at h;simp only[Option.map_some,Option.some.injEq]at h;subst h;simp[ih hr]
def dotted(l:List Int):List Int×Bool:=
 match Z8 (parts l [46])with
 | some [a,b,c,d]=>([256*a+b,256*c+d],true)
 | _=>([],false)
theorem ZqY(v:Value)(l:LI)(w:World)(hv:IntsAt w v l)(hn:l.length≤100000):Calls Tryz.prog 285 #[v] w fun e w'=>∃v',e=.returned (.tuple #[v',.bool (dotted l).2])∧IntsAt w' v' (dotted l).1∧Nx w w':=by
 have hmk:=ZzH
 go_enter Tryz.func285,Tryz.ntmps285
 go_wp2_with fail
 refine(ZdO _ l _ _ (Ze (by decide)) hv (by omega)).mono ?_
 rintro e w1 ⟨vp,rfl,⟨vs,hvs,hfa⟩,hn1⟩
 have HD:=Za (show dotted l=match Z8 (parts l (tl ⟨#[46]⟩))with|some [a,b,c,d]=>([256*a+b,256*c+d],true)|_=>([],false)from rfl)
 generalize parts l (tl ⟨#[46]⟩)=ps at *;have hlen:=hfa.1
 by_cases h4:ps.length=4
 ·obtain⟨b,off,cap,rfl,hlc,hcap,hr⟩:=hvs.open_ (k:=0) (by omega)
  have h4':vs.length=4:=by omega
  rw[h4'];unfold maxLen at hcap;have HFA:=Za hfa;have HR:=Za hr;have HL4:=Za h4;have HV4:=Za h4';have HN1:=Za hn1;clear hr hfa hvs hlc hlen h4 h4' hn1 hv;go_wp2;clear hmk
  go_loopw [6] (fun i wr=>∃(k:Nat) (ns:LI),k≤4∧i=.int .i64 k∧ns.length=4∧RowN wr w1.heap.size ns∧(∀j,k≤j→ns.getD j 0=0)∧(∀x∈ns,0≤x∧x≤255)∧Z8 ps=(Z8 (ps.drop k)).map (ns.take k++·)∧Below w1.heap.size w1 wr) (fun i _=>4-(intOf i).toNat)
  case atStart=>
   refine⟨0,[0,0,0,0],by omega,rfl,rfl,ZqX w1,fun j _=>?_,by simp,by simp,Nx.rfl.alloc _⟩
   match j with
   | 0=>rfl
   | 1=>rfl
   | 2=>rfl
   | 3=>rfl
   | j+4=>rfl
  case round=>
   obtain⟨k,ns,hk,rfl,hns,hrow,hzero,hrng,hE,hbl⟩:=hrel
   by_cases hlt:k<4
   ·have hkp:k<ps.length:=by rw[HL4.out];exact hlt
    have hkv:k<vs.length:=by rw[HV4.out];exact hlt
    have hck:=((HR.out.on hbl).cell hkv);simp only[id]at hck;have HVK:=Za ((HFA.out.at_ hkp).on hbl);have HROW:=Za hrow;have HZ:=Za (hzero k (Xp _));have HZ2:=Za hzero;have HRNG:=Za hrng;have HE:=Za hE;have HBL:=Za hbl
    have HBP:Hid (ZeT ps[k]=if byteBad ps[k]then none else if 255<ps[k].foldl dgo 0 then none else some (ps[k].foldl dgo 0)):=rfl
    clear hrow hzero hE hbl hrng;generalize hpk:ps[k]=p at *
    cases hall:ZP p
    ·have HF:=Za (show dotted l=([],false)by rw[HD.out,Zdb hkp HE.out (by rw[hpk,HBP.out];simp[byteBad,hall])])
     clear hpk
     go_wp2_with (go_at_call 250;refine(Z4 _ p _ HVK.out).mono ?_;rintro e w' ⟨rfl,rfl⟩)
     go_ret2
     exact⟨_,by rw[HF.out];rfl,by rw[HF.out];exact SlAt.nil _,HN1.out.then HBL.out⟩
    ·have hp0:0<p.length:=by
      cases p with
      | nil=>simp[ZP]at hall
      | cons=>simp
     obtain⟨pb,poff,pcap,hvk,hplc,hpcap,hprow⟩:=HVK.out.open_ hp0;unfold maxLen at hpcap;rw[hvk]at hck;have HPROW:=Za hprow;have HVE:=Za hvk;have HPROW1:=Za (Zzf ((hpk ▸ HFA.out.at_ hkp:IntsAt w1 (vs[k]) p)) hvk hp0);have HVK2:=HVK;rw[hvk]at HVK2;clear hprow hvk
     have hnum:p.all numeral=true:=by unfold ZP at hall;rw[Xf]at hall;exact hall.1
     have hcp0:=HPROW.out.cell hp0;simp only[Nat.add_zero]at hcp0
     by_cases hl3:3<p.length
     ·have HF:=Za (show dotted l=([],false)by rw[HD.out,Zdb hkp HE.out (by rw[hpk,HBP.out];simp[byteBad,hl3])])
      clear hpk hnum
      go_wp2_with (go_at_call 250;refine(Z4 _ p _ HVK2.out).mono ?_;rintro e w' ⟨rfl,rfl⟩)
      go_ret2
      exact⟨_,by rw[HF.out];rfl,by rw[HF.out];exact SlAt.nil _,HN1.out.then HBL.out⟩
     ·have hnum3:∀m,(p.take m).all numeral=true:=fun m=>by
       rw[List.all_eq_true]at hnum ⊢
       exact fun x hx=>hnum x (List.mem_of_mem_take hx)
      have HNUM:=Za hnum3
      have HDR:=Za (fun m=>Zgl (p.take m) (hnum3 m) (by have:=List.length_take_le m p;rw[List.length_take];omega))
      clear hnum hnum3
      by_cases hbad:1<p.length∧p[0]=48
      ·obtain⟨hb1,hb2⟩:=hbad
       have HF:=Za (show dotted l=([],false)by rw[HD.out,Zdb hkp HE.out (by rw[hpk,HBP.out,if_pos (Zhp hb1 (by rw[ZpJ hp0];exact hb2))])])
       rw[hb2]at hcp0;clear hpk hb2
       go_wp2_with (go_at_call 250;refine(Z4 _ p _ HVK2.out).mono ?_;rintro e w' ⟨rfl,rfl⟩)
       go_ret2
       exact⟨_,by rw[HF.out];rfl,by rw[HF.out];exact SlAt.nil _,HN1.out.then HBL.out⟩
      have HGOOD:=Za (show ZeT ps[k]=if 255<p.foldl dgo 0 then none else some (p.foldl dgo 0)by rw[hpk,HBP.out,Zj2 hall hl3 (fun h=>hbad ⟨h.1,by rw[←ZpJ hp0];exact h.2⟩)];rfl)
      have hdec:p.length≤1∨(1<p.length∧(p[0]==48)=false):=by
       by_cases h:1<p.length
       ·exact Or.inr ⟨h,by have:¬p[0]=48:=fun e=>hbad ⟨h,e⟩;simpa using this⟩
       ·left;omega
      clear hbad hpk;rcases hdec with hd|⟨hd1,hd2⟩
      ·go_wp2_with (go_at_call 250;refine(Z4 _ p _ HVK2.out).mono ?_;rintro e w' ⟨rfl,rfl⟩)
       go_loopw [8] (fun j wr=>∃m:Nat,m≤p.length∧j=.int .i64 m∧RowN wr w1.heap.size (ns.set k ((p.take m).foldl dgo 0))∧Below w1.heap.size w1 wr) (fun j _=>p.length-(intOf j).toNat)
       case atStart=>exact⟨0,Xw _,rfl,by rw[XB,Xi,ZpK HZ.out];exact HROW.out,HBL.out⟩
       case round=>
        clear HROW HBL hck hcp0;obtain⟨m,hm,rfl,hrow,hbl⟩:=hrel;obtain⟨hx0,hx1⟩:=HDR.out m
        have hcn:=hrow.cell (i:=k) (by rw[Xo,hns];exact hlt)
        rw[Xd]at hcn;have hfz:=hrow.free k;have hck:=((HR.out.on hbl).cell hkv);simp only[id]at hck;rw[HVE.out]at hck
        by_cases hml:m<p.length
        ·have hcp:=(HPROW1.out.on hbl).cell hml
         have hnm:=HNUM.out (m+1);rw[Z3 p m hml,XA,Xf]at hnm;have hnm2:=hnm.2;simp only[Xk,Xm,Xl,numeral,decide_eq_true_eq]at hnm2;obtain⟨hn48,hn57⟩:=hnm2
         have HFS:=Za (show(p.take (m+1)).foldl dgo 0=10*(p.take m).foldl dgo 0+p[m]-48 by rw[Z3 p m hml,Xz];rfl)
         have HRW:=Za hrow;have HBW:=Za hbl;clear hrow hbl hnm;generalize (p.take m).foldl dgo 0=x at *;have hbB:b<w1.heap.size:=HR.out.lt;have hpB:pb<w1.heap.size:=HPROW1.out.lt;go_wp2
         go_region
         all_goals go_wp2
         all_goals go_roundw
         case rel=>exact⟨m+1,by omega,by go_num,by have h:=HRW.out.set k (10*x+p[m]-48);rw[XC]at h;rw[HFS.out];exact h,(HBW.out.setCell (p:=⟨w1.heap.size,k,none⟩) (Xp _) _).drew⟩
         case measure=>simp[intOf];omega
        ·have hmp:p.take m=p:=Xn (by omega)
         rw[hmp]at hrow hx0 hx1 hcn;clear hmp;have HRW:=Za hrow;have HBW:=Za hbl;clear hrow hbl
         by_cases hbig:255<p.foldl dgo 0
         ·have HF:=Za (show dotted l=([],false)by rw[HD.out,Zdb hkp HE.out (by rw[HGOOD.out,if_pos hbig])])
          generalize p.foldl dgo 0=x at *;go_wp2;go_ret2
          exact⟨_,by rw[HF.out];rfl,by rw[HF.out];exact SlAt.nil _,HN1.out.then HBW.out⟩
         ·have HNX:=Za (Zhr hkp (by rw[hns];exact hlt) HE.out (HGOOD.out.trans (if_neg hbig)))
          generalize p.foldl dgo 0=x at *;go_wp2
          go_roundw
          case rel=>exact⟨k+1,ns.set k x,by omega,by go_num,by rw[Xo];exact hns,HRW.out,Zmk HZ2.out,ZpL HRNG.out hx0 (by omega),HNX.out,HBW.out⟩
          case measure=>simp[intOf];omega
      ·go_wp2_with (go_at_call 250;refine(Z4 _ p _ HVK2.out).mono ?_;rintro e w' ⟨rfl,rfl⟩)
       go_loopw [8] (fun j wr=>∃m:Nat,m≤p.length∧j=.int .i64 m∧RowN wr w1.heap.size (ns.set k ((p.take m).foldl dgo 0))∧Below w1.heap.size w1 wr) (fun j _=>p.length-(intOf j).toNat)
       case atStart=>exact⟨0,Xw _,rfl,by rw[XB,Xi,ZpK HZ.out];exact HROW.out,HBL.out⟩
       case round=>
        clear HROW HBL hck hcp0;obtain⟨m,hm,rfl,hrow,hbl⟩:=hrel;obtain⟨hx0,hx1⟩:=HDR.out m
        have hcn:=hrow.cell (i:=k) (by rw[Xo,hns];exact hlt)
        rw[Xd]at hcn;have hfz:=hrow.free k;have hck:=((HR.out.on hbl).cell hkv);simp only[id]at hck;rw[HVE.out]at hck
        by_cases hml:m<p.length
        ·have hcp:=(HPROW1.out.on hbl).cell hml
         have hnm:=HNUM.out (m+1);rw[Z3 p m hml,XA,Xf]at hnm;have hnm2:=hnm.2;simp only[Xk,Xm,Xl,numeral,decide_eq_true_eq]at hnm2;obtain⟨hn48,hn57⟩:=hnm2
         have HFS:=Za (show(p.take (m+1)).foldl dgo 0=10*(p.take m).foldl dgo 0+p[m]-48 by rw[Z3 p m hml,Xz];rfl)
         have HRW:=Za hrow;have HBW:=Za hbl;clear hrow hbl hnm;generalize (p.take m).foldl dgo 0=x at *;have hbB:b<w1.heap.size:=HR.out.lt;have hpB:pb<w1.heap.size:=HPROW1.out.lt;go_wp2
         go_region
         all_goals go_wp2
         all_goals go_roundw
         case rel=>exact⟨m+1,by omega,by go_num,by have h:=HRW.out.set k (10*x+p[m]-48);rw[XC]at h;rw[HFS.out];exact h,(HBW.out.setCell (p:=⟨w1.heap.size,k,none⟩) (Xp _) _).drew⟩
         case measure=>simp[intOf];omega
        ·have hmp:p.take m=p:=Xn (by omega)
         rw[hmp]at hrow hx0 hx1 hcn;clear hmp;have HRW:=Za hrow;have HBW:=Za hbl;clear hrow hbl
         by_cases hbig:255<p.foldl dgo 0
         ·have HF:=Za (show dotted l=([],false)by rw[HD.out,Zdb hkp HE.out (by rw[HGOOD.out,if_pos hbig])])
          generalize p.foldl dgo 0=x at *;go_wp2;go_ret2
          exact⟨_,by rw[HF.out];rfl,by rw[HF.out];exact SlAt.nil _,HN1.out.then HBW.out⟩
         ·have HNX:=Za (Zhr hkp (by rw[hns];exact hlt) HE.out (HGOOD.out.trans (if_neg hbig)))
          generalize p.foldl dgo 0=x at *;go_wp2
          go_roundw
          case rel=>exact⟨k+1,ns.set k x,by omega,by go_num,by rw[Xo];exact hns,HRW.out,Zmk HZ2.out,ZpL HRNG.out hx0 (by omega),HNX.out,HBW.out⟩
          case measure=>simp[intOf];omega
   ·have hk4:k=4:=by omega
    subst hk4
    rw[Xv (by rw[HL4.out];omega),Xn (by omega)]at hE
    simp only[Z8,Option.map_some,List.append_nil]at hE
    match ns,hns with
    | [n0,n1,n2,n3],_=>
     have c0:=hrow.cell (i:=0) (by simp)
     have c1:=hrow.cell (i:=1) (by simp)
     have c2:=hrow.cell (i:=2) (by simp)
     have c3:=hrow.cell (i:=3) (by simp)
     simp only[List.getElem_cons_zero,List.getElem_cons_succ]at c0 c1 c2 c3
     have HF:=Za (show dotted l=([256*n0+n1,256*n2+n3],true)by rw[HD.out,hE])
     clear hE hrow;have HBL:=Za hbl
     obtain⟨r00,r01⟩:=hrng n0 (by simp)
     obtain⟨r10,r11⟩:=hrng n1 (by simp)
     obtain⟨r20,r21⟩:=hrng n2 (by simp)
     obtain⟨r30,r31⟩:=hrng n3 (by simp)
     clear hbl hrng hzero
     have q0:=Zk7 (n:=256*n0) (by omega) (by omega)
     have q1:=Zk7 (n:=256*n0+n1) (by omega) (by omega)
     have q2:=Zk7 (n:=256*n2) (by omega) (by omega)
     have q3:=Zk7 (n:=256*n2+n3) (by omega) (by omega)
     go_wp2
     go_region_held (fun w'=>w'.cell? ⟨w1.heap.size,0,none⟩=some (.int .i64 n0)∧w'.cell? ⟨w1.heap.size,1,none⟩=some (.int .i64 n1)∧w'.cell? ⟨w1.heap.size,2,none⟩=some (.int .i64 n2)∧w'.cell? ⟨w1.heap.size,3,none⟩=some (.int .i64 n3)) (first|exact⟨c0,c1,c2,c3⟩|exact⟨Zfl c0,Zfl c1,Zfl c2,Zfl c3⟩) (fail)
     all_goals go_wp2
     all_goals go_ret2
     all_goals exact⟨_,by rw[HF.out];rfl,by rw[HF.out];exact Zlx wr [256*n0+n1,256*n2+n3] _ (by simp) rfl,((HN1.out.then HBL.out).alloc _).drew⟩
 ·have HF:=Za (show dotted l=([],false)by
   rw[HD.out]
   split
   ·rename_i a b c d h
    exact absurd (ZiJ h) h4
   ·rfl)
  obtain⟨ao,cap,rfl,hlc,hcap,_,_⟩:=hvs;unfold maxLen at hcap
  have h4':((vs.length:Int) != 4)=true:=by simp only[bne_iff_ne,ne_eq];omega
  clear h4 hmk;go_wp2;go_ret2
  exact⟨_,by rw[HF.out];rfl,by rw[HF.out];exact SlAt.nil _,hn1⟩
end Go.Proofs.YtchkhibgbnhjpabGreatDoor
