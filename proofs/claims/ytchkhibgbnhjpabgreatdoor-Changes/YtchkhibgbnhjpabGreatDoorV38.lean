import Derived.Test.YtchkhibgbnhjpabGreatDoorV37
open Array renaming getElem?_eq_some_iff→Xa
open Int renaming tmod_eq_emod_of_nonneg→Xc
open List renaming eq_nil_of_length_eq_zero→Xb,length_map→Xd
namespace Go.Proofs.YtchkhibgbnhjpabGreatDoor
open Go.RowKit
set_option maxHeartbeats 16000000
set_option maxRecDepth 8000
def LstK(k:Int)(w w':World)(pb:Nat)(bs:List ByteArray)(u:U):Except Int Lp→Prop
 | .error j=>k=j∧Nx w w'
 | .ok S=>k=0∧(∃r',UrlB w' pb r'∧RcIs w' r' (ZS u S) bs)∧But pb w w'
def Zpx(w0 w':World)(ib pb:Nat)(bs:List ByteArray):Prop:=Nx w0 w'∧ItemB w' ib pb∧∃r' u',UrlB w' pb r'∧RcIs w' r' u' bs∧St u'∧(pathU u').length≤9000
theorem LstIs.val{e:Ending}{w w':World}{pb:Nat}{bs:LA}{u:U}{M:Except Int Lp}(h:LstIs e w w' pb bs u M):∃k,e=.returned (.int .i64 k)∧LstK k w w' pb bs u M:=by
 cases M with
 | error j=>exact⟨j,h.1,rfl,h.2⟩
 | ok S=>exact⟨0,h.1,rfl,h.2.1,h.2.2⟩
theorem LstK.but{k:Int}{w w':World}{pb:Nat}{bs:LA}{u:U}{M:Except Int Lp}(h:LstK k w w' pb bs u M):But pb w w':=by
 cases M with
 | error j=>exact But.nx h.2
 | ok S=>exact h.2.2
theorem LstK.back{k:Int}{w w1 w':World}{pb:Nat}{bs:LA}{u:U}{M:Except Int Lp}(h:LstK k w1 w' pb bs u M)(hn:Nx w w1):LstK k w w' pb bs u M:=by
 cases M with
 | error j=>exact⟨h.1,hn.then h.2⟩
 | ok S=>exact⟨h.1,h.2.1,(But.nx hn).then h.2.2⟩
theorem OpK.but{w w':World}{b pb:Nat}{kd c:Int}{s t:BA}{r:Rc}(h:OpK w b kd c s t)(hu:UrlB w pb r)(hb:But pb w w'):OpK w' b kd c s t:=by
 refine(hb.block b (Xa.1 h).1 fun e=>?_).trans h
 subst e;unfold OpK at h;unfold UrlB at hu;rw[h]at hu;simp only[Option.some.injEq,Obj.cells.injEq]at hu
 exact absurd hu.2.1 (by decide)
theorem But.kpL{w w':World}{pb:Nat}{r:Rc}(hb:But pb w w')(h:UrlB w pb r):Kp 106 w w':=by
 intro k cs e fz hk he
 refine(hb.block k (Xa.1 hk).1 ?_).trans hk
 intro e';subst e';unfold UrlB at h;rw[hk]at h;simp only[Option.some.injEq,Obj.cells.injEq]at h;exact he h.2.1
theorem Zid(ib pb:Nat)(r:Rc)(u:U)(bs:LA)(kd c:Int)(s t:BA)(w0 w:World)(h00:Nx w0 w)(hp0:w0.heap.size≤pb)(hi:ItemB w ib pb)(hu:UrlB w pb r)(hr:RcIs w r u bs)(ht0:Tb w0)(hst:St u)(hpl:(pathU u).length≤9000)(hq:u.q.length≤4320)(hkd:kd=0∨kd=1∨kd=2∨kd=3)(hs:s.size≤65536)(ht:t.size≤65536):Calls Tryz.prog 24 #[.pointer (some ⟨ib,0,none⟩),.agg #[.int .i64 kd,.int .i64 c,.string s,.string t]] w fun e w'=>e=.returned (.bool true)∧Zpx w0 w' ib pb bs:=by
 have HT0:=Za ht0;have H00:=Za h00;have HP0:=Za hp0;have HI:=Za hi;have HU:=Za hu;have HR:=Za hr;have HST:=Za hst;have HPL:=Za hpl;have HQ:=Za hq
 have HS:=Za (show s.size≤maxLen by unfold maxLen;omega)
 have HT:=Za (show t.size≤maxLen by unfold maxLen;omega)
 have hlq:=Zgd hr;have hlq2:u.q.length≤300000:=hlq;have HLQ:=Za hlq;clear h00 hp0 hi hu hr ht0 hst hpl hq hlq hlq2
 go_enter Tryz.func24,Tryz.ntmps24
 have HOP:=Za (show OpK (w.alloc (Obj.cells #[.int .i64 kd,.int .i64 c,.string s,.string t] 53)) w.heap.size kd c s t from heap_alloc_new w _);have HN1:=Za (show Nx w (w.alloc (Obj.cells #[.int .i64 kd,.int .i64 c,.string s,.string t] 53))from Nx.rfl.alloc _);go_upto_region 1 with fail;generalize w.alloc (Obj.cells #[.int .i64 kd,.int .i64 c,.string s,.string t] 53)=w1 at *;have i0:=(HI.out.on HN1.out).cell;go_wp2_with fail
 refine(ZeL pb r u bs _ (HU.out.on HN1.out) (HR.out.on HN1.out) (HT0.out.on (H00.out.then HN1.out)) (fun _=>HPL.out)).mono ?_
 rintro e w2 ⟨⟨a0,a1,a2,a3,a4,a5,a6,a7,a8,a9,a10,rfl,g0,g1,g2,g3,g4,g5,g6,g7,g8,g9,g10,s5,s8⟩,hn2⟩
 have HG:Hid (∀e,ZmF e u→e=.returned (.agg #[.string a0,.string a1,.string a2,.string a3,.string a4,.string a5,.string a6,.string a7,.string a8,.string a9,.string a10])):=Za (fun e he=>ZtI he g0 g1 g2 g3 g4 g5 g6 g7 g8 g9 g10)
 have HGA:=Za (And.intro g0 (And.intro g1 (And.intro g2 (And.intro g3 (And.intro g4 (And.intro g5 (And.intro g6 (And.intro g7 (And.intro g8 (And.intro g9 g10))))))))));have HC:=Za (show C11 (w2.alloc (Obj.cells #[.string a0,.string a1,.string a2,.string a3,.string a4,.string a5,.string a6,.string a7,.string a8,.string a9,.string a10] 66)) w2.heap.size (.string a0) (.string a1) (.string a2) (.string a3) (.string a4) (.string a5) (.string a6) (.string a7) (.string a8) (.string a9) (.string a10)from heap_alloc_new w2 _);have HN2:=Za (HN1.out.then (hn2.alloc (Obj.cells #[.string a0,.string a1,.string a2,.string a3,.string a4,.string a5,.string a6,.string a7,.string a8,.string a9,.string a10] 66)));have HOP2:=Za (HOP.out.on (hn2.alloc (Obj.cells #[.string a0,.string a1,.string a2,.string a3,.string a4,.string a5,.string a6,.string a7,.string a8,.string a9,.string a10] 66)));clear g0 g1 g2 g3 g4 g5 g6 g7 g8 g9 g10 hn2 i0;go_upto_region 2 with fail;generalize w2.alloc (Obj.cells #[.string a0,.string a1,.string a2,.string a3,.string a4,.string a5,.string a6,.string a7,.string a8,.string a9,.string a10] 66)=wA at *;generalize w2.heap.size=ab at *;have i0:=(HI.out.on HN2.out).cell;go_wp2_with fail
 refine(Zeq pb r u bs _ (HU.out.on HN2.out) (HR.out.on HN2.out)).mono ?_
 rintro e w3 ⟨l,ps,rfl,hl3,hm3,hn3⟩;have hc:=ZaB hm3 HLQ.out;have HPA:=Za (hl3.at hc);have HM:=Za hm3;have HN3:=Za (HN2.out.then hn3);have HC3:=Za (HC.out.on hn3);have HOP3:=Za (HOP2.out.on hn3)
 have hlen:ps.length=(Zh u.q).length:=by rw[←hm3,Xd]
 have HLEN:=Za hlen;obtain⟨ao,cap,hve⟩:=hl3.slice;subst hve;clear hl3 hm3 hn3 HC HOP HOP2 i0 hlen;have i0:=(HI.out.on HN3.out).cell;obtain⟨o0,o1,o2,o3⟩:=HOP3.out.cells
 go_upto_block 0 with fail
 go_cut [7]from 16 (fun x wx=>∃k:Int,x=.int .i64 k∧LstK k w3 wx pb bs u (chM kd c (tl s) (tl t) (Zh u.q)))
 case first=>
  have HK:Hid (∀w',But pb w3 w'→w'.cell? ⟨ib,0,none⟩=some (.pointer (some ⟨pb,0,none⟩))∧w'.cell? ⟨w.heap.size,1,none⟩=some (.int .i64 c)∧w'.cell? ⟨w.heap.size,2,none⟩=some (.string s)∧w'.cell? ⟨w.heap.size,3,none⟩=some (.string t)):=Za (fun w' hx=>by obtain⟨h0,h1,h2,h3⟩:=(HOP3.out.but (HU.out.on HN3.out) hx).cells;exact⟨((HI.out.on HN3.out).but (HU.out.on HN3.out) hx).cell,h1,h2,h3⟩)
  rcases hkd with rfl|rfl|rfl|rfl
  ·have HME:=Za (show chM 0 c (tl s) (tl t) (Zh u.q)=Zpj (tl s) (tl t) (Zh u.q)from if_pos rfl)
   have HV:Hid (∀wz,Nx w3 wz→Calls Tryz.prog 60 #[.pointer (some ⟨pb,0,none⟩),.string s,.string t] wz fun e w'=>∃k:Int,e=.returned (.int .i64 k)∧LstK k w3 w' pb bs u (Zpj (tl s) (tl t) (Zh u.q))):=Za (fun wz hz=>(Zku pb r u bs s t _ (HU.out.on (HN3.out.then hz)) (HR.out.on (HN3.out.then hz)) HQ.out HS.out HT.out).mono fun e w' hL=>by obtain⟨k,h1,h2⟩:=hL.val;exact⟨k,h1,h2.back hz⟩)
   go_wp2_with fail
   go_region_held (fun w'=>w'.cell? ⟨ib,0,none⟩=some (.pointer (some ⟨pb,0,none⟩))∧w'.cell? ⟨w.heap.size,1,none⟩=some (.int .i64 c)∧w'.cell? ⟨w.heap.size,2,none⟩=some (.string s)∧w'.cell? ⟨w.heap.size,3,none⟩=some (.string t)) (first|exact⟨i0,o1,o2,o3⟩|exact HK.out _ HBZ.out) ((go_at_call 60;refine(HV.out _ (by first|exact Nx.rfl.drew|exact Nx.rfl)).mono ?_;rintro e wz ⟨k,rfl,hL⟩;have HLZ:=Za hL;have HBZ:=Za (show But pb w3 wz from HLZ.out.but);clear hL))
   all_goals go_wp2_with fail
   all_goals go_meet
   all_goals exact⟨_,rfl,by rw[HME.out];exact HLZ.out⟩
  ·have HME:=Za (show chM 1 c (tl s) (tl t) (Zh u.q)=Zq6 (tl s) (tl t) (c==1) (Zh u.q)from by unfold chM;rw[if_neg (by decide),if_pos rfl])
   have HV:Hid (∀wz,Nx w3 wz→Calls Tryz.prog 61 #[.pointer (some ⟨pb,0,none⟩),.string s,.string t,.bool (c==1)] wz fun e w'=>∃k:Int,e=.returned (.int .i64 k)∧LstK k w3 w' pb bs u (Zq6 (tl s) (tl t) (c==1) (Zh u.q))):=Za (fun wz hz=>(Zkv pb r u bs s t (c==1) _ (HU.out.on (HN3.out.then hz)) (HR.out.on (HN3.out.then hz)) HQ.out HS.out HT.out).mono fun e w' hL=>by obtain⟨k,h1,h2⟩:=hL.val;exact⟨k,h1,h2.back hz⟩)
   go_wp2_with fail
   go_region_held (fun w'=>w'.cell? ⟨ib,0,none⟩=some (.pointer (some ⟨pb,0,none⟩))∧w'.cell? ⟨w.heap.size,1,none⟩=some (.int .i64 c)∧w'.cell? ⟨w.heap.size,2,none⟩=some (.string s)∧w'.cell? ⟨w.heap.size,3,none⟩=some (.string t)) (first|exact⟨i0,o1,o2,o3⟩|exact HK.out _ HBZ.out) ((go_at_call 61;refine(HV.out _ (by first|exact Nx.rfl.drew|exact Nx.rfl)).mono ?_;rintro e wz ⟨k,rfl,hL⟩;have HLZ:=Za hL;have HBZ:=Za (show But pb w3 wz from HLZ.out.but);clear hL))
   all_goals go_wp2_with fail
   all_goals go_meet
   all_goals exact⟨_,rfl,by rw[HME.out];exact HLZ.out⟩
  ·have HME:=Za (show chM 2 c (tl s) (tl t) (Zh u.q)=Zna (tl s) (tl t) (Zh u.q)from by unfold chM;rw[if_neg (by decide),if_neg (by decide),if_pos rfl])
   have HV:Hid (∀wz,Nx w3 wz→Calls Tryz.prog 62 #[.pointer (some ⟨pb,0,none⟩),.string s,.string t] wz fun e w'=>∃k:Int,e=.returned (.int .i64 k)∧LstK k w3 w' pb bs u (Zna (tl s) (tl t) (Zh u.q))):=Za (fun wz hz=>(Zq7 pb r u bs s t _ (HU.out.on (HN3.out.then hz)) (HR.out.on (HN3.out.then hz)) HQ.out HS.out HT.out).mono fun e w' hL=>by obtain⟨k,h1,h2⟩:=hL.val;exact⟨k,h1,h2.back hz⟩)
   go_wp2_with fail
   go_region_held (fun w'=>w'.cell? ⟨ib,0,none⟩=some (.pointer (some ⟨pb,0,none⟩))∧w'.cell? ⟨w.heap.size,1,none⟩=some (.int .i64 c)∧w'.cell? ⟨w.heap.size,2,none⟩=some (.string s)∧w'.cell? ⟨w.heap.size,3,none⟩=some (.string t)) (first|exact⟨i0,o1,o2,o3⟩|exact HK.out _ HBZ.out) ((go_at_call 62;refine(HV.out _ (by first|exact Nx.rfl.drew|exact Nx.rfl)).mono ?_;rintro e wz ⟨k,rfl,hL⟩;have HLZ:=Za hL;have HBZ:=Za (show But pb w3 wz from HLZ.out.but);clear hL))
   all_goals go_wp2_with fail
   all_goals go_meet
   all_goals exact⟨_,rfl,by rw[HME.out];exact HLZ.out⟩
  ·have HME:=Za (show chM 3 c (tl s) (tl t) (Zh u.q)=.ok (Zav ltB (Zh u.q))by unfold chM;rw[if_neg (by decide),if_neg (by decide),if_neg (by decide)])
   go_wp2_with fail
   refine(Zjl pb r u bs w3 (HU.out.on HN3.out) (HR.out.on HN3.out) (show FitL _ from⟨Zls (ZeJ _),by rw[Zjq];exact(ZdM HQ.out).1.wd⟩).written).mono ?_
   rintro e w4 ⟨rfl,hx4,hb4⟩;have HX4:=Za hx4;have HB4:=Za hb4;clear hx4 hb4;go_wp2_with fail
   go_meet
   case rel=>exact⟨0,rfl,by rw[HME.out];exact⟨rfl,HX4.out,HB4.out⟩⟩
 case rest=>
  obtain⟨k,rfl,hL⟩:=hcut;obtain⟨w4,hwn⟩:∃wn,wn=wc:=⟨_,rfl⟩;subst hwn;have HB4:=Za hL.but;have HU3:=Za (HU.out.on HN3.out);have HI4:=Za ((HI.out.on HN3.out).but HU3.out HB4.out);have HC4:=Za (HC3.out.but HU3.out HB4.out);have HOP4:=Za (HOP3.out.but HU3.out HB4.out)
  have HPA4:=Za (HPA.out.kp (HB4.out.kpL HU3.out) (by decide))
  have HN4:=Za (show Nx w0 w4 from(H00.out.then HN3.out).trans (HB4.out.below HP0.out (H00.out.then HN3.out).size));have i0:=HI4.out.cell;obtain⟨M,hM⟩:∃M,chM kd c (tl s) (tl t) (Zh u.q)=M:=⟨_,rfl⟩;rw[hM]at hL
  cases M with
  | error j=>
   obtain⟨rfl,hn4⟩:=hL;have HER:=Za (Zpw hM);have HU4:=Za (HU3.out.on hn4);have HR4:=Za ((HR.out.on HN3.out).on hn4);clear hM hn4 HB4 HC3 HOP3 HPA;go_wp2_with fail
   refine(ZeL pb r u bs _ HU4.out HR4.out (HT0.out.on HN4.out) (fun _=>HPL.out)).mono ?_
   rintro e w5 ⟨ha,hn5⟩;obtain rfl:=HG.out e ha;have HN5:=Za (hn5.alloc (Obj.cells #[.string a0,.string a1,.string a2,.string a3,.string a4,.string a5,.string a6,.string a7,.string a8,.string a9,.string a10] 66));have HCB:=Za (show C11 (w5.alloc (Obj.cells #[.string a0,.string a1,.string a2,.string a3,.string a4,.string a5,.string a6,.string a7,.string a8,.string a9,.string a10] 66)) w5.heap.size (.string a0) (.string a1) (.string a2) (.string a3) (.string a4) (.string a5) (.string a6) (.string a7) (.string a8) (.string a9) (.string a10)from heap_alloc_new w5 _);clear ha hn5 i0;go_upto_region 14 with fail;generalize w5.alloc (Obj.cells #[.string a0,.string a1,.string a2,.string a3,.string a4,.string a5,.string a6,.string a7,.string a8,.string a9,.string a10] 66)=w6 at *;generalize w5.heap.size=bb at *;have i0:=(HI4.out.on HN5.out).cell;go_wp2_with fail
   refine(Zeq pb r u bs _ (HU4.out.on HN5.out) (HR4.out.on HN5.out)).mono ?_
   rintro e w7 ⟨l7,qs,rfl,hl7,hm7,hn7⟩;obtain rfl:ps=qs:=Zed (HM.out.trans hm7.symm);have HN7:=Za (HN5.out.then hn7);have HPB:=Za (hl7.at hc);have HCB7:=Za (HCB.out.on hn7);obtain⟨ao7,cap7,hv7⟩:=hl7.slice;subst hv7
   have HKE:=Za (show k≠0 by rcases HER.out with⟨e,-⟩|⟨e,-⟩<;>omega)
   have hke:(k != 0)=true:=bne_iff_ne.2 HKE.out;clear hl7 hm7 hn7 i0 HCB;go_wp2_with fail
   refine(ZbW _ _ ps ps _ (HPA4.out.on HN7.out) HPB.out).mono ?_
   rintro e w8 ⟨rfl,hn8⟩;rw[decide_eq_true (rfl:ps=ps)];have HN8:=Za (HN7.out.then hn8);have HCB8:=Za (HCB7.out.on hn8);obtain⟨x0,x1,x2,x3,x4,x5,x6,x7,x8,x9,x10⟩:=(HC4.out.on HN8.out).cells;obtain⟨y0,y1,y2,y3,y4,y5,y6,y7,y8,y9,y10⟩:=HCB8.out.cells;obtain⟨o0',o1',o2',o3'⟩:=(HOP4.out.on HN8.out).cells;have HFIN:=Za (show Zpx w0 w8 ib pb bs from⟨HN4.out.then HN8.out,HI4.out.on HN8.out,r,u,HU4.out.on HN8.out,HR4.out.on HN8.out,HST.out,HPL.out⟩);clear hn8 HCB7;rcases HER.out with⟨rfl,hlong⟩|⟨rfl,hlong,h16⟩
   ·rw[tl_length,tl_length]at hlong
    by_cases hl1:160<s.size
    ·go_wp2
     go_ret;exact⟨rfl,HFIN.out⟩
    ·have hl2:160<t.size:=hlong.resolve_left hl1
     clear hlong;go_wp2;go_ret;exact⟨rfl,HFIN.out⟩
   ·rw[tl_length,tl_length]at hlong
    have hl1:¬160<s.size:=fun g=>hlong (Or.inl g)
    have hl2:¬160<t.size:=fun g=>hlong (Or.inr g)
    rw[←HLEN.out]at h16;clear hlong;go_wp2;go_ret
    exact⟨Zi (by simp;omega),HFIN.out⟩
  | ok S=>
   obtain⟨rfl,⟨r4,hu4,hr4⟩,-⟩:=hL;have HFS:=Za (ZtH HQ.out hM);have HM4:=Za hM;have HS4:=Za (ZmX HST.out HFS.out.cl);have HL4:=Za (ZsY S HPL.out);have HRD:=Za (Zjx (u:=u) HFS.out.cl);have HSB:=Za (Zco u S);have HSO:=Za (ZkE (Zco u S) HST.out);have HU4:=Za hu4;have HR4:=Za hr4;have HLQ4:=Za (Zgd hr4)
   have HSE:Hid ((S=[]→Z4 (ZS u S)=[]∧(ZS u S).hq=false)∧(S≠[]→Z4 (ZS u S)=63::ZR S)):=Za ⟨fun e=>by subst e;exact Zm7 u,fun e=>ZkL e⟩
   have HSL:=Za (fun c r h1 h2=>Zm6 HST.out S (c:=c) (r:=r) h1 h2)
   clear hM hu4 hr4 HB4 HC3 HOP3 HPA;generalize ZS u S=v at *;go_wp2_with fail
   refine(ZeL pb r4 v bs _ HU4.out HR4.out (HT0.out.on HN4.out) (fun _=>HL4.out)).mono ?_
   rintro e w5 ⟨⟨b0,b1,b2,b3,b4,b5,b6,b7,b8,b9,b10,rfl,k0,k1,k2,k3,k4,k5,k6,k7,k8,k9,k10,sb5,sb8⟩,hn5⟩
   have hb0:b0.size≤maxLen:=by
    have h:=Zlx v;rw[←k0,←k5,←k8,tl_length,tl_length,tl_length]at h;obtain⟨z1,z2,z3,z4,z5⟩:=HR4.out.five;unfold maxLen
    omega
   obtain⟨g0,g1,g2,g3,g4,g5,g6,g7,g8,g9,g10⟩:=HGA.out;obtain rfl:a1=b1:=(Za4 (k1.trans (HSO.out.trans g1.symm))).symm
   obtain rfl:a2=b2:=(Za4 (k2.trans ((show Zad v=Zad u by unfold Zad;rw[HSB.out.sch]).trans g2.symm))).symm
   obtain rfl:a3=b3:=(Za4 (k3.trans (HSB.out.nam.trans g3.symm))).symm;obtain rfl:a4=b4:=(Za4 (k4.trans (HSB.out.pw.trans g4.symm))).symm
   obtain rfl:a5=b5:=(Za4 (k5.trans ((show Zl v=Zl u by unfold Zl ZC;rw[HSB.out.hp,HSB.out.host,HSB.out.port]).trans g5.symm))).symm
   obtain rfl:a6=b6:=(Za4 (k6.trans (HSB.out.host.trans g6.symm))).symm
   obtain rfl:a7=b7:=(Za4 (k7.trans ((show ZC v=ZC u by unfold ZC;rw[HSB.out.hp,HSB.out.port]).trans g7.symm))).symm
   obtain rfl:a10=b10:=(Za4 (k10.trans ((show ZbX v=ZbX u by unfold ZbX;rw[HSB.out.fr]).trans g10.symm))).symm
   have K0:=Za k0;have K9:=Za k9
   have HW8:Hid ((a8.size=0∨∃h:0<a8.size,a8[0]≠47)∨(∃h:0<a8.size,a8[0]=47)∧b8=a8):=Za (by
    by_cases hz:a8.size=0
    ·exact Or.inl (Or.inl hz)
    ·have hpos:0<a8.size:=by omega
     by_cases h47:a8[0]=47
     ·refine Or.inr ⟨⟨hpos,h47⟩,Za4 (k8.trans (Eq.trans ?_ g8.symm))⟩
      have hd:=ZU a8 0 hpos;rw[List.drop_zero,g8]at hd;exact HSL.out _ _ hd h47
     ·exact Or.inl (Or.inr ⟨hpos,h47⟩))
   have HB0:=Za hb0;have HN5:=Za (hn5.alloc (Obj.cells #[.string b0,.string a1,.string a2,.string a3,.string a4,.string a5,.string a6,.string a7,.string b8,.string b9,.string a10] 66));have HCB:=Za (show C11 (w5.alloc (Obj.cells #[.string b0,.string a1,.string a2,.string a3,.string a4,.string a5,.string a6,.string a7,.string b8,.string b9,.string a10] 66)) w5.heap.size (.string b0) (.string a1) (.string a2) (.string a3) (.string a4) (.string a5) (.string a6) (.string a7) (.string b8) (.string b9) (.string a10)from heap_alloc_new w5 _);clear hb0 sb5 sb8 hn5 i0 k0 k1 k2 k3 k4 k5 k6 k7 k8 k9 k10 g0 g1 g2 g3 g4 g5 g6 g7 g8 g9 g10 HG HGA HSL HSO HSB
   have HWI:Hid (∀w',Calls Tryz.prog 34 #[.agg #[.string a0,.string a1,.string a2,.string a3,.string a4,.string a5,.string a6,.string a7,.string a8,.string a9,.string a10],.agg #[.string b0,.string a1,.string a2,.string a3,.string a4,.string a5,.string a6,.string a7,.string b8,.string b9,.string a10],.int .i64 8] w' fun e w''=>e=.returned (.agg #[.string b0,.string a1,.string a2,.string a3,.string a4,.string a5,.string a6,.string a7,.string b8,.string b9,.string a10])∧Nx w' w''):=Za (fun w'=>by
    rcases HW8.out with h|⟨⟨hpos,h47⟩,e⟩
    ·exact Zri a0 a1 a2 a3 a4 a5 a6 a7 a8 a9 a10 b0 b8 b9 w' s8 h
    ·rw[e]
     exact Zrj a0 a1 a2 a3 a4 a5 a6 a7 a8 a9 a10 b0 b9 w' s8 hpos h47)
   clear HW8;go_upto_region 14 with fail;generalize w5.alloc (Obj.cells #[.string b0,.string a1,.string a2,.string a3,.string a4,.string a5,.string a6,.string a7,.string b8,.string b9,.string a10] 66)=w6 at *;generalize w5.heap.size=bb at *;have i0:=(HI4.out.on HN5.out).cell;go_wp2_with fail
   refine(Zeq pb r4 v bs _ (HU4.out.on HN5.out) (HR4.out.on HN5.out)).mono ?_
   rintro e w7 ⟨l7,qs,rfl,hl7,hm7,hn7⟩;have hcq:=ZaB hm7 HLQ4.out
   have HQS:=Za (show qs.map tl2=S by rw[hm7,HRD.out])
   have HN7:=Za (HN5.out.then hn7);have HPB:=Za (hl7.at hcq);have HCB7:=Za (HCB.out.on hn7);obtain⟨ao7,cap7,hv7⟩:=hl7.slice;subst hv7
   have HTR:=Za (fun w' h1 h2=>Zm5 hkd HM4.out HM.out HQS.out (ZdM HQ.out).1 HFS.out HS.out HT.out (.slice ao ps.length cap) (.slice ao7 qs.length cap7) w' h1 h2)
   clear hl7 hm7 hn7 i0 HCB HM4 HM hkd HQ;have i0:=(HI4.out.on HN7.out).cell;go_wp2_with fail
   refine(ZqY pb r4 v bs _ (HU4.out.on HN7.out) (HR4.out.on HN7.out)).mono ?_
   rintro e w8 ⟨tx,rfl,htx,hn8⟩
   have HTX:=Za (show tl tx=ZR S by rw[htx,HRD.out])
   have htz:tx.size≤300000:=by rw[←tl_length,HTX.out];exact HFS.out.written
   have HN8:=Za (HN7.out.then hn8);have HPB8:=Za (HPB.out.on hn8);have HCB8:=Za (HCB7.out.on hn8);clear htx hn8 i0 HCB7 HPB;obtain⟨y0,y1,y2,y3,y4,y5,y6,y7,y8,y9,y10⟩:=HCB8.out.cells;go_wp2_with fail
   refine(ZmJ b0 63 _ HB0.out).mono ?_
   rintro e w' ⟨rfl,rfl⟩;obtain⟨sg,hsg⟩:∃sg,signsB 63 (tl b0)=sg:=⟨_,rfl⟩;rw[hsg]
   have HSG:=Za (show S=[]→sg=false from fun e=>by rw[←hsg,K0.out];exact ZmZ HS4.out (HSE.out.1 e).2)
   have HZ9:=Za (show S=[]→b9.size=0 from fun e=>by rw[←tl_length,K9.out,(HSE.out.1 e).1];rfl)
   have HN9:=Za (show S≠[]→tl b9=63::ZR S from fun e=>by rw[K9.out];exact HSE.out.2 e)
   have HQL:=Za (show qs.length=S.length by rw[←HQS.out,Xd])
   clear hsg;go_upto_region 21 with fail
   go_cut [134]from 124 (fun x wx=>x=.bool false∧w8=wx)
   case first=>
    by_cases hS:S=[]
    ·have h1:=HSG.out hS
     subst h1;have h9:=Zf (HZ9.out hS)
     have hql:((qs.length:Int)==0)=true:=by rw[HQL.out,hS];rfl
     clear hS;go_wp2
     go_meet
     case rel=>exact⟨rfl,rfl⟩
    ·have hql:((qs.length:Int)==0)=false:=beq_eq_false_iff_ne.2 (by rw[HQL.out];intro g;exact hS (Xb (by omega)))
     clear hS;go_wp2
     go_meet
     case rel=>exact⟨rfl,rfl⟩
   case rest=>
    obtain⟨rfl,rfl⟩:=hcut;go_upto_region 23 with fail
    go_cut [144]from 135 (fun x wx=>x=.bool false∧w8=wx)
    case first=>
     by_cases hS:S=[]
     ·have hql:¬(0:Int)<(qs.length:Int):=by rw[HQL.out,hS];decide
      clear hS;go_wp2
      go_meet
      case rel=>exact⟨rfl,rfl⟩
     ·have hql:(0:Int)<(qs.length:Int):=by
       rw[HQL.out]
       have:S.length≠0:=fun g=>hS (Xb g)
       omega
      have h9:(b9.toList==((⟨#[63]⟩:BA)++tx).toList)=true:=Zer (by rw[HN9.out hS,tlApp7,HTX.out];rfl)
      have h9':(b9.toList != ((⟨#[63]⟩:BA)++tx).toList)=false:=ZgB h9;clear hS;go_wp2
      go_meet
      case rel=>exact⟨rfl,rfl⟩
    case rest=>
     obtain⟨rfl,rfl⟩:=hcut;obtain⟨x0,x1,x2,x3,x4,x5,x6,x7,x8,x9,x10⟩:=(HC4.out.on HN8.out).cells;go_wp2_with fail
     refine(HWI.out _).mono ?_
     rintro e w9 ⟨rfl,hn9⟩;have HN9a:=Za (HN8.out.then (hn9.alloc (Obj.cells #[.string b0,.string a1,.string a2,.string a3,.string a4,.string a5,.string a6,.string a7,.string b8,.string b9,.string a10] 66)));have HCC:=Za (show C11 (w9.alloc (Obj.cells #[.string b0,.string a1,.string a2,.string a3,.string a4,.string a5,.string a6,.string a7,.string b8,.string b9,.string a10] 66)) w9.heap.size (.string b0) (.string a1) (.string a2) (.string a3) (.string a4) (.string a5) (.string a6) (.string a7) (.string b8) (.string b9) (.string a10)from heap_alloc_new w9 _);have HCB9:=Za (HCB8.out.on (hn9.alloc (Obj.cells #[.string b0,.string a1,.string a2,.string a3,.string a4,.string a5,.string a6,.string a7,.string b8,.string b9,.string a10] 66)));have HPB9:=Za (HPB8.out.on (hn9.alloc (Obj.cells #[.string b0,.string a1,.string a2,.string a3,.string a4,.string a5,.string a6,.string a7,.string b8,.string b9,.string a10] 66)));clear hn9 x0 x1 x2 x3 x4 x5 x6 x7 x8 x9 x10 y0 y1 y2 y3 y4 y5 y6 y7 y8 y9 y10;go_upto_region 26 with fail;generalize w9.alloc (Obj.cells #[.string b0,.string a1,.string a2,.string a3,.string a4,.string a5,.string a6,.string a7,.string b8,.string b9,.string a10] 66)=wb at *;generalize w9.heap.size=cb at *;obtain⟨p0,p1,p2,p3⟩:=(HOP4.out.on HN9a.out).cells;go_wp2_with fail
     refine(HTR.out _ (HPA4.out.on HN9a.out) HPB9.out).mono ?_
     rintro e wd ⟨rfl,hnd⟩;have HND:=Za (HN9a.out.then hnd);obtain⟨x0,x1,x2,x3,x4,x5,x6,x7,x8,x9,x10⟩:=(HCC.out.on hnd).cells;obtain⟨y0,y1,y2,y3,y4,y5,y6,y7,y8,y9,y10⟩:=(HCB9.out.on hnd).cells;have HFIN:=Za (show Zpx w0 wd ib pb bs from⟨HN4.out.then HND.out,HI4.out.on HND.out,r4,v,HU4.out.on HND.out,HR4.out.on HND.out,HS4.out,HL4.out⟩);clear hnd p0 p1 p2 p3;go_wp2;go_ret;exact⟨rfl,HFIN.out⟩
def Zfh(a:Int):Nat:=((if a<0 then -(a+1)else a)%4).toNat
theorem Zrk(a:Int):Zfh a<4:=by unfold Zfh;omega
theorem Zpy(a:Int)(h0:-9223372036854775808≤a)(h1:a≤9223372036854775807)(w:World):Calls Tryz.prog 13 #[.int .i64 a,.int .i64 4] w fun e w'=>e=.returned (.int .i64 (Zfh a:Nat))∧w=w':=by
 by_cases hn:a<0
 ·have HE:=Za (show((Zfh a:Nat):Int)=-(a+1)%4 by unfold Zfh;rw[if_pos hn];omega)
  have hmv:Int.tmod (-(a+1)) 4=-(a+1)%4:=Xc (by omega)
  have HM:=Za hmv;clear hmv
  go_enter Tryz.func13,Tryz.ntmps13
  go_wp2;go_ret
  exact⟨Zai (by rw[HE.out];first|done|rfl|exact HM.out|(rw[←HM.out,Int.neg_tmod])),rfl⟩
 ·have HE:=Za (show((Zfh a:Nat):Int)=a%4 by unfold Zfh;rw[if_neg hn];omega)
  have HM:=Za (show Int.tmod a 4=a%4 from Xc (by omega))
  go_enter Tryz.func13,Tryz.ntmps13
  go_wp2;go_ret
  exact⟨Zai (by rw[HE.out];first|done|rfl|exact HM.out|omega),rfl⟩
theorem Zjy(s:BA)(k:Int)(n v:BA)(b:Bool)(w:World)(hs:s.size≤maxLen)(hk:-9223372036854775808≤k∧k≤9223372036854775807)(hn:n.size≤maxLen)(hv:v.size≤maxLen)(ht:Tb w):Calls Tryz.prog 7 #[.string s,.int .i64 k,.string n,.string v,.bool b] w fun e w'=>e=.returned (.bool true)∧Nx w w':=by
 have HTB:=Za ht
 have HAS:=Za (ZtJ s ⟨#[]⟩ false w hs (Zg (by decide)) ht)
 have HSU:=Za (Zqz (tl s) (tl ⟨#[]⟩) false);have HLU:=Za (ZqJ (tl s) (tl ⟨#[]⟩) false);have HQU:=Za (ZqM (tl s) (tl ⟨#[]⟩) false).q;unfold maxLen at hn hv;clear ht hs;generalize Zat (tl s) (tl ⟨#[]⟩) false=x at *
 by_cases h1:65536<n.size
 ·go_enter Tryz.func7,Tryz.ntmps7
  go_wp2;go_ret;exact⟨rfl,Nx.rfl⟩
 by_cases h2:65536<v.size
 ·go_enter Tryz.func7,Tryz.ntmps7
  go_wp2;go_ret;exact⟨rfl,Nx.rfl⟩
 go_enter Tryz.func7,Tryz.ntmps7
 go_wp2_with fail
 refine HAS.out.mono ?_
 rintro e w1 ⟨hp,hn1⟩;have HN:=Za hn1;clear hn1 HAS;rcases hp with rfl|⟨hx0,ib,pb,r,bs,rfl,hi,hu,hr,hnew⟩
 ·go_wp2
  go_ret;exact⟨rfl,HN.out⟩
 ·have HLI:=Za (fun(kd c:Int) (w':World) (hw:Nx w1 w') hkd=>Zid ib pb r x.1 bs kd c n v w w' (HN.out.then hw) hnew (hi.on hw) (hu.on hw) (hr.on hw) HTB.out (HSU.out hx0) (Nat.le_trans HLU.out (by decide)) HQU.out hkd (by omega) (by omega))
  have HKD:=Za (show(Zfh k:Int)=0∨(Zfh k:Int)=1∨(Zfh k:Int)=2∨(Zfh k:Int)=3 by have:=Zrk k;omega)
  clear hi hu hr hx0 hnew HSU;go_wp2_with fail
  refine(Zpy k hk.1 hk.2 _).mono ?_
  rintro e w' ⟨rfl,rfl⟩;generalize ((Zfh k:Nat):Int)=kd at *;have HOP:=Za (show OpK (w1.alloc (Obj.cells #[.int .i64 kd,.int .i64 0,.string n,.string v] 53)) w1.heap.size kd 0 n v from heap_alloc_new w1 _);have HN2:=Za (show Nx w1 (w1.alloc (Obj.cells #[.int .i64 kd,.int .i64 0,.string n,.string v] 53))from Nx.rfl.alloc _);go_upto_region 7 with fail;generalize w1.alloc (Obj.cells #[.int .i64 kd,.int .i64 0,.string n,.string v] 53)=w2 at *;have ho1:w1.heap.size<w2.heap.size:=(Xa.1 HOP.out).1;have HOB:=Za (Nat.le_refl w1.heap.size);obtain⟨ob,hob⟩:∃ob,ob=w1.heap.size:=⟨_,rfl⟩;rw[←hob]at HOP ho1 ⊢
  replace HOB:=Za (Nat.le_of_eq hob.symm)
  clear hob
  cases b
  ·obtain⟨o0,o1,o2,o3⟩:=HOP.out.cells
   go_wp2_with fail
   refine(HLI.out kd 0 _ HN2.out HKD.out).mono ?_
   rintro e w4 ⟨rfl,hb4⟩;obtain⟨hn4,hi4,r4,u4,hu4,hr4,hs4,hl4⟩:=hb4;have HN4:=Za hn4;have HI4:=Za hi4;have HU4:=Za hu4;have HR4:=Za hr4;have HS4:=Za hs4;have HL4:=Za hl4;clear hn4 hi4 hu4 hr4 hs4 hl4 o0 o1 o2 o3;go_wp2_with fail
   refine(Zgk _ (HTB.out.on HN4.out)).mono ?_
   rintro e w5 ⟨rfl,hn5⟩;have HN5:=Za hn5;have i0:=(HI4.out.on hn5).cell;clear hn5;go_wp2_with fail
   refine(Zhn pb r4 u4 bs _ (HU4.out.on HN5.out) (HR4.out.on HN5.out) (HTB.out.on (HN4.out.then HN5.out)) HS4.out HL4.out).mono ?_
   rintro e w6 ⟨rfl,hn6⟩;have HN6:=Za ((HN4.out.then HN5.out).then hn6);clear hn6;go_wp2;go_ret;exact⟨rfl,HN6.out⟩
  ·obtain⟨o0,o1,o2,o3⟩:=HOP.out.cells
   have f1:=HOP.out.free 1;have HOP3:=Za (HOP.out.s1 1)
   have HN3:=Za (show Nx w1 (w2.setCell ⟨ob,1,none⟩ (.int .i64 1))from Below.setCell (p:=⟨ob,1,none⟩) HN2.out (by show w1.heap.size≤ob;exact HOB.out) _)
   go_upto_region 9 with fail;generalize w2.setCell ⟨ob,1,none⟩ (.int .i64 1)=w3 at *;clear o0 o1 o2 o3 f1;obtain⟨o0,o1,o2,o3⟩:=HOP3.out.cells;go_wp2_with fail
   refine(HLI.out kd 1 _ HN3.out HKD.out).mono ?_
   rintro e w4 ⟨rfl,hb4⟩;obtain⟨hn4,hi4,r4,u4,hu4,hr4,hs4,hl4⟩:=hb4;have HN4:=Za hn4;have HI4:=Za hi4;have HU4:=Za hu4;have HR4:=Za hr4;have HS4:=Za hs4;have HL4:=Za hl4;clear hn4 hi4 hu4 hr4 hs4 hl4 o0 o1 o2 o3;go_wp2_with fail
   refine(Zgk _ (HTB.out.on HN4.out)).mono ?_
   rintro e w5 ⟨rfl,hn5⟩;have HN5:=Za hn5;have i0:=(HI4.out.on hn5).cell;clear hn5;go_wp2_with fail
   refine(Zhn pb r4 u4 bs _ (HU4.out.on HN5.out) (HR4.out.on HN5.out) (HTB.out.on (HN4.out.then HN5.out)) HS4.out HL4.out).mono ?_
   rintro e w6 ⟨rfl,hn6⟩;have HN6:=Za ((HN4.out.then HN5.out).then hn6);clear hn6;go_wp2;go_ret;exact⟨rfl,HN6.out⟩
end Go.Proofs.YtchkhibgbnhjpabGreatDoor
