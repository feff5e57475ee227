import Derived.Test.YtchkhibgbnhjpabGreatDoorR24
open Array renaming getElem?_modify→Xa,getElem?_eq_some_iff→Xc
open List renaming length_take→Xd,eq_nil_of_length_eq_zero→Xe,length_drop→Xg,length_nil→Xh
open Nat renaming le_refl→Xb,add_zero→Xf
namespace Go.Proofs.YtchkhibgbnhjpabGreatDoor
open Go.RowKit
set_option maxHeartbeats 4000000
set_option maxRecDepth 100000
def hostOf(l:List Int)(sp:Bool):Bool×List UInt8×Int:=
 if l.getD 0 0=91 then
  (if l.getD (l.length-1) 0≠93 then(false,[],2)
   else if(address ((l.take (l.length-1)).drop 1)).2=true then(true,[91]++brief (address ((l.take (l.length-1)).drop 1)).1++[93],0)else(false,[],2))
 else if sp=true then domainOf l
 else if(l.any fun c=>among c ZcI)=true then(false,[],2)else(true,encoded l [],0)
theorem Zk9(v:LI)(hl:v.length=8)(hp:∀x∈v,0≤x∧x≤65535)(n i:Nat):(briefFrom v n i).length≤100:=by
 fun_induction briefFrom v n i
 ·have:=Zcf v hp;omega
 ·rename_i n i _ _ _
  have h1:=Zcf (v.take i) fun x hx=>hp x (List.mem_of_mem_take hx)
  have h2:=fun k=>Zcf (v.drop k) fun x hx=>hp x (List.mem_of_mem_drop hx)
  simp only[List.length_append,List.length_cons]
  have h3:=fun k=>Xg (i:=k) (l:=v)
  have h4:=List.length_take_le' i v;have h5:=h2 (i+n);have h6:=h3 (i+n)
  omega
 ·assumption
 ·assumption
theorem Zv7{α:Type}{e:TypeId}{f:α→Value}{w:World}{b off:Nat}{l:List α}(hr:RowAt e f w b off l)(k:Nat):RowAt e f w b off (l.take k):=by
 obtain⟨cs,fz,h1,h2⟩:=hr
 exact⟨cs,fz,h1,fun i hi=>by rw[List.getElem_take];exact h2 i (by rw[Xd]at hi;omega)⟩
theorem ZgR(v:Value)(l:LI)(sp:Bool)(w:World)(hv:IntsAt w v l)(hl:l.length≤20000)(hp:∀c∈l,Pt c):Calls Tryz.prog 181 #[v,.bool sp] w fun e w'=>∃t:BA,e=.returned (.tuple #[.agg #[.bool (hostOf l sp).1,.string t],.int .i64 (hostOf l sp).2.2])∧tl t=(hostOf l sp).2.1∧Nx w w':=by
 have HV:=Za hv;have HPP:=Za hp;clear hp;have HC0:Hid (Cell2 (w.alloc (.cells #[.bool false,.string ⟨#[]⟩] 128 (0,0))) w.heap.size):=Za ⟨_,_,heap_alloc_new w _⟩;obtain⟨ao,cap,rfl,hlc,hcap,hnone,hsome⟩:=hv;have HCAP:=Za hcap;unfold maxLen at hcap
 by_cases h91:l.getD 0 0=91
 ·have hl0:0<l.length:=by cases l with
   | nil=>cases h91
   | cons=>simp
  obtain⟨a,ha⟩:=Zw (k:=0) hl0 hnone;subst ha;obtain⟨b,off,rfl,hrow⟩:=hsome a rfl;have hck0:=(hrow.on (Nx.rfl.alloc (.cells #[.bool false,.string ⟨#[]⟩] 128 (0,0)))).cell (i:=0) hl0
  have hckl:=(hrow.on (Nx.rfl.alloc (.cells #[.bool false,.string ⟨#[]⟩] 128 (0,0)))).cell (i:=l.length-1) (by omega)
  rw[ZcN hl0]at h91;rw[h91,Xf]at hck0
  have HG:=Za (show hostOf l sp=if l[l.length-1]'(by omega)≠93 then(false,[],2)else if(address ((l.take (l.length-1)).drop 1)).2=true then(true,[91]++brief (address ((l.take (l.length-1)).drop 1)).1++[93],0)else(false,[],2)by
   unfold hostOf;rw[ZcN hl0,if_pos h91,ZcN (by omega:l.length-1<l.length)])
  by_cases h93:l[l.length-1]'(by omega)=93
  ·have h2:2≤l.length:=by
    rcases Nat.lt_or_ge l.length 2 with h|h
    ·have e:l.length-1=0:=by omega
     simp only[e]at h93;rw[h91]at h93
     cases h93
    ·exact h
   rw[h93]at hckl
   have HG2:=Za (HG.out.trans (if_neg (fun h=>h h93)))
   clear h93 h91 HG
   have HS:=Za (ZfE (Zv7 (hrow.on (Nx.rfl.alloc (.cells #[.bool false,.string ⟨#[]⟩] 128 (0,0)))) (l.length-1)) (by rw[Xd];omega) HCAP.out 1 (by rw[Xd];omega))
   rw[show(l.take (l.length-1)).length=l.length-1 by rw[Xd];omega]at HS
   go_enter Tryz.func181,Tryz.ntmps181
   go_wp2_with fail
   refine(Zn1 _ ((l.take (l.length-1)).drop 1) _ HS.out (by rw[Xg,Xd];omega)).mono ?_
   rintro e w1 ⟨va,rfl,hva,hn1⟩;have HOK:=Za (Zj6 (l:=(l.take (l.length-1)).drop 1));generalize address ((l.take (l.length-1)).drop 1)=ad at *;obtain⟨q,ok⟩:=ad;simp only at *;have HN1:=Za ((Nx.rfl.alloc _).then hn1);have HC1:=Za (HC0.out.on hn1);have HVA:=Za hva;clear hva hn1 HC0 HS
   cases ok
   ·obtain⟨ca,cb,hc0,hc1,hf0,hf1,hrb⟩:=HC1.out.facts
    obtain⟨hs0,hs1'⟩:=HC1.out.ret (.bool false) (.string ⟨#[]⟩);go_wp2
    exact bodyPost_ret (v:=.tuple #[.agg #[.bool false,.string ⟨#[]⟩],.int .i64 2]) (by simp[results,Tryz.results181,go_sem,hs0,hs1']) rfl ⟨⟨#[]⟩,by rw[HG2.out];rfl,by rw[HG2.out];rfl,(HN1.out.setCell (Xb _) _).setCell (Xb _) _⟩
   ·have HQ:=Za (HOK.out rfl)
    clear HOK;go_wp2_with fail
    refine(Zsr _ q _ HVA.out HQ.out.1 HQ.out.2).mono ?_
    rintro e w2 ⟨r2,rfl,hr2,hn2⟩;have HR2:=Za hr2;have HN2:=Za (HN1.out.then hn2);have HC2:=Za (HC1.out.on hn2)
    have hs2:r2.size≤1000:=by
     have h:=congrArg List.length hr2;rw[tl_length]at h;have h2:=Zk9 q HQ.out.1 HQ.out.2 8 0;unfold brief at h
     omega
    clear hr2 hn2 HN1 HC1;obtain⟨ca,cb,hc0,hc1,hf0,hf1,hrb⟩:=HC2.out.facts;obtain⟨hs0,hs1'⟩:=HC2.out.ret (.bool true) (.string ((⟨#[91]⟩:BA)++r2++(⟨#[93]⟩:BA)));go_wp2
    exact bodyPost_ret (v:=.tuple #[.agg #[.bool true,.string ((⟨#[91]⟩:BA)++r2++(⟨#[93]⟩:BA))],.int .i64 0]) (by simp[results,Tryz.results181,go_sem,hs0,hs1']) rfl ⟨_,by rw[HG2.out];rfl,by rw[HG2.out,tl_append,tl_append,HR2.out];rfl,(HN2.out.setCell (Xb _) _).setCell (Xb _) _⟩
  ·have HG2:=Za (HG.out.trans (if_pos h93))
   clear h91 HG
   go_enter Tryz.func181,Tryz.ntmps181
   go_wp2
   exact bodyPost_ret (v:=.tuple #[.agg #[.bool false,.string ⟨#[]⟩],.int .i64 2]) (by simp[results,Tryz.results181,go_sem]) rfl ⟨⟨#[]⟩,by rw[HG2.out],by rw[HG2.out];rfl,Nx.rfl.alloc _⟩
 ·have HH:=Za (show hostOf l sp=if sp=true then domainOf l else if(l.any fun c=>among c ZcI)=true then(false,[],2)else(true,encoded l [],0)by unfold hostOf;rw[if_neg h91])
  cases sp
  ·have HH2:Hid (hostOf l false=if(l.any fun c=>among c ZcI)=true then(false,[],2)else(true,encoded l [],0)):=Za HH.out
   clear HH
   by_cases hl0:0<l.length
   ·obtain⟨a,ha⟩:=Zw (k:=0) hl0 hnone
    subst ha;obtain⟨b,off,rfl,hrow⟩:=hsome a rfl;have hck0:=(hrow.on (Nx.rfl.alloc (.cells #[.bool false,.string ⟨#[]⟩] 128 (0,0)))).cell (i:=0) hl0;rw[Xf]at hck0;rw[ZcN hl0]at h91;have hx91:(l[0]==91)=false:=beq_eq_false_iff_ne.2 h91;clear h91;clear hnone hsome
    go_enter Tryz.func181,Tryz.ntmps181
    go_wp2
    go_loopw [9] (fun i wr=>∃k:Nat,k≤l.length∧i=.int .i64 k∧((l.take k).any fun c=>among c ZcI)=false∧Nx (w.alloc (.cells #[.bool false,.string ⟨#[]⟩] 128 (0,0))) wr) (fun i _=>l.length-(intOf i).toNat)
    case atStart=>exact⟨0,Nat.zero_le _,rfl,rfl,Nx.rfl⟩
    case round=>
     obtain⟨k,hk,rfl,hno,hnx⟩:=hrel;have HNO:=Za hno;have HNX:=Za hnx;have HC2:=Za (HC0.out.on hnx);clear hno hnx HC0
     by_cases hlt:k<l.length
     ·have hck:=(hrow.on ((Nx.rfl.alloc _).then HNX.out)).cell (i:=k) hlt
      go_wp2_with fail
      refine(Za2 _ _ _ (Ze (by decide))).mono ?_
      rintro e w7 ⟨rfl,rfl⟩
      cases hA:among l[k] (tl ⟨#[0,9,10,13,32,35,47,58,60,62,63,64,91,92,93,94,124]⟩)
      ·have HA:=Za hA
       clear hA;go_wp2
       refine⟨⟨k+1,by omega,by simp,?_,HNX.out⟩,by simp[intOf];omega⟩
       rw[List.take_succ_eq_append_getElem hlt,List.any_append,HNO.out,List.any_cons,List.any_nil,show among l[k] ZcI=false from HA.out]
       rfl
      ·have HG2:=Za (HH2.out.trans (if_pos (List.any_eq_true.2 ⟨l[k],List.getElem_mem _,hA⟩)))
       clear hA;obtain⟨ca,cb,hc0,hc1,hf0,hf1,hrb⟩:=HC2.out.facts;obtain⟨hs0,hs1'⟩:=HC2.out.ret (.bool false) (.string ⟨#[]⟩);go_wp2
       exact bodyPost_ret (v:=.tuple #[.agg #[.bool false,.string ⟨#[]⟩],.int .i64 2]) (by simp[results,Tryz.results181,go_sem,hs0,hs1']) rfl ⟨⟨#[]⟩,by rw[HG2.out],by rw[HG2.out];rfl,(((Nx.rfl.alloc _).then HNX.out).setCell (Xb _) _).setCell (Xb _) _⟩
     ·have HG2:=Za (HH2.out.trans (if_neg (by have h:=HNO.out;rw[List.take_of_length_le (by omega)]at h;rw[h];decide)))
      go_wp2_with fail
      refine(Z5 _ l _ _ (HV.out.on ((Nx.rfl.alloc _).then HNX.out)) (Ze (by decide)) (by omega) HPP.out).mono ?_
      rintro e w1 ⟨r1,rfl,hr1,hn1⟩;have HR1:=Za hr1;have HN1:=Za (((Nx.rfl.alloc _).then HNX.out).then hn1);have HC1:=Za (HC2.out.on hn1);clear hr1 hn1;obtain⟨ca,cb,hc0,hc1,hf0,hf1,hrb⟩:=HC1.out.facts;obtain⟨hs0,hs1'⟩:=HC1.out.ret (.bool true) (.string r1);go_wp2
      exact bodyPost_ret (v:=.tuple #[.agg #[.bool true,.string r1],.int .i64 0]) (by simp[results,Tryz.results181,go_sem,hs0,hs1']) rfl ⟨r1,by rw[HG2.out],by rw[HG2.out];exact HR1.out,(HN1.out.setCell (Xb _) _).setCell (Xb _) _⟩
   ·have HG2:=Za (HH2.out.trans (if_neg (by rw[Xe (by omega:l.length=0)];decide)))
    clear hnone hsome
    go_enter Tryz.func181,Tryz.ntmps181
    go_wp2
    go_loopw [9] (fun i wr=>i=.int .i64 0∧Nx (w.alloc (.cells #[.bool false,.string ⟨#[]⟩] 128 (0,0))) wr) (fun i _=>l.length-(intOf i).toNat)
    case atStart=>exact⟨rfl,Nx.rfl⟩
    case round=>
     obtain⟨rfl,hnx⟩:=hrel;have HNX:=Za hnx;have HC2:=Za (HC0.out.on hnx);clear hnx HC0;go_wp2_with fail
     refine(Z5 _ l _ _ (HV.out.on ((Nx.rfl.alloc _).then HNX.out)) (Ze (by decide)) (by omega) HPP.out).mono ?_
     rintro e w1 ⟨r1,rfl,hr1,hn1⟩;have HR1:=Za hr1;have HN1:=Za (((Nx.rfl.alloc _).then HNX.out).then hn1);have HC1:=Za (HC2.out.on hn1);clear hr1 hn1;obtain⟨ca,cb,hc0,hc1,hf0,hf1,hrb⟩:=HC1.out.facts;obtain⟨hs0,hs1'⟩:=HC1.out.ret (.bool true) (.string r1);go_wp2
     exact bodyPost_ret (v:=.tuple #[.agg #[.bool true,.string r1],.int .i64 0]) (by simp[results,Tryz.results181,go_sem,hs0,hs1']) rfl ⟨r1,by rw[HG2.out],by rw[HG2.out];exact HR1.out,(HN1.out.setCell (Xb _) _).setCell (Xb _) _⟩
  ·have HH2:Hid (hostOf l true=domainOf l):=Za HH.out
   clear HH
   by_cases hl0:0<l.length
   ·obtain⟨a,ha⟩:=Zw (k:=0) hl0 hnone
    subst ha;obtain⟨b,off,rfl,hrow⟩:=hsome a rfl;have hck0:=(hrow.on (Nx.rfl.alloc (.cells #[.bool false,.string ⟨#[]⟩] 128 (0,0)))).cell (i:=0) hl0;rw[Xf]at hck0;rw[ZcN hl0]at h91;clear hnone hsome
    go_enter Tryz.func181,Tryz.ntmps181
    go_wp2_with fail
    refine(Zht _ l _ (HV.out.on (Nx.rfl.alloc _)) hl HPP.out).mono ?_
    rintro e w1 ⟨r1,rfl,hr1,hn1⟩;have HR1:=Za hr1;have HN1:=Za ((Nx.rfl.alloc _).then hn1);have HC1:=Za (HC0.out.on hn1);clear hr1 hn1;obtain⟨ca,cb,hc0,hc1,hf0,hf1,hrb⟩:=HC1.out.facts;obtain⟨hs0,hs1'⟩:=HC1.out.ret (.bool (domainOf l).1) (.string r1);go_wp2
    exact bodyPost_ret (v:=.tuple #[.agg #[.bool (domainOf l).1,.string r1],.int .i64 (domainOf l).2.2]) (by simp[results,Tryz.results181,go_sem,hs0,hs1']) rfl ⟨r1,by rw[HH2.out],by rw[HH2.out];exact HR1.out,(HN1.out.setCell (Xb _) _).setCell (Xb _) _⟩
   ·clear hnone hsome
    go_enter Tryz.func181,Tryz.ntmps181
    go_wp2_with fail
    refine(Zht _ l _ (HV.out.on (Nx.rfl.alloc _)) hl HPP.out).mono ?_
    rintro e w1 ⟨r1,rfl,hr1,hn1⟩;have HR1:=Za hr1;have HN1:=Za ((Nx.rfl.alloc _).then hn1);have HC1:=Za (HC0.out.on hn1);clear hr1 hn1;obtain⟨ca,cb,hc0,hc1,hf0,hf1,hrb⟩:=HC1.out.facts;obtain⟨hs0,hs1'⟩:=HC1.out.ret (.bool (domainOf l).1) (.string r1);go_wp2
    exact bodyPost_ret (v:=.tuple #[.agg #[.bool (domainOf l).1,.string r1],.int .i64 (domainOf l).2.2]) (by simp[results,Tryz.results181,go_sem,hs0,hs1']) rfl ⟨r1,by rw[HH2.out],by rw[HH2.out];exact HR1.out,(HN1.out.setCell (Xb _) _).setCell (Xb _) _⟩
structure RR where
 sch:ByteArray
 user:ByteArray
 pass:ByteArray
 his:Bool
 htx:ByteArray
 port:Int
 po:Option Addr
 pn:Nat
 pc:Nat
 op:Bool
 bl:ByteArray
 hq:Bool
 q:ByteArray
 hf:Bool
 fr:ByteArray
structure RU where
 sch:List UInt8
 user:List UInt8
 pass:List UInt8
 his:Bool
 htx:List UInt8
 port:Int
 path:List (List UInt8)
 op:Bool
 bl:List UInt8
 hq:Bool
 q:List UInt8
 hf:Bool
 fr:List UInt8
def RR.u(R:RR)(bs:List ByteArray):RU:=⟨tl R.sch,tl R.user,tl R.pass,R.his,tl R.htx,R.port,bs.map tl,R.op,tl R.bl,R.hq,tl R.q,R.hf,tl R.fr⟩
def RB(w:World)(b:Nat)(R:RR):Prop:=w.heap[b]?=some (Obj.cells #[.string R.sch,.string R.user,.string R.pass,.bool R.his,.string R.htx,.int .i64 R.port,.slice R.po R.pn R.pc,.bool R.op,.string R.bl,.bool R.hq,.string R.q,.bool R.hf,.string R.fr] 130 (0,0))
structure RIs (w:World) (R:RR) (u:RU) (bs:List ByteArray):Prop where
 eq:R.u bs=u
 seg:ZbB w (.slice R.po R.pn R.pc) bs
 lsch:R.sch.size≤1000000
 lsegs:bs.length≤100000
 lseg:∀b∈bs,b.size≤1000000
theorem RIs.on{w w':World}{R:RR}{u:RU}{bs:LA}(h:RIs w R u bs)(hb:Nx w w'):RIs w' R u bs:={ h with seg:=h.seg.on hb }
theorem RIs.kp{w w':World}{R:RR}{u:RU}{bs:LA}(h:RIs w R u bs)(hb:Kp 130 w w'):RIs w' R u bs:={ h with seg:=h.seg.kp hb (by decide) }
theorem RB.on{w w':World}{b:Nat}{R:RR}(h:RB w b R)(hb:Nx w w'):RB w' b R:=(hb.block b (Xc.1 h).1).trans h
theorem RB.but{w w':World}{b rb:Nat}{R:RR}(h:RB w b R)(hb:But rb w w')(hn:b≠rb):RB w' b R:=(hb.block b (Xc.1 h).1 hn).trans h
theorem RB.lt{w:World}{b:Nat}{R:RR}(h:RB w b R):b<w.heap.size:=(Xc.1 h).1
theorem RB.free{w:World}{b:Nat}{R:RR}(h:RB w b R)(i:Nat):w.frozen? ⟨b,i,none⟩=false:=by
 unfold RB at h
 simp[World.frozen?,h]
theorem RB.sch{w:World}{b:Nat}{R:RR}(h:RB w b R):SchAt w b R.sch:=⟨_,_,h,rfl⟩
theorem But.kp{w w':World}{rb:Nat}{R:RR}(hb:But rb w w')(h:RB w rb R):Kp 130 w w':=by
 intro k cs e fz hk he
 refine(hb.block k (Xc.1 hk).1 ?_).trans hk
 intro e';subst e';unfold RB at h;rw[hk]at h;simp only[Option.some.injEq,Obj.cells.injEq]at h;exact he h.2.1
theorem RB.cells{w:World}{b:Nat}{R:RR}(h:RB w b R):w.cell? ⟨b,0,none⟩=some (.string R.sch)∧w.cell? ⟨b,1,none⟩=some (.string R.user)∧w.cell? ⟨b,2,none⟩=some (.string R.pass)∧w.cell? ⟨b,3,none⟩=some (.bool R.his)∧w.cell? ⟨b,4,none⟩=some (.string R.htx)∧w.cell? ⟨b,5,none⟩=some (.int .i64 R.port)∧w.cell? ⟨b,6,none⟩=some (.slice R.po R.pn R.pc)∧w.cell? ⟨b,7,none⟩=some (.bool R.op)∧w.cell? ⟨b,8,none⟩=some (.string R.bl)∧w.cell? ⟨b,9,none⟩=some (.bool R.hq)∧w.cell? ⟨b,10,none⟩=some (.string R.q)∧w.cell? ⟨b,11,none⟩=some (.bool R.hf)∧w.cell? ⟨b,12,none⟩=some (.string R.fr):=by
 unfold RB at h
 refine⟨?_,?_,?_,?_,?_,?_,?_,?_,?_,?_,?_,?_,?_⟩<;>simp[World.cell?,h]
theorem RB.s0{w:World}{b:Nat}{R:RR}(h:RB w b R)(x:BA):RB (w.setCell ⟨b,0,none⟩ (.string x)) b { R with sch:=x }:=by
 unfold RB at *;simp only[World.setCell,Xa,if_pos,h]
 rfl
theorem RB.s1{w:World}{b:Nat}{R:RR}(h:RB w b R)(x:BA):RB (w.setCell ⟨b,1,none⟩ (.string x)) b { R with user:=x }:=by
 unfold RB at *;simp only[World.setCell,Xa,if_pos,h]
 rfl
theorem RB.s2{w:World}{b:Nat}{R:RR}(h:RB w b R)(x:BA):RB (w.setCell ⟨b,2,none⟩ (.string x)) b { R with pass:=x }:=by
 unfold RB at *;simp only[World.setCell,Xa,if_pos,h]
 rfl
theorem RB.s3{w:World}{b:Nat}{R:RR}(h:RB w b R)(x:Bool):RB (w.setCell ⟨b,3,none⟩ (.bool x)) b { R with his:=x }:=by
 unfold RB at *;simp only[World.setCell,Xa,if_pos,h]
 rfl
theorem RB.s4{w:World}{b:Nat}{R:RR}(h:RB w b R)(x:BA):RB (w.setCell ⟨b,4,none⟩ (.string x)) b { R with htx:=x }:=by
 unfold RB at *;simp only[World.setCell,Xa,if_pos,h]
 rfl
theorem RB.s5{w:World}{b:Nat}{R:RR}(h:RB w b R)(x:Int):RB (w.setCell ⟨b,5,none⟩ (.int .i64 x)) b { R with port:=x }:=by
 unfold RB at *;simp only[World.setCell,Xa,if_pos,h]
 rfl
theorem RB.s6{w:World}{b:Nat}{R:RR}(h:RB w b R)(ao:Option Addr)(n c:Nat):RB (w.setCell ⟨b,6,none⟩ (.slice ao n c)) b { R with po:=ao,pn:=n,pc:=c }:=by
 unfold RB at *;simp only[World.setCell,Xa,if_pos,h]
 rfl
theorem RB.s7{w:World}{b:Nat}{R:RR}(h:RB w b R)(x:Bool):RB (w.setCell ⟨b,7,none⟩ (.bool x)) b { R with op:=x }:=by
 unfold RB at *;simp only[World.setCell,Xa,if_pos,h]
 rfl
theorem RB.s8{w:World}{b:Nat}{R:RR}(h:RB w b R)(x:BA):RB (w.setCell ⟨b,8,none⟩ (.string x)) b { R with bl:=x }:=by
 unfold RB at *;simp only[World.setCell,Xa,if_pos,h]
 rfl
theorem RB.s9{w:World}{b:Nat}{R:RR}(h:RB w b R)(x:Bool):RB (w.setCell ⟨b,9,none⟩ (.bool x)) b { R with hq:=x }:=by
 unfold RB at *;simp only[World.setCell,Xa,if_pos,h]
 rfl
theorem RB.s10{w:World}{b:Nat}{R:RR}(h:RB w b R)(x:BA):RB (w.setCell ⟨b,10,none⟩ (.string x)) b { R with q:=x }:=by
 unfold RB at *;simp only[World.setCell,Xa,if_pos,h]
 rfl
theorem RB.s11{w:World}{b:Nat}{R:RR}(h:RB w b R)(x:Bool):RB (w.setCell ⟨b,11,none⟩ (.bool x)) b { R with hf:=x }:=by
 unfold RB at *;simp only[World.setCell,Xa,if_pos,h]
 rfl
theorem RB.s12{w:World}{b:Nat}{R:RR}(h:RB w b R)(x:BA):RB (w.setCell ⟨b,12,none⟩ (.string x)) b { R with fr:=x }:=by
 unfold RB at *;simp only[World.setCell,Xa,if_pos,h]
 rfl
def ZxB(sch:List UInt8)(n:Int):Int:=if n=(ZdA sch).1 then -1 else n
theorem Zwj(rb:Nat)(R:RR)(n:Int)(w:World)(h:RB w rb R):Calls Tryz.prog 173 #[.pointer (some ⟨rb,0,none⟩),.int .i64 n] w fun e w'=>e=.returned (.int .i64 (ZxB (tl R.sch) n))∧Nx w w':=by
 obtain⟨c0,-⟩:=h.cells;clear h
 go_enter Tryz.func173,Tryz.ntmps173
 go_wp2_with fail
 refine(Zo9 R.sch _).mono ?_
 rintro e w1 ⟨rfl,hn⟩;have HN:=Za hn
 have HD:=Za (show ZxB (tl R.sch) n=if n=(ZdA (tl R.sch)).1 then -1 else n from rfl)
 clear hn c0;generalize ZdA (tl R.sch)=q at *;obtain⟨p,ok⟩:=q;simp only at HD
 cases he:(n==p)
 ·have HE:=Za (HD.out.trans (if_neg (by simpa using he)))
  go_wp2;go_ret
  exact⟨by rw[HE.out];rfl,HN.out⟩
 ·have HE:=Za (HD.out.trans (if_pos (by simpa using he)))
  go_wp2;go_ret
  exact⟨by rw[HE.out];rfl,HN.out⟩
def ZpP:List UInt8:=[108,111,99,97,108,104,111,115,116]
def Zaz(u:RU)(l:List Int):RU×Int:=
 if l=[]then({ u with his:=true,htx:=[] },0)else if(hostOf l true).2.2≠0 then({ u with his:=true,htx:=[] },(hostOf l true).2.2)
 else if(hostOf l true).2.1=ZpP then({ u with his:=true,htx:=[] },0)else({ u with his:=(hostOf l true).1,htx:=(hostOf l true).2.1 },0)
theorem Zmv(rb:Nat)(R:RR)(u:RU)(bs:LA)(v:Value)(l:LI)(w:World)(h:RB w rb R)(hr:RIs w R u bs)(hv:IntsAt w v l)(hl:l.length≤20000)(hp:∀c∈l,Pt c):Calls Tryz.prog 178 #[.pointer (some ⟨rb,0,none⟩),v] w fun e w'=>e=.returned (.int .i64 (Zaz u l).2)∧(∃R',RB w' rb R'∧RIs w' R' (Zaz u l).1 bs)∧But rb w w':=by
 obtain⟨c0,c1,c2,c3,c4,c5,c6,c7,c8,c9,c10,c11,c12⟩:=h.cells;have f3:=h.free 3;have f4:=h.free 4;have HB:=Za ((h.s3 true).s4 ⟨#[]⟩);have HBT:Hid (But rb w ((w.setCell ⟨rb,3,none⟩ (.bool true)).setCell ⟨rb,4,none⟩ (.string ⟨#[]⟩))):=Za (((But.refl rb w).set 3 _).set 4 _);have HK:=Za (HBT.out.kp h)
 have HV:=Za (hv.kp HK.out (by decide))
 have HR:=Za (show RIs _ { R with his:=true,htx:=⟨#[]⟩ } { u with his:=true,htx:=[] } bs from { hr.kp HK.out with eq:=by rw[←hr.eq];rfl })
 have HPP:=Za hp;clear h hr hp HK;obtain⟨ao,cap,hve,-⟩:=hv;subst hve
 go_enter Tryz.func178,Tryz.ntmps178
 go_upto_region 2 with fail;clear c0 c1 c2 c3 c4 c5 c6 c7 c8 c9 c10 c11 c12 f3 f4;generalize ((w.setCell ⟨rb,3,none⟩ (.bool true)).setCell ⟨rb,4,none⟩ (.string ⟨#[]⟩))=w1 at *;rcases Nat.eq_zero_or_pos l.length with h0|hpos
 ·have h0':((l.length:Int)==0)=true:=by rw[h0];rfl
  have HE:=Za (show Zaz u l=({ u with his:=true,htx:=[] },0)from if_pos (Xe h0))
  clear h0;go_wp2;go_ret
  exact⟨by rw[HE.out];rfl,⟨_,HB.out,by rw[HE.out];exact HR.out⟩,HBT.out⟩
 ·have h0':((l.length:Int)==0)=false:=beq_eq_false_iff_ne.2 (by omega)
  have HD:=Za (show Zaz u l=if(hostOf l true).2.2≠0 then({ u with his:=true,htx:=[] },(hostOf l true).2.2)else if(hostOf l true).2.1=ZpP then({ u with his:=true,htx:=[] },0)else({ u with his:=(hostOf l true).1,htx:=(hostOf l true).2.1 },0)from if_neg (fun e=>by rw[e]at hpos;simp at hpos))
  clear hpos;go_wp2_with fail
  refine(ZgR _ l true _ HV.out hl HPP.out).mono ?_
  rintro e w2 ⟨t,rfl,ht,hn⟩;have HH:=Za (show(w2.alloc (Obj.cells #[.bool (hostOf l true).1,.string t] 128)).heap[w2.heap.size]?=some (Obj.cells #[.bool (hostOf l true).1,.string t] 128 (0,0))from heap_alloc_new w2 _);have HB2:=Za ((HB.out.on hn).on (Nx.rfl.alloc (Obj.cells #[.bool (hostOf l true).1,.string t] 128)));have HR2:=Za ((HR.out.on hn).on (Nx.rfl.alloc (Obj.cells #[.bool (hostOf l true).1,.string t] 128)));have HBT2:=Za (HBT.out.then (But.nx (hn.alloc (Obj.cells #[.bool (hostOf l true).1,.string t] 128))));have HT:=Za ht;have hrl:rb<w2.heap.size:=Nat.lt_of_lt_of_le HB.out.lt hn.size;clear hn ht HB HR HBT HV HPP;generalize hostOf l true=y at *;obtain⟨is,tx,err⟩:=y;simp only at HD HT HB2 HR2 HBT2 HH;go_upto_region 5 with fail;obtain⟨hb,hhb⟩:∃hb,hb=w2.heap.size:=⟨_,rfl⟩;rw[←hhb]at HH hrl ⊢;generalize (w2.alloc (Obj.cells #[.bool is,.string t] 128))=w3 at *;clear hhb
  have hc0:w3.cell? ⟨hb,0,none⟩=some (.bool is):=by have h:=HH.out;simp[World.cell?,h]
  have hc1:w3.cell? ⟨hb,1,none⟩=some (.string t):=by have h:=HH.out;simp[World.cell?,h]
  by_cases he:err=0
  ·subst he
   have HD2:=Za (HD.out.trans (if_neg (by intro x;exact x rfl)))
   clear HD
   by_cases hloc:tx=ZpP
   ·have HE:=Za (HD2.out.trans (if_pos hloc))
    have hl':t.toList=[108,111,99,97,108,104,111,115,116]:=by rw[ByteArray.toList_eq];exact HT.out.trans hloc
    have hl1:=eqB (s:=t) (l:=[108,111,99,97,108,104,111,115,116]) (HT.out.trans hloc);clear hloc hl';go_wp2;go_ret
    exact⟨by rw[HE.out];rfl,⟨_,HB2.out,by rw[HE.out];exact HR2.out⟩,HBT2.out⟩
   ·have HE:=Za (HD2.out.trans (if_neg hloc))
    have hl1:=neB (s:=t) (l:=[108,111,99,97,108,104,111,115,116]) (fun e=>hloc (HT.out.symm.trans e))
    clear hloc;obtain⟨c0,c1,c2,c3,c4,c5,c6,c7,c8,c9,c10,c11,c12⟩:=HB2.out.cells;have f3:=HB2.out.free 3;have f4:=HB2.out.free 4;have HB3:=Za ((HB2.out.s3 is).s4 t);have HBT3:=Za ((HBT2.out.set 3 (.bool is)).set 4 (.string t));have HK:=Za (show Kp 130 w3 ((w3.setCell ⟨rb,3,none⟩ (.bool is)).setCell ⟨rb,4,none⟩ (.string t))from But.kp (((But.refl rb w3).set 3 _).set 4 _) HB2.out);have HR3:=Za (HR2.out.kp HK.out);clear HR2 HBT2 HK;go_wp2;go_ret
    refine⟨by rw[HE.out];rfl,⟨_,HB3.out,?_⟩,HBT3.out⟩
    rw[HE.out]
    exact { HR3.out with eq:=by rw[←HT.out];have h:=HR3.out.eq;simp only[RR.u,RU.mk.injEq]at h ⊢;simp[h] }
  ·have he1:(err==0)=false:=beq_eq_false_iff_ne.2 he
   have he2:(err != 0)=true:=bne_iff_ne.2 he;have HE:=Za (HD.out.trans (if_pos he));clear he HD;go_wp2;go_ret
   exact⟨by rw[HE.out];rfl,⟨_,HB2.out,by rw[HE.out];exact HR2.out⟩,HBT2.out⟩
def Zr4(e:Ending)(w w':World)(rb:Nat)(x:RU×Int):Prop:=e=.returned (.int .i64 x.2)∧(∃R bs,RB w' rb R∧RIs w' R x.1 bs)∧But rb w w'
theorem RIs.setPath{w:World}{rb:Nat}{R:RR}{u:RU}{bs bs':LA}{v:Value}(hB:RB w rb R)(hR:RIs w R u bs)(ho:ZbB w v bs')(hl:bs'.length≤100000)(hb:∀x∈bs',x.size≤1000000):∃ao n c,v=.slice ao n c∧RB (w.setCell ⟨rb,6,none⟩ (.slice ao n c)) rb { R with po:=ao,pn:=n,pc:=c }∧RIs (w.setCell ⟨rb,6,none⟩ (.slice ao n c)) { R with po:=ao,pn:=n,pc:=c } { u with path:=bs'.map tl } bs':=by
 obtain⟨ao,cap,rfl,h1,h2,h3,h4⟩:=ho;have hk:Kp 130 w (w.setCell ⟨rb,6,none⟩ (.slice ao bs'.length cap)):=But.kp ((But.refl rb w).set 6 _) hB
 refine⟨ao,_,cap,rfl,hB.s6 _ _ _,?_⟩
 exact { eq:=by rw[←hR.eq];rfl,seg:=SlAt.kp (⟨ao,cap,rfl,h1,h2,h3,h4⟩:ZbB w (.slice ao bs'.length cap) bs') hk (by decide),lsch:=hR.lsch,lsegs:=hl,lseg:=hb }
theorem RIs.usch{w:World}{R:RR}{u:RU}{bs:LA}(h:RIs w R u bs):tl R.sch=u.sch:=by rw[←h.eq];rfl
theorem Zj8{α:Type}{e:TypeId}{f:α→Value}{w:World}{b off cap:Nat}{l:List α}(hr:RowAt e f w b off l)(hlc:l.length≤cap)(hcap:cap≤maxLen)(k:Nat)(hk:k≤l.length):SlAt e f w (.slice (if cap=k then some ⟨b,off,none⟩else some ⟨b,off+k,none⟩) (l.length-k) (cap-k)) (l.drop k):=by
 split
 ·exact Zju hr k _ (by omega) (by omega)
 ·exact ZfE hr hlc hcap k hk
def driven(l:List Int):Bool:=if l.length<2 then false else letter (l.take 2)&&(decide (l.length=2)||ZB l 2 ZO)
theorem Zfq(v:Value)(l:LI)(w:World)(hv:IntsAt w v l):Calls Tryz.prog 271 #[v] w fun e w'=>e=.returned (.bool (driven l))∧Nx w w':=by
 have HV:=Za hv
 by_cases hl:l.length<2
 ·have HE:=Za (show driven l=false from if_pos hl)
  obtain⟨ao,cap,rfl,hlc,hcap,-,-⟩:=hv;unfold maxLen at hcap
  go_enter Tryz.func271,Tryz.ntmps271
  go_wp2;go_ret
  exact⟨by rw[HE.out];rfl,Nx.rfl⟩
 ·have HD:=Za (show driven l=(letter (l.take 2)&&(decide (l.length=2)||ZB l 2 ZO))from if_neg hl)
  obtain⟨b,off,cap,rfl,hlc,hcap,hr⟩:=hv.open_ (k:=0) (by omega)
  have HT:=Za (Zdw hr hlc hcap 2 (by omega))
  unfold maxLen at hcap;clear hr hv
  go_enter Tryz.func271,Tryz.ntmps271
  go_wp2_with fail
  refine(Zbw _ (l.take 2) _ HT.out).mono ?_
  rintro e w1 ⟨rfl,rfl⟩;go_wp2_with fail
  refine(Zcg _ l 2 ⟨#[102,105,108,101]⟩ _ HV.out).mono ?_
  rintro e w1 ⟨rfl,hn⟩;have HN:=Za hn;clear hn;rw[show tl (⟨#[102,105,108,101]⟩:BA)=ZO from rfl];generalize letter (l.take 2)=a at *;generalize ZB l 2 ZO=c at *
  cases a
  ·go_wp2
   go_ret
   exact⟨by rw[HD.out];rfl,HN.out⟩
  ·by_cases h2:l.length=2
   ·have h2':((l.length:Int)==2)=true:=by rw[h2];rfl
    have HE:=Za (show driven l=true by rw[HD.out,decide_eq_true h2];rfl)
    clear h2 HD;go_wp2;go_ret
    exact⟨by rw[HE.out];rfl,HN.out⟩
   ·have h2':((l.length:Int)==2)=false:=beq_eq_false_iff_ne.2 (by omega)
    have HE:=Za (show driven l=c by rw[HD.out,decide_eq_false h2];rfl)
    clear h2 HD
    cases c
    all_goals go_wp2
    all_goals go_ret
    all_goals exact⟨by rw[HE.out];rfl,HN.out⟩
def ZdW(u:RU)(l:List Int):RU×Int:=
 if letter (cut l [47,92]).1=true then({ u with path:=walked u.sch [] l },0)
 else if(Zaz u (cut l [47,92]).1).2≠0 then Zaz u (cut l [47,92]).1
 else({ (Zaz u (cut l [47,92]).1).1 with path:=walked u.sch [] (cut l [47,92]).2.1 },0)
theorem Zmw(u:RU)(l:LI):(Zaz u l).1.sch=u.sch:=by
 unfold Zaz
 split
 ·rfl
 ·split
  ·rfl
  ·split<;>rfl
theorem ZcO(rb:Nat)(R:RR)(u:RU)(bs:LA)(v:Value)(l:LI)(w:World)(h:RB w rb R)(hr:RIs w R u bs)(hv:IntsAt w v l)(hl:l.length≤20000)(hp:∀c∈l,Pt c):Calls Tryz.prog 270 #[.pointer (some ⟨rb,0,none⟩),v] w fun e w'=>Zr4 e w w' rb (ZdW u l):=by
 have HB:=Za h;have HR:=Za hr;have HV:=Za hv;have HP:=Za hp;have HLC:=Za (Zce l [47,92])
 have HPC:=Za (fun c (h:c∈(cut l [47,92]).1)=>hp c (ZR (Or.inl h)))
 have HPD:=Za (fun c (h:c∈(cut l [47,92]).2.1)=>hp c (ZR (Or.inr h)))
 have HD:=Za (show ZdW u l=if letter (cut l [47,92]).1=true then({ u with path:=walked u.sch [] l },0)else if(Zaz u (cut l [47,92]).1).2≠0 then Zaz u (cut l [47,92]).1 else({ (Zaz u (cut l [47,92]).1).1 with path:=walked u.sch [] (cut l [47,92]).2.1 },0)from rfl)
 clear h hr hv hp
 go_enter Tryz.func270,Tryz.ntmps270
 go_wp2_with fail
 refine(Zdx v l ⟨#[47,92]⟩ _ (Ze (by decide)) HV.out).mono ?_
 rintro e w1 ⟨v1,v2,rfl,h1,h2,hn1⟩;rw[show tl (⟨#[47,92]⟩:BA)=[47,92]from rfl]at *;generalize cut l [47,92]=c at *;obtain⟨c1,c2,ok⟩:=c;simp only at *;have H1:=Za h1;have H2:=Za h2;have HN1:=Za hn1;clear h1 h2 hn1;go_wp2_with fail
 refine(Zbw v1 c1 _ H1.out).mono ?_
 rintro e w1' ⟨rfl,rfl⟩
 cases hlt:letter c1
 ·have HD1:=Za (HD.out.trans (if_neg (by rw[hlt];decide)))
  clear HD hlt;have hcl:=HLC.out.1;go_wp2_with fail
  refine(Zmv rb R u bs v1 c1 _ (HB.out.on HN1.out) (HR.out.on HN1.out) H1.out (by omega) HPC.out).mono ?_
  rintro e w2 ⟨rfl,⟨R2,hB2,hR2⟩,hbt⟩;have HKP:=Za (hbt.kp (HB.out.on HN1.out))
  have H22:=Za (H2.out.kp HKP.out (by decide))
  have HSC:=Za (Zmw u c1);have HB2:=Za hB2;have HR2:=Za hR2;have HBT:=Za ((But.nx HN1.out).then hbt);clear hB2 hR2 hbt H1 H2 HKP;generalize Zaz u c1=y at *;obtain⟨y,err⟩:=y;simp only at HD1 HR2 HSC
  by_cases he:err=0
  ·subst he
   have HE:=Za (HD1.out.trans (if_neg (by intro x;exact x rfl)))
   clear HD1;go_wp2_with fail
   refine(ZaR rb R2.sch (.slice none 0 0) [] v2 c2 w2.heap.size _ HB2.out.sch (Xb _) (ZbK _ _) (by simp) (by simp) H22.out (by omega) HPD.out).mono ?_
   rintro e w3 ⟨v',bs',rfl,ho,hwe,hbl,hbs,hbel,-⟩;have hnx:Nx w2 w3:=hbel
   obtain⟨ao,n,cp,rfl,hB3,hR3⟩:=RIs.setPath (HB2.out.on hnx) (HR2.out.on hnx) (ZQ ho) (by simp only[Xh]at hbl;omega) hbs
   have HB3:=Za hB3;have HR3:=Za hR3
   have HWE:=Za (show bs'.map tl=walked u.sch [] c2 by rw[hwe,HR2.out.usch,HSC.out];rfl)
   have HBT3:=Za (show But rb w (w3.setCell ⟨rb,6,none⟩ (.slice ao n cp))from(HBT.out.then (But.nx hnx)).set 6 _);obtain⟨-,-,-,-,-,-,k6,-⟩:=(HB2.out.on hnx).cells;have f6:=(HB2.out.on hnx).free 6;clear ho hwe hbl hbs hbel hnx hB3 hR3;go_wp2;go_ret
   exact⟨by rw[HE.out];rfl,⟨_,bs',HB3.out,by rw[HE.out];have h:=HR3.out;rw[HWE.out]at h;exact h⟩,HBT3.out⟩
  ·have he1:(err==0)=false:=beq_eq_false_iff_ne.2 he
   have he2:(err != 0)=true:=bne_iff_ne.2 he;have HE:=Za (HD1.out.trans (if_pos he));clear he HD1;go_wp2;go_ret
   exact⟨by rw[HE.out];rfl,⟨_,_,HB2.out,by rw[HE.out];exact HR2.out⟩,HBT.out⟩
 ·have HE:=Za (HD.out.trans (if_pos (by rw[hlt])))
  clear HD hlt;go_wp2_with fail
  refine(ZaR rb R.sch (.slice none 0 0) [] v l w1.heap.size _ (HB.out.on HN1.out).sch (Xb _) (ZbK _ _) (by simp) (by simp) (HV.out.on HN1.out) (by omega) HP.out).mono ?_
  rintro e w3 ⟨v',bs',rfl,ho,hwe,hbl,hbs,hbel,-⟩;have hnx:Nx w w3:=HN1.out.then hbel
  obtain⟨ao,n,cp,rfl,hB3,hR3⟩:=RIs.setPath (HB.out.on hnx) (HR.out.on hnx) (ZQ ho) (by simp only[Xh]at hbl;omega) hbs
  have HB3:=Za hB3;have HR3:=Za hR3
  have HWE:=Za (show bs'.map tl=walked u.sch [] l by rw[hwe,HR.out.usch];rfl)
  have HBT3:=Za (show But rb w (w3.setCell ⟨rb,6,none⟩ (.slice ao n cp))from(But.nx hnx).set 6 _);obtain⟨-,-,-,-,-,-,k6,-⟩:=(HB.out.on hnx).cells;have f6:=(HB.out.on hnx).free 6;clear ho hwe hbl hbs hbel hnx hB3 hR3;go_wp2;go_ret
  exact⟨by rw[HE.out];rfl,⟨_,bs',HB3.out,by rw[HE.out];have h:=HR3.out;rw[HWE.out]at h;exact h⟩,HBT3.out⟩
end Go.Proofs.YtchkhibgbnhjpabGreatDoor
