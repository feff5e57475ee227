import Derived.Test.YtchkhibgbnhjpabGreatDoorR44
import Derived.Deep.RegionHeld
open Array renaming getElem?_eq_some_iff→Xa
open List renaming eq_nil_of_length_eq_zero→Xb,length_cons→Xd,length_map→Xe,mem_map→Xg,length_nil→Xh,map_cons→Xi,mem_cons_of_mem→Xj,length_append→Xk
open Nat renaming le_trans→Xc,zero_le→Xf,eq_zero_or_pos→Xl,le_refl→Xm
namespace Go.Proofs.YtchkhibgbnhjpabGreatDoor
open Go.RowKit
set_option maxHeartbeats 16000000
set_option maxRecDepth 16000
def WB(w:World)(wb:Nat)(q:Bool)(us ps ts:Value):Prop:=w.heap[wb]?=some (Obj.cells #[.bool q,us,ps,ts] 43 (0,0))
theorem WB.on{w w':World}{wb:Nat}{q:Bool}{us ps ts:Value}(h:WB w wb q us ps ts)(hb:Nx w w'):WB w' wb q us ps ts:=(hb.block wb (Xa.1 h).1).trans h
theorem WB.facts{w:World}{wb:Nat}{q:Bool}{us ps ts:Value}(h:WB w wb q us ps ts):w.cell? ⟨wb,0,none⟩=some (.bool q)∧w.cell? ⟨wb,1,none⟩=some us∧w.cell? ⟨wb,2,none⟩=some ps∧w.cell? ⟨wb,3,none⟩=some ts∧wb<w.heap.size:=by
 have hl:=(Xa.1 h).1;unfold WB at h
 refine⟨?_,?_,?_,?_,hl⟩<;>simp[World.cell?,h]
theorem WB.free{w:World}{wb:Nat}{q:Bool}{us ps ts:Value}(h:WB w wb q us ps ts)(i:Nat):w.frozen? ⟨wb,i,none⟩=false:=by
 unfold WB at h
 simp[World.frozen?,h]
theorem ZrY:(Tryz.prog.info? 92).map (fun i=>(i.zero,i.size,i.bytes))=some (some (.agg #[.slice none 0 0,.slice none 0 0]),2,48):=by kernel_rfl
theorem ZrZ{ops:Array Oper}{rest:List Oper}{o:Oper}{a:Act}{Q:Exit→Act→World→Prop}(w:World)(x y:Value)(hx1:x.oneCell'=true)(hy1:y.oneCell'=true)
  (hgd:o.guard=none) (s z:Operand) (ho:o.op=.call { callee:=.builtin .append,args:=#[s,z],argTypes:=#[40,40] })
  (hs:a.eval s=.slice none 0 0) (hz:a.eval z=.slice (some ⟨w.heap.size,0,none⟩) 1 1)
  (h:∀ao n c w',Nx w w'→wpList Tryz.prog ops Q rest (a.put o.dst (.slice ao n c)) w'):
  wpList Tryz.prog ops Q (o::rest) a (w.alloc (.cells #[x,y] 92)):=by
 obtain⟨i,hi,hz0,hz1,hz2⟩:=info_parts ZrY
 refine wpList_append_own _ hgd s z 40 ho w.heap.size 92 i _ 2 48 Tryz.underlying40 hi hz0 hz1 hz2 rfl (by decide) (.slice none 0 0) 0 [] hs (World.ownsRow_nil _ _ _ _) ⟨w.heap.size,0,none⟩ 1 1 [x,y] hz rfl (Zd0 (by simp) (by simp)) (by simp[hx1,hy1]) (by decide) (by decide) (by simp) ?_
 intro v' w' q1 q2 _
 have hv:∃ao n c,v'=.slice ao n c:=by
  obtain⟨-,⟨rfl,-⟩|⟨g,cap,cur,rfl,-⟩⟩:=q1
  ·exact⟨_,_,_,rfl⟩
  ·exact⟨_,_,_,rfl⟩
 obtain⟨ao,n,c,rfl⟩:=hv
 refine h ao n c w' ⟨q2.os,q2.tape,q2.output,Xc (by simp) q2.size,fun k hk=>(q2.block k (by simp;omega) (by simp[Value.ownBlock])).trans (heap_alloc_old w _ hk)⟩
theorem ZoR(wb pp pb ub rb:Nat)(q:Bool)(us ts:Value)(r:Rc)(u:U)(bs:LA)(R:RR)(rs:LA)(v:Value)(ps:List Pq)(w:World)(hw:WB w wb q us (.slice none 0 0) ts)(hp:PairB w pp pb ub)(hb:Both w u pb ub rb r bs R rs v ps):Calls Tryz.prog 23 #[.pointer (some ⟨wb,0,none⟩),.pointer (some ⟨pp,0,none⟩)] w fun e w'=>e=.returned (.bool true)∧But wb w w':=by
 have HW:=Za hw;have HP:=Za hp;have HB:=Za hb;have hc:=Za1 hb.list (Zjr hb.rc)
 have hnl:∀w',(binOp .eql 68 (.slice none 0 0) (.slice none 0 0)).run Tryz.prog w'=.ok (.bool true) w':=fun w'=>by first|exact Lib.run_eql_slice_nil w' _ _ _ _ _ _ _ Tryz.underlying68|exact run_eql_slice_nil w' _ _ _ _ _ Tryz.underlying68
 obtain⟨p0,p1⟩:=hp.cells;clear hw hp hb
 go_enter Tryz.func23,Tryz.ntmps23
 go_wp2_with fail
 refine(ZuK pb r u bs _ HB.out.url HB.out.rc).mono ?_
 rintro e w1 ⟨l,ps1,rfl,hl1,hm1,hn1⟩;have hps:ps1=ps:=Zvs (hm1.trans HB.out.list.symm);subst hps;have HL:=Za hl1;have HLA:=Za (hl1.at hc);have HN1:=Za hn1;have HB1:=Za (HB.out.on hn1);obtain⟨p0',p1'⟩:=(HP.out.on hn1).cells;obtain⟨lo,lc,hle⟩:=hl1.slice;clear hl1 hm1 hn1 p0 p1;subst hle;go_wp2_with fail
 refine(ZkC ub rb v ps1 _ HB1.out.ref HB1.out.pl).mono ?_
 rintro e w' ⟨rfl,rfl⟩;obtain⟨ao,cap,hve,hlc,hcap,hnone,hsome⟩:=HB1.out.pl;subst hve;unfold maxLen at hcap;go_wp2_with fail
 refine(Zjs _ _ ps1 ps1 _ HLA.out HB1.out.pl).mono ?_
 rintro e w2 ⟨rfl,hn2⟩;rw[decide_eq_true (rfl:ps1=ps1)];have HN2:=Za (HN1.out.then hn2)
 have HR2:Hid (∀a,ao=some a→∃b off,a=⟨b,off,none⟩∧RowP w2 b off ps1):=Za (fun a ha=>by obtain⟨b,off,e1,hr⟩:=hsome a ha;exact⟨b,off,e1,hr.on hn2⟩)
 have HL2:=Za (HL.out.on hn2);clear hn2 hsome p0' p1';rcases Xl ps1.length with h0|hpos
 ·have hnil:=Xb h0
  subst hnil
  have hlv:lo=none∧lc=0:=by
   rcases HL2.out with⟨-,h⟩|⟨h,-⟩
   ·simp only[Value.slice.injEq]at h
    exact⟨h.1,h.2.2⟩
   ·exact absurd h (by decide)
  obtain⟨rfl,rfl⟩:=hlv;simp only[Xh]at *
  cases ao with
  | none=>
   obtain⟨-,rfl⟩:=hnone rfl;obtain⟨i0,hi0,hi1⟩:=Zzr
   go_wp2_with (at_builtin;go_must (refine wpList_append_own_none rfl _ _ 68 rfl w2.heap.size 113 i0 2 Tryz.underlying68 hi0 (.slice none 0 0) 0 [] rfl (World.ownsRow_nil _ _ _ _) rfl ?_))
   go_ret;exact⟨rfl,But.nx HN2.out⟩
  | some a0=>
   obtain⟨b,off,rfl,hr⟩:=HR2.out a0 rfl
   go_wp2_with (at_builtin;go_must (refine ZoJ w2 rfl _ _ rfl rfl b off cap [] rfl hr (by decide) ?_;intro v3 w3 ho3 hn3;have HN3:=Za (HN2.out.then hn3);obtain⟨ao3,cp3,hv3⟩:=Za7 ho3;subst hv3;clear ho3 hn3))
   go_ret;exact⟨rfl,But.nx HN3.out⟩
 ·obtain⟨a,ha⟩:=Zc2 hpos hnone
  subst ha;obtain⟨b,off,rfl,hr⟩:=HR2.out a rfl
  have hlv:∃nb,lo=some ⟨nb,0,none⟩∧lc=ps1.length:=by
   rcases HL2.out with⟨h,-⟩|⟨-,nb,-,h,-⟩
   ·rw[h]at hpos;exact absurd hpos (by decide)
   ·simp only[Value.slice.injEq]at h
    exact⟨nb,h.1,h.2.2⟩
  obtain⟨nb,rfl,rfl⟩:=hlv
  have hgt:decide ((0:Int)<(ps1.length:Int))=true:=decide_eq_true (by omega)
  have hee:((ps1.length:Int)==(ps1.length:Int))=true:=by simp
  go_upto_region 5 with(at_builtin;go_must (refine ZoJ w2 rfl _ _ rfl rfl b off cap ps1 rfl hr (by omega) ?_;intro v3 w3 ho3 hn3;have HN3:=Za (HN2.out.then hn3);obtain⟨ao3,cp3,hv3⟩:=Za7 ho3;subst hv3;clear ho3 hn3))
  obtain⟨q0,q1,q2,q3,hwl⟩:=(HW.out.on HN3.out).facts
  go_wp2_with (at_builtin;go_must (refine ZrZ w3 _ _ rfl rfl rfl _ _ rfl rfl rfl ?_;intro ao4 n4 c4 w4 hn4;have HN4:=Za (HN3.out.then hn4);have HW4:=Za (HW.out.on (HN3.out.then hn4));obtain⟨q0',q1',q2',q3',hwl'⟩:=HW4.out.facts;have f2:=HW4.out.free 2;clear hn4))
  go_ret;exact⟨rfl,(But.nx HN4.out).set 2 _⟩
theorem Zu5:∀ {a b:LA},a.map tl=b.map tl→a=b:=by
 intro a
 induction a with
 | nil=>intro b h;cases b with|nil=>rfl|cons _ _=>cases h
 | cons x a ih=>
  intro b h
  cases b with
  | nil=>cases h
  | cons y b=>
   simp only[Xi,List.cons.injEq]at h;rw[Zie h.1,ih h.2]
theorem StrIs.at{w:World}{base:Nat}{v:Value}{ss:LA}(h:StrIs w base v ss)(hl:ss.length≤1000000):ZbB w v ss:=by
 rcases h with⟨rfl,rfl⟩|⟨-,nb,-,rfl,hf⟩
 ·exact SlAt.nil w
 ·refine⟨some ⟨nb,0,none⟩,ss.length,rfl,Xm _,by unfold maxLen;omega,(fun g=>by cases g),fun a ha=>⟨nb,0,(Option.some.inj ha).symm,_,_,hf,fun i hi=>?_⟩⟩
  simp[hi]
theorem StrIs.on{w w':World}{base:Nat}{v:Value}{ss:LA}(h:StrIs w base v ss)(hb:Nx w w'):StrIs w' base v ss:=by
 rcases h with g|⟨h1,nb,h2,h3,h4⟩
 ·exact Or.inl g
 ·exact Or.inr ⟨h1,nb,h2,h3,h4.on hb⟩
theorem Zu6:(Tryz.prog.info? 83).map (fun i=>(i.zero,i.size,i.bytes))=some (some (.agg #[.slice none 0 0,.slice none 0 0]),2,48):=by kernel_rfl
theorem Zu7{ops:Array Oper}{rest:List Oper}{o:Oper}{a:Act}{Q:Exit→Act→World→Prop}(w:World)(x y:Value)(hx1:x.oneCell'=true)(hy1:y.oneCell'=true)
  (hgd:o.guard=none) (s z:Operand) (ho:o.op=.call { callee:=.builtin .append,args:=#[s,z],argTypes:=#[41,41] })
  (hs:a.eval s=.slice none 0 0) (hz:a.eval z=.slice (some ⟨w.heap.size,0,none⟩) 1 1)
  (h:∀ao n c w',Nx w w'→wpList Tryz.prog ops Q rest (a.put o.dst (.slice ao n c)) w'):
  wpList Tryz.prog ops Q (o::rest) a (w.alloc (.cells #[x,y] 83)):=by
 obtain⟨i,hi,hz0,hz1,hz2⟩:=info_parts Zu6
 refine wpList_append_own _ hgd s z 41 ho w.heap.size 83 i _ 2 48 Tryz.underlying41 hi hz0 hz1 hz2 rfl (by decide) (.slice none 0 0) 0 [] hs (World.ownsRow_nil _ _ _ _) ⟨w.heap.size,0,none⟩ 1 1 [x,y] hz rfl (Zd0 (by simp) (by simp)) (by simp[hx1,hy1]) (by decide) (by decide) (by simp) ?_
 intro v' w' q1 q2 _
 have hv:∃ao n c,v'=.slice ao n c:=by
  obtain⟨-,⟨rfl,-⟩|⟨g,cap,cur,rfl,-⟩⟩:=q1
  ·exact⟨_,_,_,rfl⟩
  ·exact⟨_,_,_,rfl⟩
 obtain⟨ao,n,c,rfl⟩:=hv
 refine h ao n c w' ⟨q2.os,q2.tape,q2.output,Xc (by simp) q2.size,fun k hk=>(q2.block k (by simp;omega) (by simp[Value.ownBlock])).trans (heap_alloc_old w _ hk)⟩
theorem Zqe{ops:Array Oper}{rest:List Oper}{o:Oper}{a:Act}{Q:Exit→Act→World→Prop}(w:World)
  (hgd:o.guard=none) (s x:Operand) (ho:o.op=.call { callee:=.builtin .append,args:=#[s,x],argTypes:=#[78,78] })
  (hs:a.eval s=.slice none 0 0) (b off c:Nat) (ys:LA) (hx:a.eval x=.slice (some ⟨b,off,none⟩) ys.length c) (hrow:RowAt 9 Value.string w b off ys) (hn:ys.length<1000000000000)
  (h:∀ao n c w',Nx w w'→wpList Tryz.prog ops Q rest (a.put o.dst (.slice ao n c)) w'):wpList Tryz.prog ops Q (o::rest) a w:=by
 obtain⟨i,hi,hz0,hz1,hz2⟩:=info_parts Zlr
 refine wpList_append_own w hgd s x 78 ho w.heap.size 9 i _ 1 16 Tryz.underlying78 hi hz0 hz1 hz2 rfl (by decide) (.slice none 0 0) 0 [] hs (World.ownsRow_nil _ _ _ _) ⟨b,off,none⟩ ys.length c (ys.map Value.string) hx (by simp) (fun j u hu=>?_) (fun u hu=>?_) (by unfold maxLen;omega) (by omega) (Xm _) ?_
 ·obtain⟨hj,rfl⟩:=List.getElem?_eq_some_iff.1 hu
  rw[Xe]at hj;rw[Addr.add_lit,List.getElem_map];exact hrow.cell hj
 ·obtain⟨p,-,rfl⟩:=Xg.1 hu
  rfl
 ·intro v' w' q1 q2 _
  have hv:∃ao n c,v'=.slice ao n c:=by
   obtain⟨-,⟨rfl,-⟩|⟨g,cap,cur,rfl,-⟩⟩:=q1
   ·exact⟨_,_,_,rfl⟩
   ·exact⟨_,_,_,rfl⟩
  obtain⟨ao,n,c,rfl⟩:=hv
  exact h ao n c w' ⟨q2.os,q2.tape,q2.output,q2.size,fun k hk=>q2.block k hk (by simp[Value.ownBlock])⟩
def OpB(w:World)(ob:Nat)(k a b c:Int)(s t:ByteArray):Prop:=w.heap[ob]?=some (Obj.cells #[.int .i64 k,.int .i64 a,.int .i64 b,.int .i64 c,.string s,.string t] 45 (0,0))
theorem OpB.on{w w':World}{ob:Nat}{k a b c:Int}{s t:BA}(h:OpB w ob k a b c s t)(hb:Nx w w'):OpB w' ob k a b c s t:=(hb.block ob (Xa.1 h).1).trans h
theorem OpB.cells{w:World}{ob:Nat}{k a b c:Int}{s t:BA}(h:OpB w ob k a b c s t):w.cell? ⟨ob,2,none⟩=some (.int .i64 b)∧w.cell? ⟨ob,4,none⟩=some (.string s)∧w.cell? ⟨ob,5,none⟩=some (.string t):=by
 unfold OpB at h
 refine⟨?_,?_,?_⟩<;>simp[World.cell?,h]
theorem WB.s3{w:World}{wb:Nat}{q:Bool}{us ps ts:Value}(h:WB w wb q us ps ts)(x:Value):WB (w.setCell ⟨wb,3,none⟩ x) wb q us ps x:=by
 unfold WB at *;simp only[World.setCell,Array.getElem?_modify,if_pos,h]
 rfl
theorem StrIs.slice{w:World}{base:Nat}{v:Value}{ss:LA}(h:StrIs w base v ss):∃ao cap,v=.slice ao ss.length cap:=by
 rcases h with⟨rfl,rfl⟩|⟨-,nb,-,rfl,-⟩
 ·exact⟨none,0,rfl⟩
 ·exact⟨_,_,rfl⟩
theorem Zr0(wb pp pb ub rb:Nat)(q:Bool)(us pz:Value)(r:Rc)(u:U)(bs:LA)(R:RR)(rs:LA)(v:Value)(ps:List Pq)(k a c:Int)(s t:BA)(w:World)(hw:WB w wb q us pz (.slice none 0 0))(hp:PairB w pp pb ub)(hb:Both w u pb ub rb r bs R rs v ps)(hs:s.size≤160)(ht:t.size≤160):Calls Tryz.prog 18 #[.pointer (some ⟨wb,0,none⟩),.pointer (some ⟨pp,0,none⟩),.agg #[.int .i64 k,.int .i64 a,.int .i64 0,.int .i64 c,.string s,.string t]] w fun e w'=>e=.returned (.bool true)∧But wb w w'∧∃ts',WB w' wb q us pz ts':=by
 have HW:=Za hw;have HP:=Za hp;have HB:=Za hb;have hc:=Za1 hb.list (Zjr hb.rc);have HOB0:=Za (show OpB (w.alloc (Obj.cells #[.int .i64 k,.int .i64 a,.int .i64 0,.int .i64 c,.string s,.string t] 45)) w.heap.size k a 0 c s t from heap_alloc_new w _);have HN0:=Za (show Nx w (w.alloc (Obj.cells #[.int .i64 k,.int .i64 a,.int .i64 0,.int .i64 c,.string s,.string t] 45))from Nx.rfl.alloc _);obtain⟨F,hF⟩:∃F,(Zs u.q).filter (ZhF (clean (tl s)) [] false)=F:=⟨_,rfl⟩;obtain⟨G,hG⟩:∃G,decide (0<((Zs u.q).filter (ZhF (clean (tl s)) (clean (tl t)) false)).length)=G:=⟨_,rfl⟩
 have hFl:F.length≤1000000:=by rw[←hF,←hb.list];exact Xc (List.length_filter_le _ _) (by rw[Xe];exact hc)
 have HV1:Hid (∀wz,Nx w wz→Calls Tryz.prog 41 #[.pointer (some ⟨pb,0,none⟩),.string s] wz fun e w'=>∃t:BA,e=.returned (.tuple #[.string t,.bool (decide (0<F.length))])∧tl t=Zqa F∧Nx wz w'):=Za (fun wz hz=>by rw[←hF];exact ZrO pb r u bs s wz (HB.out.on hz).url (HB.out.on hz).rc hs)
 have HV2:Hid (∀wz,Nx w wz→Calls Tryz.prog 42 #[.pointer (some ⟨pb,0,none⟩),.string s] wz fun e w'=>∃x ss,e=.returned x∧StrIs w' wz.heap.size x ss∧ss.map tl=F.map (·.2)∧Nx wz w'):=Za (fun wz hz=>by rw[←hF];exact ZoG pb r u bs s wz (HB.out.on hz).url (HB.out.on hz).rc hs)
 have HV3:Hid (∀wz,Nx w wz→Calls Tryz.prog 43 #[.pointer (some ⟨pb,0,none⟩),.string s,.string t,.bool false] wz fun e w'=>e=.returned (.bool G)∧Nx wz w'):=Za (fun wz hz=>by rw[←hG];exact Zxi pb r u bs s t false wz (HB.out.on hz).url (HB.out.on hz).rc hs ht)
 have HV4:Hid (∀wz,Nx w wz→Calls Tryz.prog 44 #[.pointer (some ⟨ub,0,none⟩),.string s] wz fun e w'=>∃x ss,e=.returned x∧ZcE w' wz.heap.size x ss∧ss.map tl=F.map (·.2)∧ss.length≤1000000∧Nx wz w'):=Za (fun wz hz=>by rw[←hF,←HB.out.list];exact ZoL ub rb v ps s wz (HB.out.on hz).ref (HB.out.on hz).pl hc hs)
 have HV5:Hid (∀wz,Nx w wz→Calls Tryz.prog 45 #[.pointer (some ⟨ub,0,none⟩),.string s,.string t,.bool false] wz fun e w'=>e=.returned (.bool G)∧Nx wz w'):=Za (fun wz hz=>by rw[←hG,←HB.out.list];exact Zxl ub rb v ps s t false wz (HB.out.on hz).ref (HB.out.on hz).pl hc hs ht)
 have hnl:∀w',(binOp .eql 78 (.slice none 0 0) (.slice none 0 0)).run Tryz.prog w'=.ok (.bool true) w':=fun w'=>by first|exact Lib.run_eql_slice_nil w' _ _ _ _ _ _ _ Tryz.underlying78|exact run_eql_slice_nil w' _ _ _ _ _ Tryz.underlying78
 clear hw hp hb hF hG hs ht hc
 go_enter Tryz.func18,Tryz.ntmps18
 go_upto_region 1 with fail;generalize w.alloc (Obj.cells #[.int .i64 k,.int .i64 a,.int .i64 0,.int .i64 c,.string s,.string t] 45)=w0 at *;obtain⟨p0,p1⟩:=(HP.out.on HN0.out).cells;obtain⟨o2,o4,o5⟩:=HOB0.out.cells
 go_cut [7,8]from 16 (fun x y wx=>(∃tv:BA,x=.string tv∧y=.bool (decide (0<F.length))∧tl tv=Zqa F)∧Nx w0 wx)
 case first=>
  have HK:Hid (∀w',Nx w0 w'→w'.cell? ⟨pp,0,none⟩=some (.pointer (some ⟨pb,0,none⟩))∧w'.cell? ⟨pp,1,none⟩=some (.pointer (some ⟨ub,0,none⟩))∧w'.cell? ⟨w.heap.size,2,none⟩=some (.int .i64 0)∧w'.cell? ⟨w.heap.size,4,none⟩=some (.string s)∧w'.cell? ⟨w.heap.size,5,none⟩=some (.string t)):=Za (fun w' hx=>by obtain⟨g0,g1⟩:=(HP.out.on (HN0.out.then hx)).cells;obtain⟨h2,h4,h5⟩:=(HOB0.out.on hx).cells;exact⟨g0,g1,h2,h4,h5⟩)
  go_region_held (fun w'=>w'.cell? ⟨pp,0,none⟩=some (.pointer (some ⟨pb,0,none⟩))∧w'.cell? ⟨pp,1,none⟩=some (.pointer (some ⟨ub,0,none⟩))∧w'.cell? ⟨w.heap.size,2,none⟩=some (.int .i64 0)∧w'.cell? ⟨w.heap.size,4,none⟩=some (.string s)∧w'.cell? ⟨w.heap.size,5,none⟩=some (.string t)) (first|exact⟨p0,p1,o2,o4,o5⟩|exact HK.out _ HNZ.out) ((go_at_call 41;refine(HV1.out _ (by first|exact HN0.out.then Nx.rfl.drew|exact HN0.out)).mono ?_;rintro e wz ⟨tv,rfl,htv,hnz⟩;have HTV:=Za htv;clear htv;have HNZ:=Za (show Nx w0 wz from Nx.then (show Nx w0 _ by first|exact Nx.rfl.drew|exact Nx.rfl) hnz);clear hnz))
  all_goals go_wp2_with fail
  all_goals go_meet
  all_goals exact⟨⟨_,rfl,rfl,HTV.out⟩,HNZ.out⟩
 case rest=>
  obtain⟨⟨tv,rfl,rfl,htv⟩,hnn⟩:=hcut;obtain⟨w1,hwn⟩:∃wn,wn=wc:=⟨_,rfl⟩;subst hwn;have HTV:=Za htv;clear htv;have HN1:=Za (HN0.out.then hnn);have HOB1:=Za (HOB0.out.on hnn);clear HOB0 p0 p1 o2 o4 o5;obtain⟨p0,p1⟩:=(HP.out.on HN1.out).cells;obtain⟨o2,o4,o5⟩:=HOB1.out.cells;go_upto_region 2 with fail
  go_cut [9]from 26 (fun x wx=>(∃ss,StrIs wx w.heap.size x ss∧ss.map tl=F.map (·.2))∧Nx w1 wx)
  case first=>
   have HK:Hid (∀w',Nx w1 w'→w'.cell? ⟨pp,0,none⟩=some (.pointer (some ⟨pb,0,none⟩))∧w'.cell? ⟨pp,1,none⟩=some (.pointer (some ⟨ub,0,none⟩))∧w'.cell? ⟨w.heap.size,2,none⟩=some (.int .i64 0)∧w'.cell? ⟨w.heap.size,4,none⟩=some (.string s)∧w'.cell? ⟨w.heap.size,5,none⟩=some (.string t)):=Za (fun w' hx=>by obtain⟨g0,g1⟩:=(HP.out.on (HN1.out.then hx)).cells;obtain⟨h2,h4,h5⟩:=(HOB1.out.on hx).cells;exact⟨g0,g1,h2,h4,h5⟩)
   go_region_held (fun w'=>w'.cell? ⟨pp,0,none⟩=some (.pointer (some ⟨pb,0,none⟩))∧w'.cell? ⟨pp,1,none⟩=some (.pointer (some ⟨ub,0,none⟩))∧w'.cell? ⟨w.heap.size,2,none⟩=some (.int .i64 0)∧w'.cell? ⟨w.heap.size,4,none⟩=some (.string s)∧w'.cell? ⟨w.heap.size,5,none⟩=some (.string t)) (first|exact⟨p0,p1,o2,o4,o5⟩|exact HK.out _ HNZ.out) ((go_at_call 42;refine(HV2.out _ (by first|exact HN1.out.then Nx.rfl.drew|exact HN1.out)).mono ?_;rintro e wz ⟨x,ss,rfl,hss,hst,hnz⟩;have HSS:=Za hss;have HST:=Za hst;obtain⟨xo,xc,hxe⟩:=hss.slice;subst hxe;clear hss hst;have HNZ:=Za (show Nx w1 wz from Nx.then (show Nx w1 _ by first|exact Nx.rfl.drew|exact Nx.rfl) hnz);clear hnz))
   all_goals go_wp2_with fail
   all_goals go_meet
   all_goals exact⟨⟨_,by rcases HSS.out with g|⟨g1,nb,g2,g3,g4⟩;exact Or.inl g;exact Or.inr ⟨g1,nb,Xc HN1.out.size g2,g3,g4⟩,HST.out⟩,HNZ.out⟩
  case rest=>
   obtain⟨⟨ss,hss,hst⟩,hnn⟩:=hcut;obtain⟨w2,hwn⟩:∃wn,wn=wc:=⟨_,rfl⟩;subst hwn;have HSS:=Za hss;have HST:=Za hst;obtain⟨lo,lc,hle⟩:=hss.slice;subst hle;clear hss hst;have HN2:=Za (HN1.out.then hnn);have HOB2:=Za (HOB1.out.on hnn);clear HOB1 p0 p1 o2 o4 o5;obtain⟨p0,p1⟩:=(HP.out.on HN2.out).cells;obtain⟨o2,o4,o5⟩:=HOB2.out.cells;go_upto_region 3 with fail
   go_cut [10]from 33 (fun x wx=>x=.bool G∧Nx w2 wx)
   case first=>
    have HK:Hid (∀w',Nx w2 w'→w'.cell? ⟨pp,0,none⟩=some (.pointer (some ⟨pb,0,none⟩))∧w'.cell? ⟨pp,1,none⟩=some (.pointer (some ⟨ub,0,none⟩))∧w'.cell? ⟨w.heap.size,2,none⟩=some (.int .i64 0)∧w'.cell? ⟨w.heap.size,4,none⟩=some (.string s)∧w'.cell? ⟨w.heap.size,5,none⟩=some (.string t)):=Za (fun w' hx=>by obtain⟨g0,g1⟩:=(HP.out.on (HN2.out.then hx)).cells;obtain⟨h2,h4,h5⟩:=(HOB2.out.on hx).cells;exact⟨g0,g1,h2,h4,h5⟩)
    go_region_held (fun w'=>w'.cell? ⟨pp,0,none⟩=some (.pointer (some ⟨pb,0,none⟩))∧w'.cell? ⟨pp,1,none⟩=some (.pointer (some ⟨ub,0,none⟩))∧w'.cell? ⟨w.heap.size,2,none⟩=some (.int .i64 0)∧w'.cell? ⟨w.heap.size,4,none⟩=some (.string s)∧w'.cell? ⟨w.heap.size,5,none⟩=some (.string t)) (first|exact⟨p0,p1,o2,o4,o5⟩|exact HK.out _ HNZ.out) ((go_at_call 43;refine(HV3.out _ (by first|exact HN2.out.then Nx.rfl.drew|exact HN2.out)).mono ?_;rintro e wz ⟨rfl,hnz⟩;skip;have HNZ:=Za (show Nx w2 wz from Nx.then (show Nx w2 _ by first|exact Nx.rfl.drew|exact Nx.rfl) hnz);clear hnz))
    all_goals go_wp2_with fail
    all_goals go_meet
    all_goals exact⟨rfl,HNZ.out⟩
   case rest=>
    obtain⟨rfl,hnn⟩:=hcut;obtain⟨w3,hwn⟩:∃wn,wn=wc:=⟨_,rfl⟩;subst hwn;have HSS3:=Za (HSS.out.on hnn);have HN3:=Za (HN2.out.then hnn);have HOB3:=Za (HOB2.out.on hnn);clear HOB2 p0 p1 o2 o4 o5;obtain⟨p0,p1⟩:=(HP.out.on HN3.out).cells;obtain⟨o2,o4,o5⟩:=HOB3.out.cells;go_upto_region 4 with fail
    go_cut [11]from 45 (fun x wx=>(∃ss2,ZbB wx x ss2∧ss2.map tl=F.map (·.2))∧Nx w3 wx)
    case first=>
     have HK:Hid (∀w',Nx w3 w'→w'.cell? ⟨pp,0,none⟩=some (.pointer (some ⟨pb,0,none⟩))∧w'.cell? ⟨pp,1,none⟩=some (.pointer (some ⟨ub,0,none⟩))∧w'.cell? ⟨w.heap.size,2,none⟩=some (.int .i64 0)∧w'.cell? ⟨w.heap.size,4,none⟩=some (.string s)∧w'.cell? ⟨w.heap.size,5,none⟩=some (.string t)):=Za (fun w' hx=>by obtain⟨g0,g1⟩:=(HP.out.on (HN3.out.then hx)).cells;obtain⟨h2,h4,h5⟩:=(HOB3.out.on hx).cells;exact⟨g0,g1,h2,h4,h5⟩)
     go_region_held (fun w'=>w'.cell? ⟨pp,0,none⟩=some (.pointer (some ⟨pb,0,none⟩))∧w'.cell? ⟨pp,1,none⟩=some (.pointer (some ⟨ub,0,none⟩))∧w'.cell? ⟨w.heap.size,2,none⟩=some (.int .i64 0)∧w'.cell? ⟨w.heap.size,4,none⟩=some (.string s)∧w'.cell? ⟨w.heap.size,5,none⟩=some (.string t)) (first|exact⟨p0,p1,o2,o4,o5⟩|exact HK.out _ HNZ.out) ((go_at_call 44;refine(HV4.out _ (by first|exact HN3.out.then Nx.rfl.drew|exact HN3.out)).mono ?_;rintro e wz ⟨x,ss2,rfl,hso,hst2,hsl,hnz⟩;have HSO:=Za (ZQ hso);have HST2:=Za hst2;obtain⟨mo,mc,hme⟩:=ZrV hso;subst hme;clear hso hst2;have HNZ:=Za (show Nx w3 wz from Nx.then (show Nx w3 _ by first|exact Nx.rfl.drew|exact Nx.rfl) hnz);clear hnz))
     all_goals go_wp2_with fail
     all_goals go_meet
     all_goals exact⟨⟨_,HSO.out,HST2.out⟩,HNZ.out⟩
    case rest=>
     obtain⟨⟨ss2,hso,hst2⟩,hnn⟩:=hcut;obtain⟨w4,hwn⟩:∃wn,wn=wc:=⟨_,rfl⟩;subst hwn;have hse:ss2=ss:=Zu5 (hst2.trans HST.out.symm);subst hse;have HSO:=Za hso
     obtain⟨mo,mc,hme⟩:∃mo mc,_=Value.slice mo ss2.length mc:=by obtain⟨mo,mc,h,-⟩:=hso;exact⟨mo,mc,h⟩
     subst hme;clear hso hst2;have HSS4:=Za (HSS3.out.on hnn);have HN4:=Za (HN3.out.then hnn);have HOB4:=Za (HOB3.out.on hnn);clear HOB3 p0 p1 o2 o4 o5;obtain⟨p0,p1⟩:=(HP.out.on HN4.out).cells;obtain⟨o2,o4,o5⟩:=HOB4.out.cells;go_upto_region 5 with fail
     go_cut [12]from 52 (fun x wx=>x=.bool G∧Nx w4 wx)
     case first=>
      have HK:Hid (∀w',Nx w4 w'→w'.cell? ⟨pp,0,none⟩=some (.pointer (some ⟨pb,0,none⟩))∧w'.cell? ⟨pp,1,none⟩=some (.pointer (some ⟨ub,0,none⟩))∧w'.cell? ⟨w.heap.size,2,none⟩=some (.int .i64 0)∧w'.cell? ⟨w.heap.size,4,none⟩=some (.string s)∧w'.cell? ⟨w.heap.size,5,none⟩=some (.string t)):=Za (fun w' hx=>by obtain⟨g0,g1⟩:=(HP.out.on (HN4.out.then hx)).cells;obtain⟨h2,h4,h5⟩:=(HOB4.out.on hx).cells;exact⟨g0,g1,h2,h4,h5⟩)
      go_region_held (fun w'=>w'.cell? ⟨pp,0,none⟩=some (.pointer (some ⟨pb,0,none⟩))∧w'.cell? ⟨pp,1,none⟩=some (.pointer (some ⟨ub,0,none⟩))∧w'.cell? ⟨w.heap.size,2,none⟩=some (.int .i64 0)∧w'.cell? ⟨w.heap.size,4,none⟩=some (.string s)∧w'.cell? ⟨w.heap.size,5,none⟩=some (.string t)) (first|exact⟨p0,p1,o2,o4,o5⟩|exact HK.out _ HNZ.out) ((go_at_call 45;refine(HV5.out _ (by first|exact HN4.out.then Nx.rfl.drew|exact HN4.out)).mono ?_;rintro e wz ⟨rfl,hnz⟩;skip;have HNZ:=Za (show Nx w4 wz from Nx.then (show Nx w4 _ by first|exact Nx.rfl.drew|exact Nx.rfl) hnz);clear hnz))
      all_goals go_wp2_with fail
      all_goals go_meet
      all_goals exact⟨rfl,HNZ.out⟩
     case rest=>
      obtain⟨rfl,hnn⟩:=hcut;obtain⟨w5,hwn⟩:∃wn,wn=wc:=⟨_,rfl⟩;subst hwn;have HSS5:=Za (HSS4.out.on hnn);have HSO5:=Za (HSO.out.on hnn);have HN5:=Za (HN4.out.then hnn);have HOB5:=Za (HOB4.out.on hnn);clear HOB4 p0 p1 o2 o4 o5
      have HLEN:=Za (show ss2.length=F.length by have e:=congrArg List.length HST.out;rw[Xe,Xe]at e;exact e)
      have hGG:(G==G)=true:=by simp
      have hsl:ss2.length≤1000000:=by rw[HLEN.out];exact hFl
      have HLT:=Za (HSS5.out.at hsl);clear HB HP HV1 HV2 HV3 HV4 HV5 HSS HSS3 HSS4 HSO HOB5;rcases Xl ss2.length with h0|hpos
      ·have hnil:=Xb h0
       subst hnil
       have hF0:F=[]:=Xb (by rw[←HLEN.out];rfl)
       subst hF0;have htv:tv=⟨#[]⟩:=Zie HTV.out;subst htv
       have hlv:lo=none∧lc=0:=by
        rcases HSS5.out with⟨-,h⟩|⟨h,-⟩
        ·simp only[Value.slice.injEq]at h
         exact⟨h.1,h.2.2⟩
        ·exact absurd h (by decide)
       obtain⟨rfl,rfl⟩:=hlv;obtain⟨mo',mc',hme,hmlc,hmcap,hmnone,hmsome⟩:=id HSO5.out;simp only[Value.slice.injEq]at hme;obtain⟨rfl,-,rfl⟩:=hme;simp only[Xh]at *;go_wp2_with fail
       refine(Zgu _ _ [] [] _ HLT.out HSO5.out).mono ?_
       rintro e w6 ⟨rfl,hn6⟩;rw[decide_eq_true (rfl:([]:LA)=[])];have HN6:=Za (HN5.out.then hn6)
       cases mo with
       | none=>
        obtain⟨-,rfl⟩:=hmnone rfl;obtain⟨i0,hi0,-,-,-⟩:=info_parts Zlr;clear hn6
        go_wp2_with (at_builtin;go_must (refine wpList_append_own_none rfl _ _ 78 rfl w6.heap.size 9 i0 1 Tryz.underlying78 hi0 (.slice none 0 0) 0 [] rfl (World.ownsRow_nil _ _ _ _) rfl ?_))
        go_ret;exact⟨rfl,But.nx HN6.out,_,HW.out.on HN6.out⟩
       | some a0=>
        obtain⟨b,off,rfl,hr⟩:=hmsome a0 rfl;have hr6:=hr.on hn6;clear hn6
        go_wp2_with (at_builtin;go_must (refine Zqe w6 rfl _ _ rfl rfl b off mc [] rfl hr6 (by decide) ?_;intro ao7 n7 c7 w7 hn7;have HN7:=Za (HN6.out.then hn7);clear hn7))
        go_ret;exact⟨rfl,But.nx HN7.out,_,HW.out.on HN7.out⟩
      ·obtain⟨mo',mc',hme,hmlc,hmcap,hmnone,hmsome⟩:=id HSO5.out
       simp only[Value.slice.injEq]at hme;obtain⟨rfl,-,rfl⟩:=hme;obtain⟨a0,ha0⟩:=Zw hpos hmnone;subst ha0;obtain⟨b,off,rfl,hr⟩:=hmsome a0 rfl;have hck:=hr.cell hpos;simp only[Nat.add_zero]at hck;unfold maxLen at hmcap
       have htv:tv=ss2[0]:=Zie (by
        rw[HTV.out];have e:=HST.out
        cases F with
        | nil=>rw[HLEN.out]at hpos;exact absurd hpos (by decide)
        | cons f F'=>
         have e0:=congrArg (fun l=>l[0]?) e
         simp only[Xi,List.getElem?_cons_zero,List.getElem?_map,List.getElem?_eq_getElem hpos,Option.map_some,Option.some.injEq]at e0
         exact e0.symm)
       have hlv:∃nb,lo=some ⟨nb,0,none⟩∧lc=ss2.length:=by
        rcases HSS5.out with⟨h,-⟩|⟨-,nb,-,h,-⟩
        ·rw[h]at hpos;exact absurd hpos (by decide)
        ·simp only[Value.slice.injEq]at h
         exact⟨nb,h.1,h.2.2⟩
       obtain⟨nb,rfl,rfl⟩:=hlv
       have hFp:decide (0<F.length)=true:=decide_eq_true (by rw[←HLEN.out];exact hpos)
       have hgt:decide ((0:Int)<(ss2.length:Int))=true:=decide_eq_true (by omega)
       have hee:((ss2.length:Int)==(ss2.length:Int))=true:=by simp
       have hse2:(tv.toList==ss2[0].toList)=true:=by rw[htv];simp
       rw[hFp];clear hmnone hmsome htv;generalize ss2[0]=s0 at *;go_wp2_with fail
       refine(Zgu _ _ ss2 ss2 _ HLT.out HSO5.out).mono ?_
       rintro e w6 ⟨rfl,hn6⟩;rw[decide_eq_true (rfl:ss2=ss2)];have HN6:=Za (HN5.out.then hn6);have hr6:=hr.on hn6;clear hn6 hck hr
       go_upto_region 11 with(at_builtin;go_must (refine Zqe w6 rfl _ _ rfl rfl b off mc ss2 rfl hr6 (by omega) ?_;intro ao7 n7 c7 w7 hn7;have HN7:=Za (HN6.out.then hn7);clear hn7))
       obtain⟨q0,q1,q2,q3,hwl⟩:=(HW.out.on HN7.out).facts
       go_wp2_with (at_builtin;go_must (refine Zu7 w7 _ _ rfl rfl rfl _ _ rfl rfl rfl ?_;intro ao8 n8 c8 w8 hn8;have HN8:=Za (HN7.out.then hn8);have HW8:=Za (HW.out.on (HN7.out.then hn8));obtain⟨q0',q1',q2',q3',hwl'⟩:=HW8.out.facts;have f3:=HW8.out.free 3;clear hn8))
       go_ret;exact⟨rfl,(But.nx HN8.out).set 3 _,_,HW8.out.s3 _⟩
theorem Zm8(b:UInt8):(formByte b).length≤3:=by
 unfold formByte
 split
 ·decide
 ·unfold ZE
  split<;>simp
theorem ZhG{l:LB}(h:Cpt l):(ZaL l).length≤3*l.length:=by
 rw[ZcW h];clear h
 induction l with
 | nil=>exact Xf _
 | cons b r ih=>
  rw[List.flatMap_cons,Xk,Xd];have:=Zm8 b
  omega
theorem ZoS(b:UInt8):Pr (formByte b):=by
 unfold formByte
 split
 ·exact ZeP (by decide) (by decide)
 ·have h:=Zeh formB [b]
  rw[ZeQ]at h
  exact fun x hx=>h x (List.mem_append.2 (Or.inl hx))
theorem ZkF{l:LB}(h:Cpt l):Pr (ZaL l):=by rw[ZcW h];intro x hx;obtain⟨b,-,hb⟩:=List.mem_flatMap.1 hx;exact ZoS b x hb
theorem Zxn{c:UInt8}(hc1:32≤c.toNat)(hc2:c.toNat≤126):∀ {ls:List LB},(∀a∈ls,Pr a)→Pr (Za9 c ls):=by
 intro ls
 induction ls with
 | nil=>intro _;exact pr_nil
 | cons a r ih=>
  intro h
  show Pr (if r=[]then a else a++c::Za9 c r)
  split
  ·exact h a (by simp)
  ·exact ZeO (h a (by simp)) (Zix hc1 hc2 (ih (fun b hb=>h b (Xj _ hb))))
theorem ZoT{ps:List (LB×LB)}(h:∀p∈ps,Zr6 p):Pr (Zam ps):=by
 unfold Zam
 refine Zxn (by decide) (by decide) (fun a ha=>?_)
 obtain⟨p,hp,rfl⟩:=Xg.1 ha
 exact ZeO (ZkF (h p hp).1) (Zix (by decide) (by decide) (ZkF (h p hp).2))
def Zjt(ps:List (List UInt8×List UInt8)):Nat:=(ps.map fun p=>3*(p.1.length+p.2.length)+2).sum
theorem Zlv{ps:List (LB×LB)}(h:∀p∈ps,Zr6 p):(Zam ps).length≤Zjt ps:=by
 unfold Zam
 refine Xc (Zco _ _) ?_
 induction ps with
 | nil=>exact Xf _
 | cons p r ih=>
  rw[Xi,sumL_cons]
  have h1:=ZhG (h p (by simp)).1
  have h2:=ZhG (h p (by simp)).2
  have h3:=ih (fun q hq=>h q (Xj _ hq))
  have e:Zjt (p::r)=3*(p.1.length+p.2.length)+2+Zjt r:=by simp[Zjt]
  rw[e]
  have h4:(writePr p).length=(ZaL p.1).length+((ZaL p.2).length+1):=by unfold writePr;rw[Xk,Xd]
  omega
theorem wide_app(a b:List (LB×LB)):Zjt (a++b)=Zjt a+Zjt b:=by simp[Zjt]
theorem Zu8(lt:LB×LB→LB×LB→Bool)(S:List (LB×LB))(x:LB×LB):Zjt (Zf3 lt S x)=Zjt S+Zjt [x]:=by
 unfold Zf3;have e:=congrArg List.reverse (List.takeWhile_append_dropWhile (p:=lt x) (l:=S.reverse));rw[List.reverse_append,List.reverse_reverse]at e
 conv=>rhs;rw[←e]
 rw[wide_app,show x::(S.reverse.takeWhile (lt x)).reverse=[x]++(S.reverse.takeWhile (lt x)).reverse from rfl,wide_app,wide_app]
 omega
theorem Zu9(lt:LB×LB→LB×LB→Bool)(l:List (LB×LB)):Zjt (ZV lt l)=Zjt l:=by
 have key:∀(l S:List (LB×LB)),Zjt (l.foldl (Zf3 lt) S)=Zjt S+Zjt l:=by
  intro l
  induction l with
  | nil=>intro S;rfl
  | cons x r ih=>
   intro S;rw[List.foldl_cons,ih,Zu8,show x::r=[x]++r from rfl,wide_app]
   omega
 have h:=key l [];rw[show Zjt ([]:List (LB×LB))=0 from rfl,Nat.zero_add]at h;exact h
theorem Zxo(n:Int)(l:LB):(bcut (isB n) l).1.length+(bcut (isB n) l).2.1.length≤l.length:=by
 induction l with
 | nil=>exact Xf _
 | cons c r ih=>
  unfold bcut
  split
  ·simp
  ·simp only[Xd]
   omega
theorem Zva:∀ls:List LB,Zjt ((Zgy ls).map Zb1)+9*ls.length≤9*Zg4 ls+2*ls.length:=by
 intro ls
 induction ls with
 | nil=>exact Xf _
 | cons a r ih=>
  rw[sumL_cons,Xd]
  cases a with
  | nil=>
   rw[show Zgy ([]::r)=Zgy r from rfl];simp only[Xh]
   omega
  | cons c p=>
   rw[show(Zgy ((c::p)::r)).map Zb1=[Zb1 (c::p)]++(Zgy r).map Zb1 from rfl,wide_app];generalize c::p=a;have h1:=Ze9 (bcut (isB 61) a).1;have h2:=Ze9 (bcut (isB 61) a).2.1;have h3:=Zxo 61 a
   have e:Zjt [Zb1 a]=3*((Zcq (bcut (isB 61) a).1).length+(Zcq (bcut (isB 61) a).2.1).length)+2:=by simp[Zjt,Zb1]
   omega
theorem Zm9(l:LB):Zjt (Zs l)≤11*l.length+2:=by
 unfold Zs ZeE;have h:=Zks 38 l;have h2:=Zva (bsplit 38 l)
 have h3:1≤(bsplit 38 l).length:=by
  obtain⟨p,q,e⟩:=Zc0 38 l;rw[e]
  simp
 omega
theorem Zjf{u:U}(h:Wk u)(hq:u.q.length≤4320):ZuY (toR u) (ZV ltW (Zs u.q))=toR (ZbA u (ZV ltB (Zs u.q)))∧Wk (ZbA u (ZV ltB (Zs u.q)))∧ZV ltW (Zs u.q)=Zs (ZbA u (ZV ltB (Zs u.q))).q∧(Zam (ZV ltB (Zs u.q))).length≤90000:=by
 have hcl:=Zw4 (Zg3 u.q)
 have hlen:(Zam (ZV ltB (Zs u.q))).length≤90000:=by
  have h1:=Zlv hcl;rw[Zu9]at h1;have h2:=Zm9 u.q
  omega
 rw[←Zuu (Zg3 u.q)];generalize ZV ltB (Zs u.q)=S at *
 by_cases hS:S=[]
 ·subst hS
  have e:ZbA u []=Zfv u:=if_pos rfl;rw[e]
  refine⟨?_,Zun (u:={ u with hq:=false,q:=[] }) ⟨h.port,h.opq,h.zop,fun _=>rfl,pr_nil,h.sp,h.path,Xf _⟩,?_,hlen⟩
  ·exact Zrp (u:={ u with hq:=false,q:=[] }) h.zop
  ·have e2:(Zfv u).q=[]:=by unfold Zfv Zbt;split<;>rfl
   rw[e2]
   decide +kernel
 ·have e:ZbA u S={ u with hq:=true,q:=Zam S }:=if_neg hS
  have hpos:0<S.length:=Nat.pos_of_ne_zero (fun g=>hS (Xb g))
  rw[e]
  refine⟨?_,{ h with nq:=(fun g=>by cases g),pq:=ZoT hcl,lq:=hlen },(Zi2 hcl).symm,hlen⟩
  unfold ZuY ZhB
  rw[decide_eq_true hpos,if_neg (by rintro⟨-,g,-⟩;cases g),Zkr hcl]
  rfl
theorem PairB.butU{w w':World}{pp pb ub qb:Nat}{r:Rc}(h:PairB w pp pb ub)(hb:But qb w w')(hu:UrlB w qb r):PairB w' pp pb ub:=(hb.block pp h.lt (ZoN h hu)).trans h
theorem ZoU{w w1 w2:World}{u:U}{pp pb ub rb:Nat}{r r1:Rc}{bs:LA}{R R2:RR}{rs:LA}{v v2:Value}{ps qs:List Pq}(hp:PairB w pp pb ub)(hb:Both w u pb ub rb r bs R rs v ps)(hq:u.q.length≤4320)
  (h1:UrlB w1 pb r1) (h2:RcIs w1 r1 (ZbA u (ZV ltB (Zs u.q))) bs) (h3:But pb w w1)
  (k1:URB w2 ub rb v2) (k2:RB w2 rb R2) (k3:RIs w2 R2 (ZuY (toR u) (ZV ltW (ps.map tl2))) rs) (k4:PlAt w2 v2 qs) (k5:qs.map tl2=ZV ltW (ps.map tl2)) (k6:Two ub rb w1 w2) (hr1:URB w1 ub rb v) (hr2:RB w1 rb R):
  PairB w2 pp pb ub∧Both w2 (ZbA u (ZV ltB (Zs u.q))) pb ub rb r1 bs R2 rs v2 qs:=by
 obtain⟨e1,e2,e3,-⟩:=Zjf hb.wk hq;rw[hb.list]at k3 k5;rw[e1]at k3;have hne1:pb≠ub:=ZkD h1 hr1;have hne2:pb≠rb:=ZkE h1 hr2;have hP1:PairB w1 pp pb ub:=hp.butU h3 hb.url;have hU:UrlB w2 pb r1:=(k6.block pb (Xa.1 h1).1 hne1 hne2).trans h1;have hP2:PairB w2 pp pb ub:=(k6.block pp hP1.lt (ZoO hP1 hr1) (ZoP hP1 hr2)).trans hP1
 have hK:Ks w1 w2:=fun k cs fz hk=>by
  refine(k6.block k (Xa.1 hk).1 ?_ ?_).trans hk
  ·rintro rfl
   have hr:=hr1;unfold URB at hr;rw[hk]at hr;simp only[Option.some.injEq,Obj.cells.injEq]at hr
   exact absurd hr.2.1 (by decide)
  ·rintro rfl
   have hr:=hr2;unfold RB at hr;rw[hk]at hr;simp only[Option.some.injEq,Obj.cells.injEq]at hr
   exact absurd hr.2.1 (by decide)
 exact⟨hP2,⟨hU,h2.ks hK,k1,k2,k3,k4,by rw[k5,e3],e2⟩⟩
theorem But.kpW{w w':World}{wb:Nat}{q:Bool}{us ps ts:Value}(hb:But wb w w')(h:WB w wb q us ps ts):Kp 43 w w':=by
 intro k cs e fz hk he
 refine(hb.block k (Xa.1 hk).1 ?_).trans hk
 intro e';subst e';unfold WB at h;rw[hk]at h;simp only[Option.some.injEq,Obj.cells.injEq]at h;exact he h.2.1
theorem PairB.kpW{w w':World}{pp pb ub:Nat}(h:PairB w pp pb ub)(hk:Kp 43 w w'):PairB w' pp pb ub:=hk _ _ _ _ h (by decide)
theorem Both.kpW{w w':World}{u:U}{pb ub rb:Nat}{r:Rc}{bs:LA}{R:RR}{rs:LA}{v:Value}{ps:List Pq}(h:Both w u pb ub rb r bs R rs v ps)(hk:Kp 43 w w'):Both w' u pb ub rb r bs R rs v ps:=
 { h with url:=hk _ _ _ _ h.url (by decide),rc:=h.rc.ks (fun k cs fz g=>hk _ _ _ _ g (by decide)),ref:=hk _ _ _ _ h.ref (by decide),rcd:=hk _ _ _ _ h.rcd (by decide),ris:={ h.ris with seg:=h.ris.seg.kp hk (by decide) },pl:=h.pl.kp hk (by decide) }
theorem Zna{w:World}{wb ub rb:Nat}{q:Bool}{us ps ts v:Value}(h:WB w wb q us ps ts)(hu:URB w ub rb v):wb≠ub:=by
 rintro rfl;unfold WB at h;unfold URB at hu;rw[h]at hu;simp only[Option.some.injEq,Obj.cells.injEq]at hu
 exact absurd hu.2.1 (by decide)
theorem Znb{w:World}{wb rb:Nat}{q:Bool}{us ps ts:Value}{R:RR}(h:WB w wb q us ps ts)(hu:RB w rb R):wb≠rb:=by
 rintro rfl;unfold WB at h;unfold RB at hu;rw[h]at hu;simp only[Option.some.injEq,Obj.cells.injEq]at hu
 exact absurd hu.2.1 (by decide)
theorem Zr1(q:BA)(w:World)(hq:q.size≤maxLen)(ht:Tb w):Calls Tryz.prog 6 #[.string q] w fun e w'=>e=.returned (.bool true)∧Nx w w':=by
 have HTB:=Za ht;clear ht
 go_enter Tryz.func6,Tryz.ntmps6
 go_wp2_with fail
 refine(Zu4 q ⟨#[]⟩ _ hq (Ze (by decide))).mono ?_
 rintro e w' ⟨rfl,rfl⟩
 by_cases hbig:65536<q.size
 ·rw[decide_eq_true hbig]
  go_wp2;go_ret;exact⟨rfl,Nx.rfl⟩
 ·rw[decide_eq_false hbig,show decide (65536<(⟨#[]⟩:BA).size)=false from rfl]
  have hsz:(⟨#[104,116,116,112,58,47,47,104,47,63]⟩++q:BA).size≤maxLen:=by
   rw[Zh];unfold maxLen
   show 10+q.size≤_
   omega
  have HSH:=Za (fun w' h'=>ZrX (⟨#[104,116,116,112,58,47,47,104,47,63]⟩++q) ⟨#[]⟩ w' hsz (Ze (by decide)) h')
  have HHM:=Za (Zlp (tl (⟨#[104,116,116,112,58,47,47,104,47,63]⟩++q:BA)) (tl (⟨#[]⟩:BA)) false).q;simp only[Bool.or_false];clear hsz hq;go_wp2_with fail
  refine(HSH.out _ HTB.out).mono ?_
  rintro e w1 hx;rcases hx with⟨-,rfl,hn⟩|⟨-,pp,pb,ub,rb,r,bs,R,rs,vv,ps,rfl,hP,hB,-,b2,b3,b4,hn⟩
  ·have HN:=Za hn
   clear hn;go_wp2;go_ret;exact⟨rfl,HN.out⟩
  ·generalize (Zcc (tl (⟨#[104,116,116,112,58,47,47,104,47,63]⟩++q:BA)) (tl (⟨#[]⟩:BA)) false).1=u at *
   have HP:=Za hP;have HB:=Za hB;have HN:=Za hn;have HG2:=Za b2;have HG3:=Za b3;have HG4:=Za b4;clear hP hB hn b2 b3 b4 HSH;have HW2:=Za ((show WB (w1.alloc (Obj.cells #[.bool false,.slice none 0 0,.slice none 0 0,.slice none 0 0] 43)) w1.heap.size false (.slice none 0 0) (.slice none 0 0) (.slice none 0 0)from heap_alloc_new w1 _).on (Nx.rfl.alloc (Obj.cells #[.int .i64 0,.int .i64 0,.int .i64 0,.int .i64 0,.string ⟨#[97]⟩,.string ⟨#[]⟩] 45)));have HN2:=Za ((show Nx w1 (w1.alloc (Obj.cells #[.bool false,.slice none 0 0,.slice none 0 0,.slice none 0 0] 43))from Nx.rfl.alloc _).then (Nx.rfl.alloc (Obj.cells #[.int .i64 0,.int .i64 0,.int .i64 0,.int .i64 0,.string ⟨#[97]⟩,.string ⟨#[]⟩] 45)));have hwz:=HN.out.size;go_wp2_with fail
   refine(Zr0 w1.heap.size pp pb ub rb false (.slice none 0 0) (.slice none 0 0) r u bs R rs vv ps 0 0 0 ⟨#[97]⟩ ⟨#[]⟩ _ HW2.out (HP.out.on HN2.out) (HB.out.on HN2.out) (by decide) (by decide)).mono ?_
   rintro e w3 ⟨rfl,hbt,ts',hw3⟩;have HW3:=Za hw3;have HK:=Za (hbt.kpW HW2.out);have HP3:=Za ((HP.out.on HN2.out).kpW HK.out);have HB3:=Za ((HB.out.on HN2.out).kpW HK.out);have HBT:=Za (show Below w.heap.size w w3 from(HN.out.then HN2.out).trans (hbt.below hwz (HN.out.then HN2.out).size));have hq4:u.q.length≤4320:=HHM.out;have HSQ:=Za (Zjf HB3.out.wk hq4).2.2.2;have hc:=Za1 HB3.out.list (Zjr HB3.out.rc)
   have HZ:=Za (show ∀p∈ps,p.1.size≤300000∧p.2.size≤300000 from fun p hq=>by
    have hm:tl2 p∈Zs u.q:=by rw[←HB3.out.list];exact Xg.2 ⟨p,hq,rfl⟩
    obtain⟨a,ha,he⟩:=Xg.1 hm;have h1:=Zgx a;have h2:=Zfb ha;rw[he]at h1;obtain⟨g1,g2⟩:=h1;have e1:(tl2 p).1.length=p.1.size:=tl_length _;have e2:(tl2 p).2.length=p.2.size:=tl_length _
    omega)
   have HQ4:=Za hq4;obtain⟨p0,p1⟩:=HP3.out.cells;clear hq4 hw3 hbt HP HB HW2 HN2 HK;go_wp2_with fail
   refine(ZuM pb r u bs w3 HB3.out.url HB3.out.rc (Xc HSQ.out (by decide))).mono ?_
   rintro e w4 ⟨rfl,⟨r1,hu1,hr1⟩,hb4⟩;have HU1:=Za hu1;have HR1:=Za hr1;have HB4:=Za hb4;have HK4:=Za (hb4.kpP HB3.out.url);have HRF4:=Za (HB3.out.ref.but hb4 (Ne.symm (ZkD HB3.out.url HB3.out.ref)));have HRD4:=Za (HB3.out.rcd.but hb4 (Ne.symm (ZkE HB3.out.url HB3.out.rcd)));have HP4:=Za (HP3.out.butU hb4 HB3.out.url)
   have HW4:=Za (show WB w4 w1.heap.size false (.slice none 0 0) (.slice none 0 0) ts' from HK4.out _ _ _ _ HW3.out (by decide))
   obtain⟨p0',p1'⟩:=HP4.out.cells;clear hu1 hr1 hb4 p0 p1;go_wp2_with fail
   refine(Zu0 ub rb vv R (toR u) rs ps w4 HRF4.out HRD4.out { HB3.out.ris with seg:=HB3.out.ris.seg.kp HK4.out (by decide) } HB3.out.rl.bl (HB3.out.pl.kp HK4.out (by decide)) hc HZ.out).mono ?_
   rintro e w5 ⟨rfl,⟨R2,v2,qs,k1,k2,k3,k4,k5⟩,k6⟩;obtain⟨hP5,hB5⟩:=ZoU HP3.out HB3.out HQ4.out HU1.out HR1.out HB4.out k1 k2 k3 k4 k5 k6 HRF4.out HRD4.out;have HP5:=Za hP5;have HB5:=Za hB5;have HT5:=Za (show Below w.heap.size w w5 from(HBT.out.trans (HB4.out.below HG2.out HBT.out.size)).trans (k6.below HG3.out HG4.out (Xc HBT.out.size HB4.out.size)));have HW5:=Za (show WB w5 w1.heap.size false (.slice none 0 0) (.slice none 0 0) ts' from(k6.block _ (Xa.1 HW4.out).1 (Zna HW4.out HRF4.out) (Znb HW4.out HRD4.out)).trans HW4.out);obtain⟨p0,p1⟩:=hP5.cells;clear hP5 hB5 k1 k2 k3 k4 k5 k6 p0' p1';go_wp2_with fail
   refine(Zqd pp pb ub rb r1 _ bs R2 rs v2 qs w5 HP5.out HB5.out (HTB.out.on HT5.out)).mono ?_
   rintro e w6 ⟨rfl,hn6⟩;have HN6:=Za hn6;clear hn6;go_wp2_with fail
   refine(ZoQ pp pb ub rb r1 _ bs R2 rs v2 qs w6 (HP5.out.on HN6.out) (HB5.out.on HN6.out)).mono ?_
   rintro e w7 ⟨rfl,hn7⟩;have HN7:=Za (HN6.out.then hn7);clear hn7;go_wp2_with fail
   refine(ZoR w1.heap.size pp pb ub rb false (.slice none 0 0) ts' r1 _ bs R2 rs v2 qs w7 (HW5.out.on HN7.out) (HP5.out.on HN7.out) (HB5.out.on HN7.out)).mono ?_
   rintro e w8 ⟨rfl,hb8⟩;have HT8:=Za (show Below w.heap.size w w8 from(HT5.out.trans (HN7.out.mono HT5.out.size)).trans (hb8.below hwz (Xc HT5.out.size HN7.out.size)));clear hb8;go_wp2;go_ret;exact⟨rfl,HT8.out⟩
end Go.Proofs.YtchkhibgbnhjpabGreatDoor
