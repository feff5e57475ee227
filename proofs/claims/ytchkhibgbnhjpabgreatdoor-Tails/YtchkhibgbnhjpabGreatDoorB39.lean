import Derived.Test.YtchkhibgbnhjpabGreatDoorB35
import Derived.Test.YtchkhibgbnhjpabGreatDoorB38
open Array renaming getElem?_eq_some_iff→Xd
open List renaming take_succ_eq_append_getElem→Xa,eq_nil_of_length_eq_zero→Xb,length_map→Xc,getElem?_take→Xg,filter_append→Xh,map_append→Xi
open Nat renaming le_trans→Xe,le_refl→Xf
namespace Go.Proofs.YtchkhibgbnhjpabGreatDoor
open Go.RowKit
set_option maxHeartbeats 8000000
set_option maxRecDepth 8000
abbrev OwnP(w:World)(base:Nat)(v:Value)(ps:List Pq):Prop:=w.ownsRow base 113 2 v ps.length (ZdE ps)
theorem ZqC(a b:List Pq):ZdE (a++b)=ZdE a++ZdE b:=by simp[ZdE]
theorem Zth{w:World}{b off:Nat}{x y:Value}(h0:w.cell? ⟨b,off,none⟩=some x)(h1:w.cell? ⟨b,off+1,none⟩=some y):∀(j:Nat) (u:Value),[x,y][j]?=some u→w.cell? ((⟨b,off,none⟩:Addr).add j)=some u:=by
 intro j u hu;rw[Addr.add_lit]
 match j,hu with
 | 0,hu=>simp at hu;subst hu;exact h0
 | 1,hu=>simp at hu;subst hu;exact h1
theorem Zvj{ops:Array Oper}{rest:List Oper}{o:Oper}{a:Act}{Q:Exit→Act→World→Prop}(w:World)(p:Pq)
  (hgd:o.guard=none) (s x:Operand) (ho:o.op=.call { callee:=.builtin .append,args:=#[s,x],argTypes:=#[68,68] })
  (base:Nat) (v:Value) (ps:List Pq) (hs:a.eval s=v) (hown:OwnP w base v ps) (ab ao c:Nat) (hx:a.eval x=.slice (some ⟨ab,ao,none⟩) 1 c)
  (h0:w.cell? ⟨ab,ao,none⟩=some (.string p.1)) (h1:w.cell? ⟨ab,ao+1,none⟩=some (.string p.2))
  (hn:ps.length<1000000000000) (hbase:base≤w.heap.size)
  (h:∀v' w',OwnP w' base v' (ps++[p])→Below base w w'→Kp 113 w w'→wpList Tryz.prog ops Q rest (a.put o.dst v') w'):wpList Tryz.prog ops Q (o::rest) a w:=by
 obtain⟨i,hi,hz0,hz1,hz2⟩:=info_parts Zu0
 refine wpList_append_own w hgd s x 68 ho base 113 i _ 2 32 Tryz.underlying68 hi hz0 hz1 hz2 rfl (by decide) v ps.length _ hs hown ⟨ab,ao,none⟩ 1 c [.string p.1,.string p.2] hx rfl (Zth h0 h1) (by simp[Value.oneCell']) (by unfold maxLen;omega) (by omega) hbase ?_
 intro v' w' q1 q2 _
 refine h v' w' ?_ ((Below.refl base w).grown q2 hbase (fun k hk=>(hown.lt k hk).1)) (ZhA hown q2)
 unfold OwnP;rw[List.length_append,ZqC];exact q1
theorem Zti{ops:Array Oper}{rest:List Oper}{o:Oper}{a:Act}{Q:Exit→Act→World→Prop}(w:World)(p:Pq)
  (hgd:o.guard=none) (s x:Operand) (ho:o.op=.call { callee:=.builtin .append,args:=#[s,x],argTypes:=#[68,68] })
  (base:Nat) (v:Value) (ps:List Pq) (hs:a.eval s=v) (hown:OwnP w base v ps) (hx:a.eval x=.slice (some ⟨w.heap.size,0,none⟩) 1 1)
  (hn:ps.length<1000000000000) (hbase:base≤w.heap.size)
  (h:∀v' w',OwnP w' base v' (ps++[p])→Below base w w'→Kp 113 w w'→wpList Tryz.prog ops Q rest (a.put o.dst v') w'):
  wpList Tryz.prog ops Q (o::rest) a (w.alloc (.cells #[.string p.1,.string p.2] 113)):=
 Zvj _ p hgd s x ho base v ps hs (World.ownsRow.alloc hown _) w.heap.size 0 1 hx (by simp) (by simp) hn (by simp;omega)
  fun v' w' h1 h2 h3=>h v' w' h1 (((Below.refl base w).alloc hbase _).trans h2) ((Kp.rfl.alloc _).then h3)
theorem ZqD{w:World}{base:Nat}{v:Value}{ps:List Pq}(h:OwnP w base v ps):∃ao cp,v=.slice ao ps.length cp:=by
 obtain⟨-,⟨rfl,h3⟩|⟨g,cap,cur,rfl,-⟩⟩:=h
 ·exact⟨none,0,by rw[h3]⟩
 ·exact⟨_,_,rfl⟩
theorem OwnP.at{w:World}{base:Nat}{v:Value}{ps:List Pq}(h:OwnP w base v ps):PlAt w v ps:=by
 obtain⟨-,⟨rfl,h3⟩|⟨g,cap,cur,rfl,hb,hg,hnc,hcm,hcs,ht⟩⟩:=h
 ·have:ps=[]:=Xb h3
  subst this;exact PlAt.nil w
 ·refine⟨_,cap,rfl,hnc,hcm,nofun,fun a ha=>⟨g,0,(Option.some.inj ha).symm,cur,_,hg,fun i hi=>?_⟩⟩
  have h1:=ZgY ps i hi
  rw[←ht,Xg,Xg,if_pos (by omega),if_pos (by omega)]at h1
  rw[Nat.zero_add]
  simpa using h1
theorem PartsAt.kp{w w':World}{v:Value}{ps:List LI}{e:TypeId}(h:PartsAt w v ps)(hb:Kp e w w')(h1:124≠e)(h2:3≠e):PartsAt w' v ps:=by obtain⟨vs,q1,q2⟩:=h;exact⟨vs,q1.kp hb h1,q2.kp hb h2⟩
def Zdq(ss:List (List Int))(k:Nat):List (List UInt8×List UInt8):=((ss.take k).filter fun a=>!a.isEmpty).map ZnE
theorem Zmi(ss:List LI)(k:Nat)(h:k<ss.length)(he:ss[k]=[]):Zdq ss (k+1)=Zdq ss k:=by
 unfold Zdq;rw[Xa h,Xh,he]
 simp
theorem Zmj(ss:List LI)(k:Nat)(h:k<ss.length)(he:ss[k]≠[]):Zdq ss (k+1)=Zdq ss k++[ZnE ss[k]]:=by
 unfold Zdq;rw[Xa h,Xh,Xi]
 congr 1
 cases hx:ss[k]with
 | nil=>exact absurd hx he
 | cons a b=>rfl
theorem ZnM(ss:List LI)(k:Nat):(Zdq ss k).length≤k:=by
 unfold Zdq;rw[Xc]
 exact Xe (List.length_filter_le _ _) (by rw[List.length_take];omega)
theorem ZqE(s:BA)(w:World)(hs:s.size≤90000):Calls Tryz.prog 201 #[.string s] w fun e w'=>∃v ps,e=.returned v∧OwnP w' w.heap.size v ps∧ps.map tl2=Zhq (tl s)∧Nx w w':=by
 go_enter Tryz.func201,Tryz.ntmps201
 go_wp2_with fail
 refine(ZaC s _ (by omega)).mono ?_
 rintro e w1 ⟨v1,rfl,h1,hn1⟩;have H1:=Za h1;have HN1:=Za hn1;have hpl:=ZaD (tl s);rw[tl_length]at hpl;clear h1 hn1;go_wp2_with fail
 refine(ZeM _ (Zj (tl s)) ⟨#[38]⟩ _ (Zf (by decide)) H1.out (by omega)).mono ?_
 rintro e w2 ⟨v2,rfl,h2,hn2⟩;rw[show tl (⟨#[38]⟩:BA)=[38]from rfl]at h2;have H2:=Za h2;have HN2:=Za (HN1.out.then hn2);obtain⟨hm1,hm2⟩:=ZbN (Zj (tl s)) [38]
 have HPP:=Za (show ∀p∈parts (Zj (tl s)) [38],p.length≤90000∧∀c∈p,Pt c from fun p hp=>⟨by have:=(hm2 p hp).1;omega,fun c hc=>Zcz _ c ((hm2 p hp).2 c hc)⟩)
 have HPR:=Za (show Zhq (tl s)=Zdq (parts (Zj (tl s)) [38]) (parts (Zj (tl s)) [38]).length by unfold Zhq Zdq;rw[List.take_of_length_le (Xf _)])
 have hpn:(parts (Zj (tl s)) [38]).length≤90001:=by omega
 clear h2 hn2 H1 HN1 hm1 hm2;generalize parts (Zj (tl s)) [38]=ss at *
 obtain⟨po,pc,hpe⟩:∃po pc,v2=.slice po ss.length pc:=by
  obtain⟨vs,⟨po,pc,h,-⟩,hf⟩:=H2.out
  exact⟨po,pc,by rw[h,hf.1]⟩
 subst hpe;go_wp2
 go_loopw [5,6] (fun o i wr=>∃(k:Nat) (ps:List Pq),k≤ss.length∧i=.int .i64 k∧OwnP wr w.heap.size o ps∧ps.map tl2=Zdq ss k∧PartsAt wr (.slice po ss.length pc) ss∧Nx w wr) (fun _ i _=>ss.length-(intOf i).toNat)
 case atStart=>exact⟨0,[],Nat.zero_le _,rfl,World.ownsRow_nil _ _ _ _,rfl,H2.out,HN2.out⟩
 case round=>
  obtain⟨k,ps,hk,rfl,hown,hE,hpa,hnx⟩:=hrel;have HO:=Za hown;have HE:=Za hE;have HPA:=Za hpa;have HN:=Za hnx
  have hpsl:ps.length≤k:=by have h:=congrArg List.length hE;rw[Xc]at h;rw[h];exact ZnM ss k
  clear hown hE hpa hnx H2 HN2
  by_cases hlt:k<ss.length
  ·obtain⟨vs,hvs,hfa⟩:=HPA.out
   have hvl:vs.length=ss.length:=hfa.1
   obtain⟨pb,poff,pcap,hve,-,hcap,hrow⟩:=hvs.open_ (k:=k) (by omega)
   simp only[Value.slice.injEq]at hve;obtain⟨rfl,-,rfl⟩:=hve
   have hck:=hrow.cell (i:=k) (by omega)
   have hsk:=hfa.at_ hlt;simp only[id]at hck;generalize vs[k]=vk at *
   obtain⟨ko,kc,rfl⟩:∃ko kc,vk=.slice ko ss[k].length kc:=by obtain⟨ko,kc,h,-⟩:=hsk;exact⟨ko,kc,h⟩
   have HSK:=Za hsk;obtain⟨hkl,hkp⟩:=HPP.out _ (List.getElem_mem hlt);have HKP:=Za hkp;have HM:=Za (Zmj ss k hlt);have HS:=Za (Zmi ss k hlt);unfold maxLen at hcap;clear hsk hkp hvs hfa hrow hvl
   by_cases h0:ss[k].length=0
   ·have HE2:=Za (HS.out (Xb h0))
    have h0':((ss[k].length:Int)==0)=true:=by rw[h0];rfl
    clear h0;go_wp2
    go_roundw
    case rel=>exact⟨k+1,ps,by omega,by go_num,HO.out,by rw[HE2.out];exact HE.out,HPA.out,HN.out⟩
    case measure=>simp[intOf];omega
   ·have HE2:=Za (HM.out (fun e=>h0 (by rw[e];rfl)))
    have h0':((ss[k].length:Int)==0)=false:=beq_eq_false_iff_ne.2 (by omega)
    clear h0;generalize ss[k]=sk at *;go_wp2_with fail
    refine(ZbZ _ sk ⟨#[61]⟩ _ (Zf (by decide)) HSK.out).mono ?_
    rintro e w3 ⟨va,vb,rfl,ha,hb,hn3⟩;rw[show tl (⟨#[61]⟩:BA)=[61]from rfl]at *;have HA:=Za ha;have HB:=Za hb;have HN3:=Za hn3
    have HPA1:=Za (fun c (h:c∈(cut sk [61]).1)=>HKP.out c (ZD (Or.inl h)))
    have HPB1:=Za (fun c (h:c∈(cut sk [61]).2.1)=>HKP.out c (ZD (Or.inr h)))
    have hcl:=(Zbk sk [61]).1;have HPD:=Za (show ZnE sk=(ZiF (cut sk [61]).1,ZiF (cut sk [61]).2.1)from rfl);clear ha hb hn3;generalize cut sk [61]=cc at *;obtain⟨ca,cb,cf⟩:=cc;simp only at *;go_wp2_with fail
    refine(ZjU _ ca _ HA.out (by omega) HPA1.out).mono ?_
    rintro e w4 ⟨t1,rfl,ht1,hn4⟩;have HT1:=Za ht1;have HN4:=Za (HN3.out.then hn4);have HB4:=Za (HB.out.on hn4);clear ht1 hn4;go_wp2_with fail
    refine(ZjU _ cb _ HB4.out (by omega) HPB1.out).mono ?_
    rintro e w5 ⟨t2,rfl,ht2,hn5⟩;have HT2:=Za ht2;have HN5:=Za (HN4.out.then hn5);have HNW:=Za (HN.out.then (HN4.out.then hn5));have HO5:=Za (ZbG HO.out HN5.out);have hz5:=HNW.out.size;clear ht2 hn5
    go_wp2_with (at_builtin;go_must (refine Zti w5 (t1,t2) rfl _ _ rfl w.heap.size u5 ps rfl HO5.out rfl (by omega) hz5 ?_;intro v' w6 ho6 hb6 hk6;have HO6:=Za ho6;clear ho6))
    go_roundw
    case rel=>exact⟨k+1,ps++[(t1,t2)],by omega,by go_num,HO6.out,by rw[HE2.out,Xi,HE.out,HPD.out,←HT1.out,←HT2.out];rfl,(HPA.out.on HN5.out).kp hk6 (by decide) (by decide),HNW.out.trans hb6⟩
    case measure=>simp[intOf];omega
  ·have HF:=Za (show ps.map tl2=Zhq (tl s)by rw[HE.out,HPR.out,show k=ss.length by omega])
   go_wp2;go_ret;exact⟨_,ps,rfl,HO.out,HF.out,HN.out⟩
theorem URB.s1{w:World}{ub rb:Nat}{v:Value}(h:URB w ub rb v)(x:Value):URB (w.setCell ⟨ub,1,none⟩ x) ub rb x:=by
 unfold URB at *;simp only[World.setCell,Array.getElem?_modify,if_pos,h]
 rfl
theorem URB.but{w w':World}{ub rb qb:Nat}{v:Value}(h:URB w ub rb v)(hb:But qb w w')(hn:ub≠qb):URB w' ub rb v:=(hb.block ub (Xd.1 h).1 hn).trans h
theorem URB.ne{w:World}{ub rb:Nat}{v:Value}{b:Nat}{R:RR}(h:URB w ub rb v)(h2:RB w b R):ub≠b:=by
 rintro rfl;unfold URB at h;unfold RB at h2;rw[h]at h2;simp only[Option.some.injEq,Obj.cells.injEq]at h2
 exact absurd h2.2.1 (by decide)
theorem But.kpU{w w':World}{ub rb:Nat}{v:Value}(hb:But ub w w')(h:URB w ub rb v):Kp 88 w w':=by
 intro k cs e fz hk he
 refine(hb.block k (Xd.1 hk).1 ?_).trans hk
 intro e';subst e';unfold URB at h;rw[hk]at h;simp only[Option.some.injEq,Obj.cells.injEq]at h;exact he h.2.1
theorem RIs.kpU{w w':World}{R:RR}{u:RU}{bs:LA}(h:RIs w R u bs)(hb:Kp 88 w w'):RIs w' R u bs:={ h with seg:=h.seg.kp hb (by decide) }
theorem PlAt.kp{w w':World}{v:Value}{ps:List Pq}{e:TypeId}(h:PlAt w v ps)(hb:Kp e w w')(he:113≠e):PlAt w' v ps:=by
 obtain⟨ao,cap,rfl,h1,h2,h3,h4⟩:=h
 refine⟨ao,cap,rfl,h1,h2,h3,fun a ha=>?_⟩
 obtain⟨b,off,rfl,cs,fz,hh,hc⟩:=h4 a ha;exact⟨b,off,rfl,cs,fz,hb b cs _ fz hh he,hc⟩
theorem Ze6(ub rb:Nat)(v0:Value)(R:RR)(u:RU)(bs:LA)(w:World)(hu:URB w ub rb v0)(h:RB w rb R)(hr:RIs w R u bs)(hq:R.q.size≤90000):Calls Tryz.prog 150 #[.pointer (some ⟨ub,0,none⟩)] w fun e w'=>e=.returned (.tuple #[])∧(∃v ps,URB w' ub rb v∧PlAt w' v ps∧ps.map tl2=Zf0 u)∧But ub w w':=by
 have HUQ:=Za (show u.hq=R.hq∧u.q=tl R.q by rw[←hr.eq];exact⟨rfl,rfl⟩)
 have hne:=hu.ne h;obtain⟨a0,a1⟩:=hu.cells;have f1:=hu.free 1;have hU1:=hu.s1 (.slice none 0 0);have hbt1:But ub w (w.setCell ⟨ub,1,none⟩ (.slice none 0 0)):=(But.refl ub w).set 1 _;have hB1:=h.but hbt1 (Ne.symm hne);have HU1:=Za hU1;have HBT1:=Za hbt1;have HB1:=Za hB1;clear hu h hr hU1 hbt1 hB1
 go_enter Tryz.func150,Tryz.ntmps150
 go_upto_region 1 with fail;clear a0 a1 f1;generalize (w.setCell ⟨ub,1,none⟩ (.slice none 0 0))=w1 at *;obtain⟨a0,a1⟩:=HU1.out.cells;obtain⟨c0,c1,c2,c3,c4,c5,c6,c7,c8,c9,c10,c11,c12⟩:=HB1.out.cells
 cases hh:R.hq
 ·rw[hh]at c9
  have HE:=Za (show Zf0 u=[]by unfold Zf0;rw[HUQ.out.1,hh,if_neg (by decide)])
  clear hh;go_wp2;exact bodyPost_end (results_none rfl _ _ _) rfl ⟨rfl,⟨_,[],HU1.out,PlAt.nil _,HE.out.symm⟩,HBT1.out⟩
 ·rw[hh]at c9
  have HE:=Za (show Zf0 u=Zhq (tl R.q)by unfold Zf0;rw[HUQ.out.1,hh,if_pos rfl,HUQ.out.2])
  clear hh;go_wp2_with fail
  refine(ZqE R.q _ hq).mono ?_
  rintro e w2 ⟨v,ps,rfl,ho,hps,hn⟩;have HO:=Za ho;have HPS:=Za hps;have hU2:=HU1.out.on hn;have HU2:=Za hU2;have HBT2:=Za (HBT1.out.then (But.nx hn));obtain⟨ao,cp,rfl⟩:=ZqD ho;clear ho hps hn a0 a1 c0 c1 c2 c3 c4 c5 c6 c7 c8 c9 c10 c11 c12 hU2;obtain⟨a0,a1⟩:=HU2.out.cells;have f1:=HU2.out.free 1;go_wp2
  refine bodyPost_end (results_none rfl _ _ _) rfl ⟨rfl,⟨_,ps,HU2.out.s1 _,?_,by rw[HPS.out,HE.out]⟩,HBT2.out.set 1 _⟩
  exact(OwnP.at HO.out).kp (But.kpU ((But.refl ub w2).set 1 _) HU2.out) (by decide)
theorem ZcN(s:BA)(w:World)(hs:s.size≤maxLen):Calls Tryz.prog 101 #[.string s] w fun e w'=>e=.returned (.bool (decide (160<s.size)))∧w=w':=by
 unfold maxLen at hs
 go_enter Tryz.func101,Tryz.ntmps101
 go_wp2;go_ret
 exact⟨Zo (by rw[Bool.eq_iff_iff];simp;omega),rfl⟩
def ZxV(e:Ending)(w w':World)(x:RU×Int):Prop:=
 (x.2≠0∧e=.returned (.tuple #[.pointer none,.int .i64 x.2])∧Nx w w')∨(x.2=0∧∃ub rb R bs v ps,e=.returned (.tuple #[.pointer (some ⟨ub,0,none⟩),.int .i64 0])∧URB w' ub rb v∧RB w' rb R∧RIs w' R x.1 bs∧PlAt w' v ps∧ps.map tl2=Zf0 x.1∧w.heap.size≤ub∧w.heap.size≤rb∧Nx w w')
theorem Ztj(w:World)(rb:Nat):URB (w.alloc (Obj.cells #[.pointer (some ⟨rb,0,none⟩),.slice none 0 0] 88)) w.heap.size rb (.slice none 0 0):=heap_alloc_new w _
theorem ZqF(s base:BA)(w:World)(hs:s.size≤maxLen)(hb:base.size≤maxLen)(hq:(ZiR (tl s) (tl base) false).2=0→(ZiR (tl s) (tl base) false).1.q.length≤90000):Calls Tryz.prog 96 #[.string s,.string base,.bool false] w fun e w'=>ZxV e w w' (ZiR (tl s) (tl base) false):=by
 have HQ:=Za hq;clear hq
 go_enter Tryz.func96,Tryz.ntmps96
 go_wp2_with fail
 refine(ZcN s _ hs).mono ?_
 rintro e w' ⟨rfl,rfl⟩;go_wp2_with fail
 refine(ZcN base _ hb).mono ?_
 rintro e w' ⟨rfl,rfl⟩
 by_cases hl:160<s.size
 ·have HE:=Za (show ZiR (tl s) (tl base) false=(zeroR,1)from if_pos (Or.inl (by rw[tl_length];exact hl)))
  rw[decide_eq_true hl];clear hl;generalize decide (160<base.size)=lb;go_wp2;go_ret2
  exact Or.inl ⟨by rw[HE.out];decide,by rw[HE.out];rfl,Nx.rfl⟩
 ·have HE:=Za (show ZiR (tl s) (tl base) false=parseR (tl s) none from(if_neg (by rintro(g|g);rw[tl_length]at g;exact hl g;cases g.1)).trans (if_neg (fun g=>g rfl)))
  rw[decide_eq_false hl]
  have hs2:s.size≤20000:=by omega
  clear hl;generalize decide (160<base.size)=lb;go_wp2_with fail
  refine(Zfw s (.pointer none) none _ hs2 (Or.inl ⟨rfl,rfl⟩)).mono ?_
  rintro e w1 hx
  have HQ2:Hid ((parseR (tl s) none).2=0→(parseR (tl s) none).1.q.length≤90000):=Za (by have h:=HQ.out;rw[HE.out]at h;exact h)
  clear HQ;generalize parseR (tl s) none=x at *;obtain⟨y,err⟩:=x;simp only at HQ2;rcases hx with⟨he,rfl,hn⟩|⟨he,rb,R,bs,rfl,hB,hR,hrb,hn⟩
  ·have he1:(err != 0)=true:=bne_iff_ne.2 he
   have HN:=Za hn;have HER:=Za he;clear he hn;go_wp2;go_ret2;rw[HE.out];exact Or.inl ⟨HER.out,rfl,HN.out⟩
  ·simp only at he
   subst he;have HN:=Za hn
   replace hR:RIs w1 R y bs:=hR
   have HB:=Za hB;have HR:=Za hR
   have hql:R.q.size≤90000:=Zc6 (show tl R.q=y.q by rw[←hR.eq];rfl) (HQ2.out rfl)
   have HRB:=Za hrb;clear hn hB hR hrb HQ2;go_upto_region 17 with fail;have HU2:=Za (Ztj w1 rb);have HB2:=Za (HB.out.on (Nx.rfl.alloc (Obj.cells #[.pointer (some ⟨rb,0,none⟩),.slice none 0 0] 88)));have HR2:=Za (HR.out.on (Nx.rfl.alloc (Obj.cells #[.pointer (some ⟨rb,0,none⟩),.slice none 0 0] 88)));have HN2:=Za (HN.out.alloc (Obj.cells #[.pointer (some ⟨rb,0,none⟩),.slice none 0 0] 88));have HUB:=Za HN.out.size;obtain⟨ub,hub⟩:∃ub,ub=w1.heap.size:=⟨_,rfl⟩;rw[←hub]at HU2 HUB ⊢;generalize (w1.alloc (Obj.cells #[.pointer (some ⟨rb,0,none⟩),.slice none 0 0] 88))=w2 at *;clear hub;go_wp2_with fail
   refine(Ze6 ub rb _ R y bs _ HU2.out HB2.out HR2.out hql).mono ?_
   rintro e w3 ⟨rfl,⟨v,ps,hU3,hpl,hps⟩,hbt⟩;have HU3:=Za hU3;have HPL:=Za hpl;have HPS:=Za hps;have HB3:=Za (HB2.out.but hbt (Ne.symm (HU2.out.ne HB2.out)));have HR3:=Za (HR2.out.kpU (hbt.kpU HU2.out));have HN3:=Za (show Nx w w3 from((But.nx HN2.out).then hbt).below HUB.out (Xf _));clear hU3 hpl hps hbt;go_wp2;go_ret2;rw[HE.out];exact Or.inr ⟨rfl,ub,rb,R,bs,v,ps,rfl,HU3.out,HB3.out,HR3.out,HPL.out,HPS.out,HUB.out,HRB.out,HN3.out⟩
theorem ZqG(s base:BA)(w:World)(hs:s.size≤maxLen)(hb:base.size≤maxLen)(hq:(ZiR (tl s) (tl base) true).2=0→(ZiR (tl s) (tl base) true).1.q.length≤90000)(hzp:base.size≤160→(parseR (tl base) none).2=0→(parseR (tl base) none).1.path.length≤70000):Calls Tryz.prog 96 #[.string s,.string base,.bool true] w fun e w'=>ZxV e w w' (ZiR (tl s) (tl base) true):=by
 have HQ:=Za hq;have HZP:=Za hzp;clear hq hzp
 go_enter Tryz.func96,Tryz.ntmps96
 go_wp2_with fail
 refine(ZcN s _ hs).mono ?_
 rintro e w' ⟨rfl,rfl⟩;go_wp2_with fail
 refine(ZcN base _ hb).mono ?_
 rintro e w' ⟨rfl,rfl⟩
 by_cases hl:160<s.size
 ·have HE:=Za (show ZiR (tl s) (tl base) true=(zeroR,1)from if_pos (Or.inl (by rw[tl_length];exact hl)))
  rw[decide_eq_true hl];clear hl;generalize decide (160<base.size)=lb;go_wp2;go_ret2
  exact Or.inl ⟨by rw[HE.out];decide,by rw[HE.out];rfl,Nx.rfl⟩
 by_cases hlb:160<base.size
 ·have HE:=Za (show ZiR (tl s) (tl base) true=(zeroR,1)from if_pos (Or.inr ⟨rfl,by rw[tl_length];exact hlb⟩))
  rw[decide_eq_true hlb,decide_eq_false hl];clear hl hlb;go_wp2;go_ret2
  exact Or.inl ⟨by rw[HE.out];decide,by rw[HE.out];rfl,Nx.rfl⟩
 have HD:=Za (show ZiR (tl s) (tl base) true=if(ZdP (tl base) true).2≠0 then(zeroR,(ZdP (tl base) true).2)else parseR (tl s) (ZdP (tl base) true).1 from if_neg (by rintro(g|g);rw[tl_length]at g;exact hl g;rw[tl_length]at g;exact hlb g.2))
 have HG:=Za (show ZdP (tl base) true=if(parseR (tl base) none).2=2 then(none,4)else if(parseR (tl base) none).2≠0 then(none,(parseR (tl base) none).2)else(some (parseR (tl base) none).1,0)from rfl)
 rw[decide_eq_false hlb,decide_eq_false hl]
 have hs2:s.size≤20000:=by omega
 have hb2:base.size≤20000:=by omega
 have hb160:base.size≤160:=by omega
 clear hl hlb;go_wp2_with fail
 refine(Zfw base (.pointer none) none _ hb2 (Or.inl ⟨rfl,rfl⟩)).mono ?_
 rintro e w0 hx;generalize parseR (tl base) none=x at *;obtain⟨z,err⟩:=x;simp only at HG HZP;rcases hx with⟨he,rfl,hn⟩|⟨he,qb,Z,zs,rfl,hZ,hZR,-,hn⟩
 ·have HN:=Za hn
  simp only at he
  by_cases h2:err=2
  ·have HE:=Za (show ZiR (tl s) (tl base) true=(zeroR,4)by rw[HD.out,HG.out,if_pos h2];rfl)
   have h2':(err==2)=true:=by rw[h2];rfl
   clear he hn h2 HD HG HQ HZP;go_wp2;go_ret2;rw[HE.out]
   exact Or.inl ⟨by decide,rfl,HN.out⟩
  ·have HE:=Za (show ZiR (tl s) (tl base) true=(zeroR,err)by rw[HD.out,HG.out,if_neg h2,if_pos he];exact if_pos he)
   have h2':(err==2)=false:=beq_eq_false_iff_ne.2 h2;have he1:(err != 0)=true:=bne_iff_ne.2 he;have HER:=Za he;clear he hn h2 HD HG HQ HZP;go_wp2;go_ret2;rw[HE.out];exact Or.inl ⟨HER.out,rfl,HN.out⟩
 ·simp only at he
  subst he
  have HE:=Za (show ZiR (tl s) (tl base) true=parseR (tl s) (some z)by rw[HD.out,HG.out];simp)
  replace hZR:RIs w0 Z z zs:=hZR
  have HZB:=Za hZ;have HZR:=Za hZR
  have hzl:zs.length≤70000:=by have h:=HZP.out hb160 rfl;have h2:z.path.length=zs.length:=by rw[←hZR.eq];exact Xc ..
                               omega
  have HN0:=Za hn;clear hZ hZR hn HD HG HZP;go_wp2_with fail
  refine(Zfw s _ (some z) _ hs2 (Or.inr ⟨qb,Z,z,zs,rfl,rfl,HZB.out,HZR.out,hzl⟩)).mono ?_
  rintro e w1 hx
  have HQ2:Hid ((parseR (tl s) (some z)).2=0→(parseR (tl s) (some z)).1.q.length≤90000):=Za (by have h:=HQ.out;rw[HE.out]at h;exact h)
  clear HQ;generalize parseR (tl s) (some z)=x at *;obtain⟨y,err⟩:=x;simp only at HQ2;rcases hx with⟨he,rfl,hn⟩|⟨he,rb,R,bs,rfl,hB,hR,hrb,hn⟩
  ·have he1:(err != 0)=true:=bne_iff_ne.2 he
   have HN:=Za (HN0.out.then hn);have HER:=Za he;clear he hn;go_wp2;go_ret2;rw[HE.out];exact Or.inl ⟨HER.out,rfl,HN.out⟩
  ·simp only at he
   subst he;have HN:=Za (HN0.out.then hn)
   replace hR:RIs w1 R y bs:=hR
   have HB:=Za hB;have HR:=Za hR
   have hql:R.q.size≤90000:=Zc6 (show tl R.q=y.q by rw[←hR.eq];rfl) (HQ2.out rfl)
   have HRB:=Za (Xe HN0.out.size hrb);clear hn hB hR hrb HQ2;go_upto_region 17 with fail;have HU2:=Za (Ztj w1 rb);have HB2:=Za (HB.out.on (Nx.rfl.alloc (Obj.cells #[.pointer (some ⟨rb,0,none⟩),.slice none 0 0] 88)));have HR2:=Za (HR.out.on (Nx.rfl.alloc (Obj.cells #[.pointer (some ⟨rb,0,none⟩),.slice none 0 0] 88)));have HN2:=Za (HN.out.alloc (Obj.cells #[.pointer (some ⟨rb,0,none⟩),.slice none 0 0] 88));have HUB:=Za HN.out.size;obtain⟨ub,hub⟩:∃ub,ub=w1.heap.size:=⟨_,rfl⟩;rw[←hub]at HU2 HUB ⊢;generalize (w1.alloc (Obj.cells #[.pointer (some ⟨rb,0,none⟩),.slice none 0 0] 88))=w2 at *;clear hub;go_wp2_with fail
   refine(Ze6 ub rb _ R y bs _ HU2.out HB2.out HR2.out hql).mono ?_
   rintro e w3 ⟨rfl,⟨v,ps,hU3,hpl,hps⟩,hbt⟩;have HU3:=Za hU3;have HPL:=Za hpl;have HPS:=Za hps;have HB3:=Za (HB2.out.but hbt (Ne.symm (HU2.out.ne HB2.out)));have HR3:=Za (HR2.out.kpU (hbt.kpU HU2.out));have HN3:=Za (show Nx w w3 from((But.nx HN2.out).then hbt).below HUB.out (Xf _));clear hU3 hpl hps hbt;go_wp2;go_ret2;rw[HE.out];exact Or.inr ⟨rfl,ub,rb,R,bs,v,ps,rfl,HU3.out,HB3.out,HR3.out,HPL.out,HPS.out,HUB.out,HRB.out,HN3.out⟩
theorem Zvk(s base:BA)(based:Bool)(w:World)(hs:s.size≤maxLen)(hb:base.size≤maxLen)(hq:(ZiR (tl s) (tl base) based).2=0→(ZiR (tl s) (tl base) based).1.q.length≤90000)(hzp:base.size≤160→(parseR (tl base) none).2=0→(parseR (tl base) none).1.path.length≤70000):Calls Tryz.prog 96 #[.string s,.string base,.bool based] w fun e w'=>ZxV e w w' (ZiR (tl s) (tl base) based):=by
 cases based
 ·exact ZqF s base w hs hb hq
 ·exact ZqG s base w hs hb hq hzp
def ZwT(m:RU)(p:List Int):RU:=
 if(schemeOf (flat p++[58])).2.2=false∨Ze (schemeOf (flat p++[58])).1≠Ze m.sch then m
 else if(schemeOf (flat p++[58])).1=Zx∧(m.user≠[]∨m.pass≠[]∨0≤m.port)then m
 else if m.sch=Zx∧m.his=true∧m.htx=[]then m
 else { m with sch:=(schemeOf (flat p++[58])).1,port:=ZtD (schemeOf (flat p++[58])).1 m.port }
def Zml(m:RU)(p:List Int):RU:=
 if p.takeWhile numeral≠[]∧value (p.takeWhile numeral)≤65535 then { m with port:=ZtD m.sch (value (p.takeWhile numeral)) }else m
def ZwU(m:RU)(p:List Int):RU:=if p=[]then { m with port:=-1 }else Zml m (flat p)
def ZvK(e:Int):Int:=if e=2 then 0 else e
def Zpg(sch:List UInt8):List UInt8:=tl (Zk sch)++[63,35]
def Zvm(m:RU)(p name:List Int)(ports:Bool):RU×Int:=
 if colon name=0∨(0<colon name∧ports=false)then(m,0)
 else if name=[]∧(Ze m.sch=true∨m.user≠[]∨m.pass≠[]∨0≤m.port)then(m,0)
 else if(hostOf (if 0<colon name then name.take (colon name).toNat else name) (Ze m.sch)).2.2≠0 then(m,ZvK (hostOf (if 0<colon name then name.take (colon name).toNat else name) (Ze m.sch)).2.2)
 else if 0<colon name then(Zml (Zeq m (name.take (colon name).toNat)) (p.drop ((colon name).toNat+1)),0)else(Zeq m name,0)
def Zto(m:RU)(p:List Int)(ports:Bool):RU×Int:=
 if m.sch=Zx then(if(Zak m (cut p (Zpg m.sch)).1).2≠0 then(m,ZvK (Zak m (cut p (Zpg m.sch)).1).2)else((Zak m (cut p (Zpg m.sch)).1).1,0))
 else Zvm m p (cut p (Zpg m.sch)).1 ports
def Ze7(m:RU)(p:List Int):RU:=
 if Zn p 0 m.sch=true then { m with path:=walked m.sch [] (p.drop 1) }
 else if Ze m.sch=true∨p≠[]then { m with path:=walked m.sch [] p }
 else if m.his=true then { m with path:=[] }else { m with path:=[[]] }
def Zeu(l:List UInt8):List UInt8:=(l.reverse.dropWhile fun b=>(b.toNat:Int)==32).reverse
def Zez(m:RU):RU:=if m.op=true∧m.hq=false∧m.hf=false then { m with bl:=Zeu m.bl }else m
def ZqV(c:Int)(p:List Int):List Int:=if p.headD 0=c then p.drop 1 else p
def Zcd(m:RU)(p:List Int):RU:=
 if p=[]then Zez { m with hq:=false,q:=[] }else { m with hq:=true,q:=encoded (flat (ZqV 63 p)) (tl (ZhD (Ze m.sch))) }
def Zi5(m:RU)(p:List Int):RU:=
 if p=[]then Zez { m with hf:=false,fr:=[] }else { m with hf:=true,fr:=encoded (flat (ZqV 35 p)) Zca }
def Zhz(m:RU):Prop:=m.htx=[]∨m.sch=Zx
instance (m:RU):Decidable (Zhz m):=by unfold Zhz;infer_instance
def Zmm(m:RU)(k:Int)(l:List UInt8):RU×Int:=
 if k=1 then(if(parseR l none).2≠0 then(m,(parseR l none).2)else((parseR l none).1,0))
 else if k=2 then(ZwT m (Zj l),0)
 else if k=3 then(if Zhz m then m else { m with user:=encoded (Zj l) Zgq },0)
 else if k=4 then(if Zhz m then m else { m with pass:=encoded (Zj l) Zgq },0)
 else if k=5 then(if m.op=true then(m,0)else Zto m (flat (Zj l)) true)
 else if k=6 then(if m.op=true then(m,0)else Zto m (flat (Zj l)) false)
 else if k=7 then(if Zhz m then m else ZwU m (Zj l),0)
 else if k=8 then(if m.op=true then m else Ze7 m (flat (Zj l)),0)
 else if k=9 then(Zcd m (Zj l),0)
 else if k=10 then(Zi5 m (Zj l),0)
 else(m,0)
def ZbS(m:RU)(k:Int)(l:List UInt8)(ps:List (List UInt8×List UInt8)):List (List UInt8×List UInt8):=
 if k=1 then(if(parseR l none).2≠0 then ps else Zf0 (parseR l none).1)else if k=9 then Zf0 (Zcd m (Zj l))else ps
structure Two (ub rb:Nat) (w w':World):Prop where
 os:w'.os=w.os
 tape:w'.tape=w.tape
 output:w'.output=w.output
 size:w.heap.size≤w'.heap.size
 block:∀k,k<w.heap.size→k≠ub→k≠rb→w'.heap[k]?=w.heap[k]?
theorem Two.l{ub rb:Nat}{w w':World}(h:But ub w w'):Two ub rb w w':=⟨h.os,h.tape,h.output,h.size,fun k hk h1 _=>h.block k hk h1⟩
theorem Two.r{ub rb:Nat}{w w':World}(h:But rb w w'):Two ub rb w w':=⟨h.os,h.tape,h.output,h.size,fun k hk _ h1=>h.block k hk h1⟩
theorem Two.nx{ub rb:Nat}{w w':World}(h:Nx w w'):Two ub rb w w':=Two.l (But.nx h)
theorem Two.then{ub rb:Nat}{a b c:World}(h:Two ub rb a b)(k:Two ub rb b c):Two ub rb a c:=
 ⟨k.os.trans h.os,k.tape.trans h.tape,k.output.trans h.output,Xe h.size k.size,fun i hi h1 h2=>(k.block i (Nat.lt_of_lt_of_le hi h.size) h1 h2).trans (h.block i hi h1 h2)⟩
theorem Two.below{ub rb B:Nat}{a w:World}(h:Two ub rb a w)(h1:B≤ub)(h2:B≤rb)(h3:B≤a.heap.size):Below B a w:=⟨h.os,h.tape,h.output,h.size,fun k hk=>h.block k (by omega) (by omega) (by omega)⟩
def ZxE(e:Ending)(w w':World)(ub rb:Nat)(x:RU×Int)(ls:List (List UInt8×List UInt8)):Prop:=
 e=.returned (.int .i64 x.2)∧(∃qb R rs v ps,URB w' ub qb v∧RB w' qb R∧RIs w' R x.1 rs∧PlAt w' v ps∧ps.map tl2=ls∧(qb=rb∨w.heap.size≤qb))∧Two ub rb w w'
theorem ZiJ(ub:Nat)(k:Int)(s:BA)(w:World)(hs:s.size≤maxLen)(hl:160<s.size):Calls Tryz.prog 77 #[.pointer (some ⟨ub,0,none⟩),.int .i64 k,.string s] w fun e w'=>e=.returned (.int .i64 1)∧Nx w w':=by
 go_enter Tryz.func77,Tryz.ntmps77
 go_wp2_with fail
 refine(ZcN s _ hs).mono ?_
 rintro e w' ⟨rfl,rfl⟩;rw[decide_eq_true hl];go_wp2;go_ret;exact⟨rfl,Nx.rfl⟩
theorem RIs.bare{w:World}{R:RR}{u:RU}{bs:LA}(h:RIs w R u bs):Zhz u↔(tl R.htx=[]∨tl R.sch=Zx):=by rw[←h.eq];exact Iff.rfl
theorem ZiK{s:BA}(h:¬s.size=0):tl s≠[]:=fun g=>h (by rw[←tl_length,g];rfl)
end Go.Proofs.YtchkhibgbnhjpabGreatDoor
