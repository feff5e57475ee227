import Derived.Test.YtchkhibgbnhjpabGreatDoorR40
open Array renaming getElem?_eq_some_iff→Xa,getElem?_modify→Xb
namespace Go.Proofs.YtchkhibgbnhjpabGreatDoor
open Go.RowKit
set_option maxHeartbeats 8000000
set_option maxRecDepth 8000
theorem URB.s1{w:World}{ub rb:Nat}{v:Value}(h:URB w ub rb v)(x:Value):URB (w.setCell ⟨ub,1,none⟩ x) ub rb x:=by
 unfold URB at *;simp only[World.setCell,Xb,if_pos,h]
 rfl
theorem URB.s0{w:World}{ub rb:Nat}{v:Value}(h:URB w ub rb v)(qb:Nat):URB (w.setCell ⟨ub,0,none⟩ (.pointer (some ⟨qb,0,none⟩))) ub qb v:=by
 unfold URB at *;simp only[World.setCell,Xb,if_pos,h]
 rfl
theorem URB.but{w w':World}{ub rb qb:Nat}{v:Value}(h:URB w ub rb v)(hb:But qb w w')(hn:ub≠qb):URB w' ub rb v:=(hb.block ub (Xa.1 h).1 hn).trans h
theorem URB.ne{w:World}{ub rb:Nat}{v:Value}{b:Nat}{R:RR}(h:URB w ub rb v)(h2:RB w b R):ub≠b:=by
 rintro rfl;unfold URB at h;unfold RB at h2;rw[h]at h2;simp only[Option.some.injEq,Obj.cells.injEq]at h2
 exact absurd h2.2.1 (by decide)
theorem But.kpU{w w':World}{ub rb:Nat}{v:Value}(hb:But ub w w')(h:URB w ub rb v):Kp 88 w w':=by
 intro k cs e fz hk he
 refine(hb.block k (Xa.1 hk).1 ?_).trans hk
 intro e';subst e';unfold URB at h;rw[hk]at h;simp only[Option.some.injEq,Obj.cells.injEq]at h;exact he h.2.1
theorem RIs.kpU{w w':World}{R:RR}{u:RU}{bs:LA}(h:RIs w R u bs)(hb:Kp 88 w w'):RIs w' R u bs:={ h with seg:=h.seg.kp hb (by decide) }
theorem PlAt.kp{w w':World}{v:Value}{ps:List Pq}{e:TypeId}(h:PlAt w v ps)(hb:Kp e w w')(he:113≠e):PlAt w' v ps:=by
 obtain⟨ao,cap,rfl,h1,h2,h3,h4⟩:=h
 refine⟨ao,cap,rfl,h1,h2,h3,fun a ha=>?_⟩
 obtain⟨b,off,rfl,cs,fz,hh,hc⟩:=h4 a ha;exact⟨b,off,rfl,cs,fz,hb b cs _ fz hh he,hc⟩
theorem ZuN(ub rb:Nat)(v0:Value)(R:RR)(u:RU)(bs:LA)(w:World)(hu:URB w ub rb v0)(h:RB w rb R)(hr:RIs w R u bs)(hq:R.q.size≤90000):Calls Tryz.prog 150 #[.pointer (some ⟨ub,0,none⟩)] w fun e w'=>e=.returned (.tuple #[])∧(∃v ps,URB w' ub rb v∧PlAt w' v ps∧ps.map tl2=ZiZ u)∧But ub w w':=by
 have HUQ:=Za (show u.hq=R.hq∧u.q=tl R.q by rw[←hr.eq];exact⟨rfl,rfl⟩)
 have hne:=hu.ne h;obtain⟨a0,a1⟩:=hu.cells;have f1:=hu.free 1;have hU1:=hu.s1 (.slice none 0 0);have hbt1:But ub w (w.setCell ⟨ub,1,none⟩ (.slice none 0 0)):=(But.refl ub w).set 1 _;have hB1:=h.but hbt1 (Ne.symm hne);have HU1:=Za hU1;have HBT1:=Za hbt1;have HB1:=Za hB1;clear hu h hr hU1 hbt1 hB1
 go_enter Tryz.func150,Tryz.ntmps150
 go_upto_region 1 with fail;clear a0 a1 f1;generalize (w.setCell ⟨ub,1,none⟩ (.slice none 0 0))=w1 at *;obtain⟨a0,a1⟩:=HU1.out.cells;obtain⟨c0,c1,c2,c3,c4,c5,c6,c7,c8,c9,c10,c11,c12⟩:=HB1.out.cells
 cases hh:R.hq
 ·rw[hh]at c9
  have HE:=Za (show ZiZ u=[]by unfold ZiZ;rw[HUQ.out.1,hh,if_neg (by decide)])
  clear hh;go_wp2;exact bodyPost_end (results_none rfl _ _ _) rfl ⟨rfl,⟨_,[],HU1.out,PlAt.nil _,HE.out.symm⟩,HBT1.out⟩
 ·rw[hh]at c9
  have HE:=Za (show ZiZ u=ZhA (tl R.q)by unfold ZiZ;rw[HUQ.out.1,hh,if_pos rfl,HUQ.out.2])
  clear hh;go_wp2_with fail
  refine(ZrL R.q _ hq).mono ?_
  rintro e w2 ⟨v,ps,rfl,ho,hps,hn⟩;have HO:=Za ho;have HPS:=Za hps;have hU2:=HU1.out.on hn;have HU2:=Za hU2;have HBT2:=Za (HBT1.out.then (But.nx hn));obtain⟨ao,cp,rfl⟩:=Za7 ho;clear ho hps hn a0 a1 c0 c1 c2 c3 c4 c5 c6 c7 c8 c9 c10 c11 c12 hU2;obtain⟨a0,a1⟩:=HU2.out.cells;have f1:=HU2.out.free 1;go_wp2
  refine bodyPost_end (results_none rfl _ _ _) rfl ⟨rfl,⟨_,ps,HU2.out.s1 _,?_,by rw[HPS.out,HE.out]⟩,HBT2.out.set 1 _⟩
  exact(OwnP.at HO.out).kp (But.kpU ((But.refl ub w2).set 1 _) HU2.out) (by decide)
theorem Ze3(s:BA)(w:World)(hs:s.size≤maxLen):Calls Tryz.prog 101 #[.string s] w fun e w'=>e=.returned (.bool (decide (160<s.size)))∧w=w':=by
 unfold maxLen at hs
 go_enter Tryz.func101,Tryz.ntmps101
 go_wp2;go_ret
 exact⟨Zj (by rw[Bool.eq_iff_iff];simp;omega),rfl⟩
def Zz1(e:Ending)(w w':World)(x:RU×Int):Prop:=
 (x.2≠0∧e=.returned (.tuple #[.pointer none,.int .i64 x.2])∧Nx w w')∨(x.2=0∧∃ub rb R bs v ps,e=.returned (.tuple #[.pointer (some ⟨ub,0,none⟩),.int .i64 0])∧URB w' ub rb v∧RB w' rb R∧RIs w' R x.1 bs∧PlAt w' v ps∧ps.map tl2=ZiZ x.1∧w.heap.size≤ub∧w.heap.size≤rb∧Nx w w')
theorem ZyO(w:World)(rb:Nat):URB (w.alloc (Obj.cells #[.pointer (some ⟨rb,0,none⟩),.slice none 0 0] 88)) w.heap.size rb (.slice none 0 0):=heap_alloc_new w _
theorem ZrP(s base:BA)(w:World)(hs:s.size≤maxLen)(hb:base.size≤maxLen)(hq:(Zvg (tl s) (tl base) false).2=0→(Zvg (tl s) (tl base) false).1.q.length≤90000):Calls Tryz.prog 96 #[.string s,.string base,.bool false] w fun e w'=>Zz1 e w w' (Zvg (tl s) (tl base) false):=by
 have HQ:=Za hq;clear hq
 go_enter Tryz.func96,Tryz.ntmps96
 go_wp2_with fail
 refine(Ze3 s _ hs).mono ?_
 rintro e w' ⟨rfl,rfl⟩;go_wp2_with fail
 refine(Ze3 base _ hb).mono ?_
 rintro e w' ⟨rfl,rfl⟩
 by_cases hl:160<s.size
 ·have HE:=Za (show Zvg (tl s) (tl base) false=(zeroR,1)from if_pos (Or.inl (by rw[tl_length];exact hl)))
  rw[decide_eq_true hl];clear hl;generalize decide (160<base.size)=lb;go_wp2;go_ret2
  exact Or.inl ⟨by rw[HE.out];decide,by rw[HE.out];rfl,Nx.rfl⟩
 ·have HE:=Za (show Zvg (tl s) (tl base) false=Zaj (tl s) none from(if_neg (by rintro(g|g);rw[tl_length]at g;exact hl g;cases g.1)).trans (if_neg (fun g=>g rfl)))
  rw[decide_eq_false hl]
  have hs2:s.size≤20000:=by omega
  clear hl;generalize decide (160<base.size)=lb;go_wp2_with fail
  refine(Zkt s (.pointer none) none _ hs2 (Or.inl ⟨rfl,rfl⟩)).mono ?_
  rintro e w1 hx
  have HQ2:Hid ((Zaj (tl s) none).2=0→(Zaj (tl s) none).1.q.length≤90000):=Za (by have h:=HQ.out;rw[HE.out]at h;exact h)
  clear HQ;generalize Zaj (tl s) none=x at *;obtain⟨y,err⟩:=x;simp only at HQ2;rcases hx with⟨he,rfl,hn⟩|⟨he,rb,R,bs,rfl,hB,hR,hrb,hn⟩
  ·have he1:(err != 0)=true:=bne_iff_ne.2 he
   have HN:=Za hn;have HER:=Za he;clear he hn;go_wp2;go_ret2;rw[HE.out];exact Or.inl ⟨HER.out,rfl,HN.out⟩
  ·simp only at he
   subst he;have HN:=Za hn
   replace hR:RIs w1 R y bs:=hR
   have HB:=Za hB;have HR:=Za hR
   have hql:R.q.size≤90000:=ZdY (show tl R.q=y.q by rw[←hR.eq];rfl) (HQ2.out rfl)
   have HRB:=Za hrb;clear hn hB hR hrb HQ2;go_upto_region 17 with fail;have HU2:=Za (ZyO w1 rb);have HB2:=Za (HB.out.on (Nx.rfl.alloc (Obj.cells #[.pointer (some ⟨rb,0,none⟩),.slice none 0 0] 88)));have HR2:=Za (HR.out.on (Nx.rfl.alloc (Obj.cells #[.pointer (some ⟨rb,0,none⟩),.slice none 0 0] 88)));have HN2:=Za (HN.out.alloc (Obj.cells #[.pointer (some ⟨rb,0,none⟩),.slice none 0 0] 88));have HUB:=Za HN.out.size;obtain⟨ub,hub⟩:∃ub,ub=w1.heap.size:=⟨_,rfl⟩;rw[←hub]at HU2 HUB ⊢;generalize (w1.alloc (Obj.cells #[.pointer (some ⟨rb,0,none⟩),.slice none 0 0] 88))=w2 at *;clear hub;go_wp2_with fail
   refine(ZuN ub rb _ R y bs _ HU2.out HB2.out HR2.out hql).mono ?_
   rintro e w3 ⟨rfl,⟨v,ps,hU3,hpl,hps⟩,hbt⟩;have HU3:=Za hU3;have HPL:=Za hpl;have HPS:=Za hps;have HB3:=Za (HB2.out.but hbt (Ne.symm (HU2.out.ne HB2.out)));have HR3:=Za (HR2.out.kpU (hbt.kpU HU2.out));have HN3:=Za (show Nx w w3 from((But.nx HN2.out).then hbt).below HUB.out (Nat.le_refl _));clear hU3 hpl hps hbt;go_wp2;go_ret2;rw[HE.out];exact Or.inr ⟨rfl,ub,rb,R,bs,v,ps,rfl,HU3.out,HB3.out,HR3.out,HPL.out,HPS.out,HUB.out,HRB.out,HN3.out⟩
structure Two (ub rb:Nat) (w w':World):Prop where
 os:w'.os=w.os
 tape:w'.tape=w.tape
 output:w'.output=w.output
 size:w.heap.size≤w'.heap.size
 block:∀k,k<w.heap.size→k≠ub→k≠rb→w'.heap[k]?=w.heap[k]?
theorem Two.l{ub rb:Nat}{w w':World}(h:But ub w w'):Two ub rb w w':=⟨h.os,h.tape,h.output,h.size,fun k hk h1 _=>h.block k hk h1⟩
theorem Two.r{ub rb:Nat}{w w':World}(h:But rb w w'):Two ub rb w w':=⟨h.os,h.tape,h.output,h.size,fun k hk _ h1=>h.block k hk h1⟩
theorem Two.nx{ub rb:Nat}{w w':World}(h:Nx w w'):Two ub rb w w':=Two.l (But.nx h)
theorem Two.then{ub rb:Nat}{a b c:World}(h:Two ub rb a b)(k:Two ub rb b c):Two ub rb a c:=
 ⟨k.os.trans h.os,k.tape.trans h.tape,k.output.trans h.output,Nat.le_trans h.size k.size,fun i hi h1 h2=>(k.block i (Nat.lt_of_lt_of_le hi h.size) h1 h2).trans (h.block i hi h1 h2)⟩
theorem Two.below{ub rb B:Nat}{a w:World}(h:Two ub rb a w)(h1:B≤ub)(h2:B≤rb)(h3:B≤a.heap.size):Below B a w:=⟨h.os,h.tape,h.output,h.size,fun k hk=>h.block k (by omega) (by omega) (by omega)⟩
theorem RIs.bare{w:World}{R:RR}{u:RU}{bs:LA}(h:RIs w R u bs):ZyF u↔(tl R.htx=[]∨tl R.sch=ZO):=by rw[←h.eq];exact Iff.rfl
theorem HostC.on{w w':World}{hb:Nat}{is:Bool}{t:BA}(h:HostC w hb is t)(hn:Nx w w'):HostC w' hb is t:=(hn.block hb (Xa.1 h).1).trans h
theorem HostC.but{w w':World}{hb rb:Nat}{is:Bool}{t:BA}(h:HostC w hb is t)(hn:But rb w w')(hne:hb≠rb):HostC w' hb is t:=(hn.block hb (Xa.1 h).1 hne).trans h
theorem dropBlR_eq(l:LB):Zel l=ZbR l:=rfl
def blN(w:World)(rb:Nat):Nat:=match w.cell? ⟨rb,8,none⟩with|some (.string s)=>s.size|_=>0
theorem ZxH{w:World}{rb:Nat}{R:RR}(h:RB w rb R):blN w rb=R.bl.size:=by unfold blN;rw[h.cells.2.2.2.2.2.2.2.2.1]
theorem ZuO(ub rb:Nat)(v0:Value)(R:RR)(u:RU)(bs:LA)(w:World)(hu:URB w ub rb v0)(h:RB w rb R)(hr:RIs w R u bs)(hl:R.bl.size≤300000):Calls Tryz.prog 112 #[.pointer (some ⟨ub,0,none⟩)] w fun e w'=>e=.returned (.tuple #[])∧(∃R',RB w' rb R'∧RIs w' R' (ZhB u) bs)∧But rb w w':=by
 have HD:Hid (ZhB u=if R.op=true∧R.hq=false∧R.hf=false then { u with bl:=Zel (tl R.bl) }else u):=Za (by unfold ZhB;rw[←hr.eq];rfl)
 have HU:=Za hu;have HB:=Za h;have HR:=Za hr;have HNE:=Za (hu.ne h);obtain⟨a0,a1⟩:=hu.cells;clear hr;obtain⟨sch,user,pass,his,htx,port,po,pn,pc,op,bl,hq,q,hf,fr⟩:=R
 try simp only at *
 obtain⟨-,-,-,-,-,-,-,c7,c8,c9,-,c11,-⟩:=h.cells
 try simp only at c7 c8 c9 c11
 cases op
 ·have HE:=Za (HD.out.trans (if_neg (by rintro⟨x,-⟩;cases x)))
  clear HD;clear hu h
  go_enter Tryz.func112,Tryz.ntmps112
  go_wp2
  go_loopw [2] (fun _ wr=>wr=w) (fun _ _=>0)
  case atStart=>exact rfl
  case round=>
   obtain rfl:=hrel;go_wp2
   exact bodyPost_end (results_none rfl _ _ _) rfl ⟨rfl,⟨_,HB.out,by rw[HE.out];exact HR.out⟩,But.refl _ _⟩
 cases hq
 rotate_left
 ·have HE:=Za (HD.out.trans (if_neg (by rintro⟨-,x,-⟩;cases x)))
  clear HD;clear hu h
  go_enter Tryz.func112,Tryz.ntmps112
  go_wp2
  go_loopw [2] (fun _ wr=>wr=w) (fun _ _=>0)
  case atStart=>exact rfl
  case round=>
   obtain rfl:=hrel;go_wp2
   exact bodyPost_end (results_none rfl _ _ _) rfl ⟨rfl,⟨_,HB.out,by rw[HE.out];exact HR.out⟩,But.refl _ _⟩
 cases hf
 rotate_left
 ·have HE:=Za (HD.out.trans (if_neg (by rintro⟨-,-,x⟩;cases x)))
  clear HD;clear hu h
  go_enter Tryz.func112,Tryz.ntmps112
  go_wp2
  go_loopw [2] (fun _ wr=>wr=w) (fun _ _=>0)
  case atStart=>exact rfl
  case round=>
   obtain rfl:=hrel;go_wp2
   exact bodyPost_end (results_none rfl _ _ _) rfl ⟨rfl,⟨_,HB.out,by rw[HE.out];exact HR.out⟩,But.refl _ _⟩
 have HE:=Za (HD.out.trans (if_pos ⟨rfl,rfl,rfl⟩));clear HD hu h a0 a1 c7 c8 c9 c11
 go_enter Tryz.func112,Tryz.ntmps112
 go_wp2
 go_loopw [2] (fun _ wr=>∃b:BA,RB wr rb ⟨sch,user,pass,his,htx,port,po,pn,pc,true,b,false,q,false,fr⟩∧b.size≤300000∧Zel (tl bl)=Zel (tl b)∧But rb w wr) (fun _ wr=>blN wr rb)
 case atStart=>exact⟨bl,HB.out,hl,rfl,But.refl _ _⟩
 case round=>
  rename_i wr
  obtain⟨b,hB,hbl,hdr,hbt⟩:=hrel;have HB1:=Za hB;have HBT:=Za hbt;have HU1:=Za (HU.out.but hbt HNE.out);have HDR:=Za hdr;obtain⟨a0,a1⟩:=HU1.out.cells;obtain⟨-,-,-,-,-,-,-,c7,c8,c9,-,c11,-⟩:=hB.cells
  try simp only at c7 c8 c9 c11
  have f8:=hB.free 8;clear hB hbt hdr
  by_cases h0:0<b.size
  ·have hk1:b.size-1<b.size:=by omega
   have hz0:((b.size:Int)==0)=false:=beq_eq_false_iff_ne.2 (by omega)
   have hzb:¬b=ByteArray.empty:=fun e=>by rw[e]at h0;exact absurd h0 (by decide)
   have HT:=Za (show tl b=(tl b).take (b.size-1)++[b[b.size-1]'hk1]by
    have:=Zv b (b.size-1) hk1
    rw[show b.size-1+1=b.size by omega,ZY _ _ (Nat.le_refl _)]at this
    exact this)
   have hb1:=bb (b[b.size-1]'hk1)
   cases hc:(((b[b.size-1]'hk1).toNat:Int)==32)
   ·have HF:=Za (show Zel (tl bl)=tl b by rw[HDR.out,dropBlR_eq,HT.out,Zi0 (by simpa using hc)])
    have hc2:(((b[b.size-1]'hk1).toNat:Int) != 32)=true:=by simp only[bne,hc];rfl
    go_wp2
    exact bodyPost_ret (results_none rfl _ _ _) rfl ⟨rfl,⟨_,HB1.out,by rw[HE.out,HF.out];exact { HR.out.kp (HBT.out.kp HB.out)with eq:=by rw[←HR.out.eq];rfl }⟩,HBT.out⟩
   ·have HF:=Za (show Zel (tl bl)=Zel (tl (b.extract 0 (b.size-1)))by rw[HDR.out,dropBlR_eq,HT.out,Zkl (by simpa using hc),dropBlR_eq,tl_extract];rfl)
    have hc2:(((b[b.size-1]'hk1).toNat:Int) != 32)=false:=by simp only[bne,hc];rfl
    have hez:=Zd6 b 0 (b.size-1);have HB2:=Za (HB1.out.s8 (b.extract 0 (b.size-1)));go_wp2_with fail
    go_region
    all_goals go_wp2
    all_goals go_roundw
    case rel=>exact⟨_,HB2.out.on Nx.rfl.drew,by omega,HF.out,(HBT.out.set 8 _).then (But.nx Nx.rfl.drew)⟩
    case measure=>rw[ZxH (HB2.out.on Nx.rfl.drew),ZxH HB1.out];show(b.extract 0 (b.size-1)).size<b.size;rw[ByteArray.size_extract];omega
  ·have HF:=Za (show Zel (tl bl)=tl b by
    have e:tl b=[]:=Zoz (by omega)
    rw[HDR.out,e];rfl)
   have hz0:((b.size:Int)==0)=true:=by rw[show b.size=0 by omega];rfl
   go_wp2
   exact bodyPost_ret (results_none rfl _ _ _) rfl ⟨rfl,⟨_,HB1.out,by rw[HE.out,HF.out];exact { HR.out.kp (HBT.out.kp HB.out)with eq:=by rw[←HR.out.eq];rfl }⟩,HBT.out⟩
end Go.Proofs.YtchkhibgbnhjpabGreatDoor
