import Derived.Test.YtchkhibgbnhjpabGreatDoorT14
open List renaming flatMap_singleton→Xe,flatMap_append→Xh,length_append→Xi
open Nat renaming le_trans→Xa,le_succ_of_le→Xd,zero_le→Xf,le_succ→Xg,eq_zero_or_pos→Xj,le_refl→Xk
open Or renaming inr→Xb,inl→Xc
open Go.Value renaming string→J,bool→C,int→I
open Go.IntKind renaming i64→X
open Go.Ending renaming returned→Y
open Go.Obj renaming cells→O
namespace Go.Proofs.YtchkhibgbnhjpabGreatDoor
open Tryz
open Go.RowKit
set_option maxHeartbeats 8000000
set_option maxRecDepth 8000
variable [Fl]
set_option linter.all false
theorem OpB.all{w:World}{ob:Nat}{k a b c:Int}{s t:BA}(h:OpB w ob k a b c s t):w.cell? ⟨ob,0,none⟩=some (I X k)/\w.cell? ⟨ob,1,none⟩=some (I X a)/\w.cell? ⟨ob,2,none⟩=some (I X b)/\w.cell? ⟨ob,3,none⟩=some (I X c)/\w.cell? ⟨ob,4,none⟩=some (J s)/\w.cell? ⟨ob,5,none⟩=some (J t):=by
 unfold OpB at h
 refine⟨?_,?_,?_,?_,?_,?_⟩<;>simp[World.cell?,h]
theorem ZMV:(prog.info? 35).map (fun i=>(i.zero,i.size,i.bytes))=some (some (.pointer none),1,8):=by kernel_rfl
theorem Inv.up{w0 w:World}{n m wb:Nat}{q:Bool}{us ps ts:Value}{own:Nat->Nat×Nat}{S:Scr}(h:Inv w0 n w wb q us ps ts own S)(hm:n<=m):Inv w0 m w wb q us ps ts own S:={ h with cnt:=⟨Xa h.cnt.1 hm,Xa h.cnt.2.1 hm,Xa h.cnt.2.2 hm⟩ }
abbrev flw(w:World):Fl:=⟨⟨w.heap.size,fun k=>w.heap.size<=k,fun _ h=>h⟩⟩
theorem ZMW{w0 w w2 w4:World}{n wb:Nat}{q:Bool}{us ps ts:Value}{own:Nat->Nat×Nat}{S:Scr}(h:Inv w0 n w wb q us ps ts own S)(hn:Nx w w2)(hn4:Nx w2 w4){u:U}{pp pb ub rb:Nat}{r:Rc}{bs:LA}{R:RR}{rs:LA}{v:Value}{pz:List Pq}(hP:PairB w4 pp pb ub)(hB:@Both (flw w) w4 u pb ub rb r bs R rs v pz)(g1:w2.heap.size<=pp)(g2:w2.heap.size<=pb)(g3:w2.heap.size<=ub)(g4:w2.heap.size<=rb)(hv:OwnP w4 w2.heap.size v pz)(hf:FitL (Zzs u.q)):UOk w4 ⟨u,pp,pb,ub,rb,r,bs,R,rs,v,pz⟩/\∀k,(UE.mk u pp pb ub rb r bs R rs v pz).F k->w.heap.size<=k:=by
 have z:=hn.size
 refine⟨⟨hP,hB.to (fun k _=>h.all k) (fun k _=>h.all k) (Xa h.tb.2.2 (hn.then hn4).size),OwnP.kp hv (Kp.rfl (e:=9)) (by decide) (Xf _),hf⟩,?_⟩
 rintro k (rfl|rfl|rfl|rfl|hk|hk|hk)
 .exact Xa z g1
 .exact Xa z g2
 .exact Xa z g3
 .exact Xa z g4
 .exact @Sg.fl (flw w) _ _ _ (@RcIs.seg (flw w) _ _ _ _ (@Both.rc (flw w) _ _ _ _ _ _ _ _ _ _ _ hB)) k hk
 .exact @Sg.fl (flw w) _ _ _ (@RIs.seg (flw w) _ _ _ _ (@Both.ris (flw w) _ _ _ _ _ _ _ _ _ _ _ hB)) k hk
 .exact Xa z (hv.lt k hk).1
theorem ZKJ(w0:World)(n wb:Nat)(q:Bool)(us ps ts:Value)(own:Nat->Nat×Nat)(S:Scr)(k a b c:Int)(s t:BA)(w:World)(h:Inv w0 n w wb q us ps ts own S)(hn:n<=100000)(b0:-9223372036854775808<=b)(b1:b<=9223372036854775807)(hs:s.size<=maxLen)(ht:t.size<=maxLen):Calls prog 162 #[.pointer (some ⟨wb,0,none⟩),.agg #[I X k,I X a,I X b,I X c,J s,J t]] w fun e w'=>e=Y (C true)/\ZHO w0 w' wb (n+1):=by
 have H:=A h;have HOB:=A (show OpB (w.alloc (O #[I X k,I X a,I X b,I X c,J s,J t] 45)) w.heap.size k a b c s t from heap_alloc_new w _);have HN1:=A (show Nx w (w.alloc (O #[I X k,I X a,I X b,I X c,J s,J t] 45))from Nx.rfl.alloc _);obtain⟨ao,cap,hue,hcl,hrow⟩:=Zz4 h.ru;have hun:S.us.length<=100000:=Xa h.cnt.1 hn;have HROW:=A hrow;obtain⟨m,hm⟩:∃m,m=S.us.length:=⟨_,rfl⟩;rw[<-hm]at hue hcl hun HROW;have HM:=A hm;clear h hrow hm;subst hue
 go_enter func162,ntmps162
 go_upto_region 1 with fail;generalize w.alloc (O #[I X k,I X a,I X b,I X c,J s,J t] 45)=w1 at *;generalize hob:w.heap.size=ob at *;have HOE:=A hob;clear hob;obtain⟨o0,o1,o2,o3,o4,o5⟩:=HOB.o.all;obtain⟨q0,q1,q2,q3,hwl⟩:=(H.o.wbk.on HN1.o).facts
 have step:(a==2)=false∨((a==2)=true/\m=0)∨((a==2)=true/\0<m):=by
  cases a==2
  .exact Xc rfl
  .rcases Xj m with g|g
   .exact Xb (Xc ⟨rfl,g⟩)
   .exact Xb (Xb ⟨rfl,g⟩)
 rcases step with hA|⟨hA,hL⟩|⟨hA,hpos⟩
 focus
  go_upto_region 5 with fail;obtain⟨bt,hbt⟩:∃bt,bt=t:=⟨_,rfl⟩;subst hbt;have HBT:=A ht;obtain⟨w2,hw2⟩:∃w2,w2=w1:=⟨_,rfl⟩;subst hw2;have HN2:=A (show Nx w2 w2 from Nx.rfl)
 rotate_left
 focus
  have hp1:decide ((0:Int)<(m:Int))=false:=decide_eq_false (by omega)
  have hp2:decide (0<m)=false:=decide_eq_false (by omega)
  clear hL;go_upto_region 5 with fail;obtain⟨bt,hbt⟩:∃bt,bt=t:=⟨_,rfl⟩;subst hbt;have HBT:=A ht;obtain⟨w2,hw2⟩:∃w2,w2=w1:=⟨_,rfl⟩;subst hw2;have HN2:=A (show Nx w2 w2 from Nx.rfl)
 rotate_left
 focus
  have hposI:decide ((0:Int)<(m:Int))=true:=decide_eq_true (by omega)
  obtain⟨g,hg,hgc⟩:=HROW.o hpos;subst hg;have hpk:=ZBw b hpos
  obtain⟨e,he⟩:∃e,S.us[ZAE b m]?=some e:=⟨_,List.getElem?_eq_getElem (by rw[<-HM.o];exact hpk)⟩
  have HE:=A he
  have hcell:=(World.cell?_of_block (HN1.o.block g (ZAd H.o.ru rfl))).trans (hgc (ZAE b m) e.p (by rw[List.getElem?_map,he];rfl))
  clear he hgc;unfold UE.p at hcell
  have HPK:=A (fun w'=>ZA0 b m b0 b1 hpos (by omega) w')
  generalize ZAE b m=pk at *;go_upto_region 3 with fail
  go_cut [6]from 22 (fun x wx=>x=I X (pk:Int)/\Nx w1 wx)
  case first=>
   go_region_with (go_at_call 164;refine(HPK.o _).mono ?_;rintro e w' ⟨rfl,rfl⟩)
   all_goals go_wp2_with fail
   all_goals go_meet
   all_goals first|exact⟨rfl,Nx.rfl.drew⟩|exact⟨rfl,Nx.rfl⟩|exact⟨rfl,Nx.rfl.drew.drew⟩
  rename_i wc0
  obtain⟨hx6,hnn⟩:=hcut;subst hx6;obtain⟨w3,hw3⟩:∃w3,w3=wc:=⟨_,rfl⟩;subst hw3;have HNN:=A hnn;have hcell3:=(World.cell?_of_block (hnn.block g (World.block_lt_of_cell? w1 _ hcell))).trans hcell;obtain⟨r0,r1,r2,r3,hwl3⟩:=(H.o.wbk.on (HN1.o.then hnn)).facts
  have hpi:(0:Int)<=(pk:Int):=by omega
  clear hnn hcell q0 q1 q2 q3 hwl o0 o1 o2 o3 o4 o5;obtain⟨hue,huf⟩:=H.o.uo pk e HE.o
  have HUE:=A (hue.o (Out.nx (G:=fun _=>False) (HN1.o.then HNN.o)) fun _ _ f=>f)
  clear hue huf;go_wp2_with fail
  refine(ZG1 e.pp e.pb e.ub e.rb e.r e.u e.bs e.R e.rs e.v e.ps w3 HUE.o.pair HUE.o.both).mono ?_
  rintro e' w2 ⟨bt,rfl,hbt,hn2⟩;have HBT:=A hbt;have HN2:=A (HNN.o.then hn2);clear hbt hn2 hcell3 r0 r1 r2 r3 hwl3;go_upto_region 5 with fail
 all_goals
  try clear o0 o1 o2 o3 o4 o5 q0 q1 q2 q3 hwl
  have HN3:=A (HN1.o.then HN2.o);have HOB2:=A (HOB.o.on HN2.o);obtain⟨o0,o1,o2,o3,o4,o5⟩:=HOB2.o.all;have HTB:Hid (@Tb (flw w) w2):=A (Tb.to (G:=flw w) (H.o.tb.on HN3.o) HN3.o.size)
  have HFT:=A (fun bd=>ZLX (ZEN (tl s) (tl bt) bd).q)
  clear hA
  cases hA1:(a==1)<;>cases hA2:(a==2)
 all_goals
  go_wp2_with fail
  refine(@ZMU (flw w) s bt _ w2 hs HBT.o HTB.o).mono ?_
  rintro e w4 hpb;rcases hpb with⟨-,rfl,hn4⟩|⟨-,pp,pb,ub,rb,r,bs,R,rs,v,pz,rfl,hP,hB,g1,g2,g3,g4,hn4,hvn⟩
  .have HN4:=A (HN3.o.then hn4)
   clear hn4 o0 o1 o2 o3 o4 o5;go_wp2;go_ret;exact⟨rfl,_,_,_,_,_,_,(H.o.on HN4.o).up (Xg _)⟩
  .have HN4:=A (HN3.o.then hn4)
   have HUE:=A (ZMW H.o HN3.o hn4 hP hB g1 g2 g3 g4 hvn (HFT.o _));obtain⟨q0,q1,q2,q3,hwl⟩:=(H.o.wbk.on HN4.o).facts;clear hn4 hP hB g1 g2 g3 g4 hvn o0 o1 o2 o3 o4 o5
   have HRU:=A (show w4.ownsRow 0 35 1 _ m (S.us.map UE.p)by rw[HM.o];exact(H.o.on HN4.o).ru)
   go_upto_region 8 with(at_builtin;go_must (refine ZG2 w4 39 35 (.pointer none) 1 8 #[.pointer (some ⟨pp,0,none⟩)] ZMV underlying39 rfl (by decide) (by decide) rfl (by simp[Value.oneCell']) rfl _ _ rfl _ m (S.us.map UE.p) rfl HRU.o rfl (by omega) ?_;intro g cp w5 ho5 hout hg5;have HO5:=A ho5;have HOUT:=A hout;have HG5:=A hg5;have HW5:=A (show WB w5 wb _ _ _ _ from(hout.kpr HRU.o).2 _ _ _ _ (H.o.wbk.on HN4.o) (by decide));obtain⟨y0,y1,y2,y3,hyl⟩:=HW5.o.facts;have f1:=HW5.o.free 1;clear ho5 hout hg5))
   have HGD:=A (H.o.addU HN4.o HUE.o.1 HUE.o.2 (us':=.slice (some ⟨g,0,none⟩) (m+1) cp) (by rw[<-HM.o];exact HO5.o) HOUT.o (fun k hk=>by cases hk;exact HG5.o))
   generalize w5.setCell ⟨wb,1,none⟩ (.slice (some ⟨g,0,none⟩) (m+1) cp)=w6 at *;clear q0 q1 q2 q3 hwl y0 y1 y2 y3 hyl f1;go_wp2;go_ret;exact⟨rfl,HGD.o⟩
theorem HPOk.kp{w w':World}{h:HP}{t:TypeId}(g:HPOk w h)(hk:Kp t w w')(ht:113≠t):HPOk w' h:=⟨g.pos,g.len,OwnP.kp g.real hk ht (Xk _),OwnP.kp g.want hk ht (Xk _),g.ne⟩
theorem HTOk.kp{w w':World}{h:HT}{t:TypeId}(g:HTOk w h)(hk:Kp t w w')(ht:9≠t):HTOk w' h:=⟨g.pos,g.len,ZAe g.real hk ht,ZAe g.want hk ht,g.ne⟩
theorem get_snoc{α:Type}{l:List α}{x y:α}{i:Nat}(h:(l++[x])[i]?=some y):l[i]?=some y∨(i=l.length/\y=x):=by
 rw[List.getElem?_append]at h
 split at h
 .exact Xc h
 .next hi=>
  obtain⟨h0,h1⟩:=List.getElem?_eq_some_iff.1 h;simp only[List.length_singleton]at h0;simp only[List.getElem_singleton]at h1
  exact Xb ⟨by omega,h1.symm⟩
theorem Inv.addP{w0 w w2 w3:World}{n wb:Nat}{q:Bool}{us ps ts ps':Value}{own:Nat->Nat×Nat}{S:Scr}(h:Inv w0 n w wb q us ps ts own S)(hn:Nx w w2){e:HP}(hu:HPOk w2 e)(hnew:∀k,e.F k->w.heap.size<=k)(hr:w3.ownsRow 0 92 2 ps' (S.ps.length+1) (S.ps.flatMap HP.c++e.c))(ho:Out (At ps) w2 w3)(hg:∀k,At ps' k->At ps k∨w2.heap.size<=k):ZHO w0 (w3.setCell ⟨wb,2,none⟩ ps') wb (n+1):=by
 classical
 have h2:=h.on hn;have k1:=ho.kpr h2.rp
 have wb3:WB w3 wb q us ps ts:=k1.2 _ _ _ _ h2.wbk (by decide)
 have b4:But wb w3 (w3.setCell ⟨wb,2,none⟩ ps'):=(But.refl wb w3).set 2 _;have k2:=b4.kpW wb3;have z:=hn.size
 refine⟨_,_,_,_,_,_,h.gen (S':={ S with ps:=S.ps++[e] }) (0,0) (fun k=>if e.F k then(2,S.ps.length)else(0,0)) (by decide) (((Out.nx hn).then ((ho.mono fun k _ hk=>h.lo k (Xb (Xb (Xc hk)))))).then (Out.of_but b4 (h.lo wb (Xc rfl)))) (wb3.sx ps').2.1 (ZAe (ZAe h2.ru k1 (by decide)) k2 (by decide)) ?_ (ZAe (ZAe h2.rt k1 (by decide)) k2 (by decide)) ?_ (fun i f hf=>Xc ⟨hf,by simp⟩) ?_ (fun i f hf=>Xc ⟨hf,by simp⟩) ⟨Xd h.cnt.1,by simp;exact h.cnt.2.1,Xd h.cnt.2.2⟩⟩
 .show(w3.setCell ⟨wb,2,none⟩ ps').ownsRow 0 _ 2 ps' (S.ps++[e]).length ((S.ps++[e]).flatMap HP.c)
  rw[Xh,Xi,Xe]
  exact ZAe hr k2 (by decide)
 .intro k hk
  rcases hk with hk|hk|hk
  .rw[ifP (ZAd h.ru hk)];exact h.lo k (Xb (Xc hk))
  .rcases hg k hk with g|g
   .rw[ifP (ZAd h.rp g)];exact h.lo k (Xb (Xb (Xc g)))
   .rw[ifN (by omega),ifN (fun f=>by have:=hu.lt f;omega)]
  .rw[ifP (ZAd h.rt hk)];exact h.lo k (Xb (Xb (Xb hk)))
 .intro i f hf
  rcases get_snoc hf with g|⟨rfl,rfl⟩
  .exact Xc ⟨g,by simp⟩
  .exact Xb ⟨(hu.kp k1 (by decide)).kp k2 (by decide),fun k hk=>by have:=hnew k hk;rw[ifN (by omega),ifP hk]⟩
theorem Inv.addT{w0 w w2 w3:World}{n wb:Nat}{q:Bool}{us ps ts ts':Value}{own:Nat->Nat×Nat}{S:Scr}(h:Inv w0 n w wb q us ps ts own S)(hn:Nx w w2){e:HT}(hu:HTOk w2 e)(hnew:∀k,e.F k->w.heap.size<=k)(hr:w3.ownsRow 0 83 2 ts' (S.ts.length+1) (S.ts.flatMap HT.c++e.c))(ho:Out (At ts) w2 w3)(hg:∀k,At ts' k->At ts k∨w2.heap.size<=k):ZHO w0 (w3.setCell ⟨wb,3,none⟩ ts') wb (n+1):=by
 classical
 have h2:=h.on hn;have k1:=ho.kpr h2.rt
 have wb3:WB w3 wb q us ps ts:=k1.2 _ _ _ _ h2.wbk (by decide)
 have b4:But wb w3 (w3.setCell ⟨wb,3,none⟩ ts'):=(But.refl wb w3).set 3 _;have k2:=b4.kpW wb3;have z:=hn.size
 refine⟨_,_,_,_,_,_,h.gen (S':={ S with ts:=S.ts++[e] }) (0,0) (fun k=>if e.F k then(3,S.ts.length)else(0,0)) (by decide) (((Out.nx hn).then ((ho.mono fun k _ hk=>h.lo k (Xb (Xb (Xb hk)))))).then (Out.of_but b4 (h.lo wb (Xc rfl)))) (wb3.sx ts').2.2 (ZAe (ZAe h2.ru k1 (by decide)) k2 (by decide)) (ZAe (ZAe h2.rp k1 (by decide)) k2 (by decide)) ?_ ?_ (fun i f hf=>Xc ⟨hf,by simp⟩) (fun i f hf=>Xc ⟨hf,by simp⟩) ?_ ⟨Xd h.cnt.1,Xd h.cnt.2.1,by simp;exact h.cnt.2.2⟩⟩
 .show(w3.setCell ⟨wb,3,none⟩ ts').ownsRow 0 _ 2 ts' (S.ts++[e]).length ((S.ts++[e]).flatMap HT.c)
  rw[Xh,Xi,Xe]
  exact ZAe hr k2 (by decide)
 .intro k hk
  rcases hk with hk|hk|hk
  .rw[ifP (ZAd h.ru hk)];exact h.lo k (Xb (Xc hk))
  .rw[ifP (ZAd h.rp hk)];exact h.lo k (Xb (Xb (Xc hk)))
  .rcases hg k hk with g|g
   .rw[ifP (ZAd h.rt g)];exact h.lo k (Xb (Xb (Xb g)))
   .rw[ifN (by omega),ifN (fun f=>by have:=hu.lt f;omega)]
 .intro i f hf
  rcases get_snoc hf with g|⟨rfl,rfl⟩
  .exact Xc ⟨g,by simp⟩
  .exact Xb ⟨(hu.kp k1 (by decide)).kp k2 (by decide),fun k hk=>by have:=hnew k hk;rw[ifN (by omega),ifP hk]⟩
theorem ZG3(w0:World)(n wb:Nat)(q:Bool)(us ps ts:Value)(own:Nat->Nat×Nat)(S:Scr)(i:Nat)(e:UE)(w:World)(h:Inv w0 n w wb q us ps ts own S)(he:S.us[i]?=some e)(hn:n<=100000):Calls prog 23 #[.pointer (some ⟨wb,0,none⟩),.pointer (some ⟨e.pp,0,none⟩)] w fun e w'=>e=Y (C true)/\ZHO w0 w' wb (n+1):=by
 have H:=A h;have hu:=(h.uo i e he).1;have HPR:=A hu.pair;have HB:=A hu.both;have hc:=ZzF hu.both.list (ZCJ hu.both.rc);obtain⟨po,pc,hpe,hpl,-⟩:=Zz4 h.rp;have hpn:S.ps.length<=100000:=Xa h.cnt.2.1 hn
 have HRP:Hid (∀w',Nx w w'->w'.ownsRow 0 92 2 ps S.ps.length (S.ps.flatMap HP.c)):=A (fun w' hn=>(h.on hn).rp)
 obtain⟨m,hm⟩:∃m,m=S.ps.length:=⟨_,rfl⟩;rw[<-hm]at hpe hpl hpn HRP;have HM:=A hm;obtain⟨u,pp,pb,ub,rb,r,bs,R,rs,v,pz⟩:=e;simp only at HPR HB hc
 have hnl:∀w',(binOp .eql 68 (.slice none 0 0) (.slice none 0 0)).run prog w'=.ok (C true) w':=fun w'=>by first|exact Lib.run_eql_slice_nil w' _ _ _ _ _ _ _ underlying68|exact run_eql_slice_nil w' _ _ _ _ _ underlying68
 obtain⟨p0,p1⟩:=HPR.o.cells;clear h hu hm he;subst hpe
 go_enter func23,ntmps23
 go_wp2_with fail
 refine(ZKp pb r u bs _ HB.o.url HB.o.rc).mono ?_
 rintro e w1 ⟨l,ps1,rfl,hl1,hm1,hn1⟩;have hps:ps1=pz:=ZLr (hm1.trans HB.o.list.symm);subst hps;have HL:=A hl1;have HLA:=A (hl1.at hc);have HN1:=A hn1;have HB1:=A (HB.o.on hn1);obtain⟨p0',p1'⟩:=(HPR.o.on hn1).cells;obtain⟨lo,lc,hle⟩:=hl1.slice;clear hl1 hm1 hn1 p0 p1;subst hle;go_wp2_with fail
 refine(ZCK ub rb v ps1 _ HB1.o.ref HB1.o.pl).mono ?_
 rintro e w' ⟨rfl,rfl⟩;obtain⟨ao,cap,hve,hlc,hcap,hnone,hsome⟩:=HB1.o.pl;subst hve;unfold maxLen at hcap;go_wp2_with fail
 refine(ZB2 _ _ ps1 ps1 _ HLA.o HB1.o.pl).mono ?_
 rintro e w2 ⟨rfl,hn2⟩;rw[decide_eq_true (rfl:ps1=ps1)];have HN2:=A (HN1.o.then hn2)
 have HR2:Hid (∀a,ao=some a->∃b off,a=⟨b,off,none⟩/\RowP w2 b off ps1):=A (fun a ha=>by obtain⟨b,off,e1,hr⟩:=hsome a ha;exact⟨b,off,e1,hr.on hn2⟩)
 have HL2:=A (HL.o.on hn2);clear hn2 hsome p0' p1';rcases Xj ps1.length with h0|hpos
 .have hnil:=List.eq_nil_of_length_eq_zero h0
  subst hnil
  have hlv:lo=none/\lc=0:=by
   rcases HL2.o with⟨-,h⟩|⟨h,-⟩
   .simp only[Value.slice.injEq]at h
    exact⟨h.1,h.2.2⟩
   .exact absurd h (by decide)
  obtain⟨rfl,rfl⟩:=hlv;simp only[List.length_nil]at *
  cases ao with
  | none=>
   obtain⟨-,rfl⟩:=hnone rfl;obtain⟨i0,hi0,hi1⟩:=ZNo
   go_wp2_with (at_builtin;go_must (refine wpList_append_own_none rfl _ _ 68 rfl w2.heap.size 113 i0 2 underlying68 hi0 (.slice none 0 0) 0 [] rfl (World.ownsRow_nil _ _ _ _) rfl ?_))
   go_ret;exact⟨rfl,_,_,_,_,_,_,(H.o.on HN2.o).up (Xg _)⟩
  | some a0=>
   obtain⟨b,off,rfl,hr⟩:=HR2.o a0 rfl
   go_wp2_with (at_builtin;go_must (refine ZGO w2 rfl _ _ rfl rfl b off cap [] rfl hr (by decide) ?_;intro v3 w3 ho3 hn3;have HN3:=A (HN2.o.then hn3);obtain⟨ao3,cp3,hv3⟩:=ZzC ho3;subst hv3;clear ho3 hn3))
   go_ret;exact⟨rfl,_,_,_,_,_,_,(H.o.on HN3.o).up (Xg _)⟩
 .obtain⟨a,ha⟩:=ZAh hpos hnone
  subst ha;obtain⟨b,off,rfl,hr⟩:=HR2.o a rfl
  have hlv:∃nb,lo=some ⟨nb,0,none⟩/\lc=ps1.length/\w.heap.size<=nb/\FullP w2 nb ps1:=by
   rcases HL2.o with⟨h,-⟩|⟨-,nb,hb,h,hf⟩
   .rw[h]at hpos;exact absurd hpos (by decide)
   .simp only[Value.slice.injEq]at h
    exact⟨nb,h.1,h.2.2,hb,hf⟩
  obtain⟨nb,rfl,rfl,hnb,hfull⟩:=hlv;have HFU:=A hfull;have hnl2:=hfull.lt
  have hgt:decide ((0:Int)<(ps1.length:Int))=true:=decide_eq_true (by omega)
  have hee:((ps1.length:Int)==(ps1.length:Int))=true:=by simp
  clear hfull
  go_upto_region 5 with(at_builtin;go_must (refine ZGO w2 rfl _ _ rfl rfl b off cap ps1 rfl hr (by omega) ?_;intro v3 w3 ho3 hn3;have HN3:=A (HN2.o.then hn3);have HO3:=A ho3;have HFU3:=A (HFU.o.on hn3);clear hn3))
  obtain⟨mb,cp3,hv3,hmb,-⟩:=World.ownsRow.form HO3.o hpos;subst hv3;clear ho3 HFU
  have HPK:=A (show HPOk w3 ⟨nb,mb,cp3,ps1⟩from⟨hpos,hc,FullP.own HFU3.o (Xf _) hc,OwnP.kp HO3.o (Kp.rfl (e:=9)) (by decide) (Xf _),Nat.ne_of_lt (Nat.lt_of_lt_of_le hnl2 hmb)⟩)
  have HNW:=A (show ∀k,(HP.mk nb mb cp3 ps1).F k->w.heap.size<=k by rintro k (rfl|rfl);exact hnb;exact Xa HN2.o.size hmb)
  obtain⟨q0,q1,q2,q3,hwl⟩:=(H.o.wbk.on HN3.o).facts
  go_upto_region 7 with(at_builtin;go_must (refine ZG2 w3 40 92 _ 2 48 #[.slice (some ⟨nb,0,none⟩) ps1.length ps1.length,.slice (some ⟨mb,0,none⟩) ps1.length cp3] ZIV underlying40 rfl (by decide) (by decide) rfl (by simp[Value.oneCell']) rfl _ _ rfl _ m (S.ps.flatMap HP.c) rfl (HRP.o _ HN3.o) rfl (by omega) ?_;intro g cp w5 ho5 hout hg5;have HO5:=A ho5;have HOUT:=A hout;have HG5:=A hg5;have HW5:=A (show WB w5 wb _ _ _ _ from(hout.kpr (HRP.o _ HN3.o)).2 _ _ _ _ (H.o.wbk.on HN3.o) (by decide));obtain⟨y0,y1,y2,y3,hyl⟩:=HW5.o.facts;have f2:=HW5.o.free 2;clear ho5 hout hg5))
  have HGD:=A (H.o.addP HN3.o HPK.o HNW.o (ps':=.slice (some ⟨g,0,none⟩) (m+1) cp) (by rw[<-HM.o];exact HO5.o) HOUT.o (fun k hk=>by cases hk;exact HG5.o))
  generalize w5.setCell ⟨wb,2,none⟩ (.slice (some ⟨g,0,none⟩) (m+1) cp)=w6 at *;clear q0 q1 q2 q3 hwl y0 y1 y2 y3 hyl f2;go_wp2;go_ret;exact⟨rfl,HGD.o⟩
end Go.Proofs.YtchkhibgbnhjpabGreatDoor
