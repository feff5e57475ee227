import Derived.Test.YtchkhibgbnhjpabGreatDoorV09
import Derived.Deep.RegionWith
open Array renaming getElem?_modify→Xa
open List renaming length_take→Xc,length_map→Xe,map_append→Xf
open Nat renaming le_trans→Xb,le_refl→Xd
namespace Go.Proofs.YtchkhibgbnhjpabGreatDoor
open Go.RowKit
set_option maxHeartbeats 4000000
theorem ZhF{w:World}{base base':Nat}{e:TypeId}{size:Nat}{v:Value}{n:Nat}{xs:List Value}(h:w.ownsRow base e size v n xs)(hb:base'≤base):w.ownsRow base' e size v n xs:=by
 obtain⟨h1,h2|⟨g,cap,cur,h2,h3,h4⟩⟩:=h
 ·exact⟨h1,.inl h2⟩
 ·exact⟨h1,.inr ⟨g,cap,cur,h2,Xb hb h3,h4⟩⟩
theorem PthAt.facts6{w:World}{pb:Nat}{f s:Bool}{v:Value}(h:PthAt w pb f s v):w.cell? ⟨pb,0,none⟩=some (.bool f)∧w.cell? ⟨pb,1,none⟩=some (.bool s)∧w.cell? ⟨pb,2,none⟩=some v∧w.frozen? ⟨pb,0,none⟩=false∧w.frozen? ⟨pb,1,none⟩=false∧w.frozen? ⟨pb,2,none⟩=false:=by
 unfold PthAt at h
 refine⟨?_,?_,?_,?_,?_,?_⟩<;>simp[World.cell?,World.frozen?,h]
def TyB(w:World)(pb:Nat)(t:TypeId):Prop:=∃(cs:Array Value) (fz:Nat×Nat),w.heap[pb]?=some (Obj.cells cs t fz)
theorem TyB.set{w:World}{pb:Nat}{t:TypeId}(h:TyB w pb t)(q i:Nat)(u:Value):TyB (w.setCell ⟨q,i,none⟩ u) pb t:=by
 obtain⟨cs,fz,h⟩:=h
 by_cases hq:q=pb
 ·subst hq
  simp only[TyB,World.setCell,Xa,if_pos,h];exact⟨_,_,rfl⟩
 ·simp only[TyB,World.setCell,Xa,if_neg hq]
  exact⟨cs,fz,h⟩
theorem TyB.own{w:World}{pb base:Nat}{t:TypeId}(h:TyB w pb t)(ht:t≠9){v:Value}{bs:LA}(ho:ZcM w base v bs)(i:Nat)(u:Value):ZcM (w.setCell ⟨pb,i,none⟩ u) base v bs:=by
 obtain⟨cs,fz,h⟩:=h;obtain⟨h1,⟨rfl,h3⟩|⟨g,cap,cur,rfl,h4,h5,h6⟩⟩:=ho
 ·exact⟨h1,.inl ⟨rfl,h3⟩⟩
 ·refine⟨h1,.inr ⟨g,cap,cur,rfl,h4,?_,h6⟩⟩
  have hne:pb≠g:=by intro e;subst e;rw[h]at h5;simp only[Option.some.injEq,Obj.cells.injEq]at h5;exact ht h5.2.1
  simp only[World.setCell,Xa,if_neg hne];exact h5
theorem PthAt.ty{w:World}{pb:Nat}{f s:Bool}{v:Value}(h:PthAt w pb f s v):TyB w pb 223:=⟨_,_,h⟩
theorem PthAt.far{w:World}{pb q:Nat}{f s:Bool}{v:Value}(h:PthAt w pb f s v)(hq:q≠pb)(i:Nat)(u:Value):PthAt (w.setCell ⟨q,i,none⟩ u) pb f s v:=by unfold PthAt at *;simp only[World.setCell,Xa,if_neg hq];exact h
theorem PthAt.all{w:World}{pb:Nat}{f s:Bool}{v:Value}(h:PthAt w pb f s v)(f' s':Bool)(v':Value):PthAt (((w.setCell ⟨pb,0,none⟩ (.bool f')).setCell ⟨pb,1,none⟩ (.bool s')).setCell ⟨pb,2,none⟩ v') pb f' s' v':=by
 unfold PthAt at *
 simp[World.setCell,Xa,h]
def Zw:List UInt8:=[102,105,108,101]
theorem ZfO(v:Value)(bs:LA)(sch:BA)(w:World)(hv:ZbU w v bs)(hl:bs.length≤1000000):Calls Tryz.prog 258 #[v,.string sch] w fun e w'=>∃v',e=.returned (.agg #[.bool (tl sch==Zw),.bool (Zb (tl sch)),v'])∧ZcM w' w.heap.size v' bs∧Nx w w':=by
 have HV:=Za hv;clear hv
 go_enter Tryz.func258,Tryz.ntmps258
 have HX:=Za (show(sch.toList == [102,105,108,101])=(tl sch==Zw)by rw[ByteArray.toList_eq];rfl)
 go_wp2_with (go_at_call 189;refine(Z6 _ _).mono ?_;rintro e w' ⟨rfl,rfl⟩)
 rw[HX.out]
 refine(ZkR v bs _ ?_ hl).mono ?_
 ·exact HV.out.on ((Nx.rfl.alloc _).alloc _)
 rintro e w2 ⟨v2,rfl,ho,hn⟩
 have HP2:=Za (PthAt.on (show PthAt ((w.alloc (Obj.cells #[Value.bool false,Value.bool false,Value.slice none 0 0] 223)).alloc (Obj.cells #[Value.bool (tl sch==Zw),Value.bool (Zb (tl sch)),Value.slice none 0 0] 223)) (w.heap.size+1) _ _ _ from by unfold PthAt;rw[show w.heap.size+1=(w.alloc (Obj.cells #[Value.bool false,Value.bool false,Value.slice none 0 0] 223)).heap.size by simp];exact heap_alloc_new _ _) hn)
 have HR2:=Za (PthAt.on (show PthAt ((w.alloc (Obj.cells #[Value.bool false,Value.bool false,Value.slice none 0 0] 223)).alloc (Obj.cells #[Value.bool (tl sch==Zw),Value.bool (Zb (tl sch)),Value.slice none 0 0] 223)) w.heap.size _ _ _ from PthAt.on (heap_alloc_new w _) (Nx.rfl.alloc _)) hn);have HN2:=Za (show Nx w w2 from((Nx.rfl.alloc _).alloc _).then hn)
 have HO2:=Za (show ZcM w2 w.heap.size v2 bs from ZhF ho (by simp;omega))
 obtain⟨ao,cap,hv2⟩:∃ao cap,v2=.slice ao bs.length cap:=by
  obtain⟨h1,⟨h2,h3⟩|⟨g',cap',cur,h2,h4⟩⟩:=HO2.out
  ·exact⟨none,0,by rw[h2,h3]⟩
  ·exact⟨_,_,h2⟩
 subst hv2;clear ho hn;obtain⟨hc0,hc1,hc2,hf2⟩:=HP2.out.facts;obtain⟨hd0,hd1,hd2,hg0,hg1,hg2⟩:=HR2.out.facts6;have HTP:=Za (HP2.out.ty);have HTR:=Za (HR2.out.ty)
 have HR3:=Za ((HR2.out.far (q:=w.heap.size+1) (by omega) 2 (.slice ao bs.length cap)).all (tl sch==Zw) (Zb (tl sch)) (.slice ao bs.length cap))
 obtain⟨hs0,hs1,hs2,-,-,-⟩:=HR3.out.facts6;go_wp2
 exact bodyPost_ret (v:=.agg #[.bool (tl sch==Zw),.bool (Zb (tl sch)),.slice ao bs.length cap]) (by simp[results,Tryz.results258,go_sem,hs0,hs1,hs2]) rfl ⟨_,rfl,
  ((HTR.out.set _ _ _).set _ _ _ |>.set _ _ _).own (by decide) (((HTR.out.set _ _ _).set _ _ _).own (by decide) ((HTR.out.set _ _ _).own (by decide) (HTP.out.own (by decide) HO2.out _ _) _ _) _ _) _ _,
  (((HN2.out.setCell (by simp) _).setCell (Xd _) _).setCell (Xd _) _).setCell (Xd _) _⟩
def ZcF(f:Bool)(ps:List (List UInt8))(seg:List UInt8)(last:Bool):List (List UInt8):=
 if countDots seg=0 then joinL f ps seg else
 if last then(if countDots seg=2 then ZaC f ps else ps)++[[]]else(if countDots seg=2 then ZaC f ps else ps)
theorem ZbD{f:Bool}{bs bs':LA}(h:bs'.map tl=ZaC f (bs.map tl)):bs'.length≤bs.length:=by
 have h1:=congrArg List.length h;have h2:=ZlM f (bs.map tl);rw[Xe]at h1 h2
 omega
theorem ZpV(pb base:Nat)(f s:Bool)(v:Value)(bs:LA)(q:BA)(last:Bool)(w:World)(hp:PthAt w pb f s v)(ho:ZcM w base v bs)(hb:base≤pb)(hbw:base≤w.heap.size)(hl:bs.length≤1000000)(hq:q.size≤1000000):Calls Tryz.prog 290 #[.pointer (some ⟨pb,0,none⟩),.string q,.bool last] w fun e w'=>∃x v' bs',e=.returned x∧PthAt w' pb f s v'∧ZcM w' base v' bs'∧bs'.map tl=ZcF f (bs.map tl) (tl q) last∧bs'.length≤bs.length+1∧Below base w w':=by
 have HP:=Za hp;have HO:=Za ho;have HB:=Za hb;clear hp ho hb
 have HT:=Za (show ZcF f (bs.map tl) (tl q) last=if countDots (tl q)=0 then joinL f (bs.map tl) (tl q)else
  if last then(if countDots (tl q)=2 then ZaC f (bs.map tl)else bs.map tl)++[[]]else(if countDots (tl q)=2 then ZaC f (bs.map tl)else bs.map tl)from rfl)
 have hd2:=ZrT 3 0 (tl q) rfl
 change countDots (tl q)≤2 at hd2
 generalize hd:countDots (tl q)=d at *;have HD:=Za hd;clear hd
 have key:∀(w1 w2:World) (v1 v':Value) (cs:LA),Below base w w1→PthAt w1 pb f s v1→ZcM w2 base v' (cs++[(⟨#[]⟩:BA)])→Below base w1 w2→Kp 9 w1 w2→PthAt w2 pb f s v1∧(∀u,PthAt (w2.setCell ⟨pb,2,none⟩ u) pb f s u)∧(∀u,ZcM (w2.setCell ⟨pb,2,none⟩ u) base v' (cs++[(⟨#[]⟩:BA)]))∧(∀u,Below base w (w2.setCell ⟨pb,2,none⟩ u)):=by
  intro w1 w2 v1 v' cs h0 hp1 h1 h2 h3;have h4:=hp1.kp h3
  exact⟨h4,fun u=>h4.set u,fun u=>h4.own h1 u,fun u=>(h0.trans h2).setCell HB.out u⟩
 have KEY:=Za key;clear key
 rcases(show d=0∨d=1∨d=2 by omega)with rfl|rfl|rfl
 ·have HE:=Za (HT.out.trans (if_pos rfl))
  clear HT hd2
  go_enter Tryz.func290,Tryz.ntmps290
  go_wp2_with (first|(go_at_call 302;refine(Zbp _ _ hq).mono ?_;rintro e w' ⟨rfl,rfl⟩;rw[HD.out])|(go_at_call 303;refine(ZpR pb base f s v bs q _ HP.out HO.out HB.out hbw hl hq).mono ?_;rintro e w1 ⟨x,v1,bs1,rfl,h1,h2,h3,h4,h5⟩;have H1:=Za h1;have H2:=Za h2;have H3:=Za h3;have H4:=Za h4;have H5:=Za h5;clear h1 h2 h3 h4 h5))
  exact bodyPost_end (results_none rfl _ _ _) rfl ⟨_,_,_,rfl,H1.out,H2.out,H3.out.trans HE.out.symm,H4.out,H5.out⟩
 ·have HE:=Za (show ZcF f (bs.map tl) (tl q) last=if last then bs.map tl++[[]]else bs.map tl from by rw[HT.out,if_neg (show ¬(1:Nat)=0 by decide),if_neg (show ¬(1:Nat)=2 by decide)])
  clear HT hd2
  cases last
  ·have HE2:=Za (HE.out.trans (if_neg (by decide)))
   clear HE
   go_enter Tryz.func290,Tryz.ntmps290
   go_wp2_with (go_at_call 302;refine(Zbp _ _ hq).mono ?_;rintro e w' ⟨rfl,rfl⟩;rw[HD.out])
   exact bodyPost_end (results_none rfl _ _ _) rfl ⟨_,_,_,rfl,HP.out,HO.out,HE2.out.symm,by omega,Below.refl _ _⟩
  ·have HE2:=Za (HE.out.trans (if_pos rfl))
   clear HE;obtain⟨hc0,hc1,hc2,hf2⟩:=HP.out.facts
   have hbl:bs.length<1099511627776:=by omega
   go_enter Tryz.func290,Tryz.ntmps290
   go_wp2_with (first|(go_at_call 302;refine(Zbp _ _ hq).mono ?_;rintro e w' ⟨rfl,rfl⟩;rw[HD.out])|(at_builtin;go_must (refine ZeS w (⟨#[]⟩:BA) rfl _ _ rfl base v bs rfl HO.out rfl hbl hbw ?_;intro v' w2 ho2 hb2 hk2;obtain⟨g2,n2,c2,rfl⟩:=Zb3 ho2 (by simp);obtain⟨hp4,hps,hos,hbs⟩:=KEY.out w w2 v _ bs (Below.refl _ _) HP.out ho2 hb2 hk2;obtain⟨-,-,hd2,hg2⟩:=hp4.facts;have HPS:=Za hps;have HOS:=Za hos;have HBS:=Za hbs;clear ho2 hb2 hk2 hp4 hps hos hbs)))
   exact bodyPost_end (results_none rfl _ _ _) rfl ⟨_,_,_,rfl,HPS.out _,HOS.out _,by rw[HE2.out,Xf];rfl,by simp,HBS.out _⟩
 ·have HE:=Za (show ZcF f (bs.map tl) (tl q) last=if last then ZaC f (bs.map tl)++[[]]else ZaC f (bs.map tl)from by rw[HT.out,if_neg (show ¬(2:Nat)=0 by decide),if_pos (show(2:Nat)=2 from rfl)])
  clear HT hd2
  cases last
  ·have HE2:=Za (HE.out.trans (if_neg (by decide)))
   clear HE
   go_enter Tryz.func290,Tryz.ntmps290
   go_wp2_with (first|(go_at_call 302;refine(Zbp _ _ hq).mono ?_;rintro e w' ⟨rfl,rfl⟩;rw[HD.out])|(go_at_call 291;refine(ZdX pb base f s v bs _ HP.out HO.out HB.out hl).mono ?_;rintro e w1 ⟨x,v1,bs1,rfl,h1,h2,h3,h5⟩;have H1:=Za h1;have H2:=Za h2;have H3:=Za h3;have H5:=Za h5;clear h1 h2 h3 h5))
   exact bodyPost_end (results_none rfl _ _ _) rfl ⟨_,_,_,rfl,H1.out,H2.out,H3.out.trans HE2.out.symm,by have:=ZbD H3.out;omega,H5.out⟩
  ·have HE2:=Za (HE.out.trans (if_pos rfl))
   clear HE
   go_enter Tryz.func290,Tryz.ntmps290
   go_wp2_with (first|(go_at_call 302;refine(Zbp _ _ hq).mono ?_;rintro e w' ⟨rfl,rfl⟩;rw[HD.out])|fail)
   refine(ZdX pb base f s v bs _ HP.out HO.out HB.out hl).mono ?_
   rintro e w1 ⟨x,v1,bs1,rfl,h1,h2,h3,h5⟩;have H1:=Za h1;have H2:=Za h2;have H3:=Za h3;have H5:=Za h5
   have hbl:bs1.length<1099511627776:=by have:=ZbD h3;omega
   have hbl2:=ZbD h3;have hz:base≤w1.heap.size:=Xb hbw h5.size;clear h1 h2 h3 h5;obtain⟨hc0,hc1,hc2,hf2⟩:=H1.out.facts
   go_wp2_with (at_builtin;go_must (refine ZeS w1 (⟨#[]⟩:BA) rfl _ _ rfl base v1 bs1 rfl H2.out rfl hbl hz ?_;intro v' w2 ho2 hb2 hk2;obtain⟨g2,n2,c2,rfl⟩:=Zb3 ho2 (by simp);obtain⟨hp4,hps,hos,hbs⟩:=KEY.out w1 w2 v1 _ bs1 H5.out H1.out ho2 hb2 hk2;obtain⟨-,-,hd2,hg2⟩:=hp4.facts;have HPS:=Za hps;have HOS:=Za hos;have HBS:=Za hbs;clear ho2 hb2 hk2 hp4 hps hos hbs))
   exact bodyPost_end (results_none rfl _ _ _) rfl ⟨_,_,_,rfl,HPS.out _,HOS.out _,by rw[HE2.out,Xf,H3.out];rfl,by rw[List.length_append];simp;omega,HBS.out _⟩
def Zbl(p:UInt8→Bool)(l:List UInt8):List (List UInt8):=
 match l with
 | []=>[[]]
 | c::r=>if p c then []::Zbl p r else
  match Zbl p r with
  | []=>[[c]]
  | x::q=>(c::x)::q
theorem ZgW(p:UInt8→Bool)(l:LB):Zbl p l=if(bcut p l).2.2 then(bcut p l).1::Zbl p (bcut p l).2.1 else [(bcut p l).1]:=by
 induction l with
 | nil=>simp[Zbl,bcut]
 | cons c r ih=>
  cases h:p c
  ·have hc:bcut p (c::r)=(c::(bcut p r).1,(bcut p r).2):=by simp[bcut,h]
   rw[Zbl,if_neg (by simp[h]),hc,ih]
   cases h2:(bcut p r).2.2<;>simp
  ·have hc:bcut p (c::r)=([],r,true):=by simp[bcut,h]
   rw[Zbl,if_pos h,hc]
   simp
theorem Zdd(p:UInt8→Bool)(l:LB):∃x q,Zbl p l=x::q:=by
 rw[ZgW]
 split
 ·exact⟨_,_,rfl⟩
 ·exact⟨_,_,rfl⟩
def Zbu(f:Bool):List (List UInt8)→List (List UInt8)→List (List UInt8)
 | ps,[]=>ps
 | ps,[x]=>ZcF f ps x true
 | ps,x::y::r=>Zbu f (ZcF f ps x false) (y::r)
def ZaR(f sp:Bool)(ps:List (List UInt8))(text:List UInt8):List (List UInt8):=Zbu f ps (Zbl (slB sp) text)
theorem ZiA(f sp:Bool)(ps:List LB)(text:LB):ZaR f sp ps text=if(bcut (slB sp) text).2.2 then ZaR f sp (ZcF f ps (bcut (slB sp) text).1 false) (bcut (slB sp) text).2.1 else ZcF f ps (bcut (slB sp) text).1 true:=by
 unfold ZaR;rw[ZgW]
 cases h:(bcut (slB sp) text).2.2
 ·rfl
 ·simp only[if_true]
  obtain⟨x,q,hx⟩:=Zdd (slB sp) (bcut (slB sp) text).2.1;rw[hx]
  rfl
theorem Zd4(pb base:Nat)(f s:Bool)(v:Value)(bs:LA)(t:BA)(w:World)(hp:PthAt w pb f s v)(ho:ZcM w base v bs)(hb:base≤pb)(hbw:base≤w.heap.size)(hl:bs.length≤100000)(ht:t.size≤100000):Calls Tryz.prog 259 #[.pointer (some ⟨pb,0,none⟩),.string t] w fun e w'=>∃x v' bs',e=.returned x∧PthAt w' pb f s v'∧ZcM w' base v' bs'∧bs'.map tl=ZaR f s (bs.map tl) (tl t)∧bs'.length≤bs.length+t.size+1∧Below base w w':=by
 have HP:=Za hp;have HO:=Za ho;have HB:=Za hb;clear hp ho hb
 go_enter Tryz.func259,Tryz.ntmps259
 go_wp2
 go_loopw [4,5] (fun x m wr=>∃(q:BA) (more:Bool) (v1:Value) (cs:LA),x=.string q∧m=.bool more∧PthAt wr pb f s v1∧ZcM wr base v1 cs∧cs.length+q.size≤bs.length+t.size+1∧(more=true→cs.length+q.size≤bs.length+t.size)∧ZaR f s (bs.map tl) (tl t)=(if more then ZaR f s (cs.map tl) (tl q)else cs.map tl)∧Below base w wr)
  (fun x m _=>if ZkP m then ZkO x+1 else 0)
 case atStart=>exact⟨t,true,v,bs,rfl,rfl,HP.out,HO.out,by omega,fun _=>Xd _,rfl,Below.refl _ _⟩
 case round=>
  obtain⟨q,more,v1,cs,rfl,rfl,hp1,ho1,hl1,hm,hE,hbel⟩:=hrel
  cases more
  ·simp only[Bool.false_eq_true,if_false]at hE
   have HE:=Za hE;have HP1:=Za hp1;have HO1:=Za ho1;have HBL:=Za hbel;clear hE hp1 ho1 hbel hm;go_wp2
   exact bodyPost_end (results_none rfl _ _ _) rfl ⟨_,_,_,rfl,HP1.out,HO1.out,HE.out.symm,by omega,HBL.out⟩
  ·have hl2:=hm rfl
   simp only[if_true]at hE;rw[ZiA f s (cs.map tl) (tl q)]at hE;have HE:=Za hE;have HP1:=Za hp1;have HO1:=Za ho1;have HBL:=Za hbel;have HL:=Za (Z8 (slB s) (tl q));obtain⟨hc0,hc1,hc2,hf2⟩:=hp1.facts;clear hE hp1 ho1 hbel hm HP HO;go_wp2_with fail
   refine(Zci q s _ (Zg (by omega))).mono ?_
   rintro e w1 ⟨⟨a,b,rfl,ha,hb⟩,hn1⟩
   have hla:a.size=(bcut (slB s) (tl q)).1.length:=by rw[←ha,tl_length]
   have hlb:b.size=(bcut (slB s) (tl q)).2.1.length:=by rw[←hb,tl_length]
   have HA:=Za ha;have HBB:=Za hb;have HLA:=Za hla;have HLB:=Za hlb
   have hqa:a.size≤1000000:=by have h:=HL.out.1;rw[tl_length]at h;omega
   have hz1:base≤wr.heap.size:=Xb hbw HBL.out.size;have hz:base≤w1.heap.size:=Xb hz1 hn1.size;have HP2:=Za (HP1.out.on hn1);have HO2:=Za (Zng HO1.out hn1);have HBL2:=Za (show Below base w w1 from HBL.out.trans (hn1.mono hz1));clear ha hb hla hlb hn1 HP1 HO1 HBL;generalize bcut (slB s) (tl q)=c at *;obtain⟨c1,c2,found⟩:=c;simp only at *;go_wp2_with fail
   refine(ZpV pb base f s v1 cs a (!found) w1 HP2.out HO2.out HB.out hz (by omega) hqa).mono ?_
   rintro e w2 ⟨x,v2,cs2,rfl,h1,h2,h3,h4,h5⟩;have H1:=Za h1;have H2:=Za h2;have H3:=Za h3;have H4:=Za h4;have H5:=Za (HBL2.out.trans h5);clear h1 h2 h3 h4 h5;go_wp2
   go_roundw
   case rel=>
    refine⟨b,found,v2,cs2,rfl,rfl,H1.out,H2.out,?_,?_,?_,H5.out⟩
    ·have h:=HL.out.1;have h1:=HLA.out;have h2:=HLB.out;have h3:=H4.out;rw[tl_length]at h;omega
    ·intro hf;have h:=HL.out.2 hf;have h2:=HLB.out;have h3:=H4.out;rw[tl_length]at h;omega
    ·rw[HE.out,H3.out,HA.out,HBB.out]
     cases found<;>rfl
   case measure=>
    have h:=HL.out;have h2:=HLB.out;rw[tl_length]at h;simp only[ZkP,ZkO]
    cases found
    ·simp
    ·have:=h.2 rfl
     simp only[if_true];omega
theorem ZjV(w:World)(f s:Bool)(v:Value):PthAt (w.alloc (Obj.cells #[.bool f,.bool s,v] 223)) w.heap.size f s v:=heap_alloc_new w _
theorem ZK{w:World}{base:Nat}{v:Value}{bs:LA}(h:ZcM w base v bs):∃ao n cap,v=.slice ao n cap:=by
 obtain⟨h1,⟨h2,h3⟩|⟨g',cap',cur,h2,h4⟩⟩:=h
 ·exact⟨_,_,_,h2⟩
 ·exact⟨_,_,_,h2⟩
def Zbg(t sch:List UInt8):List (List UInt8):=ZaR (sch==Zw) (Zb sch) [] t
theorem ZaF(t sch:BA)(w:World)(ht:t.size≤100000):Calls Tryz.prog 227 #[.string t,.string sch] w fun e w'=>∃v bs,e=.returned v∧ZcM w' w.heap.size v bs∧bs.map tl=Zbg (tl t) (tl sch)∧bs.length≤t.size+1∧Nx w w':=by
 go_enter Tryz.func227,Tryz.ntmps227
 go_wp2_with fail
 refine(ZfO _ [] sch w (SlAt.nil w) (by simp)).mono ?_
 rintro e w1 ⟨v1,rfl,ho,hn⟩;obtain⟨ao,n,cap,rfl⟩:=ZK ho;have hz:=hn.size;have HP:=Za (ZjV w1 (tl sch==Zw) (Zb (tl sch)) (.slice ao n cap));have HO:=Za (show ZcM (w1.alloc (Obj.cells #[.bool (tl sch==Zw),.bool (Zb (tl sch)),.slice ao n cap] 223)) w.heap.size (.slice ao n cap) []from World.ownsRow.alloc ho _);have HN:=Za (show Nx w (w1.alloc (Obj.cells #[.bool (tl sch==Zw),.bool (Zb (tl sch)),.slice ao n cap] 223))from hn.alloc _);clear ho hn;go_wp2_with fail
 refine(Zd4 w1.heap.size w.heap.size _ _ _ [] t _ HP.out HO.out hz (by simp;omega) (by simp) ht).mono ?_
 rintro e w2 ⟨x,v2,bs,rfl,h1,h2,h3,h4,h5⟩;obtain⟨ao2,n2,cap2,rfl⟩:=ZK h2;obtain⟨-,-,hc2,-⟩:=h1.facts;have H2:=Za h2;have H3:=Za h3;have H4:=Za h4;have H5:=Za (show Nx w w2 from HN.out.trans h5);clear h1 h2 h3 h4 h5 HP HO HN;go_wp2;go_ret
 exact⟨_,_,rfl,H2.out,H3.out,by have:=H4.out;simpa using this,H5.out⟩
def Zcu(base:List (List UInt8))(t sch:List UInt8):List (List UInt8):=ZaR (sch==Zw) (Zb sch) (ZaC (sch==Zw) base) t
theorem ZjW(v:Value)(cs:LA)(t sch:BA)(w:World)(hv:ZbU w v cs)(hl:cs.length≤100000)(ht:t.size≤100000):Calls Tryz.prog 263 #[v,.string t,.string sch] w fun e w'=>∃v bs,e=.returned v∧ZcM w' w.heap.size v bs∧bs.map tl=Zcu (cs.map tl) (tl t) (tl sch)∧bs.length≤cs.length+t.size+1∧Nx w w':=by
 go_enter Tryz.func263,Tryz.ntmps263
 go_wp2_with fail
 refine(ZfO _ cs sch w hv (by omega)).mono ?_
 rintro e w1 ⟨v1,rfl,ho,hn⟩;obtain⟨ao,n,cap,rfl⟩:=ZK ho;have hz:=hn.size;have HP:=Za (ZjV w1 (tl sch==Zw) (Zb (tl sch)) (.slice ao n cap));have HO:=Za (show ZcM (w1.alloc (Obj.cells #[.bool (tl sch==Zw),.bool (Zb (tl sch)),.slice ao n cap] 223)) w.heap.size (.slice ao n cap) cs from World.ownsRow.alloc ho _);have HN:=Za (show Nx w (w1.alloc (Obj.cells #[.bool (tl sch==Zw),.bool (Zb (tl sch)),.slice ao n cap] 223))from hn.alloc _);clear ho hn hv;go_wp2_with fail
 refine(ZdX w1.heap.size w.heap.size _ _ _ cs _ HP.out HO.out hz (by omega)).mono ?_
 rintro e w3 ⟨x,v3,bs3,rfl,h1,h2,h3,h5⟩;have hl3:=ZbD h3
 have hz3:w.heap.size≤w3.heap.size:=Xb (by simp;omega) h5.size
 have H1:=Za h1;have H2:=Za h2;have H3:=Za h3;have H5:=Za (show Nx w w3 from HN.out.trans h5);clear h1 h2 h3 h5 HP HO HN;go_wp2_with fail
 refine(Zd4 w1.heap.size w.heap.size _ _ _ bs3 t _ H1.out H2.out hz hz3 (by omega) ht).mono ?_
 rintro e w2 ⟨x,v2,bs,rfl,h1,h2,h3,h4,h5⟩;obtain⟨ao2,n2,cap2,rfl⟩:=ZK h2;obtain⟨-,-,hc2,-⟩:=h1.facts;have G2:=Za h2;have G3:=Za h3;have G4:=Za h4;have G5:=Za (show Nx w w2 from H5.out.trans h5);clear h1 h2 h3 h4 h5;go_wp2;go_ret
 exact⟨_,_,rfl,G2.out,by rw[G3.out,H3.out];rfl,by have:=G4.out;omega,G5.out⟩
def ZaK(base:List (List UInt8))(t:List UInt8):List (List UInt8):=
 if base=[]∨Za1 (base.getD 0 [])=false∨ZaP t=true then Zbg t Zw else ZaR true true (base.take 1) t
theorem file_special:Zb Zw=true:=by decide
theorem ZcP{base:List LB}{t:LB}(h:base=[]∨Za1 (base.getD 0 [])=false∨ZaP t=true):ZaK base t=Zbg t Zw:=if_pos h
theorem ZjX{base:List LB}{t:LB}(h1:base≠[])(h2:Za1 (base.getD 0 [])=true)(h3:ZaP t=false):ZaK base t=ZaR true true (base.take 1) t:=
 if_neg (by rintro(h|h|h);exact h1 h;rw[h2]at h;cases h;rw[h3]at h;cases h)
theorem ZjY(v:Value)(cs:LA)(t:BA)(w:World)(hv:ZbU w v cs)(ht:t.size≤100000):Calls Tryz.prog 255 #[v,.string t] w fun e w'=>∃v bs,e=.returned v∧ZcM w' w.heap.size v bs∧bs.map tl=ZaK (cs.map tl) (tl t)∧bs.length≤t.size+2∧Nx w w':=by
 have HV:=Za hv;obtain⟨ao,cap,rfl,hlc,hcap,hnone,hsome⟩:=hv;have HCAP:=Za hcap;unfold maxLen at hcap;have HRD:Hid (tl (⟨#[102,105,108,101]⟩:BA)=Zw):=Za rfl;rcases Nat.eq_zero_or_pos cs.length with h0|hpos
 ·have e0:cs=[]:=List.eq_nil_of_length_eq_zero h0
  subst e0;have HE:=Za (ZcP (base:=([]:LA).map tl) (t:=tl t) (Or.inl rfl));clear h0 hnone hsome
  go_enter Tryz.func255,Tryz.ntmps255
  go_wp2_with fail
  refine(ZaF t _ w ht).mono ?_
  rintro e w1 ⟨v1,bs,rfl,h1,h2,h3,h4⟩;have H1:=Za h1;have H2:=Za h2;have H3:=Za h3;have H4:=Za h4;clear h1 h2 h3 h4;go_wp2;go_ret
  exact⟨_,_,rfl,H1.out,by rw[HE.out,H2.out];rfl,by have:=H3.out;omega,H4.out⟩
 ·obtain⟨a,ha⟩:=Zbm (k:=0) hpos hnone
  subst ha;obtain⟨b,off,rfl,hr⟩:=hsome a rfl;have hck:=hr.cell (i:=0) hpos;rw[Nat.add_zero]at hck;have HM:=Za (Zhv cs hpos)
  have HNE:=Za (show cs.map tl≠[]from fun h=>by have:=congrArg List.length h;rw[Xe]at this;simp at this;subst this;simp at hpos)
  have hn0:((cs.length:Int)==0)=false:=beq_eq_false_iff_ne.2 (by omega)
  have HS1:=Za (Znd hr hlc HCAP.out 1 hpos);clear hnone hsome hr
  cases hw:Za1 (tl cs[0])
  ·have HW:=Za hw
   have HE:=Za (ZcP (base:=cs.map tl) (t:=tl t) (Or.inr (Or.inl (by rw[HM.out];exact hw))))
   clear hw
   go_enter Tryz.func255,Tryz.ntmps255
   go_wp2_with (first|(go_at_call 289;refine(ZbG _ _).mono ?_;rintro e w' ⟨rfl,rfl⟩;rw[HW.out])|fail)
   refine(ZaF t _ w ht).mono ?_
   rintro e w1 ⟨v1,bs,rfl,h1,h2,h3,h4⟩;have H1:=Za h1;have H2:=Za h2;have H3:=Za h3;have H4:=Za h4;clear h1 h2 h3 h4;go_wp2;go_ret
   exact⟨_,_,rfl,H1.out,by rw[HE.out,H2.out];rfl,by have:=H3.out;omega,H4.out⟩
  ·have HW:=Za hw
   clear hw
   cases hd:ZaP (tl t)
   ·have HD:=Za hd
    have HE:=Za (ZjX (base:=cs.map tl) (t:=tl t) HNE.out (by rw[HM.out];exact HW.out) hd)
    clear hd
    go_enter Tryz.func255,Tryz.ntmps255
    go_wp2_with (first|(go_at_call 289;refine(ZbG _ _).mono ?_;rintro e w' ⟨rfl,rfl⟩;rw[HW.out])|fail)
    refine(Zcq t _ (Zg (by omega))).mono ?_
    rintro e w0 ⟨rfl,hn0⟩;rw[HD.out];have HN0:=Za hn0;have HS2:=Za (HS1.out.on hn0);clear hn0;go_wp2_with fail
    refine(ZfO _ (cs.take 1) _ w0 HS2.out (by rw[Xc];omega)).mono ?_
    rintro e w1 ⟨v1,rfl,ho,hn⟩;rw[HRD.out,file_special,show(Zw==Zw)=true from rfl];obtain⟨ao,n,cap,rfl⟩:=ZK ho;have hz0:=HN0.out.size;have hz:=hn.size;have HP:=Za (ZjV w1 true true (.slice ao n cap));have HO:=Za (show ZcM (w1.alloc (Obj.cells #[.bool true,.bool true,.slice ao n cap] 223)) w.heap.size (.slice ao n cap) (cs.take 1)from World.ownsRow.alloc (ZhF ho hz0) _);have HN:=Za (show Nx w (w1.alloc (Obj.cells #[.bool true,.bool true,.slice ao n cap] 223))from(HN0.out.then hn).alloc _);clear ho hn;go_wp2_with fail
    refine(Zd4 w1.heap.size w.heap.size _ _ _ (cs.take 1) t _ HP.out HO.out (by omega) (by simp;omega) (by rw[Xc];omega) ht).mono ?_
    rintro e w2 ⟨x,v2,bs,rfl,h1,h2,h3,h4,h5⟩;obtain⟨ao2,n2,cap2,rfl⟩:=ZK h2;obtain⟨-,-,hc2,-⟩:=h1.facts;have G2:=Za h2;have G3:=Za h3;have G4:=Za h4;have G5:=Za (show Nx w w2 from HN.out.trans h5);clear h1 h2 h3 h4 h5 HP HO HN;go_wp2;go_ret
    exact⟨_,_,rfl,G2.out,by rw[G3.out,HE.out,List.map_take],by have:=G4.out;rw[Xc]at this;omega,G5.out⟩
   ·have HD:=Za hd
    have HE:=Za (ZcP (base:=cs.map tl) (t:=tl t) (Or.inr (Or.inr hd)));clear hd
    go_enter Tryz.func255,Tryz.ntmps255
    go_wp2_with (first|(go_at_call 289;refine(ZbG _ _).mono ?_;rintro e w' ⟨rfl,rfl⟩;rw[HW.out])|fail)
    refine(Zcq t _ (Zg (by omega))).mono ?_
    rintro e w0 ⟨rfl,hn0⟩;rw[HD.out];have HN0:=Za hn0;clear hn0;go_wp2_with fail
    refine(ZaF t _ w0 ht).mono ?_
    rintro e w1 ⟨v1,bs,rfl,h1,h2,h3,h4⟩;have H1:=Za (ZhF h1 HN0.out.size);have H2:=Za h2;have H3:=Za h3;have H4:=Za (HN0.out.then h4);clear h1 h2 h3 h4;go_wp2;go_ret
    exact⟨_,_,rfl,H1.out,by rw[HE.out,H2.out];rfl,by have:=H3.out;omega,H4.out⟩
structure Rc where
 sch:ByteArray
 nam:ByteArray
 pw:ByteArray
 hh:Bool
 host:ByteArray
 hp:Bool
 port:Nat
 op:Bool
 opath:ByteArray
 so:Option Addr
 sn:Nat
 sc:Nat
 hq:Bool
 q:ByteArray
 hf:Bool
 fr:ByteArray
structure U where
 sch:List UInt8
 nam:List UInt8
 pw:List UInt8
 hh:Bool
 host:List UInt8
 hp:Bool
 port:Nat
 op:Bool
 opath:List UInt8
 segs:List (List UInt8)
 hq:Bool
 q:List UInt8
 hf:Bool
 fr:List UInt8
 deriving DecidableEq
def Rc.u(r:Rc)(bs:List ByteArray):U:=⟨tl r.sch,tl r.nam,tl r.pw,r.hh,tl r.host,r.hp,r.port,r.op,tl r.opath,bs.map tl,r.hq,tl r.q,r.hf,tl r.fr⟩
structure RcIs (w:World) (r:Rc) (u:U) (bs:List ByteArray):Prop where
 eq:r.u bs=u
 seg:ZbU w (.slice r.so r.sn r.sc) bs
 lsch:r.sch.size≤300000
 lnam:r.nam.size≤300000
 lpw:r.pw.size≤300000
 lhost:r.host.size≤300000
 lport:r.port≤65535
 lopath:r.opath.size≤300000
 lsegs:bs.length≤300000
 lseg:∀b∈bs,b.size≤300000
 lq:r.q.size≤300000
 lfr:r.fr.size≤300000
theorem RcIs.on{w w':World}{r:Rc}{u:U}{bs:LA}(h:RcIs w r u bs)(hb:Nx w w'):RcIs w' r u bs:={ h with seg:=h.seg.on hb }
theorem RcIs.sn{w:World}{r:Rc}{u:U}{bs:LA}(h:RcIs w r u bs):r.sn=bs.length:=by obtain⟨ao,cap,he,-⟩:=h.seg;simp only[Value.slice.injEq]at he;exact he.2.1
def RecB(w:World)(b:Nat)(r:Rc):Prop:=w.heap[b]?=some (Obj.cells #[.string r.sch,.string r.nam,.string r.pw,.bool r.hh,.string r.host,.bool r.hp,.int .i64 (r.port:Int),.bool r.op,.string r.opath,.slice r.so r.sn r.sc,.bool r.hq,.string r.q,.bool r.hf,.string r.fr] 101 (0,0))
theorem RecB.on{w w':World}{b:Nat}{r:Rc}(h:RecB w b r)(hb:Nx w w'):RecB w' b r:=(hb.block b (Array.getElem?_eq_some_iff.1 h).1).trans h
theorem ZaS(w:World)(r:Rc):RecB (w.alloc (Obj.cells #[.string r.sch,.string r.nam,.string r.pw,.bool r.hh,.string r.host,.bool r.hp,.int .i64 (r.port:Int),.bool r.op,.string r.opath,.slice r.so r.sn r.sc,.bool r.hq,.string r.q,.bool r.hf,.string r.fr] 101)) w.heap.size r:=heap_alloc_new w _
theorem RecB.cells{w:World}{b:Nat}{r:Rc}(h:RecB w b r):w.cell? ⟨b,0,none⟩=some (.string r.sch)∧w.cell? ⟨b,1,none⟩=some (.string r.nam)∧w.cell? ⟨b,2,none⟩=some (.string r.pw)∧w.cell? ⟨b,3,none⟩=some (.bool r.hh)∧w.cell? ⟨b,4,none⟩=some (.string r.host)∧w.cell? ⟨b,5,none⟩=some (.bool r.hp)∧w.cell? ⟨b,6,none⟩=some (.int .i64 (r.port:Int))∧w.cell? ⟨b,7,none⟩=some (.bool r.op)∧w.cell? ⟨b,8,none⟩=some (.string r.opath)∧w.cell? ⟨b,9,none⟩=some (.slice r.so r.sn r.sc)∧w.cell? ⟨b,10,none⟩=some (.bool r.hq)∧w.cell? ⟨b,11,none⟩=some (.string r.q)∧w.cell? ⟨b,12,none⟩=some (.bool r.hf)∧w.cell? ⟨b,13,none⟩=some (.string r.fr):=by
 unfold RecB at h
 refine⟨?_,?_,?_,?_,?_,?_,?_,?_,?_,?_,?_,?_,?_,?_⟩<;>simp[World.cell?,h]
theorem RecB.free{w:World}{b:Nat}{r:Rc}(h:RecB w b r)(i:Nat):w.frozen? ⟨b,i,none⟩=false:=by
 unfold RecB at h
 simp[World.frozen?,h]
def Zad(u:U):List UInt8:=u.sch++[58]
theorem ZeV(r:Rc)(u:U)(bs:LA)(w:World)(h:RcIs w r u bs):Calls Tryz.prog 83 #[.agg #[.string r.sch,.string r.nam,.string r.pw,.bool r.hh,.string r.host,.bool r.hp,.int .i64 (r.port:Int),.bool r.op,.string r.opath,.slice r.so r.sn r.sc,.bool r.hq,.string r.q,.bool r.hf,.string r.fr]] w fun e w'=>∃t:BA,e=.returned (.string t)∧tl t=Zad u∧Nx w w':=by
 have hs:=h.lsch
 have HE:=Za (show Zad u=tl r.sch++[58]by rw[←h.eq];rfl)
 clear h
 go_enter Tryz.func83,Tryz.ntmps83
 go_wp2;go_ret
 exact⟨r.sch++(⟨#[58]⟩:BA),rfl,by rw[HE.out,Zc];rfl,Nx.rfl.alloc _⟩
def ZaL(m t:List UInt8):List UInt8:=if t=[]then []else m++t
theorem ZgX(m t:BA)(w:World)(hm:m.size≤1000000)(ht:t.size≤1000000):Calls Tryz.prog 148 #[.string m,.string t] w fun e w'=>∃x:BA,e=.returned (.string x)∧tl x=ZaL (tl m) (tl t)∧w=w':=by
 by_cases h0:t.size=0
 ·have HE:=Za (show ZaL (tl m) (tl t)=[]from if_pos (Zz h0))
  have h0':=Zf h0;clear h0
  go_enter Tryz.func148,Tryz.ntmps148
  go_wp2;go_ret;exact⟨⟨#[]⟩,rfl,HE.out.symm,rfl⟩
 ·have HE:=Za (show ZaL (tl m) (tl t)=tl m++tl t from if_neg (ZcC h0))
  have h0':=Ze h0;clear h0
  go_enter Tryz.func148,Tryz.ntmps148
  go_wp2;go_ret
  exact⟨m++t,rfl,by rw[HE.out,Zc],rfl⟩
def Z4(u:U):List UInt8:=ZaL [63] u.q
def ZbX(u:U):List UInt8:=ZaL [35] u.fr
theorem Zl2(r:Rc)(u:U)(bs:LA)(w:World)(h:RcIs w r u bs):Calls Tryz.prog 87 #[.agg #[.string r.sch,.string r.nam,.string r.pw,.bool r.hh,.string r.host,.bool r.hp,.int .i64 (r.port:Int),.bool r.op,.string r.opath,.slice r.so r.sn r.sc,.bool r.hq,.string r.q,.bool r.hf,.string r.fr]] w fun e w'=>∃t:BA,e=.returned (.string t)∧tl t=Z4 u∧Nx w w':=by
 have hs:=h.lq
 have HE:=Za (show Z4 u=ZaL [63] (tl r.q)by rw[←h.eq];rfl)
 clear h
 go_enter Tryz.func87,Tryz.ntmps87
 go_wp2_with (go_at_call 148;refine(ZgX _ _ _ (by decide) (by omega)).mono ?_;rintro e w' ⟨x,rfl,hx,rfl⟩;have HX:=Za hx;clear hx)
 go_ret
 exact⟨x,rfl,by rw[HE.out];exact HX.out,Nx.rfl.alloc _⟩
theorem ZpW(r:Rc)(u:U)(bs:LA)(w:World)(h:RcIs w r u bs):Calls Tryz.prog 88 #[.agg #[.string r.sch,.string r.nam,.string r.pw,.bool r.hh,.string r.host,.bool r.hp,.int .i64 (r.port:Int),.bool r.op,.string r.opath,.slice r.so r.sn r.sc,.bool r.hq,.string r.q,.bool r.hf,.string r.fr]] w fun e w'=>∃t:BA,e=.returned (.string t)∧tl t=ZbX u∧Nx w w':=by
 have hs:=h.lfr
 have HE:=Za (show ZbX u=ZaL [35] (tl r.fr)by rw[←h.eq];rfl)
 clear h
 go_enter Tryz.func88,Tryz.ntmps88
 go_wp2_with (go_at_call 148;refine(ZgX _ _ _ (by decide) (by omega)).mono ?_;rintro e w' ⟨x,rfl,hx,rfl⟩;have HX:=Za hx;clear hx)
 go_ret
 exact⟨x,rfl,by rw[HE.out];exact HX.out,Nx.rfl.alloc _⟩
def ZC(u:U):List UInt8:=if u.hp=true then Za8 u.port else []
theorem ZeW(r:Rc)(u:U)(bs:LA)(w:World)(h:RcIs w r u bs)(ht:Tb w):Calls Tryz.prog 85 #[.agg #[.string r.sch,.string r.nam,.string r.pw,.bool r.hh,.string r.host,.bool r.hp,.int .i64 (r.port:Int),.bool r.op,.string r.opath,.slice r.so r.sn r.sc,.bool r.hq,.string r.q,.bool r.hf,.string r.fr]] w fun e w'=>∃t:BA,e=.returned (.string t)∧tl t=ZC u∧t.size≤5∧Nx w w':=by
 have hs:=h.lport
 have HD:=Za (show ZC u=if r.hp=true then Za8 r.port else []by rw[←h.eq];rfl)
 have HTB:=Za ht;clear h ht
 cases hhp:r.hp
 ·have HE:=Za (HD.out.trans (if_neg (by rw[hhp];decide)))
  clear HD
  go_enter Tryz.func85,Tryz.ntmps85
  go_wp2;go_ret
  exact⟨⟨#[]⟩,rfl,HE.out.symm,by decide,Nx.rfl.alloc _⟩
 ·have HE:=Za (HD.out.trans (if_pos hhp))
  clear HD
  go_enter Tryz.func85,Tryz.ntmps85
  go_wp2_with (go_at_call 147;refine(ZnU r.port hs _ (HTB.out.on (Nx.rfl.alloc _))).mono ?_;rintro e w1 ⟨x,rfl,hx,hn⟩;have HX:=Za hx;have HN:=Za (show Nx w w1 from(Nx.rfl.alloc _).then hn);clear hx hn)
  go_ret
  exact⟨x,rfl,by rw[HE.out];exact HX.out,by have:=congrArg List.length HX.out;rw[tl_length]at this;have:=Zeh r.port;omega,HN.out⟩
def userU(u:U):List UInt8:=if u.nam=[]∧u.pw=[]then []else if u.pw=[]then u.nam++[64]else u.nam++([58]++u.pw)++[64]
theorem ZpX(r:Rc)(u:U)(bs:LA)(w:World)(h:RcIs w r u bs):Calls Tryz.prog 196 #[.agg #[.string r.sch,.string r.nam,.string r.pw,.bool r.hh,.string r.host,.bool r.hp,.int .i64 (r.port:Int),.bool r.op,.string r.opath,.slice r.so r.sn r.sc,.bool r.hq,.string r.q,.bool r.hf,.string r.fr]] w fun e w'=>∃t:BA,e=.returned (.string t)∧tl t=userU u∧t.size≤900000∧Nx w w':=by
 have hs1:=h.lnam;have hs2:=h.lpw
 have HD:=Za (show userU u=if tl r.nam=[]∧tl r.pw=[]then []else if tl r.pw=[]then tl r.nam++[64]else tl r.nam++([58]++tl r.pw)++[64]by rw[←h.eq];rfl)
 clear h
 by_cases hp0:r.pw.size=0
 ·by_cases hn0:r.nam.size=0
  ·have HE:=Za (HD.out.trans (if_pos ⟨Zz hn0,Zz hp0⟩))
   have hp0':=Zf hp0;have hn0':=Zf hn0;clear HD hp0 hn0
   go_enter Tryz.func196,Tryz.ntmps196
   go_wp2;go_ret
   exact⟨⟨#[]⟩,rfl,HE.out.symm,by decide,Nx.rfl.alloc _⟩
  ·have HE:=Za ((HD.out.trans (if_neg (fun h=>ZcC hn0 h.1))).trans (if_pos (Zz hp0)))
   have hp0':=Zf hp0;have hn0':=Ze hn0;clear HD hp0 hn0
   go_enter Tryz.func196,Tryz.ntmps196
   go_wp2;go_ret
   exact⟨r.nam++(⟨#[64]⟩:BA),rfl,by rw[HE.out,Zc];rfl,by rw[Zm];show r.nam.size+1≤_;omega,Nx.rfl.alloc _⟩
 ·have HE:=Za ((HD.out.trans (if_neg (fun h=>ZcC hp0 h.2))).trans (if_neg (ZcC hp0)))
  have hp0':=Ze hp0;clear HD hp0
  by_cases hn0:r.nam.size=0
  ·have hn0':=Zf hn0
   have hz:r.nam.size≤0:=by omega
   clear hn0
   go_enter Tryz.func196,Tryz.ntmps196
   go_wp2;go_ret
   exact⟨r.nam++((⟨#[58]⟩:BA)++r.pw)++(⟨#[64]⟩:BA),rfl,by rw[HE.out,Zc,Zc,Zc];rfl,by rw[Zm,Zm,Zm];show r.nam.size+(1+r.pw.size)+1≤_;omega,Nx.rfl.alloc _⟩
  ·have hn0':=Ze hn0
   clear hn0
   go_enter Tryz.func196,Tryz.ntmps196
   go_wp2;go_ret
   exact⟨r.nam++((⟨#[58]⟩:BA)++r.pw)++(⟨#[64]⟩:BA),rfl,by rw[HE.out,Zc,Zc,Zc];rfl,by rw[Zm,Zm,Zm];show r.nam.size+(1+r.pw.size)+1≤_;omega,Nx.rfl.alloc _⟩
end Go.Proofs.YtchkhibgbnhjpabGreatDoor
