import Derived.Test.YtchkhibgbnhjpabGreatDoorT16
import Derived.Test.YtchkhibgbnhjpabGreatDoorT17
open Nat renaming le_trans→Xa,le_succ→Xb,le_succ_of_le→Xc
open Or renaming inl→Xd,inr→Xf
open Go.Value renaming string→J,bool→C,int→I
open Go.IntKind renaming i64→X
open Go.Ending renaming returned→Y
open Go.Obj renaming cells→O
namespace Go.Proofs.YtchkhibgbnhjpabGreatDoor
open Tryz
open Go.RowKit
set_option maxHeartbeats 32000000
set_option maxRecDepth 16000
variable [Fl]
set_option linter.all false
theorem ZKL{α:Type}(lt:α->α->Bool)(l:List α):(ZzB lt l).Perm l:=by
 have one:∀(S:List α) (x:α),(insP lt S x).Perm (x::S):=by
  intro S x;unfold insP;have e:=congrArg List.reverse (List.takeWhile_append_dropWhile (p:=lt x) (l:=S.reverse));rw[List.reverse_append,List.reverse_reverse]at e
  refine List.perm_middle.trans ?_
  rw[e]
 have key:∀(l S:List α),(l.foldl (insP lt) S).Perm (l++S):=by
  intro l
  induction l with
  | nil=>intro S;exact List.Perm.refl _
  | cons x r ih=>
   intro S;rw[List.foldl_cons]
   refine(ih _).trans ?_
   exact((one S x).append_left r).trans List.perm_middle
 have h:=key l [];rw[List.append_nil]at h;exact h
theorem LstIs.pre{w wz w':World}{pb:Nat}{bs:LA}{u:U}{e:Ending}{M:Except Int Lp}(h:LstIs e wz w' pb bs u M)(hn:Nx w wz):LstIs e w w' pb bs u M:=by
 cases M with
 | error k=>exact⟨h.1,hn.then h.2⟩
 | ok L=>exact⟨h.1,h.2.1,(But.nx hn).then h.2.2⟩
theorem LstIs.but{w w':World}{pb:Nat}{bs:LA}{u:U}{e:Ending}{M:Except Int Lp}(h:LstIs e w w' pb bs u M):But pb w w'/\∃k:Int,e=Y (I X k):=by
 cases M with
 | error k=>exact⟨But.nx h.2,_,h.1⟩
 | ok L=>exact⟨h.2.2,_,h.1⟩
theorem LstX.pre{w wz w':World}{ub rb:Nat}{v:Value}{bs:LA}{u:RU}{e:Ending}{M:Except Int Lp}(h:LstX e wz w' ub rb v bs u M)(hn:Nx w wz):LstX e w w' ub rb v bs u M:=by
 cases M with
 | error k=>exact⟨h.1,hn.then h.2⟩
 | ok L=>
  obtain⟨h1,⟨R',v',qs,a1,a2,a3,a4,a5,a6⟩,h3⟩:=h
  exact⟨h1,⟨R',v',qs,a1,a2,a3,a4,a5,fun k hk=>(a6 k hk).imp_right (Xa hn.size)⟩,(Out.nx hn).then h3⟩
theorem LstX.ret{w w':World}{ub rb:Nat}{v:Value}{bs:LA}{u:RU}{e:Ending}{M:Except Int Lp}(h:LstX e w w' ub rb v bs u M):∃k:Int,e=Y (I X k):=by
 cases M with
 | error k=>exact⟨_,h.1⟩
 | ok L=>exact⟨_,h.1⟩
theorem Inv.both2{w0 w w1 w2:World}{n wb:Nat}{q:Bool}{us ps ts:Value}{own:Nat->Nat×Nat}{S:Scr}(h:Inv w0 n w wb q us ps ts own S){i:Nat}{e:UE}(he:S.us[i]?=some e){M:Except Int Lp}(hfit:∀L,M=.ok L->FitL L){x y:Int}
  (h1:@LstIs (flo w own (1,i)) (Y (I X x)) w w1 e.pb e.bs e.u M) (h2:@LstX (flo w own (1,i)) (Y (I X y)) w1 w2 e.ub e.rb e.v e.rs (toR e.u) M):x=y/\ZHO w0 w2 wb (n+1):=by
 cases M with
 | error k=>
  obtain⟨a1,a2⟩:=h1;obtain⟨b1,b2⟩:=h2
  cases a1
  cases b1
  exact⟨rfl,_,_,_,_,_,_,((h.on a2).on b2).up (Xb _)⟩
 | ok L=>
  obtain⟨a1,a2,a3⟩:=h1;obtain⟨b1,b2,b3⟩:=h2
  cases a1
  cases b1
  obtain⟨own',S',hi⟩:=h.list he (hfit L rfl) a2 a3 b2 b3;exact⟨rfl,_,_,_,_,_,_,hi.up (Xb _)⟩
theorem ZMb{n v:LB}{L S:Lp}(h:FitL L)(hm:ZIW n v L=.ok S):FitL S:=by
 unfold ZIW at hm
 split at hm
 .cases hm
 split at hm
 .cases hm
 .next h1 h2=>cases hm;exact ZEW (by omega) (by omega) h h2
theorem ZMc{n v:LB}{b:Bool}{L S:Lp}(h:FitL L)(hm:ZI6 n v b L=.ok S):FitL S:=by
 unfold ZI6 at hm
 split at hm
 .cases hm
 .cases hm;exact h.sub List.filter_sublist
theorem ZMd{n v:LB}{L S:Lp}(h:FitL L)(hm:ZGW n v L=.ok S):FitL S:=by
 unfold ZGW at hm
 split at hm
 .cases hm
 split at hm
 .next h1 _=>cases hm;exact ZHN (by omega) h
 split at hm
 .cases hm
 .next h1 _ h2=>cases hm;exact ZEW (by omega) (by omega) h h2
theorem LstX.kq{w w':World}{ub rb:Nat}{v:Value}{bs:LA}{u:RU}{e:Ending}{M:Except Int Lp}(h:LstX e w w' ub rb v bs u M):Out (fun k=>k=ub∨k=rb∨At v k) w w':=by
 cases M with
 | error k=>exact Out.nx h.2
 | ok L=>exact h.2.2
theorem Both.appU{w wz:World}{u:U}{pb ub rb:Nat}{r:Rc}{bs:LA}{R:RR}{rs:LA}{v:Value}{ps:List Pq}(h:Both w u pb ub rb r bs R rs v ps)(hf:FitL (Zzs u.q))(s t:BA)(hs:s.size<=maxLen)(ht:t.size<=maxLen)(hz:Nx w wz):Calls prog 60 #[.pointer (some ⟨pb,0,none⟩),J s,J t] wz fun e w'=>LstIs e w w' pb bs u (ZIW (tl s) (tl t) (Zzs u.q)):=
 (ZGX pb r u bs s t wz (h.on hz).url (h.on hz).rc hf hs ht).mono fun _ _ g=>g.pre hz
theorem Both.appX{w w3 wz:World}{u:U}{pb ub rb:Nat}{r:Rc}{bs:LA}{R:RR}{rs:LA}{v:Value}{ps:List Pq}(h:Both w u pb ub rb r bs R rs v ps)(hv:OwnP w 0 v ps)(hl:ps.length<=161/\∀p∈ps,p.1.size<=300000/\p.2.size<=300000)(s t:BA)(hs:s.size<=maxLen)(ht:t.size<=maxLen)(hb:But pb w w3)(hz:Nx w3 wz):Calls prog 166 #[.pointer (some ⟨ub,0,none⟩),J s,J t] wz fun e w'=>LstX e w3 w' ub rb v rs (toR u) (ZIW (tl s) (tl t) (Zzs u.q)):=by
 obtain⟨a1,a2,a3,a4⟩:=h.half hv hb;rw[<-h.list]
 exact(ZGZ ub rb v R (toR u) rs ps s t wz (a1.on hz) (a2.on hz) (a3.on hz) h.rl.bl (Zbw a4 hz) (Xa hl.1 (by decide)) hl.2 hs ht).mono fun _ _ g=>g.pre hz
theorem Both.delU{w wz:World}{u:U}{pb ub rb:Nat}{r:Rc}{bs:LA}{R:RR}{rs:LA}{v:Value}{ps:List Pq}(h:Both w u pb ub rb r bs R rs v ps)(hf:FitL (Zzs u.q))(s t:BA)(vd:Bool)(hs:s.size<=maxLen)(ht:t.size<=maxLen)(hz:Nx w wz):Calls prog 61 #[.pointer (some ⟨pb,0,none⟩),J s,J t,C vd] wz fun e w'=>LstIs e w w' pb bs u (ZI6 (tl s) (tl t) vd (Zzs u.q)):=
 (ZGY pb r u bs s t vd wz (h.on hz).url (h.on hz).rc hf hs ht).mono fun _ _ g=>g.pre hz
theorem Both.delX{w w3 wz:World}{u:U}{pb ub rb:Nat}{r:Rc}{bs:LA}{R:RR}{rs:LA}{v:Value}{ps:List Pq}(h:Both w u pb ub rb r bs R rs v ps)(hv:OwnP w 0 v ps)(hl:ps.length<=161/\∀p∈ps,p.1.size<=300000/\p.2.size<=300000)(s t:BA)(vd:Bool)(hs:s.size<=maxLen)(ht:t.size<=maxLen)(hb:But pb w w3)(hz:Nx w3 wz):Calls prog 167 #[.pointer (some ⟨ub,0,none⟩),J s,J t,C vd] wz fun e w'=>LstX e w3 w' ub rb v rs (toR u) (ZI6 (tl s) (tl t) vd (Zzs u.q)):=by
 obtain⟨a1,a2,a3,a4⟩:=h.half hv hb;rw[<-h.list]
 exact(ZG0 ub rb v R (toR u) rs ps s t vd wz (a1.on hz) (a2.on hz) (a3.on hz) h.rl.bl (OwnP.at (Zbw a4 hz)) (Xa hl.1 (by decide)) hl.2 hs ht).mono fun _ _ g=>g.pre hz
theorem Both.setU{w wz:World}{u:U}{pb ub rb:Nat}{r:Rc}{bs:LA}{R:RR}{rs:LA}{v:Value}{ps:List Pq}(h:Both w u pb ub rb r bs R rs v ps)(hf:FitL (Zzs u.q))(s t:BA)(hs:s.size<=maxLen)(ht:t.size<=maxLen)(hz:Nx w wz):Calls prog 62 #[.pointer (some ⟨pb,0,none⟩),J s,J t] wz fun e w'=>LstIs e w w' pb bs u (ZGW (tl s) (tl t) (Zzs u.q)):=
 (ZLY pb r u bs s t wz (h.on hz).url (h.on hz).rc hf hs ht).mono fun _ _ g=>g.pre hz
theorem Both.setX{w w3 wz:World}{u:U}{pb ub rb:Nat}{r:Rc}{bs:LA}{R:RR}{rs:LA}{v:Value}{ps:List Pq}(h:Both w u pb ub rb r bs R rs v ps)(hv:OwnP w 0 v ps)(hl:ps.length<=161/\∀p∈ps,p.1.size<=300000/\p.2.size<=300000)(s t:BA)(hs:s.size<=maxLen)(ht:t.size<=maxLen)(hb:But pb w w3)(hz:Nx w3 wz):Calls prog 168 #[.pointer (some ⟨ub,0,none⟩),J s,J t] wz fun e w'=>LstX e w3 w' ub rb v rs (toR u) (ZGW (tl s) (tl t) (Zzs u.q)):=by
 obtain⟨a1,a2,a3,a4⟩:=h.half hv hb;rw[<-h.list]
 exact(ZL2 ub rb v R (toR u) rs ps s t wz (a1.on hz) (a2.on hz) (a3.on hz) h.rl.bl (OwnP.at (Zbw a4 hz)) (Xa hl.1 (by decide)) hl.2 hs ht).mono fun _ _ g=>g.pre hz
theorem Both.sortX{w w3:World}{u:U}{pb ub rb:Nat}{r:Rc}{bs:LA}{R:RR}{rs:LA}{v:Value}{ps:List Pq}(h:Both w u pb ub rb r bs R rs v ps)(hv:OwnP w 0 v ps)(hl:ps.length<=161/\∀p∈ps,p.1.size<=300000/\p.2.size<=300000)(hb:But pb w w3):Calls prog 20 #[.pointer (some ⟨ub,0,none⟩)] w3 fun e w'=>e=Y (.tuple #[])/\(∃R' v' qs,URB w' ub rb v'/\RB w' rb R'/\RIs w' R' (ZFW (toR u) (ZzB ltB (Zzs u.q))) rs/\OwnP w' 0 v' qs/\qs.map tl2=ZzB ltB (Zzs u.q)/\∀k,At v' k->At v k∨w3.heap.size<=k)/\Out (fun k=>k=ub∨k=rb∨At v k) w3 w':=by
 obtain⟨a1,a2,a3,a4⟩:=h.half hv hb
 refine(ZKA ub rb v R (toR u) rs ps w3 a1 a2 a3 h.rl.bl (OwnP.at a4) (Xa hl.1 (by decide)) hl.2).mono ?_
 rintro e w' ⟨rfl,⟨R',v',qs,b1,b2,b3,-,b5,b6⟩,b7⟩;rw[h.list,<-ZJ7 (ZBU u.q)]at b3 b5
 exact⟨rfl,⟨R',v',qs,b1,b2,b3,OwnP.kp b6 (Kp.rfl (e:=9)) (by decide) (Nat.zero_le _),b5,fun k hk=>Xf (b6.lt k hk).1⟩,b7.os,b7.tape,b7.output,b7.size,fun k hk hn=>b7.block k hk (fun g=>hn (Xd g)) (fun g=>hn (Xf (Xd g)))⟩
theorem Inv.hush{w0 w:World}{n wb:Nat}{q:Bool}{us ps ts:Value}{own:Nat->Nat×Nat}{S:Scr}(h:Inv w0 n w wb q us ps ts own S)(x:Bool):ZHO w0 (w.setCell ⟨wb,0,none⟩ (C x)) wb (n+1):=by
 have b4:But wb w (w.setCell ⟨wb,0,none⟩ (C x)):=(But.refl wb w).set 0 _;have k2:=b4.kpW h.wbk
 have hw:WB (w.setCell ⟨wb,0,none⟩ (C x)) wb x us ps ts:=by
  have:=h.wbk;unfold WB at *;simp only[World.setCell,Array.getElem?_modify,ifP,this]
  rfl
 exact⟨_,_,_,_,_,_,h.gen (n':=n+1) (S':=S) (0,0) (fun _=>(0,0)) (by decide) (Out.of_but b4 (h.lo wb (Xd rfl))) hw (ZAe h.ru k2 (by decide)) (ZAe h.rp k2 (by decide)) (ZAe h.rt k2 (by decide)) (fun k hk=>by rw[ifP (h.wlt k (Xf hk))];exact h.lo k (Xf hk)) (fun i f hf=>Xd ⟨hf,by simp⟩) (fun i f hf=>Xd ⟨hf,by simp⟩) (fun i f hf=>Xd ⟨hf,by simp⟩) ⟨Xc h.cnt.1,Xc h.cnt.2.1,Xc h.cnt.2.2⟩⟩
theorem ZKM(wi:World)(n wb:Nat)(q:Bool)(us ps ts:Value)(own:Nat->Nat×Nat)(S:Scr)(k a b c:Int)(s t:BA)(w:World)(h:Inv wi n w wb q us ps ts own S)(hn:n<=100000)(a0:-9223372036854775808<=a)(a1:a<=9223372036854775807)(b0:-9223372036854775808<=b)(b1:b<=9223372036854775807)(hs:s.size<=maxLen)(ht:t.size<=maxLen)(hk2:k≠2)(hk3:k≠3):Calls prog 124 #[.pointer (some ⟨wb,0,none⟩),.agg #[I X k,I X a,I X b,I X c,J s,J t]] w fun e w'=>e=Y (C true)/\ZHO wi w' wb (n+1):=by
 have H:=A h;have HOB:=A (show OpB (w.alloc (O #[I X k,I X a,I X b,I X c,J s,J t] 45)) w.heap.size k a b c s t from heap_alloc_new w _);have HN1:=A (show Nx w (w.alloc (O #[I X k,I X a,I X b,I X c,J s,J t] 45))from Nx.rfl.alloc _);obtain⟨ao,cap,hue,hcl,hrow⟩:=Zz4 h.ru;have hun:S.us.length<=100000:=Xa h.cnt.1 hn;have HROW:=A hrow;obtain⟨m,hm⟩:∃m,m=S.us.length:=⟨_,rfl⟩;rw[<-hm]at hue hcl hun HROW;have HM:=A hm;clear h hrow hm;subst hue
 go_enter func124,ntmps124
 go_upto_region 1 with fail;generalize w.alloc (O #[I X k,I X a,I X b,I X c,J s,J t] 45)=w1 at *;generalize hob:w.heap.size=ob at *;clear hob;obtain⟨o0,o1,o2,o3,o4,o5⟩:=HOB.o.all;obtain⟨q0,q1,q2,q3,hwl⟩:=(H.o.wbk.on HN1.o).facts
 by_cases k1:k=1
 focus
  subst k1;go_wp2_with fail
  refine(ZKJ wi n wb q _ ps ts own S 1 a b c s t w1 (H.o.on HN1.o) hn b0 b1 hs ht).mono ?_
 rotate_left
 focus
  by_cases k10:k=10
  focus
   subst k10;go_wp2_with fail
   refine(ZG6 wi n wb q _ ps ts own S a b c s t w1 (H.o.on HN1.o) hn a0 a1 b0 b1).mono ?_
  rotate_left
  focus
   by_cases k11:k=11
   focus
    subst k11;go_wp2_with fail
    refine(ZG7 wi n wb q _ ps ts own S a b c s t w1 (H.o.on HN1.o) hn a0 a1 b0 b1).mono ?_
   rotate_left
   .by_cases k12:k=12
    .subst k12
     have HHU:=A (H.o.on HN1.o).hush;have f0:=(H.o.wbk.on HN1.o).free 0;go_wp2;go_ret;exact⟨rfl,HHU.o _⟩
    have e1:(k==1)=false:=beq_eq_false_iff_ne.2 k1;have e10:(k==10)=false:=beq_eq_false_iff_ne.2 k10;have e11:(k==11)=false:=beq_eq_false_iff_ne.2 k11;have e12:(k==12)=false:=beq_eq_false_iff_ne.2 k12;clear k1 k10 k11 k12;rcases Nat.eq_zero_or_pos m with hm0|hpos
    .have hz:((m:Int)==0)=true:=beq_iff_eq.2 (by omega)
     clear hm0;go_wp2;go_ret;exact⟨rfl,_,_,_,_,_,_,(H.o.on HN1.o).up (Xb _)⟩
    have hz:((m:Int)==0)=false:=beq_eq_false_iff_ne.2 (by omega)
    obtain⟨g,hg,hgc⟩:=HROW.o hpos;subst hg;have hpk:=ZBw a hpos
    obtain⟨e,he⟩:∃e,S.us[ZAE a m]?=some e:=⟨_,List.getElem?_eq_getElem (by rw[<-HM.o];exact hpk)⟩
    have HE:=A he
    have hcell:=(World.cell?_of_block (a:=⟨g,ZAE a m,none⟩) (HN1.o.block g (ZAd H.o.ru rfl))).trans (hgc (ZAE a m) e.p (by rw[List.getElem?_map,he];rfl))
    clear he hgc;unfold UE.p at hcell
    have HPK:=A (fun w'=>ZA0 a m a0 a1 hpos (by omega) w')
    generalize ZAE a m=pk at *;go_upto_region 13 with fail
    go_cut [5]from 45 (fun x wx=>x=.pointer (some ⟨e.pp,0,none⟩)/\Nx w1 wx)
    case first=>
     go_region_with (go_at_call 164;refine(HPK.o _).mono ?_;rintro e w' ⟨rfl,rfl⟩)
     all_goals go_wp2_with fail
     all_goals go_meet
     all_goals first|exact⟨rfl,Nx.rfl.drew⟩|exact⟨rfl,Nx.rfl⟩|exact⟨rfl,Nx.rfl.drew.drew⟩
    obtain⟨hx5,hnn⟩:=hcut;subst hx5;obtain⟨w2,hw2⟩:∃w2,w2=wc:=⟨_,rfl⟩;subst hw2;have H2:=A (H.o.on (HN1.o.then hnn));have HOB2:=A (HOB.o.on hnn);clear o0 o1 o2 o3 o4 o5 q0 q1 q2 q3 hwl hcell hnn hz HROW HPK HM HN1 H HOB;obtain⟨o0,o1,o2,o3,o4,o5⟩:=HOB2.o.all;have HU:=A (H2.o.uo pk e HE.o).1;have HFT:=A HU.o.fit;have HLI:=A HU.o.both.list;have HSZ:=A (H2.o.sizes HE.o);have HBG:=A (H2.o.both HE.o);obtain⟨p0,p1⟩:=HU.o.pair.cells
    have HKQ:Hid (∀w3,But e.pb w2 w3->ZHP w3 e.pp e.pb e.ub ob b s t/\∀w',Out (fun k=>k=e.ub∨k=e.rb∨At e.v k) w3 w'->ZHP w' e.pp e.pb e.ub ob b s t):=A (fun w3 hb=>by
     have kk:=hb.kpP HU.o.both.url
     have g1:PairB w3 e.pp e.pb e.ub:=kk.2 _ _ _ _ HU.o.pair (by decide)
     have g2:OpB w3 ob k a b c s t:=kk.2 _ _ _ _ HOB2.o (by decide)
     obtain⟨c1,c2,-,c4⟩:=HU.o.both.half HU.o.vo hb
     refine⟨ZI7 g1 g2,fun w' hx=>?_⟩
     have K:=hx.kq c1 c2 c4
     exact ZI7 (show PairB w' _ _ _ from K _ _ _ _ g1 (by decide) (by decide) (by decide)) (show OpB w' _ _ _ _ _ _ _ from K _ _ _ _ g2 (by decide) (by decide) (by decide)))
    obtain⟨vd,hvd⟩:∃vd,(b==1)=vd:=⟨_,rfl⟩
    by_cases k4:k=4
    focus
     subst k4;clear e1 e10 e11 e12 hk2 hk3 o1 o3 p0 p1;obtain⟨M,hM⟩:∃M,ZIW (tl s) (tl t) (Zzs e.u.q)=M:=⟨_,rfl⟩
     have HFM:=A (fun(L:Lp) (hL:M=.ok L)=>ZMb HFT.o (hM.trans hL))
     have HV1:Hid (∀wz,Nx w2 wz->Calls prog 60 #[.pointer (some ⟨e.pb,0,none⟩),J s,J t] wz fun e' w'=>@LstIs (flo w2 own (1,pk)) e' w2 w' e.pb e.bs e.u M):=A (fun wz hz=>by rw[<-hM];exact @Both.appU (flo w2 own (1,pk)) _ _ _ _ _ _ _ _ _ _ _ _ HBG.o HFT.o s t hs ht hz)
     have HV2:Hid (∀w3 wz,But e.pb w2 w3->Nx w3 wz->Calls prog 166 #[.pointer (some ⟨e.ub,0,none⟩),J s,J t] wz fun e' w'=>@LstX (flo w2 own (1,pk)) e' w3 w' e.ub e.rb e.v e.rs (toR e.u) M):=A (fun w3 wz hb hz=>by rw[<-hM];exact @Both.appX (flo w2 own (1,pk)) _ _ _ _ _ _ _ _ _ _ _ _ _ HBG.o HU.o.vo HSZ.o s t hs ht hb hz)
     clear hM;go_upto_region 24 with fail
     go_cut [10]from 90 (fun x wx=>∃y:Int,x=I X y/\@LstIs (flo w2 own (1,pk)) (Y (I X y)) w2 wx e.pb e.bs e.u M)
     case first=>
      go_region_held (fun w'=>ZHP w' e.pp e.pb e.ub ob b s t) (first|exact(HKQ.o _ (But.nx Nx.rfl.drew)).1|exact(HKQ.o _ HBZ.o).1) ((go_at_call 60;refine(HV1.o _ (by first|exact Nx.rfl.drew|exact Nx.rfl)).mono ?_;rintro e' wz hL;obtain⟨hbz,y,he'⟩:=@LstIs.but (flo w2 own (1,pk)) _ _ _ _ _ _ _ hL;subst he';have HL:=A hL;have HBZ:=A hbz;clear hL hbz))
      all_goals go_wp2_with fail
      all_goals go_meet
      all_goals exact⟨_,rfl,HL.o⟩
     obtain⟨y,hx,hL⟩:=hcut;subst hx;obtain⟨w3,hw3⟩:∃w3,w3=wc:=⟨_,rfl⟩;subst hw3;have HL:=A hL;have HB3:=A (@LstIs.but (flo w2 own (1,pk)) _ _ _ _ _ _ _ hL).1;clear hL o0 o2 o4 o5;go_upto_region 25 with fail
     go_cut [11]from 99 (fun x wx=>∃z:Int,x=I X z/\@LstX (flo w2 own (1,pk)) (Y (I X z)) w3 wx e.ub e.rb e.v e.rs (toR e.u) M)
     case first=>
      go_region_held (fun w'=>ZHP w' e.pp e.pb e.ub ob b s t) (first|exact(HKQ.o _ (HB3.o.then (But.nx Nx.rfl.drew))).1|exact(HKQ.o _ HB3.o).2 _ (@LstX.kq (flo w2 own (1,pk)) _ _ _ _ _ _ _ _ _ HX.o)) ((go_at_call 166;refine(HV2.o w3 _ HB3.o (by first|exact Nx.rfl.drew|exact Nx.rfl)).mono ?_;rintro e' wz hX;obtain⟨z,he'⟩:=@LstX.ret (flo w2 own (1,pk)) _ _ _ _ _ _ _ _ _ hX;subst he';have HX:=A hX;clear hX))
      all_goals go_wp2_with fail
      all_goals go_meet
      all_goals exact⟨_,rfl,HX.o⟩
    rotate_left
    focus
     by_cases k5:k=5
     focus
      subst k5;clear e1 e10 e11 e12 hk2 hk3 o1 o3 p0 p1;obtain⟨M,hM⟩:∃M,ZI6 (tl s) (tl t) vd (Zzs e.u.q)=M:=⟨_,rfl⟩
      have HFM:=A (fun(L:Lp) (hL:M=.ok L)=>ZMc HFT.o (hM.trans hL))
      have HV1:Hid (∀wz,Nx w2 wz->Calls prog 61 #[.pointer (some ⟨e.pb,0,none⟩),J s,J t,C vd] wz fun e' w'=>@LstIs (flo w2 own (1,pk)) e' w2 w' e.pb e.bs e.u M):=A (fun wz hz=>by rw[<-hM];exact @Both.delU (flo w2 own (1,pk)) _ _ _ _ _ _ _ _ _ _ _ _ HBG.o HFT.o s t vd hs ht hz)
      have HV2:Hid (∀w3 wz,But e.pb w2 w3->Nx w3 wz->Calls prog 167 #[.pointer (some ⟨e.ub,0,none⟩),J s,J t,C vd] wz fun e' w'=>@LstX (flo w2 own (1,pk)) e' w3 w' e.ub e.rb e.v e.rs (toR e.u) M):=A (fun w3 wz hb hz=>by rw[<-hM];exact @Both.delX (flo w2 own (1,pk)) _ _ _ _ _ _ _ _ _ _ _ _ _ HBG.o HU.o.vo HSZ.o s t vd hs ht hb hz)
      clear hM;go_upto_region 28 with fail
      go_cut [12]from 113 (fun x wx=>∃y:Int,x=I X y/\@LstIs (flo w2 own (1,pk)) (Y (I X y)) w2 wx e.pb e.bs e.u M)
      case first=>
       go_region_held (fun w'=>ZHP w' e.pp e.pb e.ub ob b s t) (first|exact(HKQ.o _ (But.nx Nx.rfl.drew)).1|exact(HKQ.o _ HBZ.o).1) ((go_at_call 61;refine(HV1.o _ (by first|exact Nx.rfl.drew|exact Nx.rfl)).mono ?_;rintro e' wz hL;obtain⟨hbz,y,he'⟩:=@LstIs.but (flo w2 own (1,pk)) _ _ _ _ _ _ _ hL;subst he';have HL:=A hL;have HBZ:=A hbz;clear hL hbz))
       all_goals go_wp2_with fail
       all_goals go_meet
       all_goals exact⟨_,rfl,HL.o⟩
      obtain⟨y,hx,hL⟩:=hcut;subst hx;obtain⟨w3,hw3⟩:∃w3,w3=wc:=⟨_,rfl⟩;subst hw3;have HL:=A hL;have HB3:=A (@LstIs.but (flo w2 own (1,pk)) _ _ _ _ _ _ _ hL).1;clear hL o0 o2 o4 o5;go_upto_region 29 with fail
      go_cut [13]from 125 (fun x wx=>∃z:Int,x=I X z/\@LstX (flo w2 own (1,pk)) (Y (I X z)) w3 wx e.ub e.rb e.v e.rs (toR e.u) M)
      case first=>
       go_region_held (fun w'=>ZHP w' e.pp e.pb e.ub ob b s t) (first|exact(HKQ.o _ (HB3.o.then (But.nx Nx.rfl.drew))).1|exact(HKQ.o _ HB3.o).2 _ (@LstX.kq (flo w2 own (1,pk)) _ _ _ _ _ _ _ _ _ HX.o)) ((go_at_call 167;refine(HV2.o w3 _ HB3.o (by first|exact Nx.rfl.drew|exact Nx.rfl)).mono ?_;rintro e' wz hX;obtain⟨z,he'⟩:=@LstX.ret (flo w2 own (1,pk)) _ _ _ _ _ _ _ _ _ hX;subst he';have HX:=A hX;clear hX))
       all_goals go_wp2_with fail
       all_goals go_meet
       all_goals exact⟨_,rfl,HX.o⟩
     rotate_left
     focus
      by_cases k6:k=6
      focus
       subst k6;clear e1 e10 e11 e12 hk2 hk3 o1 o3 p0 p1;obtain⟨M,hM⟩:∃M,ZGW (tl s) (tl t) (Zzs e.u.q)=M:=⟨_,rfl⟩
       have HFM:=A (fun(L:Lp) (hL:M=.ok L)=>ZMd HFT.o (hM.trans hL))
       have HV1:Hid (∀wz,Nx w2 wz->Calls prog 62 #[.pointer (some ⟨e.pb,0,none⟩),J s,J t] wz fun e' w'=>@LstIs (flo w2 own (1,pk)) e' w2 w' e.pb e.bs e.u M):=A (fun wz hz=>by rw[<-hM];exact @Both.setU (flo w2 own (1,pk)) _ _ _ _ _ _ _ _ _ _ _ _ HBG.o HFT.o s t hs ht hz)
       have HV2:Hid (∀w3 wz,But e.pb w2 w3->Nx w3 wz->Calls prog 168 #[.pointer (some ⟨e.ub,0,none⟩),J s,J t] wz fun e' w'=>@LstX (flo w2 own (1,pk)) e' w3 w' e.ub e.rb e.v e.rs (toR e.u) M):=A (fun w3 wz hb hz=>by rw[<-hM];exact @Both.setX (flo w2 own (1,pk)) _ _ _ _ _ _ _ _ _ _ _ _ _ HBG.o HU.o.vo HSZ.o s t hs ht hb hz)
       clear hM;go_upto_region 32 with fail
       go_cut [14]from 142 (fun x wx=>∃y:Int,x=I X y/\@LstIs (flo w2 own (1,pk)) (Y (I X y)) w2 wx e.pb e.bs e.u M)
       case first=>
        go_region_held (fun w'=>ZHP w' e.pp e.pb e.ub ob b s t) (first|exact(HKQ.o _ (But.nx Nx.rfl.drew)).1|exact(HKQ.o _ HBZ.o).1) ((go_at_call 62;refine(HV1.o _ (by first|exact Nx.rfl.drew|exact Nx.rfl)).mono ?_;rintro e' wz hL;obtain⟨hbz,y,he'⟩:=@LstIs.but (flo w2 own (1,pk)) _ _ _ _ _ _ _ hL;subst he';have HL:=A hL;have HBZ:=A hbz;clear hL hbz))
        all_goals go_wp2_with fail
        all_goals go_meet
        all_goals exact⟨_,rfl,HL.o⟩
       obtain⟨y,hx,hL⟩:=hcut;subst hx;obtain⟨w3,hw3⟩:∃w3,w3=wc:=⟨_,rfl⟩;subst hw3;have HL:=A hL;have HB3:=A (@LstIs.but (flo w2 own (1,pk)) _ _ _ _ _ _ _ hL).1;clear hL o0 o2 o4 o5;go_upto_region 33 with fail
       go_cut [15]from 151 (fun x wx=>∃z:Int,x=I X z/\@LstX (flo w2 own (1,pk)) (Y (I X z)) w3 wx e.ub e.rb e.v e.rs (toR e.u) M)
       case first=>
        go_region_held (fun w'=>ZHP w' e.pp e.pb e.ub ob b s t) (first|exact(HKQ.o _ (HB3.o.then (But.nx Nx.rfl.drew))).1|exact(HKQ.o _ HB3.o).2 _ (@LstX.kq (flo w2 own (1,pk)) _ _ _ _ _ _ _ _ _ HX.o)) ((go_at_call 168;refine(HV2.o w3 _ HB3.o (by first|exact Nx.rfl.drew|exact Nx.rfl)).mono ?_;rintro e' wz hX;obtain⟨z,he'⟩:=@LstX.ret (flo w2 own (1,pk)) _ _ _ _ _ _ _ _ _ hX;subst he';have HX:=A hX;clear hX))
        all_goals go_wp2_with fail
        all_goals go_meet
        all_goals exact⟨_,rfl,HX.o⟩
      rotate_left
      .by_cases k7:k=7
       .subst k7
        clear e1 e10 e11 e12 hk2 hk3 o1 o2 o3 o4 o5;have HFS:=A (HFT.o.perm (ZKL ltB (Zzs e.u.q)))
        have HS1:=A (@ZNm (flo w2 own (1,pk)) e.pb e.r e.u e.bs w2 HU.o.both.url (@Both.rc (flo w2 own (1,pk)) _ _ _ _ _ _ _ _ _ _ _ HBG.o) (Xa HFS.o.written (by decide)))
        have HS2:=A (fun w3 hb=>@Both.sortX (flo w2 own (1,pk)) _ w3 _ _ _ _ _ _ _ _ _ _ HBG.o HU.o.vo HSZ.o hb)
        go_wp2_with fail
        refine HS1.o.mono ?_
        rintro e' w3 ⟨rfl,hr3,hb3⟩;have HR3:=A hr3;have HB3:=A hb3
        have HPR:=A (show PairB w3 e.pp e.pb e.ub from(hb3.kpP HU.o.both.url).2 _ _ _ _ HU.o.pair (by decide))
        clear hr3 hb3 p0 p1 o0;obtain⟨p0,p1⟩:=HPR.o.cells;go_wp2_with fail
        refine(HS2.o w3 HB3.o).mono ?_
        rintro e' w4 ⟨rfl,hx4,ho4⟩;obtain⟨own',S',hi⟩:=H2.o.list HE.o HFS.o HR3.o HB3.o hx4 ho4;have HI:=A hi;clear hx4 ho4 hi p0 p1;go_wp2;go_ret;exact⟨rfl,_,_,_,_,_,_,HI.o.up (Xb _)⟩
       by_cases k8:k=8
       .subst k8
        clear e1 e10 e11 e12 hk2 hk3 p0 p1;go_wp2_with fail
        refine(ZIZ wi n wb q _ ps ts own S pk e 8 a b c s t w2 H2.o HE.o hn hs ht).mono ?_
        rintro e' w3 ⟨rfl,hg⟩;have HG:=A hg;clear hg o0 o1 o2 o3 o4 o5;go_wp2;go_ret;exact⟨rfl,HG.o⟩
       by_cases k9:k=9
       .subst k9
        clear e1 e10 e11 e12 hk2 hk3 p0 p1;go_wp2_with fail
        refine(ZG3 wi n wb q _ ps ts own S pk e w2 H2.o HE.o hn).mono ?_
        rintro e' w3 ⟨rfl,hg⟩;have HG:=A hg;clear hg o0 o1 o2 o3 o4 o5;go_wp2;go_ret;exact⟨rfl,HG.o⟩
       by_cases k13:k=13
       .subst k13
        clear e1 e10 e11 e12 hk2 hk3 p0 p1
        have h5:=ZBw b (n:=5) (by decide)
        have HPK:=A (fun w'=>ZA0 b 5 b0 b1 (by decide) (by decide) w')
        go_wp2_with fail
        refine(HPK.o _).mono ?_
        rintro e' w' ⟨rfl,rfl⟩;generalize ZAE b 5=pb5 at *;clear o0 o1 o2 o3 o4 o5;go_wp2_with fail
        refine(ZL6 e.pp e.pb e.ub e.rb e.r e.u e.bs e.R e.rs e.v e.ps pb5 w2 HU.o.pair HU.o.both H2.o.tb HSZ.o.2 h5).mono ?_
        rintro e' w3 ⟨rfl,hn3⟩;have HN3:=A hn3;clear hn3;go_wp2;go_ret;exact⟨rfl,_,_,_,_,_,_,(H2.o.on HN3.o).up (Xb _)⟩
       have e2:(k==2)=false:=beq_eq_false_iff_ne.2 hk2;have e3:(k==3)=false:=beq_eq_false_iff_ne.2 hk3;have e4:(k==4)=false:=beq_eq_false_iff_ne.2 k4;have e5:(k==5)=false:=beq_eq_false_iff_ne.2 k5;have e6:(k==6)=false:=beq_eq_false_iff_ne.2 k6;have e7:(k==7)=false:=beq_eq_false_iff_ne.2 k7;have e8:(k==8)=false:=beq_eq_false_iff_ne.2 k8;have e9:(k==9)=false:=beq_eq_false_iff_ne.2 k9;have e13:(k==13)=false:=beq_eq_false_iff_ne.2 k13;clear hk2 hk3 k4 k5 k6 k7 k8 k9 k13 p0 p1;go_wp2;go_ret;exact⟨rfl,_,_,_,_,_,_,H2.o.up (Xb _)⟩
    all_goals
     obtain⟨z,hx,hX⟩:=hcut;subst hx;obtain⟨hyz,hgd⟩:=H2.o.both2 HE.o HFM.o HL.o hX;subst hyz;have HGD:=A hgd;clear hX hgd
     have hyy:(y==y)=true:=by simp
     go_wp2;go_ret;exact⟨rfl,HGD.o⟩
 all_goals
  rintro e w2 ⟨rfl,hg⟩;have HG:=A hg;clear hg o0 o1 o2 o3 o4 o5 q0 q1 q2 q3 hwl;go_wp2;go_ret;exact⟨rfl,HG.o⟩
end Go.Proofs.YtchkhibgbnhjpabGreatDoor
