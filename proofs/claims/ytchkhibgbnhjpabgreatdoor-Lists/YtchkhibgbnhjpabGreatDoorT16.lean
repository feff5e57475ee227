import Derived.Test.YtchkhibgbnhjpabGreatDoorT15
open List renaming length_map→Xa,eq_nil_of_length_eq_zero→Xc
open Nat renaming le_trans→Xb,zero_le→Xd,le_refl→Xf,le_succ→Xg
open Go.Value renaming string→J,bool→C,int→I
open Go.IntKind renaming i64→X
open Go.Ending renaming returned→Y
open Go.Obj renaming cells→O
namespace Go.Proofs.YtchkhibgbnhjpabGreatDoor
open Tryz
open Go.RowKit
set_option maxHeartbeats 16000000
set_option maxRecDepth 16000
variable [Fl]
set_option linter.all false
def ZL7(n:List UInt8)(L:Lp):Lp:=if 160<n.length then []else L.filter (ZBZ (clean n) [] false)
def ZNt(n v:List UInt8)(valued:Bool)(L:Lp):Bool:=if 160<n.length∨160<v.length then false else decide (0<(L.filter (ZBZ (clean n) (clean v) valued)).length)
theorem ZIY(pb:Nat)(r:Rc)(u:U)(bs:LA)(n:BA)(w:World)(h0:UrlB w pb r)(h:RcIs w r u bs)(hn:n.size<=maxLen):Calls prog 41 #[.pointer (some ⟨pb,0,none⟩),J n] w fun e w'=>∃t:BA,e=Y (.tuple #[J t,C (decide (0<(ZL7 (tl n) (Zzs u.q)).length))])/\tl t=ZFL (ZL7 (tl n) (Zzs u.q))/\Nx w w':=by
 unfold ZL7;rw[Za]
 by_cases hl:160<n.size
 .rw[ifP hl]
  go_enter func41,ntmps41
  go_wp2_with fail
  refine(ZAn n ⟨#[]⟩ _ hn (Ze (by decide))).mono ?_
  rintro e w' ⟨rfl,rfl⟩;rw[decide_eq_true (Or.inl hl)];go_wp2;go_ret2;exact⟨⟨#[]⟩,rfl,rfl,Nx.rfl⟩
 .rw[ifN hl]
  exact ZIM pb r u bs n w h0 h (by omega)
theorem ZG4(pb:Nat)(r:Rc)(u:U)(bs:LA)(n:BA)(w:World)(h0:UrlB w pb r)(h:RcIs w r u bs)(hn:n.size<=maxLen):Calls prog 42 #[.pointer (some ⟨pb,0,none⟩),J n] w fun e w'=>∃v ss,e=Y v/\StrIs w' w.heap.size v ss/\ss.map tl=(ZL7 (tl n) (Zzs u.q)).map (·.2)/\Nx w w':=by
 unfold ZL7;rw[Za]
 by_cases hl:160<n.size
 .rw[ifP hl]
  go_enter func42,ntmps42
  go_wp2_with fail
  refine(ZAn n ⟨#[]⟩ _ hn (Ze (by decide))).mono ?_
  rintro e w' ⟨rfl,rfl⟩;rw[decide_eq_true (Or.inl hl)];go_wp2;go_ret;exact⟨_,[],rfl,Or.inl ⟨rfl,rfl⟩,rfl,Nx.rfl⟩
 .rw[ifN hl]
  exact ZGM pb r u bs n w h0 h (by omega)
theorem ZL8(pb:Nat)(r:Rc)(u:U)(bs:LA)(n x:BA)(valued:Bool)(w:World)(h0:UrlB w pb r)(h:RcIs w r u bs)(hn:n.size<=maxLen)(hx:x.size<=maxLen):Calls prog 43 #[.pointer (some ⟨pb,0,none⟩),J n,J x,C valued] w fun e w'=>e=Y (C (ZNt (tl n) (tl x) valued (Zzs u.q)))/\Nx w w':=by
 unfold ZNt;rw[Za,Za]
 by_cases hl:160<n.size∨160<x.size
 .rw[ifP hl]
  go_enter func43,ntmps43
  go_wp2_with fail
  refine(ZAn n x _ hn hx).mono ?_
  rintro e w' ⟨rfl,rfl⟩;rw[decide_eq_true hl];go_wp2;go_ret;exact⟨rfl,Nx.rfl⟩
 .rw[ifN hl]
  exact ZLN pb r u bs n x valued w h0 h (by omega) (by omega)
theorem ZG5(ub rb:Nat)(v:Value)(ps:List Pq)(n:BA)(w:World)(hu:URB w ub rb v)(hp:PlAt w v ps)(hl:ps.length<=1000000)(hn:n.size<=maxLen):Calls prog 44 #[.pointer (some ⟨ub,0,none⟩),J n] w fun e w'=>∃x ss,e=Y x/\ZbK w' w.heap.size x ss/\ss.map tl=(ZL7 (tl n) (ps.map tl2)).map (·.2)/\ss.length<=1000000/\Nx w w':=by
 unfold ZL7;rw[Za]
 by_cases hlg:160<n.size
 .rw[ifP hlg]
  go_enter func44,ntmps44
  go_wp2_with fail
  refine(ZzH n _ hn).mono ?_
  rintro e w' ⟨rfl,rfl⟩;rw[decide_eq_true hlg];go_wp2;go_ret;exact⟨_,[],rfl,World.ownsRow_nil _ _ _ _,rfl,Xd _,Nx.rfl⟩
 .rw[ifN hlg]
  exact ZGQ ub rb v ps n w hu hp hl (by omega)
theorem ZL9(ub rb:Nat)(v:Value)(ps:List Pq)(n x:BA)(valued:Bool)(w:World)(hu:URB w ub rb v)(hp:PlAt w v ps)(hl:ps.length<=1000000)(hn:n.size<=maxLen)(hx:x.size<=maxLen):Calls prog 45 #[.pointer (some ⟨ub,0,none⟩),J n,J x,C valued] w fun e w'=>e=Y (C (ZNt (tl n) (tl x) valued (ps.map tl2)))/\Nx w w':=by
 unfold ZNt;rw[Za,Za]
 by_cases hlg:160<n.size∨160<x.size
 .rw[ifP hlg]
  have hb:(decide (160<n.size)||decide (160<x.size))=true:=by simpa using hlg
  go_enter func45,ntmps45
  go_wp2_with (go_at_call 101;refine(ZzH _ _ (by assumption)).mono ?_;rintro e w' ⟨rfl,rfl⟩)
  all_goals go_ret
  all_goals exact⟨rfl,Nx.rfl⟩
 .rw[ifN hlg]
  exact ZLR ub rb v ps n x valued w hu hp hl (by omega) (by omega)
theorem FullS.own{w:World}{nb:Nat}{ss:LA}(h:FullS w nb ss)(hl:ss.length<=1000000):ZbK w 0 (.slice (some ⟨nb,0,none⟩) ss.length ss.length) ss:=by
 refine⟨by simp,Or.inr ⟨nb,ss.length,(ss.map Value.string).toArray,rfl,Xd _,h,Xf _,by unfold maxLen;omega,by simp,?_⟩⟩
 exact List.take_of_length_le (by simp)
theorem ZF2{ops:Array Oper}{rest:List Oper}{o:Oper}{a:Act}{Q:Exit->Act->World->Prop}(w:World)
  (hgd:o.guard=none) (s x:Operand) (ho:o.op=.call { callee:=.builtin .append,args:=#[s,x],argTypes:=#[78,78] })
  (hs:a.eval s=.slice none 0 0) (b off c:Nat) (ys:LA) (hx:a.eval x=.slice (some ⟨b,off,none⟩) ys.length c) (hrow:RowAt 9 Value.string w b off ys) (hn:ys.length<1000000000000)
  (h:∀v' w',ZbK w' w.heap.size v' ys->Nx w w'->wpList prog ops Q rest (a.put o.dst v') w'):wpList prog ops Q (o::rest) a w:=by
 obtain⟨i,hi,hz0,hz1,hz2⟩:=info_parts ZEQ
 refine wpList_append_own w hgd s x 78 ho w.heap.size 9 i _ 1 16 underlying78 hi hz0 hz1 hz2 rfl (by decide) (.slice none 0 0) 0 [] hs (World.ownsRow_nil _ _ _ _) ⟨b,off,none⟩ ys.length c (ys.map Value.string) hx (by simp) (fun j u hu=>?_) (fun u hu=>?_) (by unfold maxLen;omega) (by omega) (Xf _) ?_
 .obtain⟨hj,rfl⟩:=List.getElem?_eq_some_iff.1 hu
  rw[Xa]at hj;rw[Addr.add_lit,List.getElem_map];exact hrow.cell hj
 .obtain⟨p,-,rfl⟩:=List.mem_map.1 hu
  rfl
 .intro v' w' q1 q2 _
  simp only[Nat.zero_add,List.nil_append]at q1
  exact h v' w' q1 ⟨q2.os,q2.tape,q2.output,q2.size,fun k hk=>q2.block k hk (by simp[Value.ownBlock])⟩
abbrev ZHP(w:World)(pp pb ub ob:Nat)(b:Int)(s t:ByteArray):Prop:=w.cell? ⟨pp,0,none⟩=some (.pointer (some ⟨pb,0,none⟩))/\w.cell? ⟨pp,1,none⟩=some (.pointer (some ⟨ub,0,none⟩))/\w.cell? ⟨ob,2,none⟩=some (I X b)/\w.cell? ⟨ob,4,none⟩=some (J s)/\w.cell? ⟨ob,5,none⟩=some (J t)
theorem ZI7{w:World}{pp pb ub ob:Nat}{k a b c:Int}{s t:BA}(h:PairB w pp pb ub)(ho:OpB w ob k a b c s t):ZHP w pp pb ub ob b s t:=⟨h.cells.1,h.cells.2,ho.cells.1,ho.cells.2.1,ho.cells.2.2⟩
theorem ZIZ(wi:World)(n wb:Nat)(q:Bool)(us ps ts:Value)(own:Nat->Nat×Nat)(S:Scr)(i:Nat)(e:UE)(k a b c:Int)(s t:BA)(w:World)(h:Inv wi n w wb q us ps ts own S)(he:S.us[i]?=some e)(hn:n<=100000)(hs:s.size<=maxLen)(ht:t.size<=maxLen):Calls prog 18 #[.pointer (some ⟨wb,0,none⟩),.pointer (some ⟨e.pp,0,none⟩),.agg #[I X k,I X a,I X b,I X c,J s,J t]] w fun e w'=>e=Y (C true)/\ZHO wi w' wb (n+1):=by
 have H:=A h;have hu:=(h.uo i e he).1;obtain⟨to_,tc,hte,htl,-⟩:=Zz4 h.rt;have htn:S.ts.length<=100000:=Xb h.cnt.2.2 hn
 have HRT:Hid (∀w',Nx w w'->w'.ownsRow 0 83 2 ts S.ts.length (S.ts.flatMap HT.c)):=A (fun w' hn=>(h.on hn).rt)
 obtain⟨m,hm⟩:∃m,m=S.ts.length:=⟨_,rfl⟩;rw[<-hm]at hte htl htn HRT;have HMM:=A hm;obtain⟨u,pp,pb,ub,rb,r,bs,R,rs,v,pz⟩:=e;have HPR:=A hu.pair;have HB:=A hu.both;have hc:=ZzF hu.both.list (ZCJ hu.both.rc);simp only at HPR HB hc;clear hm he;subst hte;have HOB0:=A (show OpB (w.alloc (O #[I X k,I X a,I X b,I X c,J s,J t] 45)) w.heap.size k a b c s t from heap_alloc_new w _);have HN0:=A (show Nx w (w.alloc (O #[I X k,I X a,I X b,I X c,J s,J t] 45))from Nx.rfl.alloc _);obtain⟨vd,hbd⟩:∃vd,(b==1)=vd:=⟨_,rfl⟩;obtain⟨F,hF⟩:∃F,ZL7 (tl s) (Zzs u.q)=F:=⟨_,rfl⟩;obtain⟨G,hG⟩:∃G,ZNt (tl s) (tl t) vd (Zzs u.q)=G:=⟨_,rfl⟩
 have hFl:F.length<=1000000:=by
  rw[<-hF,<-HB.o.list];unfold ZL7
  split
  .exact Xd _
  .exact Xb (List.length_filter_le _ _) (by rw[Xa];exact hc)
 have HV1:Hid (∀wz,Nx w wz->Calls prog 41 #[.pointer (some ⟨pb,0,none⟩),J s] wz fun e w'=>∃t:BA,e=Y (.tuple #[J t,C (decide (0<F.length))])/\tl t=ZFL F/\Nx wz w'):=A (fun wz hz=>by rw[<-hF];exact ZIY pb r u bs s wz (HB.o.on hz).url (HB.o.on hz).rc hs)
 have HV2:Hid (∀wz,Nx w wz->Calls prog 42 #[.pointer (some ⟨pb,0,none⟩),J s] wz fun e w'=>∃x ss,e=Y x/\StrIs w' wz.heap.size x ss/\ss.map tl=F.map (·.2)/\Nx wz w'):=A (fun wz hz=>by rw[<-hF];exact ZG4 pb r u bs s wz (HB.o.on hz).url (HB.o.on hz).rc hs)
 have HV3:Hid (∀wz,Nx w wz->Calls prog 43 #[.pointer (some ⟨pb,0,none⟩),J s,J t,C vd] wz fun e w'=>e=Y (C G)/\Nx wz w'):=A (fun wz hz=>by rw[<-hG];exact ZL8 pb r u bs s t vd wz (HB.o.on hz).url (HB.o.on hz).rc hs ht)
 have HV4:Hid (∀wz,Nx w wz->Calls prog 44 #[.pointer (some ⟨ub,0,none⟩),J s] wz fun e w'=>∃x ss,e=Y x/\ZbK w' wz.heap.size x ss/\ss.map tl=F.map (·.2)/\ss.length<=1000000/\Nx wz w'):=A (fun wz hz=>by rw[<-hF,<-HB.o.list];exact ZG5 ub rb v pz s wz (HB.o.on hz).ref (HB.o.on hz).pl hc hs)
 have HV5:Hid (∀wz,Nx w wz->Calls prog 45 #[.pointer (some ⟨ub,0,none⟩),J s,J t,C vd] wz fun e w'=>e=Y (C G)/\Nx wz w'):=A (fun wz hz=>by rw[<-hG,<-HB.o.list];exact ZL9 ub rb v pz s t vd wz (HB.o.on hz).ref (HB.o.on hz).pl hc hs ht)
 have hnl:∀w',(binOp .eql 78 (.slice none 0 0) (.slice none 0 0)).run prog w'=.ok (C true) w':=fun w'=>by first|exact Lib.run_eql_slice_nil w' _ _ _ _ _ _ _ underlying78|exact run_eql_slice_nil w' _ _ _ _ _ underlying78
 clear h hu hF hG hs ht hc
 go_enter func18,ntmps18
 go_upto_region 1 with fail;generalize w.alloc (O #[I X k,I X a,I X b,I X c,J s,J t] 45)=w0 at *
 go_cut [7,8]from 16 (fun x y wx=>(∃tv:BA,x=J tv/\y=C (decide (0<F.length))/\tl tv=ZFL F)/\Nx w0 wx)
 case first=>
  go_region_held (fun w'=>ZHP w' pp pb ub w.heap.size b s t) (first|exact ZI7 (HPR.o.on (HN0.o.then Nx.rfl.drew)) (HOB0.o.on Nx.rfl.drew)|exact ZI7 (HPR.o.on (HN0.o.then HNZ.o)) (HOB0.o.on HNZ.o)) ((go_at_call 41;refine(HV1.o _ (by first|exact HN0.o.then Nx.rfl.drew|exact HN0.o)).mono ?_;rintro e wz ⟨tv,rfl,htv,hnz⟩;have HTV:=A htv;clear htv;have HNZ:=A (show Nx w0 wz from Nx.then (show Nx w0 _ by first|exact Nx.rfl.drew|exact Nx.rfl) hnz);clear hnz))
  all_goals go_wp2_with fail
  all_goals go_meet
  all_goals exact⟨⟨_,rfl,rfl,HTV.o⟩,HNZ.o⟩
 obtain⟨⟨tv,rfl,rfl,htv⟩,hnn⟩:=hcut;obtain⟨w1,hwn⟩:∃wn,wn=wc:=⟨_,rfl⟩;subst hwn;have HTV:=A htv;clear htv;have HN1:=A (HN0.o.then hnn);have HOB1:=A (HOB0.o.on hnn);clear HOB0;go_upto_region 2 with fail
 go_cut [9]from 26 (fun x wx=>(∃ss,StrIs wx w.heap.size x ss/\ss.map tl=F.map (·.2))/\Nx w1 wx)
 case first=>
  go_region_held (fun w'=>ZHP w' pp pb ub w.heap.size b s t) (first|exact ZI7 (HPR.o.on (HN1.o.then Nx.rfl.drew)) (HOB1.o.on Nx.rfl.drew)|exact ZI7 (HPR.o.on (HN1.o.then HNZ.o)) (HOB1.o.on HNZ.o)) ((go_at_call 42;refine(HV2.o _ (by first|exact HN1.o.then Nx.rfl.drew|exact HN1.o)).mono ?_;rintro e wz ⟨x,ss,rfl,hss,hst,hnz⟩;have HSS:=A hss;have HST:=A hst;obtain⟨xo,xc,hxe⟩:=hss.slice;subst hxe;clear hss hst;have HNZ:=A (show Nx w1 wz from Nx.then (show Nx w1 _ by first|exact Nx.rfl.drew|exact Nx.rfl) hnz);clear hnz))
  all_goals go_wp2_with fail
  all_goals go_meet
  all_goals exact⟨⟨_,by rcases HSS.o with g|⟨g1,nb,g2,g3,g4⟩;exact Or.inl g;exact Or.inr ⟨g1,nb,Xb HN1.o.size g2,g3,g4⟩,HST.o⟩,HNZ.o⟩
 obtain⟨⟨ss,hss,hst⟩,hnn⟩:=hcut;obtain⟨w2,hwn⟩:∃wn,wn=wc:=⟨_,rfl⟩;subst hwn;have HSS:=A hss;have HST:=A hst;obtain⟨lo,lc,hle⟩:=hss.slice;subst hle;clear hss hst;have HN2:=A (HN1.o.then hnn);have HOB2:=A (HOB1.o.on hnn);clear HOB1;go_upto_region 3 with fail
 go_cut [10]from 33 (fun x wx=>x=C G/\Nx w2 wx)
 case first=>
  go_region_held (fun w'=>ZHP w' pp pb ub w.heap.size b s t) (first|exact ZI7 (HPR.o.on (HN2.o.then Nx.rfl.drew)) (HOB2.o.on Nx.rfl.drew)|exact ZI7 (HPR.o.on (HN2.o.then HNZ.o)) (HOB2.o.on HNZ.o)) ((go_at_call 43;refine(HV3.o _ (by first|exact HN2.o.then Nx.rfl.drew|exact HN2.o)).mono ?_;rintro e wz ⟨rfl,hnz⟩;have HNZ:=A (show Nx w2 wz from Nx.then (show Nx w2 _ by first|exact Nx.rfl.drew|exact Nx.rfl) hnz);clear hnz))
  all_goals go_wp2_with fail
  all_goals go_meet
  all_goals exact⟨rfl,HNZ.o⟩
 obtain⟨rfl,hnn⟩:=hcut;obtain⟨w3,hwn⟩:∃wn,wn=wc:=⟨_,rfl⟩;subst hwn;have HSS3:=A (HSS.o.on hnn);have HN3:=A (HN2.o.then hnn);have HOB3:=A (HOB2.o.on hnn);clear HOB2;go_upto_region 4 with fail
 go_cut [11]from 45 (fun x wx=>(∃ss2,ZbP wx x ss2/\ss2.map tl=F.map (·.2))/\Nx w3 wx)
 case first=>
  go_region_held (fun w'=>ZHP w' pp pb ub w.heap.size b s t) (first|exact ZI7 (HPR.o.on (HN3.o.then Nx.rfl.drew)) (HOB3.o.on Nx.rfl.drew)|exact ZI7 (HPR.o.on (HN3.o.then HNZ.o)) (HOB3.o.on HNZ.o)) ((go_at_call 44;refine(HV4.o _ (by first|exact HN3.o.then Nx.rfl.drew|exact HN3.o)).mono ?_;rintro e wz ⟨x,ss2,rfl,hso,hst2,hsl,hnz⟩;have HSO:=A (Zcf hso);have HST2:=A hst2;obtain⟨mo,mc,hme⟩:=ZCL hso;subst hme;clear hso hst2;have HNZ:=A (show Nx w3 wz from Nx.then (show Nx w3 _ by first|exact Nx.rfl.drew|exact Nx.rfl) hnz);clear hnz))
  all_goals go_wp2_with fail
  all_goals go_meet
  all_goals exact⟨⟨_,HSO.o,HST2.o⟩,HNZ.o⟩
 obtain⟨⟨ss2,hso,hst2⟩,hnn⟩:=hcut;obtain⟨w4,hwn⟩:∃wn,wn=wc:=⟨_,rfl⟩;subst hwn;have hse:ss2=ss:=ZKE (hst2.trans HST.o.symm);subst hse;have HSO:=A hso
 obtain⟨mo,mc,hme⟩:∃mo mc,_=Value.slice mo ss2.length mc:=by obtain⟨mo,mc,h,-⟩:=hso;exact⟨mo,mc,h⟩
 subst hme;clear hso hst2;have HSS4:=A (HSS3.o.on hnn);have HN4:=A (HN3.o.then hnn);have HOB4:=A (HOB3.o.on hnn);clear HOB3;go_upto_region 5 with fail
 go_cut [12]from 52 (fun x wx=>x=C G/\Nx w4 wx)
 case first=>
  go_region_held (fun w'=>ZHP w' pp pb ub w.heap.size b s t) (first|exact ZI7 (HPR.o.on (HN4.o.then Nx.rfl.drew)) (HOB4.o.on Nx.rfl.drew)|exact ZI7 (HPR.o.on (HN4.o.then HNZ.o)) (HOB4.o.on HNZ.o)) ((go_at_call 45;refine(HV5.o _ (by first|exact HN4.o.then Nx.rfl.drew|exact HN4.o)).mono ?_;rintro e wz ⟨rfl,hnz⟩;have HNZ:=A (show Nx w4 wz from Nx.then (show Nx w4 _ by first|exact Nx.rfl.drew|exact Nx.rfl) hnz);clear hnz))
  all_goals go_wp2_with fail
  all_goals go_meet
  all_goals exact⟨rfl,HNZ.o⟩
 obtain⟨rfl,hnn⟩:=hcut;obtain⟨w5,hwn⟩:∃wn,wn=wc:=⟨_,rfl⟩;subst hwn;have HSS5:=A (HSS4.o.on hnn);have HSO5:=A (HSO.o.on hnn);have HN5:=A (HN4.o.then hnn);have HOB5:=A (HOB4.o.on hnn);clear HOB4
 have HLEN:=A (show ss2.length=F.length by have e:=congrArg List.length HST.o;rw[Xa,Xa]at e;exact e)
 have hGG:(G==G)=true:=by simp
 have hsl:ss2.length<=1000000:=by rw[HLEN.o];exact hFl
 have HLT:=A (HSS5.o.at hsl);clear HB HPR HV1 HV2 HV3 HV4 HV5 HSS HSS3 HSS4 HSO HOB5;rcases Nat.eq_zero_or_pos ss2.length with h0|hpos
 .have hnil:=Xc h0
  subst hnil
  have hF0:F=[]:=Xc (by rw[<-HLEN.o];rfl)
  subst hF0;have htv:tv=⟨#[]⟩:=ZDt HTV.o;subst htv
  have hlv:lo=none/\lc=0:=by
   rcases HSS5.o with⟨-,h⟩|⟨h,-⟩
   .simp only[Value.slice.injEq]at h
    exact⟨h.1,h.2.2⟩
   .exact absurd h (by decide)
  obtain⟨rfl,rfl⟩:=hlv;obtain⟨mo',mc',hme,hmlc,hmcap,hmnone,hmsome⟩:=id HSO5.o;simp only[Value.slice.injEq]at hme;obtain⟨rfl,-,rfl⟩:=hme;simp only[List.length_nil]at *;go_wp2_with fail
  refine(ZBu _ _ [] [] _ HLT.o HSO5.o).mono ?_
  rintro e w6 ⟨rfl,hn6⟩;rw[decide_eq_true (rfl:([]:LA)=[])];have HN6:=A (HN5.o.then hn6)
  cases mo with
  | none=>
   obtain⟨-,rfl⟩:=hmnone rfl;obtain⟨i0,hi0,-,-,-⟩:=info_parts ZEQ;clear hn6
   go_wp2_with (at_builtin;go_must (refine wpList_append_own_none rfl _ _ 78 rfl w6.heap.size 9 i0 1 underlying78 hi0 (.slice none 0 0) 0 [] rfl (World.ownsRow_nil _ _ _ _) rfl ?_))
   go_ret;exact⟨rfl,_,_,_,_,_,_,(H.o.on HN6.o).up (Xg _)⟩
  | some a0=>
   obtain⟨b,off,rfl,hr⟩:=hmsome a0 rfl;have hr6:=hr.on hn6;clear hn6
   go_wp2_with (at_builtin;go_must (refine ZF2 w6 rfl _ _ rfl rfl b off mc [] rfl hr6 (by decide) ?_;intro v7 w7 ho7 hn7;obtain⟨ao7,cp7,hv7⟩:=ZCL ho7;subst hv7;have HN7:=A (HN6.o.then hn7);clear hn7 ho7))
   go_ret;exact⟨rfl,_,_,_,_,_,_,(H.o.on HN7.o).up (Xg _)⟩
 .obtain⟨mo',mc',hme,hmlc,hmcap,hmnone,hmsome⟩:=id HSO5.o
  simp only[Value.slice.injEq]at hme;obtain⟨rfl,-,rfl⟩:=hme;obtain⟨a0,ha0⟩:=Zv hpos hmnone;subst ha0;obtain⟨b,off,rfl,hr⟩:=hmsome a0 rfl;have hck:=hr.cell hpos;simp only[Nat.add_zero]at hck;unfold maxLen at hmcap
  have htv:tv=ss2[0]:=ZDt (by
   rw[HTV.o];have e:=HST.o
   cases F with
   | nil=>rw[HLEN.o]at hpos;exact absurd hpos (by decide)
   | cons f F'=>
    have e0:=congrArg (fun l=>l[0]?) e
    simp only[List.map_cons,List.getElem?_cons_zero,List.getElem?_map,List.getElem?_eq_getElem hpos,Option.map_some,Option.some.injEq]at e0
    exact e0.symm)
  have hlv:∃nb,lo=some ⟨nb,0,none⟩/\lc=ss2.length/\w.heap.size<=nb/\FullS w5 nb ss2:=by
   rcases HSS5.o with⟨h,-⟩|⟨-,nb,hb,h,hf⟩
   .rw[h]at hpos;exact absurd hpos (by decide)
   .simp only[Value.slice.injEq]at h
    exact⟨nb,h.1,h.2.2,hb,hf⟩
  obtain⟨nb,rfl,rfl,hnb,hfull⟩:=hlv;have hnl2:=(FullS.own hfull hsl).lt _ rfl;have HFU:=A hfull;clear hfull
  have hFp:decide (0<F.length)=true:=decide_eq_true (by rw[<-HLEN.o];exact hpos)
  have hgt:decide ((0:Int)<(ss2.length:Int))=true:=decide_eq_true (by omega)
  have hee:((ss2.length:Int)==(ss2.length:Int))=true:=by simp
  have hse2:(tv.toList==ss2[0].toList)=true:=by rw[htv];simp
  rw[hFp];clear hmnone hmsome htv;generalize ss2[0]=s0 at *;go_wp2_with fail
  refine(ZBu _ _ ss2 ss2 _ HLT.o HSO5.o).mono ?_
  rintro e w6 ⟨rfl,hn6⟩;rw[decide_eq_true (rfl:ss2=ss2)];have HN6:=A (HN5.o.then hn6);have hr6:=hr.on hn6;have HN56:=A hn6;clear hn6 hck hr
  go_upto_region 11 with(at_builtin;go_must (refine ZF2 w6 rfl _ _ rfl rfl b off mc ss2 rfl hr6 (by omega) ?_;intro v7 w7 ho7 hn7;have HN7:=A (HN6.o.then hn7);have HO7:=A ho7;have HN67:=A hn7;clear hn7))
  obtain⟨mb,cp7,hv7,hmb,-⟩:=World.ownsRow.form HO7.o hpos;subst hv7;clear ho7
  have HTK:=A (show HTOk w7 ⟨nb,mb,cp7,ss2⟩from⟨hpos,hsl,ZBv (FullS.own HFU.o hsl) fun k hk=>(HN56.o.then HN67.o).block k ((FullS.own HFU.o hsl).lt k hk).2,⟨HO7.o.1,HO7.o.2.imp_right fun⟨g,cp,cur,e1,_,e3⟩=>⟨g,cp,cur,e1,Xd _,e3⟩⟩,Nat.ne_of_lt (Nat.lt_of_lt_of_le hnl2.2 (Xb HN56.o.size hmb))⟩)
  have HNW:=A (show ∀k,(HT.mk nb mb cp7 ss2).F k->w.heap.size<=k by rintro k (rfl|rfl);exact hnb;exact Xb HN6.o.size hmb)
  obtain⟨q0,q1,q2,q3,hwl⟩:=(H.o.wbk.on HN7.o).facts
  go_upto_region 13 with(at_builtin;go_must (refine ZG2 w7 41 83 _ 2 48 #[.slice (some ⟨nb,0,none⟩) ss2.length ss2.length,.slice (some ⟨mb,0,none⟩) ss2.length cp7] ZKF underlying41 rfl (by decide) (by decide) rfl (by simp[Value.oneCell']) rfl _ _ rfl _ m (S.ts.flatMap HT.c) rfl (HRT.o _ HN7.o) rfl (by omega) ?_;intro g cp w8 ho5 hout hg5;have HO5:=A ho5;have HOUT:=A hout;have HG5:=A hg5;have HW5:=A (show WB w8 wb _ _ _ _ from(hout.kpr (HRT.o _ HN7.o)).2 _ _ _ _ (H.o.wbk.on HN7.o) (by decide));obtain⟨y0,y1,y2,y3,hyl⟩:=HW5.o.facts;have f3:=HW5.o.free 3;clear ho5 hout hg5))
  have HGD:=A (H.o.addT HN7.o HTK.o HNW.o (ts':=.slice (some ⟨g,0,none⟩) (m+1) cp) (by rw[<-HMM.o];exact HO5.o) HOUT.o (fun k hk=>by cases hk;exact HG5.o))
  generalize w8.setCell ⟨wb,3,none⟩ (.slice (some ⟨g,0,none⟩) (m+1) cp)=w9 at *;clear q0 q1 q2 q3 hwl y0 y1 y2 y3 hyl f3;go_wp2;go_ret;exact⟨rfl,HGD.o⟩
end Go.Proofs.YtchkhibgbnhjpabGreatDoor
