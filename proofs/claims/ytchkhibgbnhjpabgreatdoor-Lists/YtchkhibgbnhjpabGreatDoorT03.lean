import Derived.Test.YtchkhibgbnhjpabGreatDoorT02
open Bool renaming and_eq_true→Xq,and_false→XN
open Int renaming le_refl→Xw,mul_le_mul_of_nonneg_right→Xz,mul_nonneg→XO,lt_or_le→XS,mul_comm→XT
open List renaming mem_cons_self→Xa,mem_cons_of_mem→Xc,getD_eq_getElem?_getD→Xe,eq_nil_of_length_eq_zero→Xf,dropWhile_cons→Xg,drop_of_length_le→Xh,singleton_append→Xi,getElem?_eq_getElem→Xj,length_cons→Xk,length_map→Xl,foldl_cons→Xm,drop_eq_getElem_cons→Xn,all_cons→Xo,length_take→Xp,drop_zero→Xr,reverse_cons→Xs,map_cons→Xt,cons_append→Xu,mem_reverse→Xx,any_eq_true→Xy,mem_cons→XB,reverse_singleton→XC,any_map→XD,reverse_reverse→XE,reverse_append→XF,take_succ_cons→XI,length_append→XJ,any_eq_false→XK,append_nil→XM,mem_map→XP
open Nat renaming le_refl→XG,mod_eq_of_lt→XL,lt_or_ge→XQ,sub_self→XR
open Or renaming inl→Xb,inr→Xd
open UInt8 renaming toNat_inj→Xv,toNat_add→XA,toNat_ofNat'→XH
namespace Go.Proofs.YtchkhibgbnhjpabGreatDoor
open Go.RowKit
variable [Fl]
set_option linter.all false
structure Asc (p:UInt8->Bool) (P:Int->Bool):Prop where
 lo:∀c:Int,0<=c->c<128->p (toB c)=P c
 hi:∀b:UInt8,128<=b.toNat->p b=false
 up:∀c:Int,128<=c->P c=false
theorem Zzz{c:Int}(h:Pt c):(0<=c/\c<128/\(utf c).map toB=[toB c])∨(128<=c/\(utf c).map toB≠[]/\∀b∈(utf c).map toB,128<=b.toNat):=by
 by_cases hc:c<128
 .exact Xb ⟨h.1,hc,by rw[Zpj hc];rfl⟩
 .refine Xd ⟨by omega,?_,?_⟩
  .unfold utf
   rw[ifN hc]
   split
   .simp
   .split<;>simp
  .intro b hb
   obtain⟨x,hx,rfl⟩:=XP.1 hb
   have h1:=ZkJ (by omega) h.2 hx
   have h2:=Zbe (n:=x) (by omega) h1.2
   omega
theorem bytesOf_cons(c:Int)(l:LI):Zb (c::l)=(utf c).map toB++Zb l:=by simp[Zb]
theorem ZF5(a b:LI):Zb (a++b)=Zb a++Zb b:=by simp[Zb]
theorem bytesOf_nil:Zb []=[]:=rfl
theorem Zzt{l:LI}(hl:∀c∈l,Pt c):Zb l=[]↔l=[]:=by
 constructor
 .intro h
  cases l with
  | nil=>rfl
  | cons c r=>
   rw[bytesOf_cons]at h;have h1:=(List.append_eq_nil_iff.1 h).1
   rcases Zzz (hl c (by simp))with⟨-,-,e⟩|⟨-,e,-⟩
   .rw[e]at h1;cases h1
   .exact absurd h1 e
 .intro h;rw[h];rfl
section
variable {p:UInt8->Bool} {P:Int->Bool} (h:Asc p P)
include h
theorem Asc.filter(l:List Int)(hl:∀c∈l,Pt c):(Zb l).filter (fun b=>!p b)=Zb (l.filter fun c=>!P c):=by
 induction l with
 | nil=>rfl
 | cons c r ih=>
  rw[bytesOf_cons,List.filter_append,ih (fun x hx=>hl x (by simp[hx]))]
  rcases Zzz (hl c (by simp))with⟨h0,h1,e⟩|⟨h0,-,e⟩
  .rw[e]
   have hp:=h.lo c h0 h1
   cases hc:P c
   .rw[hc]at hp
    simp[List.filter,hp,hc,bytesOf_cons,e]
   .rw[hc]at hp
    simp[List.filter,hp,hc]
  .have hc:=h.up c h0
   have:((utf c).map toB).filter (fun b=>!p b)=(utf c).map toB:=List.filter_eq_self.2 fun b hb=>by rw[h.hi b (e b hb)];rfl
   rw[this]
   simp[List.filter,hc,bytesOf_cons]
theorem Asc.dropWhile(l:List Int)(hl:∀c∈l,Pt c):(Zb l).dropWhile p=Zb (l.dropWhile P):=by
 induction l with
 | nil=>rfl
 | cons c r ih=>
  rcases Zzz (hl c (by simp))with⟨h0,h1,e⟩|⟨h0,e1,e⟩
  .have hp:=h.lo c h0 h1
   rw[bytesOf_cons,e,Xi,Xg,Xg,hp]
   split
   .exact ih (fun x hx=>hl x (by simp[hx]))
   .rw[bytesOf_cons,e];rfl
  .have hc:=h.up c h0
   rw[Xg,ifN (by rw[hc];decide),bytesOf_cons]
   cases hx:(utf c).map toB with
   | nil=>exact absurd hx e1
   | cons b q=>
    have hb:=h.hi b (e b (by rw[hx];simp))
    rw[Xu,Xg,ifN (by rw[hb];decide)]
theorem Asc.dropEnd'(r:List Int)(hl:∀c∈r,Pt c):((Zb r.reverse).reverse.dropWhile p).reverse=Zb (r.dropWhile P).reverse:=by
 induction r with
 | nil=>rfl
 | cons c r ih=>
  have ih':=ih (fun x hx=>hl x (by simp[hx]))
  rw[Xs,Xg,bytesOf_snoc,XF]
  rcases Zzz (hl c (by simp))with⟨h0,h1,e⟩|⟨h0,e1,e⟩
  .have hp:=h.lo c h0 h1
   rw[e,XC,Xi,Xg,hp]
   split
   .exact ih'
   .rw[Xs,XE,Xs,bytesOf_snoc,e]
  .have hc:=h.up c h0
   rw[ifN (by rw[hc];decide),Xs,bytesOf_snoc]
   rcases List.eq_nil_or_concat ((utf c).map toB)with hx|⟨q,b,hx⟩
   .exact absurd hx e1
   .have hb:=h.hi b (e b (by rw[hx];simp))
    rw[hx,List.concat_eq_append,XF,XC,Xi,Xu,Xg,ifN (by rw[hb];decide)]
    simp
theorem Asc.dropEnd(l:List Int)(hl:∀c∈l,Pt c):((Zb l).reverse.dropWhile p).reverse=Zb (l.reverse.dropWhile P).reverse:=by
 have h1:=Asc.dropEnd' h l.reverse (fun c hc=>hl c (Xx.1 hc))
 rw[XE]at h1;exact h1
theorem Asc.all(l:List Int)(hl:∀c∈l,Pt c):(Zb l).all p=l.all P:=by
 induction l with
 | nil=>rfl
 | cons c r ih=>
  rw[bytesOf_cons,List.all_append,Xo,ih (fun x hx=>hl x (by simp[hx]))]
  rcases Zzz (hl c (by simp))with⟨h0,h1,e⟩|⟨h0,e1,e⟩
  .rw[e];simp[h.lo c h0 h1]
  .rw[h.up c h0]
   cases hx:(utf c).map toB with
   | nil=>exact absurd hx e1
   | cons b q=>rw[Xo,h.hi b (e b (by rw[hx];simp))];rfl
theorem Asc.any(l:List Int)(hl:∀c∈l,Pt c):(Zb l).any p=l.any P:=by
 induction l with
 | nil=>rfl
 | cons c r ih=>
  rw[bytesOf_cons,List.any_append,List.any_cons,ih (fun x hx=>hl x (by simp[hx]))]
  rcases Zzz (hl c (by simp))with⟨h0,h1,e⟩|⟨h0,e1,e⟩
  .rw[e];simp[h.lo c h0 h1]
  .rw[h.up c h0]
   have:((utf c).map toB).any p=false:=XK.2 fun b hb=>by rw[h.hi b (e b hb)];decide
   rw[this]
end
theorem ZzW{c:Int}(h0:0<=c)(h1:c<128):((toB c).toNat:Int)=c:=Zbe h0 (by omega)
theorem ZEY:Asc Zbb (fun c=>decide (c<=32)) where
 lo:=fun c h0 h1=>by unfold Zbb;rw[ZzW h0 h1]
 hi:=fun b hb=>by unfold Zbb;rw[decide_eq_false_iff_not];omega
 up:=fun c hc=>by rw[decide_eq_false_iff_not];omega
theorem ZBz{p:UInt8->Bool}{P:Int->Bool}(h:∀n:Fin 128,p (toB (n.val:Int))=P (n.val:Int))(c:Int)(h0:0<=c)(h1:c<128):p (toB c)=P c:=by
 have:=h ⟨c.toNat,by omega⟩
 rw[show((⟨c.toNat,by omega⟩:Fin 128).val:Int)=c from by simp;omega]at this
 exact this
theorem ZI8:Asc Zfu (fun c=>among c [9,10,13]) where
 lo:=ZBz (by decide)
 hi:=fun b hb=>by unfold Zfu;simp;omega
 up:=fun c hc=>by simp[among];omega
theorem ZBl{α:Type}{p:α->Bool}{l:List α}{c:α}(h:c∈l.dropWhile p):c∈l:=(List.dropWhile_sublist p).subset h
theorem ZC7{l:LI}{c:Int}(h:c∈trimmed l):c∈l:=by unfold trimmed Zex Zkn at h;exact ZBl (Xx.1 (ZBl (Xx.1 h)))
def ZEZ(l:List UInt8):List Int:=flat (trimmed (Zl l))
theorem ZI9(l:LB):∀c∈ZEZ l,Sc c:=fun c hc=>Za0 l c (ZC7 (List.mem_filter.1 hc).1)
theorem ZHR(l:LI)(hl:∀c∈l,Pt c):Zgb (Zb l)=Zb (trimmed l):=by
 unfold Zgb trimmed Zex Zkn
 rw[ZEY.dropWhile l hl,ZEY.dropEnd _ (fun c hc=>hl c (ZBl hc))]
theorem ZHS(l:LI)(hl:∀c∈l,Pt c):ZbM (Zb l)=Zb (flat l):=by unfold ZbM flat;exact ZI8.filter l hl
theorem ZF6(l:LB):ZI l=Zb (ZEZ l):=by
 unfold ZI ZEZ
 rw[<-ZaD,ZHR _ (fun c hc=>(Za0 l c hc).pt),ZHS _ (fun c hc=>(Za0 l c (ZC7 hc)).pt)]
theorem ZBa:Asc (fun b=>alpha b.toNat) alpha where
 lo:=ZBz (p:=fun b=>alpha b.toNat) (P:=alpha) (by decide)
 hi:=fun b hb=>by simp[alpha];omega
 up:=fun c hc=>by simp[alpha];omega
theorem ZKQ:Asc ZgG ZAR where
 lo:=ZBz (by decide)
 hi:=fun b hb=>by simp[ZgG,alpha];omega
 up:=fun c hc=>by simp[ZAR,alpha,numeral,among];omega
theorem ZE0(a:LI)(hl:∀c∈a,Pt c):Zci (Zb a)=ZEX a:=by
 cases a with
 | nil=>rfl
 | cons c r=>
  unfold ZEX;rw[List.headD_cons,Xo,bytesOf_cons]
  have hr:=ZKQ.all r (fun x hx=>hl x (by simp[hx]))
  rcases Zzz (hl c (by simp))with⟨h0,h1,e⟩|⟨h0,e1,e⟩
  .rw[e,Xi]
   show(alpha ((toB c).toNat:Int)&&(Zb r).all ZgG)=_
   rw[ZzW h0 h1,hr]
   cases ha:alpha c
   .rfl
   .have:ZAR c=true:=by unfold ZAR;rw[ha];rfl
    rw[this];rfl
  .rw[ZBa.up c h0]
   cases hx:(utf c).map toB with
   | nil=>exact absurd hx e1
   | cons b q=>
    show(alpha (b.toNat:Int)&&_)=_
    rw[ZBa.hi b (e b (by rw[hx];simp))];rfl
theorem ZDS:ZuP (isB 58) [58]:=Zei 58 (by decide) (by decide) 58 (by decide)
theorem ZJa:ZuP (isB 35) [35]:=Zei 35 (by decide) (by decide) 35 (by decide)
theorem ZHT:ZuP (isB 63) [63]:=Zei 63 (by decide) (by decide) 63 (by decide)
theorem ZBL(sp:Bool):ZuP (slB sp) (if sp then [47,92]else [47]):=by
 cases sp
 .exact⟨ZBz (P:=fun c=>among c [47]) (by decide),fun b hb=>by simp[slB,Zhc];omega,fun c hc=>by simp[among];omega⟩
 .exact⟨ZBz (P:=fun c=>among c [47,92]) (by decide),fun b hb=>by simp[slB,Zhc];omega,fun c hc=>by simp[among];omega⟩
theorem ZE1(l:LI)(hl:∀c∈l,Pt c):ZbF (Zb l)=((schemeOf l).1,Zb (schemeOf l).2.1,(schemeOf l).2.2):=by
 have hc:=Zab ZDS l hl;unfold ZbF schemeOf;rw[hc];simp only
 rw[ZE0 _ (fun c h=>hl c (Zy (Xb h)))]
 by_cases h:(cut l [58]).2.2=true/\ZEX (cut l [58]).1=true
 .rw[ifP h,ifP (by rw[h.1,h.2];rfl)]
 .rw[ifN h,ifN (by simpa using h)]
def ZF7(gs:List (List UInt8)):List UInt8:=gs.flatMap fun g=>[58]++g
def ZF8:List (List UInt8)->List UInt8
 | []=>[]
 | g::r=>g++ZF7 r
abbrev hxD(x:Int):List UInt8:=Zi7 x.toNat
theorem tailC_cons(g:LB)(r:List LB):ZF7 (g::r)=[58]++g++ZF7 r:=by simp[ZF7]
theorem ZMm(ns:LI)(hl:ns.length=8)(st ln:Nat):∀f i,st+ln<=i->st<i->8<=i+f->Zi8 ns st ln f i=if i=st+ln then ZF8 ((ns.drop i).map hxD)else ZF7 ((ns.drop i).map hxD):=by
 intro f
 induction f with
 | zero=>
  intro i h1 h2 h3
  rw[Zi8,Xh (by omega)]
  split<;>rfl
 | succ f ih=>
  intro i h1 h2 h3;rw[Zi8]
  by_cases h8:8<=i
  .rw[ifP h8,Xh (by omega)]
   split<;>rfl
  .have hi:i<ns.length:=by omega
   have ihh:=ih (i+1) (by omega) (by omega) (by omega)
   rw[ifN (by omega:¬i+1=st+ln)]at ihh
   rw[ifN h8,ifN (by omega),ihh,Xn hi,Xt,Xe,Xj hi]
   by_cases he:i=st+ln
   .rw[ifN (fun h=>h.2 he),ifP he];rfl
   .rw[ifP ⟨by omega,he⟩,ifN he,tailC_cons];rfl
theorem ZKR(ns:LI)(hl:ns.length=8)(st ln:Nat)(hst:st<8)(hln:1<=ln):∀f i,i<=st->8<=i+f ->
  Zi8 ns st ln f i=(if i=0 then ZF8 (((ns.take st).drop i).map hxD)else ZF7 (((ns.take st).drop i).map hxD))++([58,58]++ZF8 ((ns.drop (st+ln)).map hxD)):=by
 intro f
 induction f with
 | zero=>intro i h1 h2;omega
 | succ f ih=>
  intro i h1 h2
  rw[Zi8,ifN (by omega)]
  by_cases he:i=st
  .have hb:=ZMm ns hl st ln f (i+ln) (by omega) (by omega) (by omega)
   rw[ifP (by omega:i+ln=st+ln)]at hb
   rw[ifP he,hb,Xh (by rw[Xp];omega:(ns.take st).length<=i)]
   subst he
   split<;>rfl
  .have hi:i<(ns.take st).length:=by rw[Xp];omega
   have ihh:=ih (i+1) (by omega) (by omega)
   rw[ifN (by omega:¬i+1=0)]at ihh
   rw[ifN he,ihh,Xn hi,Xt,List.getElem_take,Xe,Xj (by omega:i<ns.length)]
   by_cases h0:i=0
   .subst h0
    rw[ifN (by omega),ifP rfl,ZF8]
    simp
   .rw[ifP ⟨by omega,by omega⟩,ifN h0,tailC_cons]
    simp
theorem ZM3(ns:LI)(hl:ns.length=8)(st ln:Nat)(hst:8<=st):∀f i,8<=i+f ->
  Zi8 ns st ln f i=if i=0 then ZF8 ((ns.drop i).map hxD)else ZF7 ((ns.drop i).map hxD):=by
 intro f
 induction f with
 | zero=>
  intro i h2
  rw[Zi8,Xh (by omega)]
  split<;>rfl
 | succ f ih=>
  intro i h2;rw[Zi8]
  by_cases h8:8<=i
  .rw[ifP h8,Xh (by omega)]
   split<;>rfl
  .have hi:i<ns.length:=by omega
   have ihh:=ih (i+1) (by omega)
   rw[ifN (by omega:¬i+1=0)]at ihh
   rw[ifN h8,ifN (by omega),ihh,Xn hi,Xt,Xe,Xj hi]
   by_cases he:i=0
   .rw[ifN (by omega),ifP he];rfl
   .rw[ifP ⟨by omega,by omega⟩,ifN he,tailC_cons];rfl
def ZM4(ns:List Int)(st ln:Nat):Prop:=(st=8/\ln=1)∨(st+ln<=8/\1<=ln/\∀k,st<=k->k<st+ln->ns.getD k 0=0)
theorem ZNA(ns:LI)(hl:ns.length=8):∀(rest:LI) i st ln run,rest=ns.drop i->run<=i->i<=8->1<=ln->(∀k,i-run<=k->k<i->ns.getD k 0=0)->((st=8/\ln=1)∨(st+ln<=8/\∀k,st<=k->k<st+ln->ns.getD k 0=0))->ZM4 ns (lrGo i st ln run rest).1 (lrGo i st ln run rest).2:=by
 intro rest
 induction rest with
 | nil=>
  intro i st ln run h1 h2 h3 h4 h5 h6;rw[lrGo];rcases h6 with h|⟨h,k⟩
  .exact Xb h
  .exact Xd ⟨h,h4,k⟩
 | cons x r ih=>
  intro i st ln run h1 h2 h3 h4 h5 h6
  have hi:i<ns.length:=by
   rcases XQ i ns.length with h|h
   .exact h
   .rw[Xh h]at h1;cases h1
  rw[Xn hi]at h1;obtain⟨hx0,hr⟩:=List.cons.inj h1
  have hrun:∀k,i+1-(if x=0 then run+1 else 0)<=k->k<i+1->ns.getD k 0=0:=by
   intro k k1 k2
   split at k1
   .next hz=>
    by_cases hk:k=i
    .subst hk;rw[Xe,Xj hi,<-hx0];exact hz
    .exact h5 k (by omega) (by omega)
   .omega
  have hrl:(if x=0 then run+1 else 0)<=i+1:=by split<;>omega
  rw[lrGo]
  generalize (if x=0 then run+1 else 0)=run' at *
  split
  .refine ih (i+1) _ _ _ hr hrl (by omega) (by omega) hrun (Xd ⟨by omega,fun k k1 k2=>hrun k k1 (by omega)⟩)
  .exact ih (i+1) _ _ _ hr hrl (by omega) h4 hrun h6
theorem ZHU(ns:LI)(hl:ns.length=8):ZM4 ns (ZW ns).1 (ZW ns).2:=
 ZNA ns hl ns 0 8 1 0 rfl (XG _) (by omega) (XG _) (fun k _ h=>absurd h (Nat.not_lt_zero _)) (Xb ⟨rfl,rfl⟩)
theorem ZHa:∀(xs zs:LI) (n:Nat),n+xs.length<=zs.length->putGo zs n xs=zs.take n++xs++zs.drop (n+xs.length):=by
 intro xs
 induction xs with
 | nil=>intro zs n h;rw[putGo];simp
 | cons x r ih=>
  intro zs n h;simp only[Xk]at h
  rw[putGo,ih (zs.set n x) (n+1) (by rw[List.length_set];omega)]
  rw[List.take_set,List.drop_set,ifP (by omega),List.take_succ_eq_append_getElem (by omega)]
  have:(zs.take n++[zs[n]]).set n x=zs.take n++[x]:=by
   rw[List.set_append_right _ _ (by rw[Xp];omega)]
   rw[Xp,Nat.min_eq_left (by omega),XR]
   rfl
  rw[this,Xk,show n+1+r.length=n+(r.length+1)by omega]
  simp
theorem ZBm:∀ {l:LB},(∀b∈l,b.toNat<128)->clean l=l:=by
 intro l
 induction l with
 | nil=>intro _;exact ZbC
 | cons c r ih=>
  intro h
  have hf:follow (c.toNat:Int)=(1,0,0):=ifP (by have:=h c (by simp);omega)
  have hg:∀q:LB,Z8 1 0 0 1 q=1:=fun q=>by
   cases q with
   | nil=>rfl
   | cons a b=>rw[Z8,ifN (by rintro⟨e,-⟩;exact absurd e (by decide))]
  have hm:measure (c::r)=(1,true):=by
   rw[measure,hf];simp only;rw[hg]
   rfl
  rw[Ze7,hm];simp only[if_true,XR,Xr]
  rw[ih (fun b hb=>h b (by simp[hb]))]
  rfl
theorem ZCs{n:Int}(h0:0<=n)(h1:n<16):(48<=(toB (capital n)).toNat/\(toB (capital n)).toNat<=57)∨(65<=(toB (capital n)).toNat/\(toB (capital n)).toNat<=70):=by
 unfold capital toB
 split
 .left;rw[XH,XL (by omega)];omega
 .right;rw[XH,XL (by omega)];omega
def ZM5(a b c d:Nat):List UInt8:=ZjB a++(46::(ZjB b++(46::(ZjB c++(46::(ZjB d++[]))))))
theorem ZE2(v:Nat):ZeH v=ZM5 (v/256^3%256) (v/256^2%256) (v/256^1%256) (v/256^0%256):=rfl
theorem ZKS:∀(ps:List LB) (room value:Int),ps≠[]->0<=value->value+room<=4294967296->(ip4Go ps room value).2=true->(ip4Go ps room value).1<4294967296:=by
 intro ps
 induction ps with
 | nil=>intro _ _ h;exact absurd rfl h
 | cons p r ih=>
  intro room value _ h0 h1 h2;rw[ip4Go]at h2 ⊢;have hr:=(ZfE p).1
  split at h2
  .cases h2
  next e1=>
   rw[ifN e1]
   split at h2
   .cases h2
   next e2=>
    rw[ifN e2]
    have e3:¬room<=(ZJ p).1:=fun e=>e2 (Xb e)
    split at h2
    .next e4=>
     rw[ifP e4]
     have e5:¬255<(ZJ p).1:=fun e=>e2 (Xd ⟨e4,e⟩)
     have e6:(ZJ p).1*(room/256)<=255*(room/256):=Xz (by omega) (by omega)
     have e7:0<=(ZJ p).1*(room/256):=XO hr (by omega)
     exact ih _ _ e4 (by omega) (by omega) h2
    .next e4=>
     rw[ifN e4];have hnil:r=[]:=Classical.not_not.1 e4;subst hnil;rw[ip4Go]
     show value+(ZJ p).1<4294967296
     omega
theorem ZM6{ps:List LB}(h:(ip4 ps).2=true):(ip4 ps).1.toNat<4294967296:=by
 unfold ip4 at h ⊢
 split at h
 .cases h
 next h1=>
  rw[ifN h1]
  have:=ZKS ps 4294967296 0 (fun e=>h1 (Xb (by rw[e];rfl))) (Xw _) (by decide) h
  omega
theorem ZCN{n:Int}{a:LB}(h:∀b∈a,isB n b=false):bcutLast n a=([],a,false):=by
 induction a with
 | nil=>rw[bcutLast]
 | cons c a ih=>
  rw[bcutLast,ih (fun b hb=>h b (by simp[hb])),ifN (by intro e;cases e),ifN (by rw[h c (by simp)];decide)]
theorem ZF9{n:Int}{a r:LB}{c:UInt8}(h:∀b∈r,isB n b=false)(hc:isB n c=true):bcutLast n (a++c::r)=(a,r,true):=by
 induction a with
 | nil=>rw[List.nil_append,bcutLast,ZCN h,ifN (by intro e;cases e),ifP hc]
 | cons x a ih=>rw[Xu,bcutLast,ih,ifP rfl]
theorem ZEt{c:UInt8}(r:LB)(h:c.toNat<128):clean (c::r)=c::clean r:=by
 have hf:follow (c.toNat:Int)=(1,0,0):=ifP (by omega)
 have hg:∀q:LB,Z8 1 0 0 1 q=1:=fun q=>by
  cases q with
  | nil=>rfl
  | cons a b=>rw[Z8,ifN (by rintro⟨e,-⟩;exact absurd e (by decide))]
 have hm:measure (c::r)=(1,true):=by
  rw[measure,hf];simp only;rw[hg]
  rfl
 rw[Ze7,hm]
 simp
theorem ZKT{c:UInt8}(r:LB)(h:128<=c.toNat):∃b m,clean (c::r)=b::m/\128<=b.toNat:=by
 rw[Ze7]
 split
 .have:=ZfD c r
  obtain⟨n,hn⟩:∃n,(measure (c::r)).1=n+1:=⟨(measure (c::r)).1 - 1,by omega⟩
  rw[hn,XI];exact⟨c,_,rfl,h⟩
 .exact⟨239,_,rfl,by decide⟩
abbrev S4:List UInt8:=tl (Zbo 4)
abbrev en4(s:List UInt8):List UInt8:=encB S4 (clean s)
theorem ZCc(set:LB)(c:UInt8)(r:LB):encB set (c::r)=ZL set c++encB set r:=by simp[encB]
theorem ZB3{c:UInt8}(r:LB)(h1:32<=c.toNat)(h2:c.toNat<=126)(h3:among (c.toNat:Int) S4=false):en4 (c::r)=c::en4 r:=by
 show encB S4 (clean (c::r))=_
 rw[ZEt r (by omega),ZCc]
 unfold ZL
 rw[ifN (by rintro(e|e|e);omega;omega;rw[h3]at e;cases e)]
 rfl
theorem ZEu(c:UInt8)(r:LB):(32<=c.toNat/\c.toNat<=126/\among (c.toNat:Int) S4=false/\en4 (c::r)=c::en4 r)∨(c≠46/\c≠37/\c≠50/\c≠101/\c≠69/\∃x y m,en4 (c::r)=37::x::y::m/\¬(x=50/\y=69)/\y≠101):=by
 by_cases h:32<=c.toNat/\c.toNat<=126/\among (c.toNat:Int) S4=false
 .exact Xb ⟨h.1,h.2.1,h.2.2,ZB3 r h.1 h.2.1 h.2.2⟩
 .right
  have hc:c≠46/\c≠37/\c≠50/\c≠101/\c≠69:=by refine⟨?_,?_,?_,?_,?_⟩<;>(rintro rfl;exact h (by decide))
  refine⟨hc.1,hc.2.1,hc.2.2.1,hc.2.2.2.1,hc.2.2.2.2,?_⟩
  obtain⟨b,m,hb,hbe,hb46⟩:∃b m,clean (c::r)=b::m/\((b.toNat:Int)<32∨126<(b.toNat:Int)∨among (b.toNat:Int) S4=true)/\b≠46:=by
   by_cases hlo:c.toNat<128
   .refine⟨c,_,ZEt r hlo,?_,hc.1⟩
    cases ha:among (c.toNat:Int) S4
    .by_cases h1:(c.toNat:Int)<32
     .exact Xb h1
     .exact Xd (Xb (by have:¬c.toNat<=126:=fun e=>h ⟨by omega,e,ha⟩
                       omega))
    .exact Xd (Xd rfl)
   .obtain⟨b,m,hb,hh⟩:=ZKT r (by omega:128<=c.toNat)
    exact⟨b,m,hb,Xd (Xb (by omega)),by rintro rfl;exact absurd hh (by decide)⟩
  have hbl:=b.toNat_lt
  refine⟨toB (capital ((b.toNat:Int)/16)),toB (capital ((b.toNat:Int)%16)),encB S4 m,?_,?_,?_⟩
  .show encB S4 (clean (c::r))=_
   rw[hb,ZCc];unfold ZL;rw[ifP hbe]
   rfl
  .have key:∀n:Nat,n<256->toB (capital ((n:Int)/16))=50/\toB (capital ((n:Int)%16))=69->n=46:=by decide +kernel
   intro e;exact hb46 (Xv.1 (key b.toNat hbl e))
  .have key:∀n:Nat,n<256->toB (capital ((n:Int)%16))≠101:=by decide +kernel
   exact key b.toNat hbl
theorem ZC8:en4 []=[]:=by show encB S4 (clean [])=[];rw[ZbC];rfl
theorem ZBA{l:LB}(h1:¬((l.getD 0 0).toNat:Int)=46)(h2:¬(3<=l.length/\((l.getD 0 0).toNat:Int)=37/\((l.getD 1 0).toNat:Int)=50/\(((l.getD 2 0).toNat:Int)=101∨((l.getD 2 0).toNat:Int)=69))):dotSize l=0:=by unfold dotSize;rw[ifN h1,ifN h2]
theorem ZzZ{b c:UInt8}{n:Nat}(hc:c.toNat=n)(h:(b.toNat:Int)=n):b=c:=Xv.1 (by omega)
theorem ZMn(s:LB):dotSize (en4 s)=dotSize s/\(en4 s).drop (dotSize s)=en4 (s.drop (dotSize s)):=by
 cases s with
 | nil=>rw[ZC8];exact⟨rfl,by simp[ZC8]⟩
 | cons c r=>
  by_cases h46:c=46
  .subst h46
   have e:=ZB3 (c:=46) r (by decide) (by decide) (by decide)
   have d1:∀q:LB,dotSize (46::q)=1:=fun q=>ifP rfl
   rw[e,d1,d1];exact⟨rfl,rfl⟩
  .by_cases h37:c=37
   .subst h37
    have e:=ZB3 (c:=37) r (by decide) (by decide) (by decide)
    rw[e]
    have d0:∀q:LB,dotSize (37::q)=if 2<=q.length/\((q.getD 0 0).toNat:Int)=50/\(((q.getD 1 0).toNat:Int)=101∨((q.getD 1 0).toNat:Int)=69)then 3 else 0:=by
     intro q;unfold dotSize
     rw[ifN (show ¬((((37::q:LB)).getD 0 0).toNat:Int)=46 from(by decide:¬((37:UInt8).toNat:Int)=46))]
     by_cases hq:2<=q.length/\((q.getD 0 0).toNat:Int)=50/\(((q.getD 1 0).toNat:Int)=101∨((q.getD 1 0).toNat:Int)=69)
     .rw[ifP hq,ifP ⟨by simp only[Xk];omega,rfl,hq.2⟩]
     .rw[ifN hq,ifN (fun h=>hq ⟨by have:=h.1;simp only[Xk]at this;omega,h.2.2⟩)]
    rw[d0,d0]
    by_cases hq:2<=r.length/\((r.getD 0 0).toNat:Int)=50/\(((r.getD 1 0).toNat:Int)=101∨((r.getD 1 0).toNat:Int)=69)
    .rw[ifP hq]
     match r,hq with
     | d::x::q,hq=>
      have hd:d=50:=ZzZ rfl hq.2.1;subst hd
      have ed:=ZB3 (c:=50) (x::q) (by decide) (by decide) (by decide)
      rcases hq.2.2 with hx|hx
      .have hx':x=101:=ZzZ rfl hx
       subst hx'
       have ex:=ZB3 (c:=101) q (by decide) (by decide) (by decide)
       rw[ed,ex,ifP ⟨by simp,rfl,Xb rfl⟩]
       exact⟨rfl,rfl⟩
      .have hx':x=69:=ZzZ rfl hx
       subst hx'
       have ex:=ZB3 (c:=69) q (by decide) (by decide) (by decide)
       rw[ed,ex,ifP ⟨by simp,rfl,Xd rfl⟩]
       exact⟨rfl,rfl⟩
    .rw[ifN hq]
     have hn:¬(2<=(en4 r).length/\(((en4 r).getD 0 0).toNat:Int)=50/\((((en4 r).getD 1 0).toNat:Int)=101∨(((en4 r).getD 1 0).toNat:Int)=69)):=by
      rintro⟨n1,n2,n3⟩
      cases r with
      | nil=>rw[ZC8]at n1;simp at n1
      | cons d q=>
       rcases ZEu d q with⟨-,-,-,hd⟩|⟨-,-,-,-,-,x,y,m,hd,-,-⟩
       .rw[hd]at n1 n2 n3
        have n2':(d.toNat:Int)=50:=n2;have n3':(((en4 q).getD 0 0).toNat:Int)=101∨(((en4 q).getD 0 0).toNat:Int)=69:=n3
        cases q with
        | nil=>rw[ZC8]at n1;simp at n1
        | cons z q'=>
         rcases ZEu z q' with⟨-,-,-,hz⟩|⟨-,-,-,-,-,x,y,m,hz,-,-⟩
         .rw[hz]at n3'
          exact hq ⟨by simp,n2',n3'⟩
         .rw[hz]at n3'
          rcases n3' with n|n
          .exact absurd n (show ¬((37:UInt8).toNat:Int)=101 by decide)
          .exact absurd n (show ¬((37:UInt8).toNat:Int)=69 by decide)
       .rw[hd]at n2
        exact absurd n2 (show ¬((37:UInt8).toNat:Int)=50 by decide)
     rw[ifN hn]
     refine⟨rfl,?_⟩
     rw[Xr,Xr,e]
   .have ds:dotSize (c::r)=0:=by
     refine ZBA (fun e=>h46 (ZzZ rfl e)) ?_
     rintro⟨-,e,-⟩;exact h37 (ZzZ rfl e)
    rw[ds,Xr,Xr]
    refine⟨?_,rfl⟩
    rcases ZEu c r with⟨-,-,-,he⟩|⟨-,-,-,-,-,x,y,m,he,hxy,hy⟩
    .rw[he]
     refine ZBA (fun e=>h46 (ZzZ rfl e)) ?_
     rintro⟨-,e,-⟩;exact h37 (ZzZ rfl e)
    .rw[he]
     refine ZBA (fun e=>absurd e (by show ¬((37:UInt8).toNat:Int)=46;decide)) ?_
     rintro⟨-,-,e1,e2⟩;have hx:x=50:=ZzZ rfl e1;rcases e2 with e2|e2
     .exact hy (ZzZ rfl e2)
     .exact hxy ⟨hx,ZzZ rfl e2⟩
theorem ZE3(s:LB):en4 s=[]↔s=[]:=by
 constructor
 .intro h
  exact Classical.byContradiction fun hn=>ZsE (Zo3 hn) h
 .rintro rfl;exact ZC8
theorem ZM7:∀m n s,cdGo m n (en4 s)=cdGo m n s:=by
 intro m
 induction m with
 | zero=>intro n s;rfl
 | succ m ih=>
  intro n s;have h:=ZMn s;rw[cdGo,cdGo]
  by_cases hs:s=[]
  .rw[ifP hs,ifP ((ZE3 s).2 hs)]
  .rw[ifN hs,ifN (fun e=>hs ((ZE3 s).1 e)),h.1]
   split
   .rfl
   .rw[h.2,ih]
theorem ZKU(s:LB):countDots (en4 s)=countDots s:=ZM7 3 0 s
theorem ZHV{a:UInt8}(h:alpha a.toNat=true):32<=a.toNat/\a.toNat<=126/\among (a.toNat:Int) S4=false:=by
 have key:∀n:Nat,n<256->alpha (n:Int)=true->32<=n/\n<=126/\among (n:Int) S4=false:=by decide +kernel
 exact key a.toNat a.toNat_lt h
theorem ZE4{l:LB}(h:ZY l=true):∃a b,l=[a,b]/\alpha a.toNat=true/\(b=58∨b=124):=by
 unfold ZY at h
 split at h
 .next a b=>
  rw[Xq,Bool.or_eq_true]at h
  refine⟨a,b,rfl,h.1,?_⟩
  rcases h.2 with e|e
  .exact Xb (ZzZ rfl (by simpa using e))
  .exact Xd (ZzZ rfl (by simpa using e))
 .cases h
theorem Zz5{a b:LB}(h:∀c,among c a=among c b)(l:LI):encoded l a=encoded l b:=by
 unfold encoded
 congr 1
 funext c
 unfold encPt;rw[h c]
theorem among_iff(c:Int)(t:LB):among c t=true↔∃b∈t,(b.toNat:Int)=c:=by
 unfold among
 simp
theorem ZBc{a b:LB}(h1:∀x∈a,x∈b)(h2:∀x∈b,x∈a)(c:Int):among c a=among c b:=by
 rw[Bool.eq_iff_iff,among_iff,among_iff]
 constructor
 .rintro⟨x,hx,e⟩;exact⟨x,h1 x hx,e⟩
 .rintro⟨x,hx,e⟩;exact⟨x,h2 x hx,e⟩
theorem ZEv(l:LI)(hl:∀c∈l,Sc c):en4 (Zb l)=encoded l ZAH:=by
 show encB S4 (clean (Zb l))=_
 rw[ZaW _ l hl]
 exact Zz5 (ZBc (by decide) (by decide)) l
theorem ZCt(sch:LB):tl (Zn sch)=if Zg sch then [47,92]else [47]:=by
 unfold Zn
 split<;>rfl
theorem special_eq(sch:LB):Zg sch=Zc sch:=by
 unfold Zg ZdM Zc ZC;simp only[Zhr,names6,ZeR];have e1:tl (⟨#[104,116,116,112]⟩:BA)=[104,116,116,112]:=rfl;have e2:tl (⟨#[104,116,116,112,115]⟩:BA)=[104,116,116,112,115]:=rfl;have e3:tl (⟨#[119,115]⟩:BA)=[119,115]:=rfl;have e4:tl (⟨#[119,115,115]⟩:BA)=[119,115,115]:=rfl;have e5:tl (⟨#[102,116,112]⟩:BA)=[102,116,112]:=rfl;have e6:tl (⟨#[102,105,108,101]⟩:BA)=[102,105,108,101]:=rfl;rw[e1,e2,e3,e4,e5,e6]
 by_cases h1:sch=[104,116,116,112]
 .subst h1;rfl
 by_cases h2:sch=[104,116,116,112,115]
 .subst h2;rfl
 by_cases h3:sch=[119,115]
 .subst h3;rfl
 by_cases h4:sch=[119,115,115]
 .subst h4;rfl
 by_cases h5:sch=[102,116,112]
 .subst h5;rfl
 by_cases h6:sch=[102,105,108,101]
 .subst h6;rfl
 rw[ifN (Ne.symm h1),ifN (Ne.symm h2),ifN (Ne.symm h3),ifN (Ne.symm h4),ifN (Ne.symm h5),ifN (Ne.symm h6),ifN (by rintro(e|e);exact h1 e;exact h3 e),ifN (by rintro(e|e);exact h2 e;exact h4 e),ifN h5]
 simp[h6]
theorem ZGb(sch:LB)(l:LI)(hl:∀c∈l,Pt c):Zcu (slB (Zc sch)) (Zb l)=(parts l (tl (Zn sch))).map Zb:=by
 have hs:ZuP (slB (Zc sch)) (tl (Zn sch)):=by rw[ZCt,special_eq];exact ZBL _
 generalize tl (Zn sch)=t at *;generalize hk:l.length=k
 induction k using Nat.strongRecOn generalizing l with
 | ind k ih=>
  rw[ZgF,Zab hs l hl,Zge]
  cases hc:(cut l t).2.2
  .simp
  .simp only[if_true]
   have hlen:=(Zbc l t).2 hc
   rw[ih _ (by omega) (cut l t).2.1 (fun c hm=>hl c (Zy (Xd hm))) rfl]
   rfl
theorem ZEw{b c:UInt8}(h:Zey b=c)(hc:c.toNat<65):b=c:=by
 unfold Zey at h
 split at h
 .next hb=>
  have:=congrArg UInt8.toNat h;rw[XA]at this;have e:(32:UInt8).toNat=32:=rfl;rw[e]at this
  omega
 .exact h
theorem ZM8{b:UInt8}(h:Zey b=101):b=101∨b=69:=by
 unfold Zey at h
 split at h
 .next hb=>
  right
  have:=congrArg UInt8.toNat h;rw[XA]at this;have e:(32:UInt8).toNat=32:=rfl;have e2:(101:UInt8).toNat=101:=rfl;rw[e,e2]at this
  exact Xv.1 (by have e3:(69:UInt8).toNat=69:=rfl;omega)
 .exact Xb h
theorem lower_cons(c:UInt8)(r:LB):lower (c::r)=Zey c::lower r:=rfl
theorem ZCu{l:LB}:lower l=[]↔l=[]:=by cases l<;>simp[lower]
theorem ZHe{l t:LB}(h:lower l=46::t):∃r,l=46::r/\lower r=t:=by
 cases l with
 | nil=>cases h
 | cons c r=>
  rw[lower_cons]at h;obtain⟨h1,h2⟩:=List.cons.inj h
  exact⟨r,by rw[ZEw h1 (by decide)],h2⟩
theorem ZHf{l t:LB}(h:lower l=37::50::101::t):∃x r,l=37::50::x::r/\(x=101∨x=69)/\lower r=t:=by
 match l,h with
 | [],h=>cases h
 | [a],h=>rw[lower_cons]at h;cases(List.cons.inj h).2
 | [a,b],h=>rw[lower_cons,lower_cons]at h;cases(List.cons.inj (List.cons.inj h).2).2
 | a::b::x::r,h=>
  rw[lower_cons,lower_cons,lower_cons]at h;obtain⟨h1,h⟩:=List.cons.inj h;obtain⟨h2,h⟩:=List.cons.inj h;obtain⟨h3,h4⟩:=List.cons.inj h
  exact⟨x,r,by rw[ZEw h1 (by decide),ZEw h2 (by decide)],ZM8 h3,h4⟩
theorem ZHg(l:LB):(dotSize l=1/\∃r,l=46::r)∨(dotSize l=3/\∃x r,l=37::50::x::r/\(x=101∨x=69))∨(dotSize l=0/\(∀r,l≠46::r)/\∀x r,l=37::50::x::r->¬(x=101∨x=69)):=by
 by_cases h1:((l.getD 0 0).toNat:Int)=46
 .refine Xb ⟨by rw[dotSize,ifP h1],?_⟩
  cases l with
  | nil=>exact absurd h1 (by decide)
  | cons c r=>exact⟨r,by rw[show c=46 from ZzZ (n:=46) rfl h1]⟩
 .by_cases h2:3<=l.length/\((l.getD 0 0).toNat:Int)=37/\((l.getD 1 0).toNat:Int)=50/\(((l.getD 2 0).toNat:Int)=101∨((l.getD 2 0).toNat:Int)=69)
  .refine Xd (Xb ⟨by rw[dotSize,ifN h1,ifP h2],?_⟩)
   match l,h2 with
   | a::b::x::r,⟨_,ha,hb,hx⟩=>
    refine⟨x,r,by rw[show a=37 from ZzZ (n:=37) rfl ha,show b=50 from ZzZ (n:=50) rfl hb],?_⟩
    rcases hx with hx|hx
    .exact Xb (ZzZ (n:=101) rfl hx)
    .exact Xd (ZzZ (n:=69) rfl hx)
  .refine Xd (Xd ⟨by rw[dotSize,ifN h1,ifN h2],?_,?_⟩)
   .rintro r rfl;exact h1 rfl
   .rintro x r rfl hx
    refine h2 ⟨by simp,rfl,rfl,?_⟩
    rcases hx with rfl|rfl
    .exact Xb rfl
    .exact Xd rfl
theorem ZM9{x:UInt8}(h:x=101∨x=69):Zey x=101:=by rcases h with rfl|rfl<;>rfl
theorem ZKV(r:LB)(hr:r≠[]):(if lower r=[46]then(2:Int)else if lower r=[37,50,101]then 2 else 0)=((cdGo 2 1 r:Nat):Int):=by
 rw[cdGo,ifN hr];rcases ZHg r with⟨h,q,rfl⟩|⟨h,x,q,rfl,hx⟩|⟨h,h1,h2⟩
 .have hr1:(if dotSize (46::q)=0 then 0 else cdGo 1 (1+1) ((46::q).drop (dotSize (46::q))))=cdGo 1 2 q:=by rw[h,ifN (by decide)];rfl
  rw[hr1,cdGo,lower_cons,show Zey 46=46 from rfl]
  cases q with
  | nil=>rfl
  | cons c q=>
   rw[ifN (by simp[lower]),ifN (by simp),ifN (by simp)]
   split<;>rfl
 .have hr1:(if dotSize (37::50::x::q)=0 then 0 else cdGo 1 (1+1) ((37::50::x::q).drop (dotSize (37::50::x::q))))=cdGo 1 2 q:=by rw[h,ifN (by decide)];rfl
  rw[hr1,cdGo,lower_cons,lower_cons,lower_cons,ZM9 hx,show Zey 37=37 from rfl,show Zey 50=50 from rfl]
  cases q with
  | nil=>rfl
  | cons c q=>
   rw[ifN (by simp),ifN (by simp[lower]),ifN (by simp)]
   split<;>rfl
 .rw[h,ifP rfl,ifN (fun e=>by obtain⟨r',e',-⟩:=ZHe e;exact h1 r' e'),ifN (fun e=>by obtain⟨x,r',e',hx,-⟩:=ZHf e;exact h2 x r' e' hx)]
  rfl
theorem ZMp(e:LB):dots e=(countDots e:Int):=by
 unfold dots countDots;rw[cdGo]
 by_cases h0:e=[]
 .subst h0;rfl
 rw[ifN h0];rcases ZHg e with⟨h,r,rfl⟩|⟨h,x,r,rfl,hx⟩|⟨h,h1,h2⟩
 focus
  rw[h,ifN (by decide),lower_cons,show Zey 46=46 from rfl]
  show Zdv cands (46::lower r)=((cdGo 2 1 r:Nat):Int)
 rotate_left
 focus
  rw[h,ifN (by decide),lower_cons,lower_cons,lower_cons,ZM9 hx,show Zey 37=37 from rfl,show Zey 50=50 from rfl]
  show Zdv cands (37::50::101::lower r)=((cdGo 2 1 r:Nat):Int)
 rotate_left
 .rw[h,ifP rfl]
  have n1:∀t,lower e≠46::t:=fun t e'=>by obtain⟨r',e'',-⟩:=ZHe e';exact h1 r' e''
  have n2:∀t,lower e≠37::50::101::t:=fun t e'=>by obtain⟨x,r',e'',hx,-⟩:=ZHf e';exact h2 x r' e'' hx
  simp[Zdv,cands,n1,n2]
 all_goals
  by_cases hr:r=[]
  .subst hr;rfl
  .rw[<-ZKV r hr]
   have hn:lower r≠[]:=fun e=>hr (ZCu.1 e)
   simp[Zdv,cands,hn]
theorem ZHh{b:UInt8}{q:LB}(h:128<=b.toNat):ZY (b::q)=false:=by
 unfold ZY
 split
 .next a c e=>
  obtain⟨rfl,-⟩:=List.cons.inj e;rw[ZBa.hi _ h];rfl
 .rfl
theorem ZJc{a b:UInt8}{q:LB}(h:128<=b.toNat):ZY (a::b::q)=false:=by
 unfold ZY
 split
 .next x y e=>
  obtain⟨rfl,e2⟩:=List.cons.inj e;obtain⟨rfl,-⟩:=List.cons.inj e2
  have:((b.toNat:Int)==58||(b.toNat:Int)==124)=false:=by simp;omega
  rw[this,XN]
 .rfl
theorem ZHi{c:Int}(h:Pt c):1<=((utf c).map toB).length:=by
 rcases Zzz h with⟨-,-,e⟩|⟨-,e,-⟩
 .rw[e];simp
 .cases hx:(utf c).map toB with
  | nil=>exact absurd hx e
  | cons b q=>simp
theorem ZAx(l:LI)(hl:∀c∈l,Pt c):ZY (Zb l)=letter l:=by
 match l,hl with
 | [],_=>rfl
 | [c],hl=>
  rw[bytesOf_cons,bytesOf_nil,XM]
  rcases Zzz (hl c (by simp))with⟨h0,h1,e⟩|⟨h0,e1,e⟩
  .rw[e];rfl
  .have hd:ZY ((utf c).map toB)=false:=by
    cases hx:(utf c).map toB with
    | nil=>exact absurd hx e1
    | cons b q=>exact ZHh (e b (by rw[hx];simp))
   rw[hd];rfl
 | [c,d],hl=>
  rw[bytesOf_cons,bytesOf_cons,bytesOf_nil,XM]
  show _=(alpha c&&(d==58||d==124))
  rcases Zzz (hl c (by simp))with⟨h0,h1,e⟩|⟨h0,e1,e⟩
  .rw[e,Xi]
   rcases Zzz (hl d (by simp))with⟨k0,k1,f⟩|⟨k0,f1,f⟩
   .rw[f]
    show(alpha ((toB c).toNat:Int)&&(((toB d).toNat:Int)==58||((toB d).toNat:Int)==124))=_
    rw[ZzW h0 h1,ZzW k0 k1]
   .have hd:(d==58||d==124)=false:=by simp;omega
    rw[hd,XN]
    cases hx:(utf d).map toB with
    | nil=>exact absurd hx f1
    | cons b q=>exact ZJc (f b (by rw[hx];simp))
  .rw[ZBa.up c h0]
   cases hx:(utf c).map toB with
   | nil=>exact absurd hx e1
   | cons b q=>exact ZHh (e b (by rw[hx];simp))
 | c::d::f::r,hl=>
  have h1:3<=(Zb (c::d::f::r)).length:=by
   rw[bytesOf_cons,bytesOf_cons,bytesOf_cons];simp only[XJ]
   have k1:=ZHi (hl c (by simp))
   have k2:=ZHi (hl d (by simp))
   have k3:=ZHi (hl f (by simp))
   omega
  show _=false
  cases hd:ZY (Zb (c::d::f::r))
  .rfl
  .have:=Zfa hd;omega
theorem ZBe(n base:Int)(_hb:base=8∨base=10∨base=16):ZK n base=if 0<=digit n/\digit n<base then(digit n,true)else(0,false):=by
 unfold ZK digit;simp only
 by_cases a1:48<=n/\n<=57
 .rw[ifP a1,ifP a1]
  by_cases h:base<=n-48
  .rw[ifP h,ifN (by omega)]
  .rw[ifN h,ifP (by omega)]
 rw[ifN a1,ifN a1]
 by_cases a2:97<=n/\n<=102
 .rw[ifP a2,ifP a2]
  by_cases h:base<=n-97+10
  .rw[ifP h,ifN (by omega)]
  .rw[ifN h,ifP (by omega)]
   congr 1;omega
 rw[ifN a2,ifN a2]
 by_cases a3:65<=n/\n<=70
 .rw[ifP a3,ifP a3]
  by_cases h:base<=n-65+10
  .rw[ifP h,ifN (by omega)]
  .rw[ifN h,ifP (by omega)]
   congr 1;omega
 rw[ifN a3,ifN a3,ifP (by omega),ifN (by omega)]
def ZMg(n v:Int):Prop:=(n<=4294967295/\v=n)∨(4294967295<n/\4294967295<v)
theorem ZJh(base:Int)(hb:base=8∨base=10∨base=16)(l:LB):∀n v:Int,0<=n->ZMg n v->(numGo base 4294967295 n l=none/\vGo base v l=none)∨∃n' v',numGo base 4294967295 n l=some n'/\vGo base v l=some v'/\ZMg n' v'/\0<=n':=by
 induction l with
 | nil=>intro n v h0 h;exact Xd ⟨n,v,rfl,rfl,h,h0⟩
 | cons c r ih=>
  intro n v h0 h;rw[numGo,vGo,ZBe _ _ hb];generalize digit (c.toNat:Int)=d at *
  by_cases hd:0<=d/\d<base
  .have h9:¬(d<0∨base<=d):=by omega
   rw[ifP hd,ifN h9];simp only[if_true]
   refine ih _ _ ?_ ?_
   .split
    .have:=XO h0 (show(0:Int)<=base by omega)
     omega
    .exact h0
   .rcases h with⟨h1,rfl⟩|⟨h1,h2⟩
    .rw[ifP h1]
     unfold ZfP
     have:v*base+d<=1099511627776:=by rcases hb with rfl|rfl|rfl<;>omega
     rw[ifN (by omega)]
     by_cases h3:v*base+d<=4294967295
     .exact Xb ⟨h3,rfl⟩
     .exact Xd ⟨by omega,by omega⟩
    .rw[ifN (by omega)]
     refine Xd ⟨h1,?_⟩
     unfold ZfP
     split
     .omega
     .rcases hb with rfl|rfl|rfl<;>omega
  .have h9:d<0∨base<=d:=by omega
   rw[ifN hd,ifP h9];exact Xb ⟨rfl,rfl⟩
def ZGe(x y:Int×Bool):Prop:=(x.2=false/\y.2=false)∨(x.2=true/\y.2=true/\0<=x.1/\((x.1<=4294967295/\y.1=x.1)∨(x.1=4294967296/\4294967295<y.1)))
theorem ZBO(base:Int)(hb:base=8∨base=10∨base=16)(l:LB)(hl:l≠[]):ZGe (Zp l base 4294967295) (fin (vGo base 0 l)):=by
 unfold Zp;rw[ifN hl]
 rcases ZJh base hb l 0 0 (Xw _) (Xb ⟨by decide,rfl⟩)with⟨h1,h2⟩|⟨n,v,h1,h2,h3,h4⟩
 .rw[h1,h2];exact Xb ⟨rfl,rfl⟩
 .rw[h1,h2]
  simp only[fin];rcases h3 with⟨h5,rfl⟩|⟨h5,h6⟩
  .rw[ifN (by omega)];exact Xd ⟨rfl,rfl,h4,Xb ⟨h5,rfl⟩⟩
  .rw[ifP h5];exact Xd ⟨rfl,rfl,by decide,Xd ⟨by decide,h6⟩⟩
def Low(l:List UInt8):Prop:=∀b∈l,¬(65<=b.toNat/\b.toNat<=90)
theorem ZJi(l:LB):Low (lower l):=by
 intro b hb;obtain⟨c,-,rfl⟩:=XP.1 hb;unfold Zey
 split
 .rw[XA]
  have:(32:UInt8).toNat=32:=rfl
  omega
 .assumption
theorem ZJj{b c:UInt8}{n:Int}(hc:(c.toNat:Int)=n):((b.toNat:Int)=n)↔b=c:=by
 constructor
 .intro h;exact Xv.1 (by omega)
 .intro h;rw[h];exact hc
theorem ZEz(t:LB)(ht:Low t):ZGe (ZJ t) (valueStr t):=by
 unfold ZJ valueStr
 match t,ht with
 | [],_=>exact Xb ⟨rfl,rfl⟩
 | [c],_=>
  rw[ifP (Xb (by simp)),ifN (by simp),ifN (by simp),ifN (by simp)]
  exact ZBO 10 (by omega) _ (by simp)
 | c::d::r,ht=>
  rw[ifN (show ¬(c::d::r:LB)=[]by simp)]
  by_cases hc:c=48
  .subst hc
   have g1:¬((48::d::r:LB).length<2∨¬(((48::d::r:LB).getD 0 0).toNat:Int)=48):=by
    rintro(h|h)
    .simp at h;omega
    .exact h rfl
   rw[ifN g1]
   by_cases hd:d=120
   .subst hd
    have g2:¬(¬(((48::120::r:LB).getD 1 0).toNat:Int)=120/\¬(((48::120::r:LB).getD 1 0).toNat:Int)=88):=by rintro⟨h,-⟩;exact h rfl
    have g3:1<(48::120::r:LB).length/\(48::120::r:LB).take 2=[48,120]:=⟨by simp,rfl⟩
    rw[ifN g2,ifP g3]
    cases r with
    | nil=>exact Xd ⟨rfl,rfl,by decide,Xb ⟨by decide,rfl⟩⟩
    | cons e r=>
     rw[ifN (by simp)]
     exact ZBO 16 (by omega) _ (by simp)
   .have hd2:¬d=88:=fun e=>ht d (by simp) (by rw[e];decide)
    rw[ifP ⟨fun h=>hd ((ZJj (c:=120) rfl).1 h),fun h=>hd2 ((ZJj (c:=88) rfl).1 h)⟩,ifN (by rintro⟨-,h⟩;simp at h;exact hd h),ifP ⟨by simp,rfl⟩]
    exact ZBO 8 (by omega) _ (by simp)
  .have g1:(c::d::r:LB).length<2∨¬(((c::d::r:LB).getD 0 0).toNat:Int)=48:=Xd (fun h=>hc ((ZJj (c:=48) rfl).1 h))
   rw[ifP g1,ifN (by rintro⟨-,h⟩;simp at h;exact hc h.1),ifN (by rintro⟨-,h⟩;simp at h;exact hc h)]
   exact ZBO 10 (by omega) _ (by simp)
theorem ZDN(most:Int)(l:LB):∀n,(numGo 10 most n l).isSome=l.all fun b=>numeral (b.toNat:Int):=by
 induction l with
 | nil=>intro n;rfl
 | cons c r ih=>
  intro n
  rw[numGo,ZBe _ _ (by omega),Xo]
  have hnum:numeral (c.toNat:Int)=decide (0<=digit (c.toNat:Int)/\digit (c.toNat:Int)<10):=by
   unfold numeral digit
   by_cases a1:48<=(c.toNat:Int)/\(c.toNat:Int)<=57
   .rw[ifP a1,decide_eq_true a1,decide_eq_true (by omega)]
   .rw[ifN a1,decide_eq_false a1]
    split
    .rw[decide_eq_false (by omega)]
    .split
     .rw[decide_eq_false (by omega)]
     .rw[decide_eq_false (by omega)]
  rw[hnum]
  by_cases hd:0<=digit (c.toNat:Int)/\digit (c.toNat:Int)<10
  .rw[ifP hd,decide_eq_true hd]
   simp only[if_true,Bool.true_and];exact ih _
  .rw[ifN hd,decide_eq_false hd]
   simp
theorem ZCf(most:Int)(l:LB):(Zp l 10 most).2=((l.all fun b=>numeral (b.toNat:Int)) && !l.isEmpty):=by
 unfold Zp
 cases l with
 | nil=>rfl
 | cons c r=>
  rw[ifN (by simp)]
  have h:=ZDN most (c::r) 0
  cases hn:numGo 10 most 0 (c::r)with
  | none=>rw[hn]at h;simp only[Option.isSome]at h;rw[<-h];rfl
  | some n=>rw[hn]at h;simp only[Option.isSome]at h;rw[<-h];simp only;split<;>rfl
theorem ZDi:Asc (fun b=>numeral (b.toNat:Int)) numeral where
 lo:=ZBz (p:=fun b=>numeral (b.toNat:Int)) (P:=numeral) (by decide)
 hi:=fun b hb=>by simp[numeral];omega
 up:=fun c hc=>by simp[numeral];omega
theorem by256{P:UInt8->Prop}(h:∀n:Fin 256,P (UInt8.ofNat n.val))(b:UInt8):P b:=by
 have:=h ⟨b.toNat,b.toNat_lt⟩
 rwa [UInt8.ofNat_toNat]at this
theorem numeral_low(b:UInt8):numeral ((Zey b).toNat:Int)=numeral (b.toNat:Int):=by256 (P:=fun b=>numeral ((Zey b).toNat:Int)=numeral (b.toNat:Int)) (by decide +kernel) b
theorem ZE7(p:LI)(hp:∀c∈p,Pt c)(most:Int):(Zp (lower (Zb p)) 10 most).2=ZP p:=by
 rw[ZCf];unfold ZP
 have h1:((lower (Zb p)).all fun b=>numeral (b.toNat:Int))=(Zb p).all fun b=>numeral (b.toNat:Int):=by
  unfold lower;rw[List.all_map]
  congr 1
  funext b
  exact numeral_low b
 rw[h1,ZDi.all p hp]
 congr 1
 cases p with
 | nil=>rfl
 | cons c r=>
  have hne:Zb (c::r)≠[]:=fun e=>by have:=(Zzt hp).1 e;cases this
  cases hb:Zb (c::r)with
  | nil=>exact absurd hb hne
  | cons x y=>rfl
def tb(p:List Int):List UInt8:=lower (Zb p)
theorem ZHm(p:LI):ZGe (ZJ (tb p)) (valueOf p):=ZEz _ (ZJi _)
theorem ZH5(n:Nat)(hn:n<=4):∀(ps:List LI) (i:Nat) (s:Int),i+ps.length=n->ip4Go (ps.map tb) (256^(4-i)) s=fourGo n i s ps:=by
 intro ps
 induction ps with
 | nil=>intro i s h;rfl
 | cons p r ih=>
  intro i s h;rw[Xk]at h;rw[Xt,ip4Go,fourGo];have hv:=ZHm p;have hih:=ih (i+1);generalize ZJ (tb p)=x at *;generalize valueOf p=y at *
  have hr:(r.map tb≠[])↔r≠[]:=by cases r<;>simp
  have hr2:(i+1=n)↔r=[]:=by
   cases r with
   | nil=>simp at h ⊢;omega
   | cons a b=>simp at h ⊢;omega
  rcases hv with⟨h1,h2⟩|⟨h1,h2,h3,h4⟩
  .rw[ifP h1,ifP (Xb h2)]
  .rw[ifN (by rw[h1];decide)]
   by_cases hr0:r=[]
   .subst hr0
    have hi:i+1=n:=hr2.2 rfl;rw[ifP hi]
    have hpow:(256:Int)^(4-i)<=4294967296:=by
     have:i=0∨i=1∨i=2∨i=3:=by omega
     rcases this with rfl|rfl|rfl|rfl<;>decide
    by_cases hb:(256:Int)^(4-i)<=x.1
    .rw[ifP (Xb hb),ifP (Xd (by rcases h4 with⟨a,b⟩|⟨a,b⟩<;>omega))]
    .have hx:y.1=x.1:=by rcases h4 with⟨a,b⟩|⟨a,b⟩<;>omega
     have g1:¬((256:Int)^(4-i)<=x.1∨(([]:List LI).map tb≠[]/\255<x.1)):=by
      rintro(g|⟨g,-⟩)
      .exact hb g
      .exact g rfl
     have g2:¬(y.2=false∨(256:Int)^(4-i)<=y.1):=by
      rintro(g|g)
      .rw[h2]at g;cases g
      .rw[hx]at g;exact hb g
     have g3:¬(([]:List LI).map tb≠[]):=fun g=>g rfl
     rw[ifN g1,ifN g2,ifN g3,ifP hi,hx,Int.mul_one]
     rfl
   .have hi:¬i+1=n:=fun e=>hr0 (hr2.1 e)
    have hrn:=hr.2 hr0;rw[ifN hi]
    have h256:(255<x.1)↔(256<=y.1):=by rcases h4 with⟨a,b⟩|⟨a,b⟩<;>omega
    have hlen:0<r.length:=by cases r with|nil=>exact absurd rfl hr0|cons _ _=>simp
    have hroom:(256:Int)<=256^(4-i)/\(256:Int)^(4-i)/256=256^(3-i)/\(3-i=4-(i+1)):=by
     have:i=0∨i=1∨i=2:=by omega
     rcases this with rfl|rfl|rfl<;>decide
    by_cases hb:256<=y.1
    .rw[ifP (Xd ⟨hrn,h256.2 hb⟩),ifP (Xd hb)]
    .have hx:y.1=x.1:=by rcases h4 with⟨a,b⟩|⟨a,b⟩<;>omega
     have g1:¬((256:Int)^(4-i)<=x.1∨(r.map tb≠[]/\255<x.1)):=by
      rintro(g|⟨-,g⟩)
      .omega
      .exact hb (h256.1 g)
     have g2:¬(y.2=false∨256<=y.1):=by
      rintro(g|g)
      .rw[h2]at g;cases g
      .exact hb g
     rw[ifN g1,ifN g2,ifP hrn,ifN hi,hroom.2.1,hx,hroom.2.2]
     exact hih _ (by omega)
theorem ZCx(ps:List LI)(h:ps≠[]):ip4 (ps.map tb)=fourOf ps:=by
 unfold ip4 fourOf;rw[Xl]
 have h0:¬ps.length=0:=fun e=>h (Xf e)
 by_cases h4:4<ps.length
 .rw[ifP (Xd h4),ifP h4]
 .rw[ifN (by omega),ifN h4]
  exact ZH5 ps.length (by omega) ps 0 0 (by omega)
theorem ZBP(n:Nat)(h:n<=99999):dec n=ZjB n:=by
 unfold ZjB
 by_cases h1:n<10
 .rw[ifP h1,dec,ifN (by omega)];rfl
 rw[ifN h1,dec,ifP (by omega)]
 by_cases h2:n<100
 .rw[ifP h2,dec,ifN (by omega)];rfl
 rw[ifN h2,dec,ifP (by omega),show n/10/10=n/100 by omega]
 by_cases h3:n<1000
 .rw[ifP h3,dec,ifN (by omega)];rfl
 rw[ifN h3,dec,ifP (by omega),show n/100/10=n/1000 by omega]
 by_cases h4:n<10000
 .rw[ifP h4,dec,ifN (by omega)];rfl
 rw[ifN h4,dec,ifP (by omega),show n/1000/10=n/10000 by omega,dec,ifN (by omega)]
 rfl
theorem ZJk(v:Nat)(h:v<4294967296):ZAg v=ZeH v:=by
 rw[ZE2];unfold ZAg ZM5
 rw[ZBP _ (by omega),ZBP _ (by omega),ZBP _ (by omega),ZBP _ (by omega)]
 rw[show v/256^3%256=v/16777216 by omega,show v/256^2%256=v/65536%256 by omega,show v/256^1%256=v/256%256 by omega,show v/256^0%256=v%256 by omega]
 simp
theorem ZCS:∀(n:Nat) (l:LB),l.length<=n->(∀b∈clean l,b.toNat<128)->∀b∈l,b.toNat<128:=by
 intro n
 induction n with
 | zero=>intro l h _ b hb;rw[Xf (Nat.le_zero.1 h)]at hb;cases hb
 | succ n ih=>
  intro l hn h b hb
  cases l with
  | nil=>cases hb
  | cons c r=>
   by_cases hc:c.toNat<128
   .rw[ZEt r hc]at h
    rcases XB.1 hb with rfl|hb
    .exact hc
    .exact ih r (by simp at hn;omega) (fun x hx=>h x (Xc _ hx)) b hb
   .exfalso
    rw[ZcV _ (by simp)]at h
    cases hm:(measure (c::r)).2
    .rw[hm]at h
     have:=h 239 (by simp)
     exact absurd this (by decide)
    .rw[hm]at h
     have h1:1<=(measure (c::r)).1:=ZlE _ _ _ _ _
     have:=h c (by
      simp only[if_true]
      refine List.mem_append_left _ ?_
      obtain⟨m,hm⟩:∃m,(measure (c::r)).1=m+1:=⟨(measure (c::r)).1 - 1,by omega⟩
      rw[hm,XI]
      exact Xa ..)
     exact hc this
theorem ZE8{d:LI}(hd:∀c∈d,Pt c):(∀b∈Zb d,b.toNat<128)↔∀c∈d,c<=127:=by
 induction d with
 | nil=>simp[Zb]
 | cons c r ih=>
  have ih':=ih (fun x hx=>hd x (Xc _ hx))
  rw[bytesOf_cons]
  constructor
  .intro h x hx
   rcases XB.1 hx with rfl|hx
   .rcases Zzz (hd x (Xa ..))with⟨a,b,e⟩|⟨a,b,e⟩
    .omega
    .exfalso
     cases hq:(utf x).map toB with
     | nil=>exact b hq
     | cons y q=>
      have h1:=h y (by rw[hq];simp)
      have h2:=e y (by rw[hq];simp)
      omega
   .exact ih'.1 (fun b hb=>h b (List.mem_append_right _ hb)) x hx
  .intro h b hb
   rcases List.mem_append.1 hb with hb|hb
   .rcases Zzz (hd c (Xa ..))with⟨a,k,e⟩|⟨a,k,e⟩
    .rw[e,List.mem_singleton]at hb
     subst hb;have:=ZzW a k
     omega
    .have:=h c (Xa ..);omega
   .exact ih'.2 (fun x hx=>h x (Xc _ hx)) b hb
theorem isB_low(b:UInt8):isB 46 (Zey b)=isB 46 b:=by256 (P:=fun b=>isB 46 (Zey b)=isB 46 b) (by decide +kernel) b
theorem ZE9(l:LB):bsplit 46 (lower l)=(bsplit 46 l).map lower:=by
 induction l with
 | nil=>rfl
 | cons c r ih=>
  rw[lower_cons,bsplit,bsplit,isB_low,ih]
  cases isB 46 c
  .simp only[Bool.false_eq_true,if_false]
   cases bsplit 46 r with
   | nil=>rfl
   | cons p q=>rfl
  .simp only[if_true]
   rfl
theorem beyond_lower(l:LB):beyondB (lower l)=beyondB l:=by
 unfold beyondB lower;rw[XD]
 congr 1
 funext b
 exact by256 (P:=fun b=>decide (127<((Zey b).toNat:Int))=decide (127<(b.toNat:Int))) (by decide +kernel) b
theorem ZMr:Asc (fun b=>ZoR (Zey b)) ZB4 where
 lo:=ZBz (p:=fun b=>ZoR (Zey b)) (P:=ZB4) (by decide +kernel)
 hi:=fun b=>by256 (P:=fun b=>128<=b.toNat->ZoR (Zey b)=false) (by decide +kernel) b
 up:=fun c hc=>by simp[ZB4,among,ZAF];omega
theorem ZMh{p:LI}(hp:∀c∈p,Pt c):tb p=[]↔p=[]:=by unfold tb;rw[ZCu,Zzt hp]
theorem ZJl(l:LI)(t:LB):parts l t≠[]:=by
 rw[Zge]
 split<;>simp
theorem ZCg(ps:List LI)(h:ps≠[]):(ps.map tb).getD ((ps.map tb).length-1) []=tb (Zz0 ps):=by
 unfold Zz0
 have hl:ps.length-1<ps.length:=by cases ps with|nil=>exact absurd rfl h|cons _ _=>simp
 rw[Xl,Xe,Xe,List.getElem?_map,Xj hl]
 rfl
theorem ZDZ{ps:List LI}(h:ps≠[]):Zz0 ps∈ps:=by
 have hl:ps.length-1<ps.length:=by cases ps with|nil=>exact absurd rfl h|cons _ _=>simp
 rw[ZBd hl];exact List.getElem_mem _
theorem ZK1(ps:List LI)(h:ps≠[])(hp:∀p∈ps,∀c∈p,Pt c):Zh6 (ps.map tb)=(if 1<ps.length/\(Zz0 ps).length=0 then ps.take (ps.length-1)else ps).map tb:=by
 unfold Zh6;rw[ZCg ps h,Xl]
 have e:(tb (Zz0 ps)=[])↔(Zz0 ps).length=0:=by
  rw[ZMh (hp _ (ZDZ h))]
  exact⟨fun e=>by rw[e];rfl,Xf⟩
 by_cases hc:1<ps.length/\(Zz0 ps).length=0
 .rw[ifP hc,ifP ⟨hc.1,e.2 hc.2⟩,List.map_take]
 .rw[ifN hc,ifN (fun g=>hc ⟨g.1,e.1 g.2⟩)]
theorem ZJm(d:LI)(qs:List LI)(h:qs≠[])(hp:∀p∈qs,∀c∈p,Pt c):Zhf (lower (Zb d)) (qs.map tb)=((domTail d qs).2.1,(domTail d qs).2.2)/\(domTail d qs).1=decide ((domTail d qs).2.2=0):=by
 unfold Zhf domTail
 have he:ZdH (qs.map tb)=(ZP (Zz0 qs)||(valueOf (Zz0 qs)).2):=by
  unfold ZdH
  rw[ifN (by rw[Xl];exact fun e=>h (Xf e)),ZCg qs h]
  rw[show Zp (tb (Zz0 qs)) 10 4294967295=Zp (lower (Zb (Zz0 qs))) 10 4294967295 from rfl,ZE7 _ (hp _ (ZDZ h))]
  congr 1
  rcases ZHm (Zz0 qs)with⟨a,b⟩|⟨a,b,-⟩<;>rw[a,b]
 rw[he,ZCx qs h]
 by_cases hc:(valueOf (Zz0 qs)).2=false/\ZP (Zz0 qs)=false
 .rw[ifP hc,ifP (by rw[hc.1,hc.2];rfl)]
  exact⟨rfl,rfl⟩
 .have h1:¬(ZP (Zz0 qs)||(valueOf (Zz0 qs)).2)=false:=fun g=>by
   rw[Bool.or_eq_false_iff]at g;exact hc ⟨g.2,g.1⟩
  rw[ifN hc,ifN h1]
  by_cases h2:(fourOf qs).2=true
  .have h3:=ZM6 (ps:=qs.map tb) (by rw[ZCx qs h];exact h2)
   rw[ZCx qs h]at h3;rw[ifP h2,ifP h2,ZJk _ h3];exact⟨rfl,rfl⟩
  .rw[ifN h2,ifN h2]
   exact⟨rfl,rfl⟩
theorem ZJn(l:LI):ZcJ (Zb l)=((domainOf l).2.1,(domainOf l).2.2)/\(domainOf l).1=decide ((domainOf l).2.2=0):=by
 unfold ZcJ domainOf;rw[bdecode_decoded,beyond_lower,ZE9];generalize decoded (Zb l)=D;have hsc:=Za0 D;have hbp:=ZaD D;generalize Zl D=d at *
 have hpt:∀c∈d,Pt c:=fun c hc=>(hsc c hc).pt
 unfold ZDf
 by_cases hb:beyondB D=true
 .have hd:(d.any fun c=>decide (127<c))=true:=by
   rw[Xy]
   refine Classical.byContradiction fun hn=>?_
   have h1:∀c∈d,c<=127:=fun c hc=>by
    rcases XS 127 c with g|g
    .exact absurd ⟨c,hc,decide_eq_true g⟩ hn
    .exact g
   have h2:=(ZE8 hpt).2 h1;rw[hbp]at h2;have h3:=ZCS D.length D (XG _) h2;unfold beyondB at hb;rw[Xy]at hb;obtain⟨b,hb1,hb2⟩:=hb;have:=h3 b hb1
   simp at hb2
   omega
  rw[ifP (by rw[hb];rfl),ifP (Xd hd)]
  exact⟨rfl,rfl⟩
 .have hlo:∀b∈D,b.toNat<128:=fun b hbm=>by
   rcases XQ b.toNat 128 with g|g
   .exact g
   .exfalso
    refine hb ?_
    unfold beyondB;rw[Xy]
    exact⟨b,hbm,decide_eq_true (by omega)⟩
  rw[ZBm hlo]at hbp;subst hbp
  have hd:(d.any fun c=>decide (127<c))=false:=by
   rw[XK];intro c hc;have:=(ZE8 hpt).1 hlo c hc
   simp
   omega
  have hs:(bsplit 46 (Zb d)).map lower=(parts d [46]).map tb:=by
   rw[Za2 (n:=46) (t:=46) (by decide) (by decide) rfl d hpt,List.map_map]
   rfl
  have hpp:∀p∈parts d [46],∀c∈p,Pt c:=fun p hp c hc=>hpt c (((ZzS d [46]).2 p hp).2 c hc)
  rw[hs];have hne:=ZJl d [46];generalize parts d [46]=ps at *
  have hx:Zxg (ps.map tb)=ps.any ZHl:=by
   unfold Zxg;rw[XD]
   rfl
  have hbf:beyondB (Zb d)=false:=by cases h:beyondB (Zb d)with|false=>rfl|true=>exact absurd h hb
  rw[hx,hbf,hd]
  by_cases hxn:ps.any ZHl=true
  .rw[ifP (by rw[hxn];rfl),ifP (Xb hxn)]
   exact⟨rfl,rfl⟩
  .have hxf:ps.any ZHl=false:=by cases h:ps.any ZHl with|false=>rfl|true=>exact absurd h hxn
   rw[hxf,ifN (show ¬(false||false)=true by decide),ifN (show ¬(false=true∨false=true)by decide)]
   have hpl:plainDom (lower (Zb d))=!((d.length:Int)==0||d.any ZB4):=by
    unfold plainDom
    have h1:(lower (Zb d)).any ZoR=d.any ZB4:=by
     rw[<-ZMr.any d hpt];unfold lower;rw[XD]
     rfl
    have h2:(lower (Zb d)).isEmpty=((d.length:Int)==0):=by
     cases d with
     | nil=>rfl
     | cons c r=>
      have:tb (c::r)≠[]:=fun e=>by have:=(ZMh hpt).1 e;cases this
      cases hq:lower (Zb (c::r))with
      | nil=>exact absurd hq this
      | cons _ _=>simp;omega
    rw[h1,h2]
    cases((d.length:Int)==0)<;>cases d.any ZB4<;>rfl
   rw[hpl]
   by_cases hbad:((d.length:Int)==0||d.any ZB4)=true
   .rw[ifP (by rw[hbad];rfl),ifP hbad]
    exact⟨rfl,rfl⟩
   .rw[ifN (show ¬(!((d.length:Int)==0||d.any ZB4))=false by simpa using hbad),ifN hbad,ZK1 ps hne hpp]
    refine ZJm d _ ?_ ?_
    .split
     .next hc=>
      intro e;have:=congrArg List.length e;rw[Xp,List.length_nil]at this
      omega
     .exact hne
    .intro p hp
     split at hp
     .exact hpp p (List.mem_of_mem_take hp)
     .exact hpp p hp
theorem ZEA{c:Int}(h:128<=c):digit c=-1:=by unfold digit;rw[ifN (by omega),ifN (by omega),ifN (by omega)]
theorem ZMs(p:LI)(hp:∀c∈p,Pt c):∀n:Int,0<=n->(n+1)*16^p.length<=65536->numGo 16 65535 n (Zb p)=ZAo n p:=by
 induction p with
 | nil=>intro n _ _;rfl
 | cons c r ih=>
  intro n h0 hn;rw[Xk,Int.pow_succ]at hn
  have ih':=ih (fun x hx=>hp x (Xc _ hx))
  have hpos:(0:Int)<16^r.length:=Int.pow_pos (by decide)
  rw[bytesOf_cons,ZAo];rcases Zzz (hp c (Xa ..))with⟨a,b,e⟩|⟨a,b,e⟩
  .rw[e,Xi,numGo,ZzW a b,ZBe _ _ (by omega)]
   have hr:=Zev c;generalize digit c=d at *
   by_cases hd:0<=d/\d<16
   .have hn1:n<=65535:=by
     have:(n+1)*1<=(n+1)*(16^r.length*16):=Int.mul_le_mul_of_nonneg_left (by omega) (by omega)
     omega
    have h9:¬d<0:=by omega
    rw[ifP hd,ifN h9];simp only[if_true]
    rw[ifP hn1,show n*16+d=16*n+d by omega]
    refine ih' _ (by omega) ?_
    have:(16*n+d+1)*16^r.length<=(16*(n+1))*16^r.length:=Xz (by omega) (by omega)
    calc (16*n+d+1)*16^r.length<=(16*(n+1))*16^r.length:=this
     _=(n+1)*(16^r.length*16):=by rw[XT 16 (n+1),Int.mul_assoc,XT 16 (16^r.length)]
     _<=65536:=hn
   .have h9:d<0:=by omega
    rw[ifN hd,ifP h9]
    rfl
  .rw[ZEA a,ifP (by decide)]
   cases hx:(utf c).map toB with
   | nil=>exact absurd hx b
   | cons y q=>
    have hy:=e y (by rw[hx];simp)
    have h9:¬(0<=(-1:Int)/\(-1:Int)<16):=by decide
    rw[Xu,numGo,ZBe _ _ (by omega),ZEA (by omega),ifN h9]
    rfl
theorem ZFa(p:LI)(hp:∀c∈p,Pt c):p.length<=(Zb p).length:=by
 induction p with
 | nil=>exact Nat.zero_le _
 | cons c r ih=>
  rw[bytesOf_cons,XJ,Xk];have h1:=ZHi (hp c (Xa ..))
  have h2:=ih (fun x hx=>hp x (Xc _ hx))
  omega
theorem ZCh(p:LI)(hp:∀c∈p,0<=c/\c<128):Zb p=p.map toB:=by
 induction p with
 | nil=>rfl
 | cons c r ih=>
  rw[bytesOf_cons,ih (fun x hx=>hp x (Xc _ hx)),Zpj (hp c (Xa ..)).2]
  rfl
theorem ZJo(p:LI)(hp:∀c∈p,Pt c):∀n v,ZAo n p=some v->∀c∈p,0<=c/\c<128:=by
 induction p with
 | nil=>intro n v _ c hc;cases hc
 | cons x r ih=>
  intro n v h c hc;rw[ZAo]at h
  by_cases hd:digit x<0
  .rw[ifP hd]at h;cases h
  .rw[ifN hd]at h
   rcases XB.1 hc with rfl|hc
   .refine⟨(hp c (Xa ..)).1,?_⟩
    rcases XS c 128 with g|g
    .exact g
    .rw[ZEA g]at hd;omega
   .exact ih (fun y hy=>hp y (Xc _ hy)) _ v h c hc
theorem ZK2(p:LI)(hp:∀c∈p,Pt c)(g:LI×Nat):(ZzX p=none/\(ZbR g (Zb p)).2=false)∨∃v,ZzX p=some v/\ZbR g (Zb p)=Zf5 g v:=by
 unfold ZzX ZbR
 by_cases hl:p.length<1∨4<p.length
 .rw[ifP hl]
  refine Xb ⟨rfl,?_⟩
  rcases hl with h|h
  .rw[Xf (by omega:p.length=0)]
   rw[ifP (Xb (by rfl))]
  .have:=ZFa p hp
   rw[ifP (Xd (by omega))]
 .rw[ifN hl]
  have hle:p.length<=4:=by omega
  have hnum:=ZMs p hp 0 (Xw _) (by
   have:p.length=1∨p.length=2∨p.length=3∨p.length=4:=by omega
   rcases this with h|h|h|h<;>rw[h]<;>decide)
  have hne:Zb p≠[]:=fun e=>by have:=(Zzt hp).1 e;rw[this]at hl;exact hl (Xb (by decide))
  cases hx:ZAo 0 p with
  | none=>
   rw[hx]at hnum
   have:Zp (Zb p) 16 65535=(0,false):=by unfold Zp;rw[ifN hne,hnum]
   rw[this,ifP (Xb rfl)];exact Xb ⟨rfl,rfl⟩
  | some v=>
   rw[hx]at hnum
   have hv:=ZCR (p:=p) (x:=v) (by unfold ZzX;rw[ifN hl];exact hx)
   have hb:(Zb p).length=p.length:=by rw[ZCh p (ZJo p hp 0 v hx),Xl]
   have:Zp (Zb p) 16 65535=(v,true):=by unfold Zp;rw[ifN hne,hnum];simp only;rw[ifN (by omega)]
   rw[this,ifN (by rintro(g|g);cases g;omega)]
   exact Xd ⟨v,rfl,rfl⟩
theorem ZMt(p:LI)(hp:∀c∈p,Pt c)(ha:p.all numeral=true):∀n v:Int,0<=n->((n<=255/\v=n)∨(255<n/\255<v))->∃m,numGo 10 255 n (Zb p)=some m/\0<=m/\((m<=255/\p.foldl dgo v=m)∨(255<m/\255<p.foldl dgo v)):=by
 induction p with
 | nil=>intro n v h0 h;exact⟨n,rfl,h0,h⟩
 | cons c r ih=>
  intro n v h0 h;rw[Xo,Xq]at ha
  have hc:48<=c/\c<=57:=by have:=ha.1;unfold numeral at this;exact of_decide_eq_true this
  have hd:digit c=c-48:=by unfold digit;rw[ifP hc]
  rw[bytesOf_cons,Zpj (by omega),Xm]
  show ∃m,numGo 10 255 n (toB c::Zb r)=some m/\_
  have h9:0<=c-48/\c-48<10:=by omega
  rw[numGo,ZzW (by omega) (by omega),ZBe _ _ (by omega),hd,ifP h9]
  simp only[if_true]
  refine ih (fun x hx=>hp x (Xc _ hx)) ha.2 _ _ ?_ ?_
  .split<;>omega
  .unfold dgo
   rcases h with⟨h1,rfl⟩|⟨h1,h2⟩
   .rw[ifP h1]
    by_cases h3:10*v+c-48<=255
    .exact Xb ⟨by omega,by omega⟩
    .exact Xd ⟨by omega,by omega⟩
   .rw[ifN (by omega)]
    exact Xd ⟨h1,by omega⟩
theorem ZK3(p:LI)(ha:p.all numeral=true):∀v:Int,0<=v->v<=p.foldl dgo v:=by
 induction p with
 | nil=>intro v _;exact Xw _
 | cons c r ih=>
  intro v hv;rw[Xo,Xq]at ha
  have hc:48<=c/\c<=57:=by have:=ha.1;unfold numeral at this;exact of_decide_eq_true this
  rw[Xm]
  have h1:v<=dgo v c:=by unfold dgo;omega
  have:=ih ha.2 (dgo v c) (by omega)
  omega
theorem ZCy{c:Int}(h:numeral c=true):48<=c/\c<=57:=by unfold numeral at h;exact of_decide_eq_true h
theorem ZK4{p:LI}(ha:p.all numeral=true)(hl:3<p.length)(h0:p.headD 0≠48):255<p.foldl dgo 0:=by
 match p,ha,hl,h0 with
 | a::b::c::d::r,ha,_,h0=>
  simp only[Xo,Xq]at ha;obtain⟨a1,b1,c1,d1,r1⟩:=ha;have a2:=ZCy a1;have b2:=ZCy b1;have c2:=ZCy c1;have d2:=ZCy d1;have h0':a≠48:=h0;rw[Xm,Xm,Xm,Xm]
  have hv:1000<=dgo (dgo (dgo (dgo 0 a) b) c) d:=by unfold dgo;omega
  have:=ZK3 r r1 (dgo (dgo (dgo (dgo 0 a) b) c) d) (by omega)
  omega
theorem ZCi(p:LI)(hp:∀c∈p,Pt c)(most:Int):(Zp (Zb p) 10 most).2=ZP p:=by
 rw[ZCf,ZDi.all p hp];unfold ZP
 congr 1
 cases p with
 | nil=>rfl
 | cons c r=>
  have hne:Zb (c::r)≠[]:=fun e=>by have:=(Zzt hp).1 e;cases this
  cases hb:Zb (c::r)with
  | nil=>exact absurd hb hne
  | cons x y=>rfl
theorem ZJp(p:LI)(hp:∀c∈p,Pt c):ZgB (Zb p)=match ZBB p with|none=>(0,false)|some v=>(v,true):=by
 unfold ZgB ZBB;have hn:=ZCi p hp 255
 cases ha:ZP p
 .rw[ha]at hn
  rw[ifP (Xb hn),ifP (by unfold byteBad;rw[ha];rfl)]
 .rw[ha]at hn
  have ha':p.all numeral=true/\p≠[]:=by
   unfold ZP at ha;rw[Xq]at ha
   exact⟨ha.1,fun e=>by rw[e]at ha;exact absurd ha.2 (by decide)⟩
  have hasc:∀c∈p,0<=c/\c<128:=fun c hc=>by have:=ZCy (List.all_eq_true.1 ha'.1 c hc);omega
  have hb:=ZCh p hasc
  have hlen:(Zb p).length=p.length:=by rw[hb,Xl]
  have hhead:(((Zb p).getD 0 0).toNat:Int)=48↔p.headD 0=48:=by
   rw[hb]
   cases p with
   | nil=>exact absurd rfl ha'.2
   | cons c r=>
    show((toB c).toNat:Int)=48↔c=48
    rw[ZzW (hasc c (Xa ..)).1 (hasc c (Xa ..)).2]
  obtain⟨m,hm,hm0,hr⟩:=ZMt p hp ha'.1 0 0 (Xw _) (Xb ⟨by decide,rfl⟩)
  have hne:Zb p≠[]:=fun e=>ha'.2 ((Zzt hp).1 e)
  have hnum:Zp (Zb p) 10 255=if 255<m then(256,true)else(m,true):=by unfold Zp;rw[ifN hne,hm];rfl
  by_cases hz:1<p.length/\p.headD 0=48
  .rw[ifP (Xd (Xd ⟨by rw[hlen];exact hz.1,hhead.2 hz.2⟩)),ifP (ZCO hz.1 hz.2)]
  .by_cases h3:3<p.length
   .have hbig:=ZK4 ha'.1 h3 (fun e=>hz ⟨by omega,e⟩)
    have hm2:255<m:=by rcases hr with⟨a,b⟩|⟨a,b⟩<;>omega
    rw[hnum,ifP hm2,ifP (Xd (Xb (by decide))),ifP (by unfold byteBad;rw[decide_eq_true h3];simp)]
   .rw[ZDU ha h3 hz]
    by_cases hm2:255<m
    .have:255<p.foldl dgo 0:=by rcases hr with⟨a,b⟩|⟨a,b⟩<;>omega
     rw[hnum,ifP hm2,ifP (Xd (Xb (by decide))),ifN (by decide),ifP this]
    .have:p.foldl dgo 0=m:=by rcases hr with⟨a,b⟩|⟨a,b⟩<;>omega
     rw[hnum,ifN hm2,ifN (by
      rintro(g|g|⟨g1,g2⟩)
      .cases g
      .exact hm2 g
      .exact hz ⟨by rw[<-hlen];exact g1,hhead.1 g2⟩),ifN (by decide),this,ifN hm2]
theorem ZMu:∀(ps:List LI),(∀p∈ps,∀c∈p,Pt c)->∀v:Int,d4Go v (ps.map Zb)=(Zzx ps).map fun q=>q.foldl (fun a b=>a*256+b) v:=by
 intro ps
 induction ps with
 | nil=>intro _ v;rfl
 | cons p r ih=>
  intro hp v;rw[Xt,d4Go,Zzx,ZJp p (hp p (Xa ..))]
  cases ZBB p with
  | none=>rfl
  | some b=>
   simp only[if_true]
   rw[ih (fun q hq=>hp q (Xc _ hq))]
   cases Zzx r<;>rfl
theorem ZK5(p:LI)(hp:∀c∈p,Pt c)(g:LI×Nat):((dotted p).2=false/\(Zba g (Zb p)).2=false)∨∃x y,dotted p=([x,y],true)/\Zba g (Zb p)=if(Zf5 g x).2=false then((Zf5 g x).1,false)else Zf5 (Zf5 g x).1 y:=by
 unfold Zba dotted
 have hs:=Za2 (n:=46) (t:=46) (by decide) (by decide) rfl p hp
 have hpp:∀q∈parts p [46],∀c∈q,Pt c:=fun q hq c hc=>hp c (((ZzS p [46]).2 q hq).2 c hc)
 rw[hs,Xl,ZMu _ hpp];generalize parts p [46]=ps at *
 cases hd:Zzx ps with
 | none=>
  left
  refine⟨rfl,?_⟩
  split<;>rfl
 | some q=>
  have hl:=ZDc hd;have hr:=ZDh ps q hd;rw[hl]
  match q,hr with
  | [],_=>left;exact⟨rfl,rfl⟩
  | [a],_=>left;exact⟨rfl,rfl⟩
  | [a,b],_=>left;exact⟨rfl,rfl⟩
  | [a,b,c],_=>left;exact⟨rfl,rfl⟩
  | [a,b,c,d],hr=>
   right
   have ha:=hr a (by simp)
   have hb:=hr b (by simp)
   have hc:=hr c (by simp)
   have hdd:=hr d (by simp)
   refine⟨256*a+b,256*c+d,rfl,?_⟩
   rw[ifN (by simp)]
   simp only[Option.map,Xm,List.foldl_nil]
   have e1:((((0*256+a)*256+b)*256+c)*256+d)/65536=256*a+b:=by omega
   have e2:((((0*256+a)*256+b)*256+c)*256+d)%65536=256*c+d:=by omega
   rw[e1,e2]
  | a::b::c::d::e::r,_=>
   left
   refine⟨rfl,?_⟩
   rw[ifP (by simp)]
end Go.Proofs.YtchkhibgbnhjpabGreatDoor
