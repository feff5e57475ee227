import Derived.Test.YtchkhibgbnhjpabGreatDoorT08
open List renaming flatMap_cons→Xa,cons_append→Xb,mem_cons_of_mem→Xc,getElem?_eq_getElem→Xd,map_congr_left→Xe,foldl_cons→Xf,takeWhile_cons_of_neg→Xg,dropWhile_cons_of_neg→Xh,length_cons→Xi,mem_reverse→Xj,length_append→Xk,nil_append→Xm,getElem_mem→Xn,map_map→Xo,take_append_drop→Xp,length_reverse→Xq,reverse_append→Xr,mem_cons→Xs,foldl_append→Xt,takeWhile_cons_of_pos→Xw,dropWhile_cons_of_pos→Xx,mem_map→Xy,reverse_reverse→Xz,mem_iff_getElem→XA,takeWhile_cons→XB,dropWhile_cons→XC,not_mem_nil→XD,map_flatMap→XE,mem_append→XF,map_id→XG
open Or renaming inr→Xl,inl→Xv
open UInt8 renaming toNat_inj→Xu
namespace Go.Proofs.YtchkhibgbnhjpabGreatDoor
open Go.RowKit
set_option maxHeartbeats 2000000
variable [Fl]
set_option linter.all false
def ZzV(c:UInt8):List (List UInt8)->List UInt8
 | []=>[]
 | a::r=>if r=[]then a else a++c::ZzV c r
theorem joinW_snoc(c:UInt8)(l:List LB)(a:LB):ZzV c (l++[a])=if l=[]then a else ZzV c l++c::a:=by
 induction l with
 | nil=>rfl
 | cons x r ih=>
  rw[ifN (by simp)]
  show(if r++[a]=[]then x else x++c::ZzV c (r++[a]))=_
  rw[ifN (by simp),ih]
  by_cases hr:r=[]
  .subst hr;rfl
  .rw[ifN hr]
   show _=(if r=[]then x else x++c::ZzV c r)++c::a
   rw[ifN hr]
   simp
def formB:List UInt8:=tl (Zbo 7)
def ZzP(l:List UInt8):List UInt8:=ZzV 43 ((bsplit 32 l).map fun p=>encB formB (clean p))
def writePr(p:List UInt8×List UInt8):List UInt8:=ZzP p.1++61::ZzP p.2
def ZzA(ps:List (List UInt8×List UInt8)):List UInt8:=ZzV 38 (ps.map writePr)
def formByte(b:UInt8):List UInt8:=if b=32 then [43]else ZL formB b
def Cpt(l:List UInt8):Prop:=∃p,l=Zb p/\∀c∈p,Sc c
theorem ZCn(l:LB):Cpt (clean l):=⟨Zl l,ZAB l,Za0 l⟩
theorem Cpt.clean{l:LB}(h:Cpt l):clean l=l:=by obtain⟨p,rfl,hp⟩:=h;exact Zeh p hp
theorem ZNj(b:UInt8):isB 32 b=true↔b=32:=by
 unfold isB;rw[beq_iff_eq]
 constructor
 .intro h
  exact Xu.1 (show b.toNat=(32:UInt8).toNat by show b.toNat=32;omega)
 .rintro rfl;rfl
theorem ZIt(l:LB):ZzV 43 ((bsplit 32 l).map (encB formB))=l.flatMap formByte:=by
 induction l with
 | nil=>rfl
 | cons c r ih=>
  obtain⟨p,q,hpq⟩:=ZeF 32 r;rw[Xa,<-ih]
  by_cases hc:isB 32 c=true
  .rw[show bsplit 32 (c::r)=[]::bsplit 32 r by rw[bsplit,ifP hc],hpq,formByte,ifP ((ZNj c).1 hc)]
   show(if(p::q).map (encB formB)=[]then encB formB []else encB formB []++43::ZzV 43 ((p::q).map (encB formB)))=_
   rw[ifN (by simp)]
   rfl
  .rw[show bsplit 32 (c::r)=(c::p)::q by rw[bsplit,ifN hc,hpq],hpq,formByte,ifN (fun e=>hc ((ZNj c).2 e))]
   show(if q.map (encB formB)=[]then encB formB (c::p)else encB formB (c::p)++43::ZzV 43 (q.map (encB formB)))=ZL formB c++(if q.map (encB formB)=[]then encB formB p else encB formB p++43::ZzV 43 (q.map (encB formB)))
   rw[ZCc]
   split
   .rfl
   .rw[List.append_assoc]
theorem ZAP{l:LB}(h:Cpt l):ZzP l=l.flatMap formByte:=by
 rw[<-ZIt];unfold ZzP;obtain⟨p,rfl,hp⟩:=h
 have hpt:∀c∈p,Pt c:=fun c hc=>(hp c hc).pt
 rw[Za2 (n:=32) (t:=32) (by decide) (by decide) rfl p hpt,Xo,Xo]
 congr 1
 apply Xe
 intro a ha
 show encB formB (clean (Zb a))=encB formB (Zb a)
 rw[Zeh a (fun c hc=>hp c (((ZzS p [32]).2 a ha).2 c hc))]
theorem ZFA{b x:UInt8}(h:x∈formByte b):x=43∨x=37∨((48<=x.toNat/\x.toNat<=57)∨(65<=x.toNat/\x.toNat<=70))∨(x=b/\among (b.toNat:Int) formB=false):=by
 unfold formByte at h
 split at h
 .exact Xv (by simpa using h)
 .unfold ZL at h
  split at h
  .rename_i hq
   have hb:=bb b;simp only[Xs,XD,or_false]at h;rcases h with h|h|h
   .exact Xl (Xv h)
   rotate_left
   all_goals
    subst h;exact Xl (Xl (Xv (ZCs (by omega) (by omega))))
  .rename_i hq
   have hx:x=b:=by simpa using h
   exact Xl (Xl (Xl ⟨hx,by
    cases ha:among (b.toNat:Int) formB
    .rfl
    .exact absurd (Xl (Xl ha)) hq⟩))
theorem ZLz{x:UInt8}(h:x=38∨x=61):x≠43/\x≠37/\¬((48<=x.toNat/\x.toNat<=57)∨(65<=x.toNat/\x.toNat<=70))/\among (x.toNat:Int) formB=true:=by
 rcases h with rfl|rfl
 .exact⟨by decide,by decide,by decide,by decide +kernel⟩
 .exact⟨by decide,by decide,by decide,by decide +kernel⟩
theorem ZCE{l:LB}{x:UInt8}(h:x=38∨x=61):x ∉ l.flatMap formByte:=by
 intro hm;obtain⟨b,-,hb⟩:=List.mem_flatMap.1 hm;obtain⟨h1,h2,h3,h4⟩:=ZLz h;rcases ZFA hb with g|g|g|⟨g,g2⟩
 .exact h1 g
 .exact h2 g
 .exact h3 g
 .subst g;rw[h4]at g2;cases g2
def backByte(b:UInt8):List UInt8:=if b=32 then [32]else ZL formB b
theorem plus_form(l:LB):ZBY (l.flatMap formByte)=l.flatMap backByte:=by
 unfold ZBY;rw[XE]
 congr 1
 funext b
 unfold formByte backByte
 split
 .rfl
 .have hk:∀x∈ZL formB b,plusB x=x:=by
   intro x hx;unfold plusB;rw[ifN];intro h43
   have hx43:x=43:=Xu.1 (by rw[h43];rfl)
   have hm:x∈formByte b:=by unfold formByte;rw[ifN (by assumption)];exact hx
   unfold ZL at hx
   split at hx
   .have hb:=bb b
    simp only[Xs,XD,or_false]at hx;rcases hx with h|h|h
    .rw[hx43]at h;exact absurd h (by decide)
    .have:=ZCs (n:=(b.toNat:Int)/16) (by omega) (by omega)
     rw[<-h,h43]at this
     omega
    .have:=ZCs (n:=(b.toNat:Int)%16) (by omega) (by omega)
     rw[<-h,h43]at this
     omega
   .rename_i hq
    have hxb:x=b:=by simpa using hx
    apply hq
    right;right
    rw[<-hxb,hx43]
    decide +kernel
  calc (ZL formB b).map plusB=(ZL formB b).map id:=Xe hk
   _=ZL formB b:=by simp
theorem ZJ1:∀b:UInt8,Zcg [37,toB (capital ((b.toNat:Int)/16)),toB (capital ((b.toNat:Int)%16))]=((b.toNat:Int),true):=by
 have h:∀k:Fin 256,Zcg [37,toB (capital (((UInt8.ofNat k.val).toNat:Int)/16)),toB (capital (((UInt8.ofNat k.val).toNat:Int)%16))]=(((UInt8.ofNat k.val).toNat:Int),true):=by decide +kernel
 intro b;have hb:=h ⟨b.toNat,bb b⟩;simp only[UInt8.ofNat_toNat]at hb;exact hb
theorem coded_ext(x y z:UInt8)(r:LB):Zcg (x::y::z::r)=Zcg [x,y,z]:=rfl
theorem ZHE{b:UInt8}(h:b≠37)(r:LB):(Zcg (b::r)).2=false:=by
 unfold Zcg
 split
 .rename_i c x y _ e
  simp only[List.cons.injEq]at e
  rw[ifN (fun g=>h (e.1.trans g.1))]
 .rfl
theorem ZNk(b:UInt8):toB (b.toNat:Int)=b:=by
 unfold toB
 simp
theorem ZMN(l:LB):ZD (l.flatMap backByte)=l:=by
 induction l with
 | nil=>exact Zch
 | cons b r ih=>
  rw[Xa];unfold backByte
  by_cases h32:b=32
  .rw[ifP h32]
   show ZD (32::r.flatMap backByte)=_
   rw[ZbQ,ZHE (by decide)]
   rw[ifN (by decide),h32]
   congr 1
  .rw[ifN h32]
   unfold ZL
   split
   .show ZD (37::toB (capital ((b.toNat:Int)/16))::toB (capital ((b.toNat:Int)%16))::r.flatMap backByte)=_
    rw[ZbQ,coded_ext,ZJ1];rw[ifP rfl]
    show toB (b.toNat:Int)::ZD (r.flatMap backByte)=_
    rw[ih,ZNk]
   .rename_i hq
    have hb37:b≠37:=by
     rintro rfl
     exact hq (Xl (Xl (by decide +kernel)))
    show ZD (b::r.flatMap backByte)=_
    rw[ZbQ,ZHE hb37,ifN (by decide)]
    congr 1
theorem ZB1{l:LB}(h:Cpt l):ZAA (ZzP l)=l:=by unfold ZAA;rw[ZAP h,plus_form,ZMN,h.clean]
theorem ZLA(n:Int)(t:UInt8)(ht:isB n t=true):∀ {a:LB} (b:LB),(∀x∈a,isB n x=false)->bcut (isB n) (a++t::b)=(a,b,true):=by
 intro a
 induction a with
 | nil=>intro b _;show bcut (isB n) (t::b)=_;unfold bcut;rw[ifP ht]
 | cons c r ih=>
  intro b h
  show bcut (isB n) (c::(r++t::b))=_
  unfold bcut
  rw[ifN (by rw[h c (by simp)];decide),ih b (fun x hx=>h x (Xc _ hx))]
theorem isB_not{n:Int}{t x:UInt8}(ht:(t.toNat:Int)=n)(h:x≠t):isB n x=false:=by
 unfold isB;rw[beq_eq_false_iff_ne];intro e
 exact h (Xu.1 (by omega))
def ZGw(p:List UInt8×List UInt8):Prop:=Cpt p.1/\Cpt p.2
theorem readPr_written{p:LB×LB}(h:ZGw p):ZAb (writePr p)=p:=by
 have hno:∀x∈ZzP p.1,isB 61 x=false:=by
  intro x hx;rw[ZAP h.1]at hx
  exact isB_not (t:=61) rfl (fun e=>ZCE (Xl e) (by exact hx))
 unfold ZAb writePr;rw[ZLA 61 61 rfl _ hno]
 show(ZAA (ZzP p.1),ZAA (ZzP p.2))=p
 rw[ZB1 h.1,ZB1 h.2]
theorem ZGx{n:Int}:∀ {a:LB},(∀x∈a,isB n x=false)->bsplit n a=[a]:=by
 intro a
 induction a with
 | nil=>intro _;rfl
 | cons c r ih=>
  intro h;unfold bsplit
  rw[ifN (by rw[h c (by simp)];decide),ih (fun x hx=>h x (Xc _ hx))]
theorem ZJ2{n:Int}{t:UInt8}(ht:isB n t=true):∀ {a:LB} (b:LB),(∀x∈a,isB n x=false)->bsplit n (a++t::b)=a::bsplit n b:=by
 intro a
 induction a with
 | nil=>
  intro b _
  show bsplit n (t::b)=_
  rw[bsplit,ifP ht]
 | cons c r ih=>
  intro b h
  show bsplit n (c::(r++t::b))=_
  conv=>lhs;unfold bsplit
  rw[ifN (by rw[h c (by simp)];decide),ih b (fun x hx=>h x (Xc _ hx))]
theorem ZGy{n:Int}{t:UInt8}(ht:isB n t=true):∀ {ps:List LB},ps≠[]->(∀a∈ps,∀x∈a,isB n x=false)->bsplit n (ZzV t ps)=ps:=by
 intro ps
 induction ps with
 | nil=>intro h _;exact absurd rfl h
 | cons a r ih=>
  intro _ h
  show bsplit n (if r=[]then a else a++t::ZzV t r)=_
  by_cases hr:r=[]
  .rw[ifP hr,hr]
   exact ZGx (h a (by simp))
  .rw[ifN hr,ZJ2 ht _ (h a (by simp)),ih hr (fun b hb=>h b (Xc _ hb))]
theorem ZIu{p:LB×LB}(h:ZGw p):∀x∈writePr p,isB 38 x=false:=by
 intro x hx
 refine isB_not (t:=38) rfl ?_
 rintro rfl;unfold writePr at hx;rw[ZAP h.1,ZAP h.2]at hx;rcases XF.1 hx with g|g
 .exact ZCE (Xv rfl) g
 .rcases Xs.1 g with g|g
  .exact absurd g (by decide)
  .exact ZCE (Xv rfl) g
theorem ZIv(p:LB×LB):writePr p≠[]:=by
 unfold writePr
 simp
theorem ZDz{ps:List (LB×LB)}(h:∀p∈ps,ZGw p):Zzs (ZzA ps)=ps:=by
 by_cases hp:ps=[]
 .subst hp;decide +kernel
 .unfold Zzs ZzA ZBq ZCl
  rw[ZGy (n:=38) rfl (by simpa using hp) (by
   intro a ha;obtain⟨p,hm,rfl⟩:=Xy.1 ha
   exact ZIu (h p hm)),List.filter_eq_self.2 (by
   intro a ha;obtain⟨p,-,rfl⟩:=Xy.1 ha
   cases hq:writePr p with
   | nil=>exact absurd hq (ZIv p)
   | cons _ _=>rfl),Xo]
  conv=>rhs;rw[<-XG ps]
  apply Xe
  intro p hm;exact readPr_written (h p hm)
theorem ZFB(l:LB):Cpt (ZAA l):=ZCn _
theorem ZBU(l:LB):∀p∈Zzs l,ZGw p:=by intro p hp;obtain⟨a,-,rfl⟩:=Xy.1 hp;exact⟨ZFB _,ZFB _⟩
def aheadK(k:Int->Int):List Int->List Int->Bool
 | _,[]=>false
 | [],_::_=>true
 | x::a,y::b=>if x=y then aheadK k a b else decide (k x<k y)
theorem aheadK_app(k:Int->Int)(x a b:LI):aheadK k (x++a) (x++b)=aheadK k a b:=by
 induction x with
 | nil=>rfl
 | cons c r ih=>
  show(if c=c then aheadK k (r++a) (r++b)else _)=_
  rw[ifP rfl,ih]
theorem ZFC:∀ {a b c:LI},aheadK id a b=true->aheadK id b c=true->aheadK id a c=true:=by
 intro a
 induction a with
 | nil=>
  intro b c h1 h2
  cases c with
  | nil=>cases b<;>cases h2
  | cons z c=>rfl
 | cons x a ih=>
  intro b c h1 h2
  cases b with
  | nil=>cases h1
  | cons y b=>
   cases c with
   | nil=>cases h2
   | cons z c=>
    simp only[aheadK,id]at *
    by_cases e1:x=y
    .subst e1
     rw[ifP rfl]at h1
     by_cases e2:x=z
     .rw[ifP e2]at h2 ⊢
      exact ih h1 h2
     .rw[ifN e2]at h2 ⊢
      exact h2
    .rw[ifN e1]at h1
     have h1:=of_decide_eq_true h1
     by_cases e2:y=z
     .subst e2
      rw[ifN e1];exact decide_eq_true h1
     .rw[ifN e2]at h2
      have h2:=of_decide_eq_true h2
      rw[ifN (by omega)]
      exact decide_eq_true (by omega)
theorem ZIw:∀ {a b c:LI},aheadK id a c=true->aheadK id b c=false->aheadK id a b=true:=by
 intro a
 induction a with
 | nil=>
  intro b c h1 h2
  cases b with
  | nil=>rw[h1]at h2;cases h2
  | cons y b=>rfl
 | cons x a ih=>
  intro b c h1 h2
  cases c with
  | nil=>cases h1
  | cons z c=>
   cases b with
   | nil=>cases h2
   | cons y b=>
    simp only[aheadK,id]at *
    by_cases e1:x=z
    .subst e1
     rw[ifP rfl]at h1
     by_cases e2:y=x
     .subst e2
      rw[ifP rfl]at h2 ⊢;exact ih h1 h2
     .rw[ifN e2]at h2
      have h2:=of_decide_eq_false h2
      rw[ifN (fun e=>e2 e.symm)]
      exact decide_eq_true (by omega)
    .rw[ifN e1]at h1
     have h1:=of_decide_eq_true h1
     by_cases e2:y=z
     .subst e2
      rw[ifN e1];exact decide_eq_true h1
     .rw[ifN e2]at h2
      have h2:=of_decide_eq_false h2
      rw[ifN (by omega)]
      exact decide_eq_true (by omega)
def ZAW(c:Int):Int:=if 240<=c then c-2 else if 238<=c then c+5 else c
def ZA6(c:Int):List Int:=if c<65536 then [c]else [55296+(c-65536)/1024,56320+c%1024]
def ZzY(p:List Int):List Int:=p.flatMap ZA6
theorem ZGz(l:LI)(c:Int):ZzY (l++[c])=ZzY l++ZA6 c:=by simp[ZzY]
theorem ZIx(l:LI):(ZzY l).length<=2*l.length:=by
 induction l with
 | nil=>simp[ZzY]
 | cons c l ih=>
  have h:(ZA6 c).length<=2:=by unfold ZA6;split<;>simp
  simp only[ZzY,Xa,Xk,Xi]at *
  omega
theorem ZIy{c d:Int}(hc:Sc c)(hd:Sc d)(hne:c≠d)(a b x y:LI):aheadK ZAW (utf c++a) (utf d++b)=aheadK id (ZA6 c++x) (ZA6 d++y):=by
 obtain⟨c0,c1,c2⟩:=hc;obtain⟨d0,d1,d2⟩:=hd
 have e:aheadK id (ZA6 c++x) (ZA6 d++y)=decide (if c<65536 then(if d<65536 then c<d else c<55296)else(if d<65536 then 57343<d else c<d)):=by
  unfold ZA6
  by_cases k1:c<65536
  .by_cases k2:d<65536
   .simp only[ifP k1,ifP k2,Xb,aheadK,ifN hne,id]
   .simp only[ifP k1,ifN k2,Xb,aheadK,id]
    rw[ifN (by omega),decide_eq_decide]
    omega
  .by_cases k2:d<65536
   .simp only[ifN k1,ifP k2,Xb,aheadK,id]
    rw[ifN (by omega),decide_eq_decide]
    omega
   .simp only[ifN k1,ifN k2,Xb,aheadK,id]
    by_cases k3:55296+(c-65536)/1024=55296+(d-65536)/1024
    .rw[ifP k3,ifN (by omega),decide_eq_decide]
     omega
    .rw[ifN k3,decide_eq_decide]
     omega
 rw[e];clear e
 by_cases a1:c<128
 .have u1:utf c=[c]:=by unfold utf;rw[ifP a1]
  by_cases b1:d<128
  .have u2:utf d=[d]:=by unfold utf;rw[ifP b1]
   rw[u1,u2];simp only[Xb,aheadK,ifN hne]
   rw[decide_eq_decide,ifP (by omega),ifP (by omega)]
   unfold ZAW
   rw[ifN (by omega),ifN (by omega),ifN (by omega),ifN (by omega)]
  .have u2:∃z r,utf d=z::r/\192<=z:=by
    unfold utf;rw[ifN b1]
    split
    .exact⟨_,_,rfl,by omega⟩
    .split
     .exact⟨_,_,rfl,by omega⟩
     .exact⟨_,_,rfl,by omega⟩
   obtain⟨z,r,u2,hz⟩:=u2;rw[u1,u2];simp only[Xb,aheadK]
   rw[ifN (by omega),decide_eq_decide]
   unfold ZAW
   rw[ifN (show ¬240<=c by omega),ifN (show ¬238<=c by omega),ifP (show c<65536 by omega)]
   split<;>split<;>try split
   all_goals omega
 .by_cases b1:d<128
  .have u2:utf d=[d]:=by unfold utf;rw[ifP b1]
   have u1:∃z r,utf c=z::r/\192<=z:=by
    unfold utf;rw[ifN a1]
    split
    .exact⟨_,_,rfl,by omega⟩
    .split
     .exact⟨_,_,rfl,by omega⟩
     .exact⟨_,_,rfl,by omega⟩
   obtain⟨z,r,u1,hz⟩:=u1;rw[u1,u2];simp only[Xb,aheadK]
   rw[ifN (by omega),decide_eq_decide]
   unfold ZAW
   rw[ifN (show ¬240<=d by omega),ifN (show ¬238<=d by omega),ifP (show d<65536 by omega),ifP (show d<65536 by omega)]
   split<;>split<;>try split
   all_goals omega
  .by_cases a2:c<2048
   focus
    have u1:utf c=[192+c/64,128+c%64]:=by unfold utf;rw[ifN a1,ifP a2]
    by_cases b2:d<2048
    focus
     have u2:utf d=[192+d/64,128+d%64]:=by unfold utf;rw[ifN b1,ifP b2]
     rw[u1,u2];simp only[Xb,Xm,aheadK]
     simp only[ifP (show c<65536 by omega),ifP (show d<65536 by omega)]
     by_cases k:192+c/64=192+d/64
     focus
      rw[ifP k,ifN (by omega),decide_eq_decide]
     rotate_left
     focus
      rw[ifN k,decide_eq_decide]
    rotate_left 2
    .have u2:∃z r,utf d=z::r/\224<=z:=by
      unfold utf;rw[ifN b1,ifN b2]
      split
      .exact⟨_,_,rfl,by omega⟩
      .exact⟨_,_,rfl,by omega⟩
     obtain⟨z,r,u2,hz⟩:=u2;rw[u1,u2];simp only[Xb,aheadK]
     rw[ifN (by omega),decide_eq_decide,ifP (show c<65536 by omega)]
     unfold ZAW
     rw[ifN (show ¬240<=192+c/64 by omega),ifN (show ¬238<=192+c/64 by omega)]
     split<;>split<;>try split
     all_goals omega
   rotate_left 2
   focus
    by_cases b2:d<2048
    .have u2:utf d=[192+d/64,128+d%64]:=by unfold utf;rw[ifN b1,ifP b2]
     have u1:∃z r,utf c=z::r/\224<=z:=by
      unfold utf;rw[ifN a1,ifN a2]
      split
      .exact⟨_,_,rfl,by omega⟩
      .exact⟨_,_,rfl,by omega⟩
     obtain⟨z,r,u1,hz⟩:=u1;rw[u1,u2];simp only[Xb,aheadK]
     rw[ifN (by omega),decide_eq_decide,ifP (show d<65536 by omega),ifP (show d<65536 by omega)]
     unfold ZAW
     rw[ifN (show ¬240<=192+d/64 by omega),ifN (show ¬238<=192+d/64 by omega)]
     split<;>split<;>try split
     all_goals omega
    focus
     by_cases a3:c<65536
     focus
      have u1:utf c=[224+c/4096,128+c/64%64,128+c%64]:=by unfold utf;rw[ifN a1,ifN a2,ifP a3]
      by_cases b3:d<65536
      focus
       have u2:utf d=[224+d/4096,128+d/64%64,128+d%64]:=by unfold utf;rw[ifN b1,ifN b2,ifP b3]
       rw[u1,u2];simp only[Xb,Xm,aheadK];simp only[ifP a3,ifP b3]
       by_cases k:224+c/4096=224+d/4096
       focus
        rw[ifP k]
        by_cases k2:128+c/64%64=128+d/64%64
        focus
         rw[ifP k2,ifN (by omega),decide_eq_decide]
        rotate_left
        focus
         rw[ifN k2,decide_eq_decide]
       rotate_left 2
       .rw[ifN k,decide_eq_decide]
        unfold ZAW
        rw[ifN (show ¬240<=224+c/4096 by omega),ifN (show ¬240<=224+d/4096 by omega)]
        split<;>split<;>omega
      rotate_left 2
      .have u2:utf d=[240+d/262144,128+d/4096%64,128+d/64%64,128+d%64]:=by unfold utf;rw[ifN b1,ifN b2,ifN b3]
       rw[u1,u2];simp only[Xb,Xm,aheadK];simp only[ifP a3,ifN b3]
       rw[ifN (by omega),decide_eq_decide]
       unfold ZAW
       rw[ifN (show ¬240<=224+c/4096 by omega),ifP (show 240<=240+d/262144 by omega)]
       split<;>omega
     rotate_left 2
     .have u1:utf c=[240+c/262144,128+c/4096%64,128+c/64%64,128+c%64]:=by unfold utf;rw[ifN a1,ifN a2,ifN a3]
      by_cases b3:d<65536
      .have u2:utf d=[224+d/4096,128+d/64%64,128+d%64]:=by unfold utf;rw[ifN b1,ifN b2,ifP b3]
       rw[u1,u2];simp only[Xb,Xm,aheadK];simp only[ifN a3,ifP b3]
       rw[ifN (by omega),decide_eq_decide]
       unfold ZAW
       rw[ifP (show 240<=240+c/262144 by omega),ifN (show ¬240<=224+d/4096 by omega)]
       split<;>omega
      .have u2:utf d=[240+d/262144,128+d/4096%64,128+d/64%64,128+d%64]:=by unfold utf;rw[ifN b1,ifN b2,ifN b3]
       rw[u1,u2];simp only[Xb,Xm,aheadK];simp only[ifN a3,ifN b3]
       have r0:∀z:Int,z<192->ZAW z=z:=fun z hz=>by unfold ZAW;rw[ifN (by omega),ifN (by omega)]
       by_cases k:240+c/262144=240+d/262144
       .rw[ifP k]
        by_cases k2:128+c/4096%64=128+d/4096%64
        .rw[ifP k2]
         by_cases k3:128+c/64%64=128+d/64%64
         .rw[ifP k3,ifN (by omega),decide_eq_decide,r0 _ (by omega),r0 _ (by omega)]
          omega
         .rw[ifN k3,decide_eq_decide,r0 _ (by omega),r0 _ (by omega)]
          omega
        .rw[ifN k2,decide_eq_decide,r0 _ (by omega),r0 _ (by omega)]
         omega
       .rw[ifN k,decide_eq_decide]
        unfold ZAW
        rw[ifP (by omega),ifP (by omega)]
        omega
   all_goals
    unfold ZAW
    rw[ifN (by omega),ifN (by omega),ifN (by omega),ifN (by omega)]
    omega
theorem ZHF(c:Int):∃x r,utf c=x::r:=by
 unfold utf
 split
 .exact⟨_,_,rfl⟩
 .split
  .exact⟨_,_,rfl⟩
  .split
   .exact⟨_,_,rfl⟩
   .exact⟨_,_,rfl⟩
theorem ZDA(c:Int):∃x r,ZA6 c=x::r:=by
 unfold ZA6
 split
 .exact⟨_,_,rfl⟩
 .exact⟨_,_,rfl⟩
theorem ZIz:∀ {p q:LI},(∀c∈p,Sc c)->(∀c∈q,Sc c)->aheadK ZAW (p.flatMap utf) (q.flatMap utf)=aheadK id (ZzY p) (ZzY q):=by
 intro p
 induction p with
 | nil=>
  intro q _ _
  cases q with
  | nil=>rfl
  | cons d q=>
   obtain⟨x,r,hx⟩:=ZHF d;obtain⟨y,s,hy⟩:=ZDA d;unfold ZzY;rw[Xa,Xa,hx,hy]
   rfl
 | cons c p ih=>
  intro q hp hq;obtain⟨x,r,hx⟩:=ZHF c;obtain⟨y,s,hy⟩:=ZDA c
  cases q with
  | nil=>
   unfold ZzY;rw[Xa,Xa,hx,hy]
   rfl
  | cons d q=>
   by_cases e:c=d
   .subst e
    unfold ZzY;rw[Xa,Xa,Xa,Xa,aheadK_app,aheadK_app]
    exact ih (fun z hz=>hp z (Xc _ hz)) (fun z hz=>hq z (Xc _ hz))
   .unfold ZzY
    rw[Xa,Xa,Xa,Xa]
    exact ZIy (hp c (by simp)) (hq d (by simp)) e _ _ _ _
def Zz8(a b:List UInt8):Bool:=aheadK ZAW (a.map fun x=>(x.toNat:Int)) (b.map fun x=>(x.toNat:Int))
theorem ZEg{p:LI}(h:∀c∈p,Sc c):(Zb p).map (fun x=>(x.toNat:Int))=p.flatMap utf:=by
 unfold Zb;rw[XE]
 induction p with
 | nil=>rfl
 | cons c p ih=>
  rw[Xa,Xa,ih (fun z hz=>h z (Xc _ hz)),Xo]
  congr 1
  conv=>rhs;rw[<-XG (utf c)]
  apply Xe
  intro x hx
  have hb:=ZhP (h c (by simp)).pt hx
  exact Zbe hb.1 hb.2
def ZHG(a b:List UInt8):Bool:=aheadK id (ZzY (Zl a)) (ZzY (Zl b))
theorem ZLB{a b:LB}(ha:Cpt a)(hb:Cpt b):Zz8 a b=ZHG a b:=by
 have ea:a=Zb (Zl a):=by rw[<-ZAB,ha.clean]
 have eb:b=Zb (Zl b):=by rw[<-ZAB,hb.clean]
 unfold ZHG;rw[<-ZIz (Za0 a) (Za0 b),<-ZEg (Za0 a),<-ZEg (Za0 b),<-ea,<-eb]
 rfl
def insP{α:Type}(lt:α->α->Bool)(acc:List α)(x:α):List α:=(acc.reverse.dropWhile (lt x)).reverse++x::(acc.reverse.takeWhile (lt x)).reverse
def ZzB{α:Type}(lt:α->α->Bool)(l:List α):List α:=l.foldl (insP lt) []
theorem ZLC{α:Type}(lt:α->α->Bool)(acc:List α)(x:α):(insP lt acc x).length=acc.length+1:=by
 unfold insP;rw[Xk,Xi,Xq,Xq];have h:=congrArg List.length (List.takeWhile_append_dropWhile (p:=lt x) (l:=acc.reverse));rw[Xk,Xq]at h
 omega
theorem ZJ3{α:Type}(lt:α->α->Bool)(l:List α):∀acc:List α,(l.foldl (insP lt) acc).length=acc.length+l.length:=by
 induction l with
 | nil=>intro acc;simp
 | cons x r ih=>intro acc;rw[Xf,ih,ZLC,Xi];omega
theorem sortI_len{α:Type}(lt:α->α->Bool)(l:List α):(ZzB lt l).length=l.length:=by
 unfold ZzB;rw[ZJ3]
 simp
theorem ZIA{α:Type}(lt:α->α->Bool)(l:List α)(x:α):ZzB lt (l++[x])=insP lt (ZzB lt l) x:=by
 unfold ZzB;rw[Xt]
 rfl
theorem ZGA{α:Type}{lt:α->α->Bool}{S:List α}{x:α}{k:Nat}(hk:k<=S.length)(h1:∀y∈S.drop k,lt x y=true)(h2:∀h:0<k,lt x (S[k-1]'(by omega))=false):insP lt S x=S.take k++x::S.drop k:=by
 have e:S.reverse=(S.drop k).reverse++(S.take k).reverse:=by rw[<-Xr,Xp]
 have ht:S.reverse.takeWhile (lt x)=(S.drop k).reverse/\S.reverse.dropWhile (lt x)=(S.take k).reverse:=by
  rw[e]
  have hall:∀y∈(S.drop k).reverse,lt x y=true:=fun y hy=>h1 y (Xj.1 hy)
  have hno:(S.take k).reverse.takeWhile (lt x)=[]/\(S.take k).reverse.dropWhile (lt x)=(S.take k).reverse:=by
   rcases Nat.eq_zero_or_pos k with h0|h0
   .subst h0;exact⟨rfl,rfl⟩
   .have hs:S.take k=S.take (k-1)++[S[k-1]'(by omega)]:=by
     have h:=List.take_succ_eq_append_getElem (l:=S) (i:=k-1) (by omega)
     rw[show k-1+1=k by omega]at h
     exact h
    rw[hs,Xr]
    show List.takeWhile (lt x) ((S[k-1]'(by omega))::(S.take (k-1)).reverse)=[]/\List.dropWhile (lt x) ((S[k-1]'(by omega))::(S.take (k-1)).reverse)=_
    rw[Xg (by rw[h2 h0];decide),Xh (by rw[h2 h0];decide)]
    exact⟨rfl,rfl⟩
  rw[List.takeWhile_append_of_pos hall,List.dropWhile_append_of_pos hall,hno.1,hno.2,List.append_nil];exact⟨rfl,rfl⟩
 unfold insP;rw[ht.1,ht.2,Xz,Xz]
theorem ZIB{α:Type}{lt:α->α->Bool}{S:List α}{m:α}(h:∀y∈S,lt m y=true):insP lt S m=m::S:=by
 have:=ZGA (k:=0) (lt:=lt) (S:=S) (x:=m) (Nat.zero_le _) (by simpa using h) (fun h=>absurd h (by omega))
 simpa using this
theorem ZGB{α:Type}{lt:α->α->Bool}(S:List α){m x:α}(h:lt x m=false):insP lt (m::S) x=m::insP lt S x:=by
 unfold insP;rw[List.reverse_cons]
 have key:∀(t:List α),(t++[m]).takeWhile (lt x)=t.takeWhile (lt x)/\(t++[m]).dropWhile (lt x)=t.dropWhile (lt x)++[m]:=by
  intro t
  induction t with
  | nil=>
   constructor
   .show List.takeWhile (lt x) [m]=[]
    rw[Xg (by rw[h];decide)]
   .show List.dropWhile (lt x) [m]=[m]
    rw[Xh (by rw[h];decide)]
  | cons y t ih=>
   cases hy:lt x y
   .constructor
    .show List.takeWhile (lt x) (y::(t++[m]))=_
     rw[Xg (by rw[hy];decide),Xg (by rw[hy];decide)]
    .show List.dropWhile (lt x) (y::(t++[m]))=_
     rw[Xh (by rw[hy];decide),Xh (by rw[hy];decide)]
     rfl
   .constructor
    .show List.takeWhile (lt x) (y::(t++[m]))=_
     rw[Xw hy,Xw hy,ih.1]
    .show List.dropWhile (lt x) (y::(t++[m]))=_
     rw[Xx hy,Xx hy,ih.2]
 obtain⟨k1,k2⟩:=key S.reverse;rw[k1,k2,Xr]
 rfl
theorem ZFD{α:Type}{lt:α->α->Bool}{m:α}(b:List α)(h:∀x∈b,lt x m=false):∀S:List α,b.foldl (insP lt) (m::S)=m::b.foldl (insP lt) S:=by
 induction b with
 | nil=>intro S;rfl
 | cons x r ih=>
  intro S
  rw[Xf,Xf,ZGB S (h x (by simp)),ih (fun y hy=>h y (Xc _ hy))]
theorem ZHH{α:Type}{lt:α->α->Bool}{S:List α}{x y:α}(h:y∈insP lt S x):y=x∨y∈S:=by
 unfold insP at h;rcases XF.1 h with g|g
 .exact Xl (Xj.1 ((List.dropWhile_sublist _).subset (Xj.1 g)))
 .rcases Xs.1 g with g|g
  .exact Xv g
  .exact Xl (Xj.1 ((List.takeWhile_sublist _).subset (Xj.1 g)))
theorem ZFE{α:Type}{lt:α->α->Bool}{y:α}(a:List α):∀S:List α,y∈a.foldl (insP lt) S->y∈S∨y∈a:=by
 induction a with
 | nil=>intro S h;exact Xv h
 | cons x r ih=>
  intro S h;rw[Xf]at h;rcases ih _ h with g|g
  .rcases ZHH g with g|g
   .exact Xl (by rw[g];simp)
   .exact Xv g
  .exact Xl (Xc _ g)
theorem ZDB{α:Type}{lt:α->α->Bool}{y:α}{l:List α}(h:y∈ZzB lt l):y∈l:=by
 rcases ZFE l [] h with g|g
 .cases g
 .exact g
theorem ZGC{α:Type}{lt:α->α->Bool}{a b:List α}{m:α}(h1:∀y∈a,lt m y=true)(h2:∀x∈b,lt x m=false):ZzB lt (a++m::b)=m::ZzB lt (a++b):=by
 unfold ZzB
 rw[Xt,Xf,Xt,ZIB (fun y hy=>h1 y (by
  rcases ZFE a [] hy with g|g
  .cases g
  .exact g)),ZFD b h2]
def ZMO{α:Type}(lt:α->α->Bool)(l:List α)(k i:Nat):Prop:=
 k<i/\i<=l.length/\∀(m:α),l[k]?=some m->(∀j y,l[j]?=some y->j<k->lt m y=true)/\(∀j y,l[j]?=some y->k<j->j<i->lt y m=false)
theorem ZIC{α:Type}(lt:α->α->Bool){l:List α}(h:0<l.length):ZMO lt l 0 1:=by refine⟨by omega,h,fun m _=>⟨fun j y _ hj=>absurd hj (by omega),fun j y _ h1 h2=>absurd h1 (by omega)⟩⟩
theorem ZJ4{α:Type}{lt:α->α->Bool}{l:List α}{k i:Nat}(h:ZMO lt l k i)(hi:i<l.length)(hk:k<l.length)(hl:lt l[i] l[k]=false):ZMO lt l k (i+1):=by
 obtain⟨h1,h2,h3⟩:=h
 refine⟨by omega,by omega,fun m hm=>?_⟩
 have hm':m=l[k]:=by rw[Xd hk]at hm;exact(Option.some.inj hm).symm
 obtain⟨g1,g2⟩:=h3 m hm
 refine⟨g1,fun j y hy hkj hj=>?_⟩
 by_cases e:j=i
 .subst e
  rw[Xd hi]at hy;rw[<-Option.some.inj hy,hm'];exact hl
 .exact g2 j y hy hkj (by omega)
theorem ZJ5{α:Type}{lt:α->α->Bool}{l:List α}{k i:Nat}(h:ZMO lt l k i)(hi:i<l.length)(hk:k<l.length)(hl:lt l[i] l[k]=true)
  (ht:∀a b c,a∈l->b∈l->c∈l->lt a b=true->lt b c=true->lt a c=true) (hn:∀a b c,a∈l->b∈l->c∈l->lt a c=true->lt b c=false->lt a b=true):ZMO lt l i (i+1):=by
 obtain⟨h1,h2,h3⟩:=h
 refine⟨by omega,by omega,fun m hm=>⟨fun j y hy hj=>?_,fun j y hy h5 h6=>absurd h5 (by omega)⟩⟩
 have hm':m=l[i]:=by rw[Xd hi]at hm;exact(Option.some.inj hm).symm
 obtain⟨g1,g2⟩:=h3 l[k] (Xd hk);have my:y∈l:=List.mem_of_getElem? hy;rw[hm'];rcases Nat.lt_trichotomy j k with g|g|g
 .exact ht _ _ _ (Xn hi) (Xn hk) my hl (g1 j y hy g)
 .subst g
  rw[Xd hk]at hy;rw[<-Option.some.inj hy];exact hl
 .exact hn _ _ _ (Xn hi) my (Xn hk) hl (g2 j y hy g hj)
theorem ZJ6{α:Type}{lt:α->α->Bool}{l:List α}{k:Nat}(h:ZMO lt l k l.length)(hk:k<l.length):ZzB lt l=l[k]::ZzB lt (l.take k++l.drop (k+1)):=by
 obtain⟨h1,h2,h3⟩:=h;obtain⟨g1,g2⟩:=h3 l[k] (Xd hk)
 have e:l=l.take k++l[k]::l.drop (k+1):=by rw[<-List.drop_eq_getElem_cons hk,Xp]
 have hs:=ZGC (lt:=lt) (a:=l.take k) (b:=l.drop (k+1)) (m:=l[k]) (fun y hy=>by
  obtain⟨j,hj,hy⟩:=XA.1 hy;rw[List.length_take]at hj;rw[List.getElem_take]at hy
  exact g1 j y (by rw[Xd (by omega),hy]) (by omega)) (fun y hy=>by
  obtain⟨j,hj,hy⟩:=XA.1 hy;rw[List.length_drop]at hj;rw[List.getElem_drop]at hy
  exact g2 (k+1+j) y (by rw[Xd (by omega),hy]) (by omega) (by omega))
 rw[<-hs,<-e]
def ltB(p q:List UInt8×List UInt8):Bool:=Zz8 p.1 q.1
def ltW(p q:List UInt8×List UInt8):Bool:=ZHG p.1 q.1
theorem ZID{α:Type}{f g:α->α->Bool}{S:List α}{x:α}(h:∀y∈S,f x y=g x y):insP f S x=insP g S x:=by
 have key:∀t:List α,(∀y∈t,f x y=g x y)->t.takeWhile (f x)=t.takeWhile (g x)/\t.dropWhile (f x)=t.dropWhile (g x):=by
  intro t
  induction t with
  | nil=>intro _;exact⟨rfl,rfl⟩
  | cons y t ih=>
   intro ht
   obtain⟨i1,i2⟩:=ih (fun z hz=>ht z (Xc _ hz))
   rw[XB,XB,XC,XC,ht y (by simp),i1,i2]
   exact⟨rfl,rfl⟩
 obtain⟨k1,k2⟩:=key S.reverse (fun y hy=>h y (Xj.1 hy))
 unfold insP;rw[k1,k2]
theorem ZJ7{ps:List (LB×LB)}(h:∀p∈ps,ZGw p):ZzB ltB ps=ZzB ltW ps:=by
 unfold ZzB
 have key:∀(l S:List (LB×LB)),(∀p∈l,ZGw p)->(∀p∈S,ZGw p)->l.foldl (insP ltB) S=l.foldl (insP ltW) S:=by
  intro l
  induction l with
  | nil=>intro S _ _;rfl
  | cons x r ih=>
   intro S hl hS
   have hx:=hl x (by simp)
   rw[Xf,Xf,ZID (f:=ltB) (g:=ltW) (fun y hy=>ZLB hx.1 (hS y hy).1)]
   refine ih _ (fun p hp=>hl p (Xc _ hp)) (fun p hp=>?_)
   rcases ZHH hp with g|g
   .rw[g];exact hx
   .exact hS p g
 exact key ps [] h (fun p hp=>by cases hp)
def formR:List UInt8:=[32,34,35,60,62,63,94,96,123,125,47,58,59,61,64,91,92,93,124,36,37,38,43,44,33,39,40,41,126]
def ZzT(l:List UInt8):List UInt8:=ZzV 43 ((parts (Zl l) [32]).map fun a=>encoded a formR)
def pairTextR(p:List UInt8×List UInt8):List UInt8:=ZzT p.1++61::ZzT p.2
def ZBx(ps:List (List UInt8×List UInt8)):List UInt8:=ZzV 38 (ps.map pairTextR)
theorem ZFF{c:Int}{a b:LB}(h:∀x∈a,x∈b)(k:among c a=true):among c b=true:=by unfold among at *;rw[List.any_eq_true]at *;obtain⟨x,hx,e⟩:=k;exact⟨x,h x hx,e⟩
theorem ZJ8(c:Int):among c formB=among c formR:=by
 have h1:∀x∈formB,x∈formR:=by decide +kernel
 have h2:∀x∈formR,x∈formB:=by decide +kernel
 rw[Bool.eq_iff_iff];exact⟨ZFF h1,ZFF h2⟩
theorem ZCX{l:LB}(h:Cpt l):ZzT l=ZzP l:=by
 have e:l=Zb (Zl l):=by rw[<-ZAB,h.clean]
 have hsc:=Za0 l
 have hpt:∀c∈Zl l,Pt c:=fun c hc=>(hsc c hc).pt
 unfold ZzT ZzP
 conv=>rhs;rw[e]
 rw[Za2 (n:=32) (t:=32) (by decide) (by decide) rfl _ hpt,Xo]
 congr 1
 apply Xe
 intro a ha
 show encoded a formR=encB formB (clean (Zb a))
 rw[ZaW formB a (fun c hc=>hsc c (((ZzS (Zl l) [32]).2 a ha).2 c hc)),Zz5 ZJ8]
theorem ZCF{ps:List (LB×LB)}(h:∀p∈ps,ZGw p):ZBx ps=ZzA ps:=by
 unfold ZBx ZzA
 congr 1
 apply Xe
 intro p hp;unfold pairTextR writePr;rw[ZCX (h p hp).1,ZCX (h p hp).2]
def ZCG(ls:List (List UInt8)):Nat:=(ls.map fun x=>x.length+1).sum
theorem sumL_cons(a:LB)(r:List LB):ZCG (a::r)=a.length+1+ZCG r:=by simp[ZCG]
theorem ZEO(a b:List LB):ZCG (a++b)=ZCG a+ZCG b:=by simp[ZCG]
theorem ZJ9(c:UInt8):∀ {ls:List LB},ls≠[]->(ZzV c ls).length+1=ZCG ls:=by
 intro ls
 induction ls with
 | nil=>intro h;exact absurd rfl h
 | cons a r ih=>
  intro _;rw[sumL_cons]
  show(if r=[]then a else a++c::ZzV c r).length+1=_
  by_cases hr:r=[]
  .rw[ifP hr,hr];rfl
  .rw[ifN hr,Xk,Xi,<-ih hr];omega
theorem ZAu(c:UInt8)(ls:List LB):(ZzV c ls).length<=ZCG ls:=by
 by_cases h:ls=[]
 .subst h;exact Nat.le_refl _
 .have:=ZJ9 c h;omega
theorem ZFG(ls:List LB)(k:Nat):ZCG (ls.take k)<=ZCG ls:=by
 conv=>rhs;rw[<-Xp k ls,ZEO]
 omega
theorem ZEh(n:Int)(l:LB):ZCG (bsplit n l)=l.length+1:=by
 induction l with
 | nil=>rfl
 | cons c r ih=>
  obtain⟨p,q,hpq⟩:=ZeF n r
  by_cases hc:isB n c=true
  .rw[show bsplit n (c::r)=[]::bsplit n r by rw[bsplit,ifP hc],sumL_cons,ih];simp;omega
  .rw[show bsplit n (c::r)=(c::p)::q by rw[bsplit,ifN hc,hpq],sumL_cons]
   rw[hpq,sumL_cons]at ih;simp only[Xi]
   omega
theorem ZLD(f:LB->LB)(h:∀x,(f x).length<=9*x.length)(ls:List LB):ZCG (ls.map f)<=9*ZCG ls:=by
 induction ls with
 | nil=>exact Nat.zero_le _
 | cons a r ih=>
  rw[List.map_cons,sumL_cons,sumL_cons];have:=h a
  omega
theorem ZCH(l:LB):(encB formB (clean l)).length<=9*l.length:=ZNy formB l
theorem ZFH(l:LB):ZCG ((bsplit 32 l).map fun p=>encB formB (clean p))<=9*l.length+9:=by
 have h:=ZLD _ ZCH (bsplit 32 l);rw[ZEh]at h
 omega
theorem ZBs(l:LB):(ZzP l).length<=9*l.length+9:=Nat.le_trans (ZAu _ _) (ZFH l)
theorem ZB9(p:LB×LB):(writePr p).length<=9*(p.1.length+p.2.length)+19:=by
 unfold writePr;rw[Xk,Xi];have h1:=ZBs p.1;have h2:=ZBs p.2
 omega
end Go.Proofs.YtchkhibgbnhjpabGreatDoor
