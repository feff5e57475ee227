import Derived.Test.YtchkhibgbnhjpabGreatDoorR33
open List renaming flatMap_cons→Xa,cons_append→Xb,mem_cons_of_mem→Xc,getElem?_eq_getElem→Xd,map_congr_left→Xe,foldl_cons→Xf,takeWhile_cons_of_neg→Xg,dropWhile_cons_of_neg→Xh,length_cons→Xi,mem_reverse→Xj,length_append→Xk,nil_append→Xl,getElem_mem→Xm,map_map→Xn,take_append_drop→Xo,length_reverse→Xp,reverse_append→Xq,mem_cons→Xr,foldl_append→Xs,takeWhile_cons_of_pos→Xu,dropWhile_cons_of_pos→Xv,mem_map→Xw,reverse_reverse→Xx,mem_iff_getElem→Xy,takeWhile_cons→Xz,dropWhile_cons→XA,not_mem_nil→XB,map_flatMap→XC,mem_append→XD,map_id→XE
open UInt8 renaming toNat_inj→Xt
namespace Go.Proofs.YtchkhibgbnhjpabGreatDoor
open Go.RowKit
set_option maxHeartbeats 2000000
def Za9(c:UInt8):List (List UInt8)→List UInt8
 | []=>[]
 | a::r=>if r=[]then a else a++c::Za9 c r
theorem joinW_snoc(c:UInt8)(l:List LB)(a:LB):Za9 c (l++[a])=if l=[]then a else Za9 c l++c::a:=by
 induction l with
 | nil=>rfl
 | cons x r ih=>
  rw[if_neg (by simp)]
  show(if r++[a]=[]then x else x++c::Za9 c (r++[a]))=_
  rw[if_neg (by simp),ih]
  by_cases hr:r=[]
  ·subst hr;rfl
  ·rw[if_neg hr]
   show _=(if r=[]then x else x++c::Za9 c r)++c::a
   rw[if_neg hr]
   simp
def formB:List UInt8:=tl (ZaD 7)
def ZaL(l:List UInt8):List UInt8:=Za9 43 ((bsplit 32 l).map fun p=>encB formB (clean p))
def writePr(p:List UInt8×List UInt8):List UInt8:=ZaL p.1++61::ZaL p.2
def Zam(ps:List (List UInt8×List UInt8)):List UInt8:=Za9 38 (ps.map writePr)
def formByte(b:UInt8):List UInt8:=if b=32 then [43]else ZE formB b
def Cpt(l:List UInt8):Prop:=∃p,l=Zb p∧∀c∈p,Sc c
theorem ZwZ(l:LB):Cpt (clean l):=⟨Zk l,ZcB l,Za3 l⟩
theorem Cpt.clean{l:LB}(h:Cpt l):clean l=l:=by obtain⟨p,rfl,hp⟩:=h;exact Zeb p hp
theorem Zzn(b:UInt8):isB 32 b=true↔b=32:=by
 unfold isB;rw[beq_iff_eq]
 constructor
 ·intro h
  exact Xt.1 (show b.toNat=(32:UInt8).toNat by show b.toNat=32;omega)
 ·rintro rfl;rfl
theorem Zrv(l:LB):Za9 43 ((bsplit 32 l).map (encB formB))=l.flatMap formByte:=by
 induction l with
 | nil=>rfl
 | cons c r ih=>
  obtain⟨p,q,hpq⟩:=Zc0 32 r;rw[Xa,←ih]
  by_cases hc:isB 32 c=true
  ·rw[show bsplit 32 (c::r)=[]::bsplit 32 r by rw[bsplit,if_pos hc],hpq,formByte,if_pos ((Zzn c).1 hc)]
   show(if(p::q).map (encB formB)=[]then encB formB []else encB formB []++43::Za9 43 ((p::q).map (encB formB)))=_
   rw[if_neg (by simp)]
   rfl
  ·rw[show bsplit 32 (c::r)=(c::p)::q by rw[bsplit,if_neg hc,hpq],hpq,formByte,if_neg (fun e=>hc ((Zzn c).2 e))]
   show(if q.map (encB formB)=[]then encB formB (c::p)else encB formB (c::p)++43::Za9 43 (q.map (encB formB)))=ZE formB c++(if q.map (encB formB)=[]then encB formB p else encB formB p++43::Za9 43 (q.map (encB formB)))
   rw[ZeQ]
   split
   ·rfl
   ·rw[List.append_assoc]
theorem ZcW{l:LB}(h:Cpt l):ZaL l=l.flatMap formByte:=by
 rw[←Zrv];unfold ZaL;obtain⟨p,rfl,hp⟩:=h
 have hpt:∀c∈p,Pt c:=fun c hc=>(hp c hc).pt
 rw[Za6 (n:=32) (t:=32) (by decide) (by decide) rfl p hpt,Xn,Xn]
 congr 1
 apply Xe
 intro a ha
 show encB formB (clean (Zb a))=encB formB (Zb a)
 rw[Zeb a (fun c hc=>hp c (((ZaQ p [32]).2 a ha).2 c hc))]
theorem ZmR{b x:UInt8}(h:x∈formByte b):x=43∨x=37∨((48≤x.toNat∧x.toNat≤57)∨(65≤x.toNat∧x.toNat≤70))∨(x=b∧among (b.toNat:Int) formB=false):=by
 unfold formByte at h
 split at h
 ·exact Or.inl (by simpa using h)
 ·unfold ZE at h
  split at h
  ·rename_i hq
   have hb:=bb b;simp only[Xr,XB,or_false]at h;rcases h with h|h|h
   ·exact Or.inr (Or.inl h)
   ·subst h;exact Or.inr (Or.inr (Or.inl (Zav (by omega) (by omega))))
   ·subst h;exact Or.inr (Or.inr (Or.inl (Zav (by omega) (by omega))))
  ·rename_i hq
   have hx:x=b:=by simpa using h
   exact Or.inr (Or.inr (Or.inr ⟨hx,by
    cases ha:among (b.toNat:Int) formB
    ·rfl
    ·exact absurd (Or.inr (Or.inr ha)) hq⟩))
theorem Zw0{x:UInt8}(h:x=38∨x=61):x≠43∧x≠37∧¬((48≤x.toNat∧x.toNat≤57)∨(65≤x.toNat∧x.toNat≤70))∧among (x.toNat:Int) formB=true:=by
 rcases h with rfl|rfl
 ·exact⟨by decide,by decide,by decide,by decide +kernel⟩
 ·exact⟨by decide,by decide,by decide,by decide +kernel⟩
theorem Zg2{l:LB}{x:UInt8}(h:x=38∨x=61):x ∉ l.flatMap formByte:=by
 intro hm;obtain⟨b,-,hb⟩:=List.mem_flatMap.1 hm;obtain⟨h1,h2,h3,h4⟩:=Zw0 h;rcases ZmR hb with g|g|g|⟨g,g2⟩
 ·exact h1 g
 ·exact h2 g
 ·exact h3 g
 ·subst g;rw[h4]at g2;cases g2
def backByte(b:UInt8):List UInt8:=if b=32 then [32]else ZE formB b
theorem plus_form(l:LB):Zfy (l.flatMap formByte)=l.flatMap backByte:=by
 unfold Zfy;rw[XC]
 congr 1
 funext b
 unfold formByte backByte
 split
 ·rfl
 ·have hk:∀x∈ZE formB b,plusB x=x:=by
   intro x hx;unfold plusB;rw[if_neg];intro h43
   have hx43:x=43:=Xt.1 (by rw[h43];rfl)
   have hm:x∈formByte b:=by unfold formByte;rw[if_neg (by assumption)];exact hx
   unfold ZE at hx
   split at hx
   ·have hb:=bb b
    simp only[Xr,XB,or_false]at hx;rcases hx with h|h|h
    ·rw[hx43]at h;exact absurd h (by decide)
    ·have:=Zav (n:=(b.toNat:Int)/16) (by omega) (by omega)
     rw[←h,h43]at this
     omega
    ·have:=Zav (n:=(b.toNat:Int)%16) (by omega) (by omega)
     rw[←h,h43]at this
     omega
   ·rename_i hq
    have hxb:x=b:=by simpa using hx
    apply hq
    right;right
    rw[←hxb,hx43]
    decide +kernel
  calc (ZE formB b).map plusB=(ZE formB b).map id:=Xe hk
   _=ZE formB b:=by simp
theorem Zuo:∀b:UInt8,ZbZ [37,toB (capital ((b.toNat:Int)/16)),toB (capital ((b.toNat:Int)%16))]=((b.toNat:Int),true):=by
 have h:∀k:Fin 256,ZbZ [37,toB (capital (((UInt8.ofNat k.val).toNat:Int)/16)),toB (capital (((UInt8.ofNat k.val).toNat:Int)%16))]=(((UInt8.ofNat k.val).toNat:Int),true):=by decide +kernel
 intro b;have hb:=h ⟨b.toNat,bb b⟩;simp only[UInt8.ofNat_toNat]at hb;exact hb
theorem coded_ext(x y z:UInt8)(r:LB):ZbZ (x::y::z::r)=ZbZ [x,y,z]:=rfl
theorem Zp6{b:UInt8}(h:b≠37)(r:LB):(ZbZ (b::r)).2=false:=by
 unfold ZbZ
 split
 ·rename_i c x y _ e
  simp only[List.cons.injEq]at e
  rw[if_neg (fun g=>h (e.1.trans g.1))]
 ·rfl
theorem Zzo(b:UInt8):toB (b.toNat:Int)=b:=by
 unfold toB
 simp
theorem ZyK(l:LB):Zp (l.flatMap backByte)=l:=by
 induction l with
 | nil=>exact ZbM
 | cons b r ih=>
  rw[Xa];unfold backByte
  by_cases h32:b=32
  ·rw[if_pos h32]
   show Zp (32::r.flatMap backByte)=_
   rw[Zbj,Zp6 (by decide)]
   rw[if_neg (by decide),h32]
   congr 1
  ·rw[if_neg h32]
   unfold ZE
   split
   ·show Zp (37::toB (capital ((b.toNat:Int)/16))::toB (capital ((b.toNat:Int)%16))::r.flatMap backByte)=_
    rw[Zbj,coded_ext,Zuo];rw[if_pos rfl]
    show toB (b.toNat:Int)::Zp (r.flatMap backByte)=_
    rw[ih,Zzo]
   ·rename_i hq
    have hb37:b≠37:=by
     rintro rfl
     exact hq (Or.inr (Or.inr (by decide +kernel)))
    show Zp (b::r.flatMap backByte)=_
    rw[Zbj,Zp6 hb37,if_neg (by decide)]
    congr 1
theorem ZfD{l:LB}(h:Cpt l):Zcq (ZaL l)=l:=by unfold Zcq;rw[ZcW h,plus_form,ZyK,h.clean]
theorem Zw1(n:Int)(t:UInt8)(ht:isB n t=true):∀ {a:LB} (b:LB),(∀x∈a,isB n x=false)→bcut (isB n) (a++t::b)=(a,b,true):=by
 intro a
 induction a with
 | nil=>intro b _;show bcut (isB n) (t::b)=_;unfold bcut;rw[if_pos ht]
 | cons c r ih=>
  intro b h
  show bcut (isB n) (c::(r++t::b))=_
  unfold bcut
  rw[if_neg (by rw[h c (by simp)];decide),ih b (fun x hx=>h x (Xc _ hx))]
theorem isB_not{n:Int}{t x:UInt8}(ht:(t.toNat:Int)=n)(h:x≠t):isB n x=false:=by
 unfold isB;rw[beq_eq_false_iff_ne];intro e
 exact h (Xt.1 (by omega))
def Zr6(p:List UInt8×List UInt8):Prop:=Cpt p.1∧Cpt p.2
theorem readPr_written{p:LB×LB}(h:Zr6 p):Zb1 (writePr p)=p:=by
 have hno:∀x∈ZaL p.1,isB 61 x=false:=by
  intro x hx;rw[ZcW h.1]at hx
  exact isB_not (t:=61) rfl (fun e=>Zg2 (Or.inr e) (by exact hx))
 unfold Zb1 writePr;rw[Zw1 61 61 rfl _ hno]
 show(Zcq (ZaL p.1),Zcq (ZaL p.2))=p
 rw[ZfD h.1,ZfD h.2]
theorem Zor{n:Int}:∀ {a:LB},(∀x∈a,isB n x=false)→bsplit n a=[a]:=by
 intro a
 induction a with
 | nil=>intro _;rfl
 | cons c r ih=>
  intro h;unfold bsplit
  rw[if_neg (by rw[h c (by simp)];decide),ih (fun x hx=>h x (Xc _ hx))]
theorem Zup{n:Int}{t:UInt8}(ht:isB n t=true):∀ {a:LB} (b:LB),(∀x∈a,isB n x=false)→bsplit n (a++t::b)=a::bsplit n b:=by
 intro a
 induction a with
 | nil=>
  intro b _
  show bsplit n (t::b)=_
  rw[bsplit,if_pos ht]
 | cons c r ih=>
  intro b h
  show bsplit n (c::(r++t::b))=_
  conv=>lhs;unfold bsplit
  rw[if_neg (by rw[h c (by simp)];decide),ih b (fun x hx=>h x (Xc _ hx))]
theorem Zos{n:Int}{t:UInt8}(ht:isB n t=true):∀ {ps:List LB},ps≠[]→(∀a∈ps,∀x∈a,isB n x=false)→bsplit n (Za9 t ps)=ps:=by
 intro ps
 induction ps with
 | nil=>intro h _;exact absurd rfl h
 | cons a r ih=>
  intro _ h
  show bsplit n (if r=[]then a else a++t::Za9 t r)=_
  by_cases hr:r=[]
  ·rw[if_pos hr,hr]
   exact Zor (h a (by simp))
  ·rw[if_neg hr,Zup ht _ (h a (by simp)),ih hr (fun b hb=>h b (Xc _ hb))]
theorem Zrw{p:LB×LB}(h:Zr6 p):∀x∈writePr p,isB 38 x=false:=by
 intro x hx
 refine isB_not (t:=38) rfl ?_
 rintro rfl;unfold writePr at hx;rw[ZcW h.1,ZcW h.2]at hx;rcases XD.1 hx with g|g
 ·exact Zg2 (Or.inl rfl) g
 ·rcases Xr.1 g with g|g
  ·exact absurd g (by decide)
  ·exact Zg2 (Or.inl rfl) g
theorem Zrx(p:LB×LB):writePr p≠[]:=by
 unfold writePr
 simp
theorem Zi2{ps:List (LB×LB)}(h:∀p∈ps,Zr6 p):Zs (Zam ps)=ps:=by
 by_cases hp:ps=[]
 ·subst hp;decide +kernel
 ·unfold Zs Zam ZeE Zgy
  rw[Zos (n:=38) rfl (by simpa using hp) (by
   intro a ha;obtain⟨p,hm,rfl⟩:=Xw.1 ha
   exact Zrw (h p hm)),List.filter_eq_self.2 (by
   intro a ha;obtain⟨p,-,rfl⟩:=Xw.1 ha
   cases hq:writePr p with
   | nil=>exact absurd hq (Zrx p)
   | cons _ _=>rfl),Xn]
  conv=>rhs;rw[←XE ps]
  apply Xe
  intro p hm;exact readPr_written (h p hm)
theorem ZmS(l:LB):Cpt (Zcq l):=ZwZ _
theorem Zg3(l:LB):∀p∈Zs l,Zr6 p:=by intro p hp;obtain⟨a,-,rfl⟩:=Xw.1 hp;exact⟨ZmS _,ZmS _⟩
def aheadK(k:Int→Int):List Int→List Int→Bool
 | _,[]=>false
 | [],_::_=>true
 | x::a,y::b=>if x=y then aheadK k a b else decide (k x<k y)
theorem aheadK_app(k:Int→Int)(x a b:LI):aheadK k (x++a) (x++b)=aheadK k a b:=by
 induction x with
 | nil=>rfl
 | cons c r ih=>
  show(if c=c then aheadK k (r++a) (r++b)else _)=_
  rw[if_pos rfl,ih]
theorem ZmT:∀ {a b c:LI},aheadK id a b=true→aheadK id b c=true→aheadK id a c=true:=by
 intro a
 induction a with
 | nil=>
  intro b c h1 h2
  cases c with
  | nil=>cases b<;>cases h2
  | cons z c=>rfl
 | cons x a ih=>
  intro b c h1 h2
  cases b with
  | nil=>cases h1
  | cons y b=>
   cases c with
   | nil=>cases h2
   | cons z c=>
    simp only[aheadK,id]at *
    by_cases e1:x=y
    ·subst e1
     rw[if_pos rfl]at h1
     by_cases e2:x=z
     ·rw[if_pos e2]at h2 ⊢
      exact ih h1 h2
     ·rw[if_neg e2]at h2 ⊢
      exact h2
    ·rw[if_neg e1]at h1
     have h1:=of_decide_eq_true h1
     by_cases e2:y=z
     ·subst e2
      rw[if_neg e1];exact decide_eq_true h1
     ·rw[if_neg e2]at h2
      have h2:=of_decide_eq_true h2
      rw[if_neg (by omega)]
      exact decide_eq_true (by omega)
theorem Zry:∀ {a b c:LI},aheadK id a c=true→aheadK id b c=false→aheadK id a b=true:=by
 intro a
 induction a with
 | nil=>
  intro b c h1 h2
  cases b with
  | nil=>rw[h1]at h2;cases h2
  | cons y b=>rfl
 | cons x a ih=>
  intro b c h1 h2
  cases c with
  | nil=>cases h1
  | cons z c=>
   cases b with
   | nil=>cases h2
   | cons y b=>
    simp only[aheadK,id]at *
    by_cases e1:x=z
    ·subst e1
     rw[if_pos rfl]at h1
     by_cases e2:y=x
     ·subst e2
      rw[if_pos rfl]at h2 ⊢;exact ih h1 h2
     ·rw[if_neg e2]at h2
      have h2:=of_decide_eq_false h2
      rw[if_neg (fun e=>e2 e.symm)]
      exact decide_eq_true (by omega)
    ·rw[if_neg e1]at h1
     have h1:=of_decide_eq_true h1
     by_cases e2:y=z
     ·subst e2
      rw[if_neg e1];exact decide_eq_true h1
     ·rw[if_neg e2]at h2
      have h2:=of_decide_eq_false h2
      rw[if_neg (by omega)]
      exact decide_eq_true (by omega)
def ZcC(c:Int):Int:=if 240≤c then c-2 else if 238≤c then c+5 else c
def Zdu(c:Int):List Int:=if c<65536 then [c]else [55296+(c-65536)/1024,56320+c%1024]
def Zbf(p:List Int):List Int:=p.flatMap Zdu
theorem Zot(l:LI)(c:Int):Zbf (l++[c])=Zbf l++Zdu c:=by simp[Zbf]
theorem Zrz(l:LI):(Zbf l).length≤2*l.length:=by
 induction l with
 | nil=>simp[Zbf]
 | cons c l ih=>
  have h:(Zdu c).length≤2:=by unfold Zdu;split<;>simp
  simp only[Zbf,Xa,Xk,Xi]at *
  omega
theorem ZrA{c d:Int}(hc:Sc c)(hd:Sc d)(hne:c≠d)(a b x y:LI):aheadK ZcC (utf c++a) (utf d++b)=aheadK id (Zdu c++x) (Zdu d++y):=by
 obtain⟨c0,c1,c2⟩:=hc;obtain⟨d0,d1,d2⟩:=hd
 have e:aheadK id (Zdu c++x) (Zdu d++y)=decide (if c<65536 then(if d<65536 then c<d else c<55296)else(if d<65536 then 57343<d else c<d)):=by
  unfold Zdu
  by_cases k1:c<65536
  ·by_cases k2:d<65536
   ·simp only[if_pos k1,if_pos k2,Xb,aheadK,if_neg hne,id]
   ·simp only[if_pos k1,if_neg k2,Xb,aheadK,id]
    rw[if_neg (by omega),decide_eq_decide]
    omega
  ·by_cases k2:d<65536
   ·simp only[if_neg k1,if_pos k2,Xb,aheadK,id]
    rw[if_neg (by omega),decide_eq_decide]
    omega
   ·simp only[if_neg k1,if_neg k2,Xb,aheadK,id]
    by_cases k3:55296+(c-65536)/1024=55296+(d-65536)/1024
    ·rw[if_pos k3,if_neg (by omega),decide_eq_decide]
     omega
    ·rw[if_neg k3,decide_eq_decide]
     omega
 rw[e];clear e
 by_cases a1:c<128
 ·have u1:utf c=[c]:=by unfold utf;rw[if_pos a1]
  by_cases b1:d<128
  ·have u2:utf d=[d]:=by unfold utf;rw[if_pos b1]
   rw[u1,u2];simp only[Xb,aheadK,if_neg hne]
   rw[decide_eq_decide,if_pos (by omega),if_pos (by omega)]
   unfold ZcC
   rw[if_neg (by omega),if_neg (by omega),if_neg (by omega),if_neg (by omega)]
  ·have u2:∃z r,utf d=z::r∧192≤z:=by
    unfold utf;rw[if_neg b1]
    split
    ·exact⟨_,_,rfl,by omega⟩
    ·split
     ·exact⟨_,_,rfl,by omega⟩
     ·exact⟨_,_,rfl,by omega⟩
   obtain⟨z,r,u2,hz⟩:=u2;rw[u1,u2];simp only[Xb,aheadK]
   rw[if_neg (by omega),decide_eq_decide]
   unfold ZcC
   rw[if_neg (show ¬240≤c by omega),if_neg (show ¬238≤c by omega),if_pos (show c<65536 by omega)]
   split<;>split<;>try split
   all_goals omega
 ·by_cases b1:d<128
  ·have u2:utf d=[d]:=by unfold utf;rw[if_pos b1]
   have u1:∃z r,utf c=z::r∧192≤z:=by
    unfold utf;rw[if_neg a1]
    split
    ·exact⟨_,_,rfl,by omega⟩
    ·split
     ·exact⟨_,_,rfl,by omega⟩
     ·exact⟨_,_,rfl,by omega⟩
   obtain⟨z,r,u1,hz⟩:=u1;rw[u1,u2];simp only[Xb,aheadK]
   rw[if_neg (by omega),decide_eq_decide]
   unfold ZcC
   rw[if_neg (show ¬240≤d by omega),if_neg (show ¬238≤d by omega),if_pos (show d<65536 by omega),if_pos (show d<65536 by omega)]
   split<;>split<;>try split
   all_goals omega
  ·by_cases a2:c<2048
   ·have u1:utf c=[192+c/64,128+c%64]:=by unfold utf;rw[if_neg a1,if_pos a2]
    by_cases b2:d<2048
    ·have u2:utf d=[192+d/64,128+d%64]:=by unfold utf;rw[if_neg b1,if_pos b2]
     rw[u1,u2];simp only[Xb,Xl,aheadK]
     simp only[if_pos (show c<65536 by omega),if_pos (show d<65536 by omega)]
     by_cases k:192+c/64=192+d/64
     ·rw[if_pos k,if_neg (by omega),decide_eq_decide]
      unfold ZcC
      rw[if_neg (by omega),if_neg (by omega),if_neg (by omega),if_neg (by omega)]
      omega
     ·rw[if_neg k,decide_eq_decide]
      unfold ZcC
      rw[if_neg (by omega),if_neg (by omega),if_neg (by omega),if_neg (by omega)]
      omega
    ·have u2:∃z r,utf d=z::r∧224≤z:=by
      unfold utf;rw[if_neg b1,if_neg b2]
      split
      ·exact⟨_,_,rfl,by omega⟩
      ·exact⟨_,_,rfl,by omega⟩
     obtain⟨z,r,u2,hz⟩:=u2;rw[u1,u2];simp only[Xb,aheadK]
     rw[if_neg (by omega),decide_eq_decide,if_pos (show c<65536 by omega)]
     unfold ZcC
     rw[if_neg (show ¬240≤192+c/64 by omega),if_neg (show ¬238≤192+c/64 by omega)]
     split<;>split<;>try split
     all_goals omega
   ·by_cases b2:d<2048
    ·have u2:utf d=[192+d/64,128+d%64]:=by unfold utf;rw[if_neg b1,if_pos b2]
     have u1:∃z r,utf c=z::r∧224≤z:=by
      unfold utf;rw[if_neg a1,if_neg a2]
      split
      ·exact⟨_,_,rfl,by omega⟩
      ·exact⟨_,_,rfl,by omega⟩
     obtain⟨z,r,u1,hz⟩:=u1;rw[u1,u2];simp only[Xb,aheadK]
     rw[if_neg (by omega),decide_eq_decide,if_pos (show d<65536 by omega),if_pos (show d<65536 by omega)]
     unfold ZcC
     rw[if_neg (show ¬240≤192+d/64 by omega),if_neg (show ¬238≤192+d/64 by omega)]
     split<;>split<;>try split
     all_goals omega
    ·by_cases a3:c<65536
     ·have u1:utf c=[224+c/4096,128+c/64%64,128+c%64]:=by unfold utf;rw[if_neg a1,if_neg a2,if_pos a3]
      by_cases b3:d<65536
      ·have u2:utf d=[224+d/4096,128+d/64%64,128+d%64]:=by unfold utf;rw[if_neg b1,if_neg b2,if_pos b3]
       rw[u1,u2];simp only[Xb,Xl,aheadK];simp only[if_pos a3,if_pos b3]
       by_cases k:224+c/4096=224+d/4096
       ·rw[if_pos k]
        by_cases k2:128+c/64%64=128+d/64%64
        ·rw[if_pos k2,if_neg (by omega),decide_eq_decide]
         unfold ZcC
         rw[if_neg (by omega),if_neg (by omega),if_neg (by omega),if_neg (by omega)]
         omega
        ·rw[if_neg k2,decide_eq_decide]
         unfold ZcC
         rw[if_neg (by omega),if_neg (by omega),if_neg (by omega),if_neg (by omega)]
         omega
       ·rw[if_neg k,decide_eq_decide]
        unfold ZcC
        rw[if_neg (show ¬240≤224+c/4096 by omega),if_neg (show ¬240≤224+d/4096 by omega)]
        split<;>split<;>omega
      ·have u2:utf d=[240+d/262144,128+d/4096%64,128+d/64%64,128+d%64]:=by unfold utf;rw[if_neg b1,if_neg b2,if_neg b3]
       rw[u1,u2];simp only[Xb,Xl,aheadK];simp only[if_pos a3,if_neg b3]
       rw[if_neg (by omega),decide_eq_decide]
       unfold ZcC
       rw[if_neg (show ¬240≤224+c/4096 by omega),if_pos (show 240≤240+d/262144 by omega)]
       split<;>omega
     ·have u1:utf c=[240+c/262144,128+c/4096%64,128+c/64%64,128+c%64]:=by unfold utf;rw[if_neg a1,if_neg a2,if_neg a3]
      by_cases b3:d<65536
      ·have u2:utf d=[224+d/4096,128+d/64%64,128+d%64]:=by unfold utf;rw[if_neg b1,if_neg b2,if_pos b3]
       rw[u1,u2];simp only[Xb,Xl,aheadK];simp only[if_neg a3,if_pos b3]
       rw[if_neg (by omega),decide_eq_decide]
       unfold ZcC
       rw[if_pos (show 240≤240+c/262144 by omega),if_neg (show ¬240≤224+d/4096 by omega)]
       split<;>omega
      ·have u2:utf d=[240+d/262144,128+d/4096%64,128+d/64%64,128+d%64]:=by unfold utf;rw[if_neg b1,if_neg b2,if_neg b3]
       rw[u1,u2];simp only[Xb,Xl,aheadK];simp only[if_neg a3,if_neg b3]
       have r0:∀z:Int,z<192→ZcC z=z:=fun z hz=>by unfold ZcC;rw[if_neg (by omega),if_neg (by omega)]
       by_cases k:240+c/262144=240+d/262144
       ·rw[if_pos k]
        by_cases k2:128+c/4096%64=128+d/4096%64
        ·rw[if_pos k2]
         by_cases k3:128+c/64%64=128+d/64%64
         ·rw[if_pos k3,if_neg (by omega),decide_eq_decide,r0 _ (by omega),r0 _ (by omega)]
          omega
         ·rw[if_neg k3,decide_eq_decide,r0 _ (by omega),r0 _ (by omega)]
          omega
        ·rw[if_neg k2,decide_eq_decide,r0 _ (by omega),r0 _ (by omega)]
         omega
       ·rw[if_neg k,decide_eq_decide]
        unfold ZcC
        rw[if_pos (by omega),if_pos (by omega)]
        omega
theorem Zp7(c:Int):∃x r,utf c=x::r:=by
 unfold utf
 split
 ·exact⟨_,_,rfl⟩
 ·split
  ·exact⟨_,_,rfl⟩
  ·split
   ·exact⟨_,_,rfl⟩
   ·exact⟨_,_,rfl⟩
theorem Zi3(c:Int):∃x r,Zdu c=x::r:=by
 unfold Zdu
 split
 ·exact⟨_,_,rfl⟩
 ·exact⟨_,_,rfl⟩
theorem ZrB:∀ {p q:LI},(∀c∈p,Sc c)→(∀c∈q,Sc c)→aheadK ZcC (p.flatMap utf) (q.flatMap utf)=aheadK id (Zbf p) (Zbf q):=by
 intro p
 induction p with
 | nil=>
  intro q _ _
  cases q with
  | nil=>rfl
  | cons d q=>
   obtain⟨x,r,hx⟩:=Zp7 d;obtain⟨y,s,hy⟩:=Zi3 d;unfold Zbf;rw[Xa,Xa,hx,hy]
   rfl
 | cons c p ih=>
  intro q hp hq;obtain⟨x,r,hx⟩:=Zp7 c;obtain⟨y,s,hy⟩:=Zi3 c
  cases q with
  | nil=>
   unfold Zbf;rw[Xa,Xa,hx,hy]
   rfl
  | cons d q=>
   by_cases e:c=d
   ·subst e
    unfold Zbf;rw[Xa,Xa,Xa,Xa,aheadK_app,aheadK_app]
    exact ih (fun z hz=>hp z (Xc _ hz)) (fun z hz=>hq z (Xc _ hz))
   ·unfold Zbf
    rw[Xa,Xa,Xa,Xa]
    exact ZrA (hp c (by simp)) (hq d (by simp)) e _ _ _ _
def ZbJ(a b:List UInt8):Bool:=aheadK ZcC (a.map fun x=>(x.toNat:Int)) (b.map fun x=>(x.toNat:Int))
theorem Zkq{p:LI}(h:∀c∈p,Sc c):(Zb p).map (fun x=>(x.toNat:Int))=p.flatMap utf:=by
 unfold Zb;rw[XC]
 induction p with
 | nil=>rfl
 | cons c p ih=>
  rw[Xa,Xa,ih (fun z hz=>h z (Xc _ hz)),Xn]
  congr 1
  conv=>rhs;rw[←XE (utf c)]
  apply Xe
  intro x hx
  have hb:=Ze4 (h c (by simp)).pt hx
  exact Zbk hb.1 hb.2
def Zp8(a b:List UInt8):Bool:=aheadK id (Zbf (Zk a)) (Zbf (Zk b))
theorem Zw2{a b:LB}(ha:Cpt a)(hb:Cpt b):ZbJ a b=Zp8 a b:=by
 have ea:a=Zb (Zk a):=by rw[←ZcB,ha.clean]
 have eb:b=Zb (Zk b):=by rw[←ZcB,hb.clean]
 unfold Zp8;rw[←ZrB (Za3 a) (Za3 b),←Zkq (Za3 a),←Zkq (Za3 b),←ea,←eb]
 rfl
def Zf3{α:Type}(lt:α→α→Bool)(acc:List α)(x:α):List α:=(acc.reverse.dropWhile (lt x)).reverse++x::(acc.reverse.takeWhile (lt x)).reverse
def ZV{α:Type}(lt:α→α→Bool)(l:List α):List α:=l.foldl (Zf3 lt) []
theorem Zw3{α:Type}(lt:α→α→Bool)(acc:List α)(x:α):(Zf3 lt acc x).length=acc.length+1:=by
 unfold Zf3;rw[Xk,Xi,Xp,Xp];have h:=congrArg List.length (List.takeWhile_append_dropWhile (p:=lt x) (l:=acc.reverse));rw[Xk,Xp]at h
 omega
theorem Zuq{α:Type}(lt:α→α→Bool)(l:List α):∀acc:List α,(l.foldl (Zf3 lt) acc).length=acc.length+l.length:=by
 induction l with
 | nil=>intro acc;simp
 | cons x r ih=>intro acc;rw[Xf,ih,Zw3,Xi];omega
theorem sortI_len{α:Type}(lt:α→α→Bool)(l:List α):(ZV lt l).length=l.length:=by
 unfold ZV;rw[Zuq]
 simp
theorem ZrC{α:Type}(lt:α→α→Bool)(l:List α)(x:α):ZV lt (l++[x])=Zf3 lt (ZV lt l) x:=by
 unfold ZV;rw[Xs]
 rfl
theorem Zou{α:Type}{lt:α→α→Bool}{S:List α}{x:α}{k:Nat}(hk:k≤S.length)(h1:∀y∈S.drop k,lt x y=true)(h2:∀h:0<k,lt x (S[k-1]'(by omega))=false):Zf3 lt S x=S.take k++x::S.drop k:=by
 have e:S.reverse=(S.drop k).reverse++(S.take k).reverse:=by rw[←Xq,Xo]
 have ht:S.reverse.takeWhile (lt x)=(S.drop k).reverse∧S.reverse.dropWhile (lt x)=(S.take k).reverse:=by
  rw[e]
  have hall:∀y∈(S.drop k).reverse,lt x y=true:=fun y hy=>h1 y (Xj.1 hy)
  have hno:(S.take k).reverse.takeWhile (lt x)=[]∧(S.take k).reverse.dropWhile (lt x)=(S.take k).reverse:=by
   rcases Nat.eq_zero_or_pos k with h0|h0
   ·subst h0;exact⟨rfl,rfl⟩
   ·have hs:S.take k=S.take (k-1)++[S[k-1]'(by omega)]:=by
     have h:=List.take_succ_eq_append_getElem (l:=S) (i:=k-1) (by omega)
     rw[show k-1+1=k by omega]at h
     exact h
    rw[hs,Xq]
    show List.takeWhile (lt x) ((S[k-1]'(by omega))::(S.take (k-1)).reverse)=[]∧List.dropWhile (lt x) ((S[k-1]'(by omega))::(S.take (k-1)).reverse)=_
    rw[Xg (by rw[h2 h0];decide),Xh (by rw[h2 h0];decide)]
    exact⟨rfl,rfl⟩
  rw[List.takeWhile_append_of_pos hall,List.dropWhile_append_of_pos hall,hno.1,hno.2,List.append_nil];exact⟨rfl,rfl⟩
 unfold Zf3;rw[ht.1,ht.2,Xx,Xx]
theorem ZrD{α:Type}{lt:α→α→Bool}{S:List α}{m:α}(h:∀y∈S,lt m y=true):Zf3 lt S m=m::S:=by
 have:=Zou (k:=0) (lt:=lt) (S:=S) (x:=m) (Nat.zero_le _) (by simpa using h) (fun h=>absurd h (by omega))
 simpa using this
theorem Zov{α:Type}{lt:α→α→Bool}(S:List α){m x:α}(h:lt x m=false):Zf3 lt (m::S) x=m::Zf3 lt S x:=by
 unfold Zf3;rw[List.reverse_cons]
 have key:∀(t:List α),(t++[m]).takeWhile (lt x)=t.takeWhile (lt x)∧(t++[m]).dropWhile (lt x)=t.dropWhile (lt x)++[m]:=by
  intro t
  induction t with
  | nil=>
   constructor
   ·show List.takeWhile (lt x) [m]=[]
    rw[Xg (by rw[h];decide)]
   ·show List.dropWhile (lt x) [m]=[m]
    rw[Xh (by rw[h];decide)]
  | cons y t ih=>
   cases hy:lt x y
   ·constructor
    ·show List.takeWhile (lt x) (y::(t++[m]))=_
     rw[Xg (by rw[hy];decide),Xg (by rw[hy];decide)]
    ·show List.dropWhile (lt x) (y::(t++[m]))=_
     rw[Xh (by rw[hy];decide),Xh (by rw[hy];decide)]
     rfl
   ·constructor
    ·show List.takeWhile (lt x) (y::(t++[m]))=_
     rw[Xu hy,Xu hy,ih.1]
    ·show List.dropWhile (lt x) (y::(t++[m]))=_
     rw[Xv hy,Xv hy,ih.2]
 obtain⟨k1,k2⟩:=key S.reverse;rw[k1,k2,Xq]
 rfl
theorem ZmU{α:Type}{lt:α→α→Bool}{m:α}(b:List α)(h:∀x∈b,lt x m=false):∀S:List α,b.foldl (Zf3 lt) (m::S)=m::b.foldl (Zf3 lt) S:=by
 induction b with
 | nil=>intro S;rfl
 | cons x r ih=>
  intro S
  rw[Xf,Xf,Zov S (h x (by simp)),ih (fun y hy=>h y (Xc _ hy))]
theorem Zp9{α:Type}{lt:α→α→Bool}{S:List α}{x y:α}(h:y∈Zf3 lt S x):y=x∨y∈S:=by
 unfold Zf3 at h;rcases XD.1 h with g|g
 ·exact Or.inr (Xj.1 ((List.dropWhile_sublist _).subset (Xj.1 g)))
 ·rcases Xr.1 g with g|g
  ·exact Or.inl g
  ·exact Or.inr (Xj.1 ((List.takeWhile_sublist _).subset (Xj.1 g)))
theorem ZmV{α:Type}{lt:α→α→Bool}{y:α}(a:List α):∀S:List α,y∈a.foldl (Zf3 lt) S→y∈S∨y∈a:=by
 induction a with
 | nil=>intro S h;exact Or.inl h
 | cons x r ih=>
  intro S h;rw[Xf]at h;rcases ih _ h with g|g
  ·rcases Zp9 g with g|g
   ·exact Or.inr (by rw[g];simp)
   ·exact Or.inl g
  ·exact Or.inr (Xc _ g)
theorem Zgt{α:Type}{lt:α→α→Bool}{y:α}{l:List α}(h:y∈ZV lt l):y∈l:=by
 rcases ZmV l [] h with g|g
 ·cases g
 ·exact g
theorem Zow{α:Type}{lt:α→α→Bool}{a b:List α}{m:α}(h1:∀y∈a,lt m y=true)(h2:∀x∈b,lt x m=false):ZV lt (a++m::b)=m::ZV lt (a++b):=by
 unfold ZV
 rw[Xs,Xf,Xs,ZrD (fun y hy=>h1 y (by
  rcases ZmV a [] hy with g|g
  ·cases g
  ·exact g)),ZmU b h2]
def ZyL{α:Type}(lt:α→α→Bool)(l:List α)(k i:Nat):Prop:=
 k<i∧i≤l.length∧∀(m:α),l[k]?=some m→(∀j y,l[j]?=some y→j<k→lt m y=true)∧(∀j y,l[j]?=some y→k<j→j<i→lt y m=false)
theorem ZrE{α:Type}(lt:α→α→Bool){l:List α}(h:0<l.length):ZyL lt l 0 1:=by refine⟨by omega,h,fun m _=>⟨fun j y _ hj=>absurd hj (by omega),fun j y _ h1 h2=>absurd h1 (by omega)⟩⟩
theorem Zur{α:Type}{lt:α→α→Bool}{l:List α}{k i:Nat}(h:ZyL lt l k i)(hi:i<l.length)(hk:k<l.length)(hl:lt l[i] l[k]=false):ZyL lt l k (i+1):=by
 obtain⟨h1,h2,h3⟩:=h
 refine⟨by omega,by omega,fun m hm=>?_⟩
 have hm':m=l[k]:=by rw[Xd hk]at hm;exact(Option.some.inj hm).symm
 obtain⟨g1,g2⟩:=h3 m hm
 refine⟨g1,fun j y hy hkj hj=>?_⟩
 by_cases e:j=i
 ·subst e
  rw[Xd hi]at hy;rw[←Option.some.inj hy,hm'];exact hl
 ·exact g2 j y hy hkj (by omega)
theorem Zus{α:Type}{lt:α→α→Bool}{l:List α}{k i:Nat}(h:ZyL lt l k i)(hi:i<l.length)(hk:k<l.length)(hl:lt l[i] l[k]=true)
  (ht:∀a b c,a∈l→b∈l→c∈l→lt a b=true→lt b c=true→lt a c=true) (hn:∀a b c,a∈l→b∈l→c∈l→lt a c=true→lt b c=false→lt a b=true):ZyL lt l i (i+1):=by
 obtain⟨h1,h2,h3⟩:=h
 refine⟨by omega,by omega,fun m hm=>⟨fun j y hy hj=>?_,fun j y hy h5 h6=>absurd h5 (by omega)⟩⟩
 have hm':m=l[i]:=by rw[Xd hi]at hm;exact(Option.some.inj hm).symm
 obtain⟨g1,g2⟩:=h3 l[k] (Xd hk);have my:y∈l:=List.mem_of_getElem? hy;rw[hm'];rcases Nat.lt_trichotomy j k with g|g|g
 ·exact ht _ _ _ (Xm hi) (Xm hk) my hl (g1 j y hy g)
 ·subst g
  rw[Xd hk]at hy;rw[←Option.some.inj hy];exact hl
 ·exact hn _ _ _ (Xm hi) my (Xm hk) hl (g2 j y hy g hj)
theorem Zut{α:Type}{lt:α→α→Bool}{l:List α}{k:Nat}(h:ZyL lt l k l.length)(hk:k<l.length):ZV lt l=l[k]::ZV lt (l.take k++l.drop (k+1)):=by
 obtain⟨h1,h2,h3⟩:=h;obtain⟨g1,g2⟩:=h3 l[k] (Xd hk)
 have e:l=l.take k++l[k]::l.drop (k+1):=by rw[←List.drop_eq_getElem_cons hk,Xo]
 have hs:=Zow (lt:=lt) (a:=l.take k) (b:=l.drop (k+1)) (m:=l[k]) (fun y hy=>by
  obtain⟨j,hj,hy⟩:=Xy.1 hy;rw[List.length_take]at hj;rw[List.getElem_take]at hy
  exact g1 j y (by rw[Xd (by omega),hy]) (by omega)) (fun y hy=>by
  obtain⟨j,hj,hy⟩:=Xy.1 hy;rw[List.length_drop]at hj;rw[List.getElem_drop]at hy
  exact g2 (k+1+j) y (by rw[Xd (by omega),hy]) (by omega) (by omega))
 rw[←hs,←e]
def ltB(p q:List UInt8×List UInt8):Bool:=ZbJ p.1 q.1
def ltW(p q:List UInt8×List UInt8):Bool:=Zp8 p.1 q.1
theorem ZrF{α:Type}{f g:α→α→Bool}{S:List α}{x:α}(h:∀y∈S,f x y=g x y):Zf3 f S x=Zf3 g S x:=by
 have key:∀t:List α,(∀y∈t,f x y=g x y)→t.takeWhile (f x)=t.takeWhile (g x)∧t.dropWhile (f x)=t.dropWhile (g x):=by
  intro t
  induction t with
  | nil=>intro _;exact⟨rfl,rfl⟩
  | cons y t ih=>
   intro ht
   obtain⟨i1,i2⟩:=ih (fun z hz=>ht z (Xc _ hz))
   rw[Xz,Xz,XA,XA,ht y (by simp),i1,i2]
   exact⟨rfl,rfl⟩
 obtain⟨k1,k2⟩:=key S.reverse (fun y hy=>h y (Xj.1 hy))
 unfold Zf3;rw[k1,k2]
theorem Zuu{ps:List (LB×LB)}(h:∀p∈ps,Zr6 p):ZV ltB ps=ZV ltW ps:=by
 unfold ZV
 have key:∀(l S:List (LB×LB)),(∀p∈l,Zr6 p)→(∀p∈S,Zr6 p)→l.foldl (Zf3 ltB) S=l.foldl (Zf3 ltW) S:=by
  intro l
  induction l with
  | nil=>intro S _ _;rfl
  | cons x r ih=>
   intro S hl hS
   have hx:=hl x (by simp)
   rw[Xf,Xf,ZrF (f:=ltB) (g:=ltW) (fun y hy=>Zw2 hx.1 (hS y hy).1)]
   refine ih _ (fun p hp=>hl p (Xc _ hp)) (fun p hp=>?_)
   rcases Zp9 hp with g|g
   ·rw[g];exact hx
   ·exact hS p g
 exact key ps [] h (fun p hp=>by cases hp)
theorem Zw4{ps:List (LB×LB)}(h:∀p∈ps,Zr6 p):∀p∈ZV ltB ps,Zr6 p:=fun p hp=>h p (Zgt hp)
def formR:List UInt8:=[32,34,35,60,62,63,94,96,123,125,47,58,59,61,64,91,92,93,124,36,37,38,43,44,33,39,40,41,126]
def Za0(l:List UInt8):List UInt8:=Za9 43 ((parts (Zk l) [32]).map fun a=>encoded a formR)
def pairTextR(p:List UInt8×List UInt8):List UInt8:=Za0 p.1++61::Za0 p.2
def Ze2(ps:List (List UInt8×List UInt8)):List UInt8:=Za9 38 (ps.map pairTextR)
theorem ZmW{c:Int}{a b:LB}(h:∀x∈a,x∈b)(k:among c a=true):among c b=true:=by unfold among at *;rw[List.any_eq_true]at *;obtain⟨x,hx,e⟩:=k;exact⟨x,h x hx,e⟩
theorem Zuv(c:Int):among c formB=among c formR:=by
 have h1:∀x∈formB,x∈formR:=by decide +kernel
 have h2:∀x∈formR,x∈formB:=by decide +kernel
 rw[Bool.eq_iff_iff];exact⟨ZmW h1,ZmW h2⟩
theorem ZhD{l:LB}(h:Cpt l):Za0 l=ZaL l:=by
 have e:l=Zb (Zk l):=by rw[←ZcB,h.clean]
 have hsc:=Za3 l
 have hpt:∀c∈Zk l,Pt c:=fun c hc=>(hsc c hc).pt
 unfold Za0 ZaL
 conv=>rhs;rw[e]
 rw[Za6 (n:=32) (t:=32) (by decide) (by decide) rfl _ hpt,Xn]
 congr 1
 apply Xe
 intro a ha
 show encoded a formR=encB formB (clean (Zb a))
 rw[ZaV formB a (fun c hc=>hsc c (((ZaQ (Zk l) [32]).2 a ha).2 c hc)),Zby Zuv]
theorem Zkr{ps:List (LB×LB)}(h:∀p∈ps,Zr6 p):Ze2 ps=Zam ps:=by
 unfold Ze2 Zam
 congr 1
 apply Xe
 intro p hp;unfold pairTextR writePr;rw[ZhD (h p hp).1,ZhD (h p hp).2]
def Zg4(ls:List (List UInt8)):Nat:=(ls.map fun x=>x.length+1).sum
theorem sumL_cons(a:LB)(r:List LB):Zg4 (a::r)=a.length+1+Zg4 r:=by simp[Zg4]
theorem Zlq(a b:List LB):Zg4 (a++b)=Zg4 a+Zg4 b:=by simp[Zg4]
theorem Zuw(c:UInt8):∀ {ls:List LB},ls≠[]→(Za9 c ls).length+1=Zg4 ls:=by
 intro ls
 induction ls with
 | nil=>intro h;exact absurd rfl h
 | cons a r ih=>
  intro _;rw[sumL_cons]
  show(if r=[]then a else a++c::Za9 c r).length+1=_
  by_cases hr:r=[]
  ·rw[if_pos hr,hr];rfl
  ·rw[if_neg hr,Xk,Xi,←ih hr];omega
theorem Zco(c:UInt8)(ls:List LB):(Za9 c ls).length≤Zg4 ls:=by
 by_cases h:ls=[]
 ·subst h;exact Nat.le_refl _
 ·have:=Zuw c h;omega
theorem ZmX(ls:List LB)(k:Nat):Zg4 (ls.take k)≤Zg4 ls:=by
 conv=>rhs;rw[←Xo k ls,Zlq]
 omega
theorem Zks(n:Int)(l:LB):Zg4 (bsplit n l)=l.length+1:=by
 induction l with
 | nil=>rfl
 | cons c r ih=>
  obtain⟨p,q,hpq⟩:=Zc0 n r
  by_cases hc:isB n c=true
  ·rw[show bsplit n (c::r)=[]::bsplit n r by rw[bsplit,if_pos hc],sumL_cons,ih];simp;omega
  ·rw[show bsplit n (c::r)=(c::p)::q by rw[bsplit,if_neg hc,hpq],sumL_cons]
   rw[hpq,sumL_cons]at ih;simp only[Xi]
   omega
theorem Zw5(f:LB→LB)(h:∀x,(f x).length≤9*x.length)(ls:List LB):Zg4 (ls.map f)≤9*Zg4 ls:=by
 induction ls with
 | nil=>exact Nat.zero_le _
 | cons a r ih=>
  rw[List.map_cons,sumL_cons,sumL_cons];have:=h a
  omega
theorem Zg5(l:LB):(encB formB (clean l)).length≤9*l.length:=Zzv formB l
theorem ZmY(l:LB):Zg4 ((bsplit 32 l).map fun p=>encB formB (clean p))≤9*l.length+9:=by
 have h:=Zw5 _ Zg5 (bsplit 32 l);rw[Zks]at h
 omega
theorem Zem(l:LB):(ZaL l).length≤9*l.length+9:=Nat.le_trans (Zco _ _) (ZmY l)
theorem Zf1(p:LB×LB):(writePr p).length≤9*(p.1.length+p.2.length)+19:=by
 unfold writePr;rw[Xk,Xi];have h1:=Zem p.1;have h2:=Zem p.2
 omega
end Go.Proofs.YtchkhibgbnhjpabGreatDoor
