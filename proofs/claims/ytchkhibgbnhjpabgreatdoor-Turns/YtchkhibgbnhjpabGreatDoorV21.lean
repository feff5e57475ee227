import Derived.Test.YtchkhibgbnhjpabGreatDoorV20
open List renaming mem_append→Xc,length_reverse→Xd,not_mem_nil→Xe,mem_cons→Xf,sum_cons→Xg,dropWhile_cons_of_neg→Xi,dropWhile_suffix→Xj,mem_singleton→Xk,length_cons→Xl,length_nil→Xm
open Nat renaming le_trans→Xa,zero_le→Xb,le_refl→Xh,le_of_not_lt→Xn
namespace Go.Proofs.YtchkhibgbnhjpabGreatDoor
open Go.RowKit
theorem Asis.ne{set l:LB}(h:Asis set l){c:UInt8}(hc:Zx (c.toNat:Int) set=true):∀b∈l,b≠c:=fun b hb e=>by
 subst e;have:=(h b hb).2.2;rw[hc]at this
 cases this
theorem Zty{sp:Bool}{b:UInt8}(h1:b≠47)(h2:b≠92):slB sp b=false:=by
 unfold slB Zc1
 have e1:((b.toNat:Int)==47)=false:=beq_eq_false_iff_ne.2 fun e=>h1 (Za7 rfl e)
 have e2:((b.toNat:Int)==92)=false:=beq_eq_false_iff_ne.2 fun e=>h2 (Za7 rfl e)
 rw[e1,e2];cases sp<;>rfl
theorem Zlk{n:Nat}{b c:UInt8}(hc:c.toNat=n)(h:b≠c):isB (n:Int) b=false:=by
 unfold isB
 exact beq_eq_false_iff_ne.2 fun e=>h (Za7 hc e)
def Cl(l:List UInt8):Prop:=∀b∈l,b≠35∧b≠63∧b≠32
theorem Ztz:Cl []:=fun b hb=>by cases hb
theorem Zll{a b:LB}(ha:Cl a)(hb:Cl b):Cl (a++b):=fun x hx=>(Xc.1 hx).elim (ha x) (hb x)
theorem Zsy{l:LB}(h:Asis S5 l):∀b∈l,b≠35∧b≠63∧b≠32∧b≠47∧b≠92∧b≠64∧b≠58:=fun b hb=>
 ⟨h.ne (by decide) b hb,h.ne (by decide) b hb,h.ne (by decide) b hb,h.ne (by decide) b hb,h.ne (by decide) b hb,h.ne (by decide) b hb,h.ne (by decide) b hb⟩
theorem ZqA{l:LB}(h:Dg l):∀b∈l,b≠35∧b≠63∧b≠32∧b≠47∧b≠92∧b≠64∧b≠58:=fun b hb=>by
 have:=h b hb
 refine⟨?_,?_,?_,?_,?_,?_,?_⟩<;>(rintro rfl;exact absurd this (by decide))
theorem Zsz{u:U}(h:St' u):∀b∈userU u,b≠35∧b≠63∧b≠32∧b≠47∧b≠92:=by
 intro b hb;unfold userU at hb
 split at hb
 ·cases hb
 split at hb
 ·rcases Xc.1 hb with hb|hb
  ·have:=Zsy h.anam b hb;exact⟨this.1,this.2.1,this.2.2.1,this.2.2.2.1,this.2.2.2.2.1⟩
  ·rw[Xk]at hb;subst hb;decide
 ·simp only[Xc,Xf,Xe,or_false]at hb
  rcases hb with(hb|rfl|hb)|rfl
  ·have:=Zsy h.anam b hb;exact⟨this.1,this.2.1,this.2.2.1,this.2.2.2.1,this.2.2.2.2.1⟩
  ·decide
  ·have:=Zsy h.apw b hb;exact⟨this.1,this.2.1,this.2.2.1,this.2.2.2.1,this.2.2.2.2.1⟩
  ·decide
theorem ZcW{u:U}(h:St' u):∀b∈Zl u,b≠35∧b≠63∧b≠32∧b≠47∧b≠92∧b≠64:=by
 intro b hb
 have hh:∀b∈u.host,b≠35∧b≠63∧b≠32∧b≠47∧b≠92∧b≠64:=fun b hb=>by
  have:=h.ahost.mem b hb;exact⟨this.1,this.2.2.1,this.2.2.2.2.2,this.2.1,this.2.2.2.2.1,this.2.2.2.1⟩
 unfold Zl at hb
 split at hb
 ·simp only[Xc,Xf,Xe,or_false]at hb
  rcases hb with(hb|rfl)|hb
  ·exact hh b hb
  ·decide
  ·have hd:Dg (ZC u):=by
    unfold ZC
    by_cases hp:u.hp=true
    ·rw[if_pos hp];exact Zcw (by have:=(h.sd.port hp).1;omega)
    ·rw[if_neg hp];exact fun b hb=>by cases hb
   have:=ZqA hd b hb;exact⟨this.1,this.2.1,this.2.2.1,this.2.2.2.1,this.2.2.2.2.1,this.2.2.2.2.2.1⟩
 ·exact hh b hb
theorem Zi3{n:Nat}(h:n≤65535):ZaD (Za8 n)=((n:Int),true):=by
 unfold ZaD
 rw[ZhN h (by decide),if_neg]
 rintro(e|e)
 ·cases e
 ·have e':(65535:Int)<n:=e
  omega
theorem ZoL:ZI [] false=([],0):=by
 show Zbk []=_
 unfold Zbk
 rw[if_neg (by decide),Za3]
theorem ZoM{u w:U}(h:St' u)(hf:u.sch≠Zw)(hs:w.sch=u.sch)(hp:w.hp=false)(hz:w.port=0):ZP w (Zl u)=({ w with hh:=true,host:=u.host,hp:=u.hp,port:=u.port },0):=by
 have hl:ZI u.host (Zb u.sch)=(u.host,0):=by
  by_cases hn:u.host=[]
  ·have:Zb u.sch=false:=by
    cases hsp:Zb u.sch
    ·rfl
    ·exact absurd hn (h.sd.hst hsp hf)
   rw[this,hn];exact ZoL
  ·exact h.fhost hn
 cases hup:u.hp
 ·have e:Zl u=u.host:=by unfold Zl;rw[if_neg (by rw[hup];decide)]
  unfold ZP;rw[e,ZiR h.ahost,hs];simp only
  rw[if_neg,hl,if_neg (by intro x;exact x rfl),if_pos True.intro,h.zport hup]
  ·obtain⟨sch,nam,pw,hh,host,hp',port,op,opath,segs,hq,q,hf',fr⟩:=w
   simp only at hp hz;subst hp hz
   rfl
  ·rintro⟨e1,e2|e2⟩
   ·exact h.sd.hst e2 hf e1
   ·cases e2
 ·have e:Zl u=u.host++[58]++Za8 u.port:=by unfold Zl ZC;rw[if_pos hup,if_pos hup]
  have hne:u.host≠[]:=fun x=>by have:=(h.sd.who (Or.inl x)).2.2;rw[hup]at this;cases this
  have hk:=h.sd.port hup;unfold ZP;rw[e,ZiS h.ahost,hs];simp only
  rw[if_neg (fun x=>hne x.1),hl,if_neg (by intro x;exact x rfl),if_neg (decD_ne _)]
  unfold ZdO
  rw[Zi3 hk.1,if_neg (by intro x;cases x)]
  unfold ZaW;simp only
  rw[if_neg (fun x=>hk.2 x.1 x.2)]
  simp
theorem ZqB{l:LB}(h1:∀c r,l=c::r→Z2 c=false)(h2:∀a x,l=a++[x]→Z2 x=false):trimB l=l:=by
 unfold trimB
 cases l with
 | nil=>rfl
 | cons c r=>
  rw[Xi (by rw[h1 c r rfl];decide)]
  rcases List.eq_nil_or_concat (c::r)with hn|⟨a,x,hx⟩
  ·cases hn
  ·rw[List.concat_eq_append]at hx
   rw[hx,List.reverse_append]
   show(List.dropWhile Z2 (x::a.reverse)).reverse=_
   rw[Xi (by rw[h2 a x hx];decide)]
   simp
theorem blank_pr{x:UInt8}(h:32≤x.toNat)(hn:x≠32):Z2 x=false:=by
 unfold Z2
 refine decide_eq_false fun e=>hn (Za7 (n:=32) rfl (by omega))
theorem ZqC{l:LB}(hp:Pr l)(h1:∀c r,l=c::r→c≠32)(h2:NoEnd l):wholeText l=l:=by
 unfold wholeText
 rw[Zcc (fun b hb=>by have:=hp b hb;omega),ZqB]
 ·unfold noBreaks
  refine List.filter_eq_self.2 fun b hb=>?_
  have:=hp b hb;unfold Zc3
  have e1:((b.toNat:Int)==9)=false:=beq_eq_false_iff_ne.2 (by omega)
  have e2:((b.toNat:Int)==10)=false:=beq_eq_false_iff_ne.2 (by omega)
  have e3:((b.toNat:Int)==13)=false:=beq_eq_false_iff_ne.2 (by omega)
  rw[e1,e2,e3];rfl
 ·intro c r e
  exact blank_pr (hp c (by rw[e];simp)).1 (h1 c r e)
 ·intro a x e
  refine blank_pr (hp x (by rw[e];simp)).1 fun hx=>?_
  subst hx;exact h2 a e
theorem ZqD{l:LB}(h:∀b∈l,b≠32):NoEnd l:=fun a e=>h 32 (by rw[e];simp) rfl
theorem Cl.noEnd{l:LB}(h:Cl l):NoEnd l:=ZqD fun b hb=>(h b hb).2.2
theorem ZrG{l:LB}(h:ScOk l):Cl l:=fun b hb=>by
 have:=h.all b hb
 refine⟨?_,?_,?_⟩<;>(rintro rfl;exact absurd this (by decide))
theorem ZqE{u:U}(h:St' u):Cl (Zbb u):=by
 unfold Zbb
 split
 ·refine Zll (Zll ?_ ?_) ?_
  ·intro b hb;simp only[Xf,Xe,or_false]at hb;rcases hb with rfl|rfl<;>decide
  ·intro b hb;have:=Zsz h b hb;exact⟨this.1,this.2.1,this.2.2.1⟩
  ·intro b hb;have:=ZcW h b hb;exact⟨this.1,this.2.1,this.2.2.1⟩
 split
 ·intro b hb;simp only[Xf,Xe,or_false]at hb;rcases hb with rfl|rfl<;>decide
 ·exact Ztz
theorem ZoN{u:U}(h:St' u):Cl (joinSl u.segs):=by
 intro b hb;unfold joinSl at hb;obtain⟨s,hs,hb⟩:=List.mem_flatMap.1 hb;rcases Xc.1 hb with hb|hb
 ·rw[Xk]at hb;subst hb;decide
 ·have ha:=(h.seg.each s hs).asis
  exact⟨ha.ne (by decide) b hb,ha.ne (by decide) b hb,ha.ne (by decide) b hb⟩
theorem ZsA{u:U}(h:St' u):∀b∈pathU u,b≠35∧b≠63:=by
 intro b hb;unfold pathU at hb
 split at hb
 ·next ho=>have:=(h.opq ho).2.2.2 b hb;exact⟨this.2,this.1⟩
 ·have:=ZoN h b hb;exact⟨this.1,this.2.1⟩
theorem Zf5{l:LB}(h:ScOk l):Zbq l=true∧Zae l=l:=by
 constructor
 ·cases l with
  | nil=>exact absurd rfl h.ne
  | cons c r=>
   have hc:=h.first c r rfl;unfold Zbq;rw[Bool.and_eq_true]
   constructor
   ·unfold Zbv;exact decide_eq_true (by omega)
   ·rw[List.all_eq_true]
    intro b hb
    have:=h.all b (by simp[hb])
    unfold ZfP Zbv;simp only[Bool.or_eq_true,beq_iff_eq,decide_eq_true_eq]
    omega
 ·exact Zlb fun b hb=>by have:=h.all b hb;omega
theorem Zmq{s r:LB}(h:ScOk s):Zax (s++58::r)=(s,r,true):=by
 have h58:∀b∈s,isB 58 b=false:=fun b hb=>by
  have:=h.all b hb
  refine Zlk (c:=58) rfl ?_
  rintro rfl
  exact absurd this (by decide)
 unfold Zax
 rw[Zsk r h58 (by decide)]
 simp only;rw[if_pos ⟨trivial,(Zf5 h).1⟩,(Zf5 h).2]
theorem ZbN(sp:Bool)(l:LB):countSl sp (47::l)=countSl sp l+1:=by rw[countSl,if_pos (Ztl sp)]
theorem Zhb{sp:Bool}{c:UInt8}(r:LB)(h:slB sp c=false):countSl sp (c::r)=0:=by rw[countSl,if_neg (by rw[h];decide)]
def toR(u:U):RU:=⟨u.sch,u.nam,u.pw,u.hh,u.host,if u.hp=true then(u.port:Int)else -1,u.segs,u.op,u.opath,u.hq,u.q,u.hf,u.fr⟩
structure Wk (u:U):Prop where
 port:u.hp=true→u.port≤65535
 opq:u.op=true→u.segs=[]∧u.hh=false
 zop:u.op=false→u.opath=[]
 nq:u.hq=false→u.q=[]
 pq:Pr u.q
 sp:Zb u.sch=true→u.hh=true
 path:(pathU u).length≤9000
 lq:u.q.length≤90000
theorem St'.wk{u:U}(h:St' u)(h1:(pathU u).length≤9000)(h2:u.q.length≤90000):Wk u:=
 ⟨fun g=>(h.sd.port g).1,fun g=>⟨(h.opq g).1,(h.opq g).2.1⟩,h.zop,h.wf.nq,h.sd.pq,h.sp,h1,h2⟩
theorem Zi5(l:LB):clean l=Zn (Z1 l):=(Zgp l).symm
theorem Zmt(l:LB)(ps:List LB):(Zc2 l ps).2≠1:=by
 unfold Zc2
 (repeat' split)<;>simp
theorem Zlm(l:LB)(sp:Bool):(ZI l sp).2≠1:=by
 unfold ZI
 split
 ·unfold Zak
  (repeat' split)<;>simp
 split
 ·unfold ZaA
  split
  ·simp
  split
  ·simp
  ·exact Zmt _ _
 ·unfold Zbk
  split<;>simp
theorem ZhX(l:LB):(ZH l).2≠1:=by
 unfold ZH
 split
 ·simp
 split
 ·exact Zlm _ _
 split<;>simp
theorem ZhY(u:U)(t:LB):(ZY u t).2≠1:=by
 unfold ZY
 split
 ·simp
 split
 ·exact ZhX _
 ·simp
theorem Zi6(u:U)(l:LB)(b:U):(Zcv u l b).2≠1:=by
 unfold Zcv
 split
 ·exact ZhY _ _
 (repeat' split)<;>simp
theorem ZoO(u:U)(p:LB):(ZdO u p).2≠1:=by
 unfold ZdO
 (repeat' split)<;>simp
theorem Zmu(u:U)(p:LB):(ZP u p).2≠1:=by
 unfold ZP
 split
 ·simp
 split
 ·exact Zlm _ _
 split
 ·simp
 ·exact ZoO _ _
theorem Zcy(u:U)(t:LB):(Zs u t).2≠1:=by
 unfold Zs
 split
 ·simp
 ·unfold ZbR
  split
  ·exact Zmu _ _
  split<;>simp
theorem Ze3(u:U)(l:LB)(b:U):(ZV u l b).2≠1:=by
 unfold ZV
 split
 ·exact Zi6 _ _ _
 split
 ·exact Zcy _ _
 split<;>simp
theorem Zi7(u:U)(l:LB)(b:U):(Zay u l b).2≠1:=by
 unfold Zay
 split
 ·exact Ze3 _ _ _
 ·exact Zcy _ _
theorem Zi8(u:U)(l:LB)(b:U):(ZQ u l b).2≠1:=by
 unfold ZQ
 split
 ·exact Zi6 _ _ _
 split
 ·exact Zi7 _ _ _
 split
 ·simp
 split
 ·simp
 ·exact Zcy _ _
theorem Zi9(s r:LB)(f:Bool)(b:U):(ZbY s r f b).2≠1:=by
 unfold ZbY
 split
 ·simp
 split
 ·exact Zi8 _ _ _
 ·exact Ze3 _ _ _
theorem Zmv(l:LB)(hf:Bool)(b:U):(ZaT l hf b).2≠1:=by
 unfold ZaT
 split
 ·exact Zi9 _ _ _ _
 split
 ·unfold ZbQ
  split<;>simp
 ·exact Zi9 _ _ _ _
theorem Ze4(l:LB)(b:U):(ZD l b).2≠1:=by
 unfold ZD Zgv
 split
 ·exact Zmv _ _ _
 ·simp
theorem ZoP(l:LB)(b:Bool):(ZbS l b).2≠1:=by
 unfold ZbS
 split
 ·simp
 split
 ·simp
 ·exact Ze4 _ _
theorem Zhc(l base:LB)(b:Bool)(h:160<l.length∨(b=true∧160<base.length)):(Zat l base b).2=1:=by unfold Zat;rw[if_pos h]
theorem Zf6(l base:LB)(b:Bool)(h:¬(160<l.length∨(b=true∧160<base.length))):(Zat l base b).2≠1:=by
 unfold Zat;rw[if_neg h]
 split
 ·exact ZoP _ _
 ·exact Ze4 _ _
def pl(ps:List (List UInt8)):Nat:=(joinSl ps).length
theorem Zln(a b:List LB):pl (a++b)=pl a+pl b:=by simp[pl,joinSl]
theorem ZoQ(s:LB):pl [s]=1+s.length:=by simp[pl,joinSl];omega
theorem ZoR(ps:List LB)(n:Nat):pl (ps.take n)≤pl ps:=by
 conv=>rhs;rw[←List.take_append_drop n ps]
 rw[Zln];omega
theorem Zlo(f:Bool)(ps:List LB):pl (ZaC f ps)≤pl ps:=by
 unfold ZaC
 split
 ·exact Xh _
 ·exact ZoR _ _
theorem ZtL(set l:LB):(encB set (clean l)).length≤9*l.length:=by
 have h1:=Zhs set (clean l);have h2:=Za9 l
 omega
theorem ZsE(f:Bool)(ps:List LB)(s:LB):pl (joinL f ps s)≤pl ps+(2+9*s.length):=by
 unfold joinL;rw[Zln,ZoQ]
 split
 ·rw[List.length_append,List.length_take];simp;omega
 ·have:=ZtL (tl (ZaN 4)) s;omega
theorem ZtD(f:Bool)(ps:List LB)(s:LB)(last:Bool):pl (ZcF f ps s last)≤pl ps+(2+9*s.length):=by
 have h2:pl (if countDots s=2 then ZaC f ps else ps)≤pl ps:=by
  split
  ·exact Zlo _ _
  ·exact Xh _
 unfold ZcF
 split
 ·exact ZsE _ _ _
 split
 ·rw[Zln,ZoQ];simp only[Xm];omega
 ·omega
def cost(ss:List (List UInt8)):Nat:=(ss.map fun s=>2+9*s.length).sum
theorem ZsF(f:Bool)(ss:List LB):∀ps,pl (Zbu f ps ss)≤pl ps+cost ss:=by
 induction ss with
 | nil=>intro ps;exact Nat.le_add_right _ _
 | cons x r ih=>
  intro ps
  cases r with
  | nil=>have:=ZtD f ps x true;simp only[Zbu,cost,List.map,Xg,List.sum_nil];omega
  | cons y q=>
   have h1:=ih (ZcF f ps x false);have h2:=ZtD f ps x false;rw[Zbu];simp only[cost,List.map,Xg]at h1 ⊢
   omega
theorem Zmw(p:UInt8→Bool)(l:LB):cost (Zbl p l)≤9*l.length+2:=by
 induction l with
 | nil=>rw[Zbl];simp[cost]
 | cons c r ih=>
  rw[Zbl]
  split
  ·simp only[cost,List.map,Xg,Xm,Xl]at ih ⊢
   omega
  ·obtain⟨x,q,hx⟩:=Zdd p r
   rw[hx]at ih ⊢;simp only[cost,List.map,Xg,Xl]at ih ⊢
   omega
theorem Zf7(f sp:Bool)(ps:List LB)(t:LB):pl (ZaR f sp ps t)≤pl ps+9*t.length+2:=by
 have h1:=ZsF f (Zbl (slB sp) t) ps;have h2:=Zmw (slB sp) t;unfold ZaR
 omega
theorem Zdq(t sch:LB):pl (Zbg t sch)≤9*t.length+2:=by
 have h:=Zf7 (sch==Zw) (Zb sch) [] t;have h0:pl []=0:=rfl;unfold Zbg
 omega
theorem ZoS(b:List LB)(t sch:LB):pl (Zcu b t sch)≤pl b+9*t.length+2:=by
 have h:=Zf7 (sch==Zw) (Zb sch) (ZaC (sch==Zw) b) t;have h0:=Zlo (sch==Zw) b;unfold Zcu
 omega
theorem ZqF(b:List LB)(t:LB):pl (ZaK b t)≤pl b+9*t.length+2:=by
 unfold ZaK
 split
 ·have:=Zdq t Zw;omega
 ·have:=Zf7 true true (b.take 1) t
  have:=ZoR b 1
  omega
structure Pm (u:U) (a:Nat):Prop where
 o:u.opath.length≤a
 s:pl u.segs≤a
theorem Pm.path{u:U}{a:Nat}(h:Pm u a):(pathU u).length≤a:=by
 unfold pathU
 split
 ·exact h.o
 ·exact h.s
theorem Pm.le{u:U}{a b:Nat}(h:Pm u a)(hab:a≤b):Pm u b:=⟨Xa h.o hab,Xa h.s hab⟩
theorem ZbB(a:Nat):Pm zeroU a:=⟨Xb _,Xb _⟩
theorem Zlp(sch q:LB)(b:Bool):Pm (ZbI sch b q) 0:=⟨Xb _,Xb _⟩
theorem Zja{u base:U}{B:Nat}(l:LB)(h:Pm u 0)(hb:Pm base B):Pm (Zal u l base) (B+9*l.length+2):=by
 have h1:=h.o;have h2:=hb.s;unfold Zal
 split
 ·exact⟨by show u.opath.length≤_;omega,by show pl base.segs≤_;omega⟩
 ·exact⟨by show u.opath.length≤_;omega,by show pl (Zcu base.segs l u.sch)≤_;have:=ZoS base.segs l u.sch;omega⟩
theorem ZoT{u:U}{a:Nat}(h:Pm u 0)(s:List LB)(hs:pl s≤a):Pm { u with segs:=s } a:=⟨Xa h.o (Xb _),hs⟩
theorem ZbT(l:LB)(n:Nat):(l.drop n).length≤l.length:=by rw[List.length_drop];omega
theorem Zkh{u:U}(t:LB)(h:Pm u 0):Pm (ZY u t).1 (9*t.length+2):=by
 have hc:=(Z8 (slB true) t).1;unfold ZY
 split
 ·exact ZoT h _ (Zdq _ _)
 split
 ·exact ZbB _
 ·exact⟨Xa h.o (Xb _),by show pl (Zbg _ _)≤_;have:=Zdq (bcut (slB true) t).2.1 u.sch;omega⟩
theorem ZoU{u base:U}{B:Nat}(l:LB)(h:Pm u 0)(hb:Pm base B):Pm (Zcv u l base).1 (B+9*l.length+2):=by
 have h0:=h.o;have hs:=hb.s;unfold Zcv
 split
 ·have:=ZbT l 2
  exact(Zkh (u:={ u with hh:=true }) (l.drop 2) ⟨h.o,h.s⟩).le (by omega)
 split
 ·exact⟨by show u.opath.length≤_;omega,by show pl (Zbg _ _)≤_;have:=Zdq (l.drop (countSl true l)) u.sch;have:=ZbT l (countSl true l);omega⟩
 split
 ·exact⟨by show u.opath.length≤_;omega,by show pl (ZaK _ _)≤_;have:=ZqF base.segs (l.drop 1);have:=ZbT l 1;omega⟩
 split
 ·exact⟨by show u.opath.length≤_;omega,by show pl (Zbg _ _)≤_;have:=Zdq l u.sch;omega⟩
 ·exact Zja (u:={ u with hh:=true,host:=base.host }) l ⟨h.o,h.s⟩ hb
theorem ZsG{u:U}(p:LB)(h:Pm u 0):Pm (ZdO u p).1 0:=by
 unfold ZdO
 split
 ·exact ZbB _
 show Pm (ZaW u _) 0
 unfold ZaW
 split
 ·exact⟨h.o,h.s⟩
 ·exact⟨h.o,h.s⟩
theorem ZqG{u:U}(p:LB)(h:Pm u 0):Pm (ZP u p).1 0:=by
 unfold ZP
 split
 ·exact ZbB _
 split
 ·exact ZbB _
 split
 ·exact⟨h.o,h.s⟩
 ·exact ZsG _ ⟨h.o,h.s⟩
theorem Zdr{u:U}(t:LB)(h:Pm u 0):Pm (Zs u t).1 (9*t.length+2):=by
 have hc:=(Z8 (slB (Zb u.sch)) t).1;unfold Zs
 split
 ·exact ZbB _
 ·unfold ZbR
  split
  ·exact ZbB _
  have hp:=ZqG (u:={ u with nam:=Zgn (bcut (isB 58) (bcutLast 64 (bcut (slB (Zb u.sch)) t).1).1).1,pw:=Zgn (bcut (isB 58) (bcutLast 64 (bcut (slB (Zb u.sch)) t).1).1).2.1 }) (bcutLast 64 (bcut (slB (Zb u.sch)) t).1).2.1 ⟨h.o,h.s⟩
  split
  ·exact ZoT hp _ (by have:=Zdq (bcut (slB (Zb u.sch)) t).2.1 u.sch;omega)
  ·exact hp.le (Xb _)
theorem Zhd{u base:U}{B:Nat}(l:LB)(h:Pm u 0)(hb:Pm base B):Pm (ZV u l base).1 (B+9*l.length+2):=by
 have h0:=h.o;unfold ZV
 split
 ·exact ZoU l h hb
 split
 ·exact(Zdr _ h).le (by have:=ZbT l (if Zb u.sch=true then countSl (Zb u.sch) l else 2);omega)
 split
 ·exact⟨by show u.opath.length≤_;omega,by show pl (Zbg _ _)≤_;have:=Zdq (l.drop 1) u.sch;have:=ZbT l 1;omega⟩
 ·exact Zja (u:=kept u base) l ⟨h.o,h.s⟩ hb
theorem Zmx{u base:U}{B:Nat}(l:LB)(h:Pm u 0)(hb:Pm base B):Pm (Zay u l base).1 (B+9*l.length+2):=by
 unfold Zay
 split
 ·exact Zhd l h hb
 ·exact(Zdr _ h).le (by have:=ZbT l (countSl true l);omega)
theorem Zmy{u base:U}{B:Nat}(l:LB)(h:Pm u 0)(hb:Pm base B):Pm (ZQ u l base).1 (B+9*l.length+2):=by
 have h0:=h.o;have h1:=h.s;unfold ZQ
 split
 ·exact ZoU l h hb
 split
 ·exact Zmx l h hb
 split
 ·exact⟨by show(encB _ (clean l)).length≤_;have:=ZtL (tl (ZaN 0)) l;omega,by show pl u.segs≤_;omega⟩
 split
 ·exact⟨by show u.opath.length≤_;omega,by show pl (Zbg _ _)≤_;have:=Zdq (l.drop 1) u.sch;have:=ZbT l 1;omega⟩
 ·exact(Zdr _ h).le (by have:=ZbT l 2;omega)
theorem ZoV(sch rest:LB)(f:Bool){base:U}{B:Nat}(hb:Pm base B):Pm (ZbY sch rest f base).1 (B+9*rest.length+2):=by
 have hc:=(Z8 (isB 63) rest).1;unfold ZbY
 split
 ·exact ZbB _
 split
 ·exact(Zmy _ (Zlp _ _ _) hb).le (by omega)
 ·exact(Zhd _ (Zlp _ _ _) hb).le (by omega)
theorem ZqH(l:LB)(hf:Bool){base:U}{B:Nat}(hb:Pm base B):Pm (ZaT l hf base).1 (B+9*l.length+2):=by
 have hc:=(Zez l).2;unfold ZaT
 split
 ·exact(ZoV _ _ _ hb).le (by omega)
 split
 ·unfold ZbQ
  split
  ·exact hb.le (by omega)
  ·exact ZbB _
 ·exact(ZoV _ _ _ hb).le (by omega)
theorem ZqI(l:LB):(trimB l).length≤l.length:=by
 unfold trimB;rw[Xd]
 refine Xa (List.IsSuffix.length_le (Xj _)) ?_
 rw[Xd];exact List.IsSuffix.length_le (Xj _)
theorem Ze5(l:LB):(wholeText l).length≤3*l.length:=by
 have h1:=Zdh (trimB (clean l));have h2:=ZqI (clean l);have h3:=Za9 l;unfold wholeText
 omega
theorem Zhe(l:LB){base:U}{B:Nat}(hb:Pm base B):Pm (ZD l base).1 (B+27*l.length+2):=by
 have h1:=(Z8 (isB 35) (wholeText l)).1;have h2:=Ze5 l;unfold ZD Zgv
 split
 ·exact ZbB _
 ·have h:=ZqH (bcut (isB 35) (wholeText l)).1 (bcut (isB 35) (wholeText l)).2.2 hb
  have ho:=h.o;have hs:=h.s
  exact⟨Xa ho (by omega),Xa hs (by omega)⟩
theorem ZqJ(l base:LB)(b:Bool):(pathU (Zat l base b).1).length≤8644:=by
 have hz:(pathU zeroU).length≤8644:=(ZbB 8644).path;unfold Zat
 split
 ·exact hz
 next hl=>
  split
  ·exact hz
  ·refine Pm.path ?_
   have h1:l.length≤160:=Xn fun h=>hl (Or.inl h)
   have hbase:Pm (ZbS base b).1 4322:=by
    unfold ZbS
    split
    ·exact ZbB _
    next hb=>
     split
     ·exact ZbB _
     ·have h2:base.length≤160:=Xn fun h=>hl (Or.inr ⟨by cases b;exact absurd rfl hb;rfl,h⟩)
      exact(Zhe base (ZbB 0)).le (by omega)
   exact(Zhe l hbase).le (by omega)
structure Hm (u:U) (a:Nat):Prop where
 host:u.host.length≤300000
 q:u.q.length≤a
theorem Zbs(a:Nat):Hm zeroU a:=⟨Xb _,Xb _⟩
theorem Zlq(sch q:LB)(b:Bool){a:Nat}(h:9*q.length≤a):Hm (ZbI sch b q) a:=⟨Xb _,Xa (ZtL _ _) h⟩
theorem Zjb{u base:U}{a:Nat}(l:LB)(h:Hm u a)(hb:Hm base a):Hm (Zal u l base) a:=by
 unfold Zal
 split
 ·refine⟨h.host,?_⟩
  show(if u.hq=true then u.q else base.q).length≤a
  split
  ·exact h.q
  ·exact hb.q
 ·exact⟨h.host,h.q⟩
theorem Zki{u:U}{a:Nat}(t:LB)(ht:t.length≤30000)(h:Hm u a):Hm (ZY u t).1 a:=by
 have hc:=(Z8 (slB true) t).1;unfold ZY
 split
 ·exact⟨h.host,h.q⟩
 split
 ·exact Zbs _
 ·exact⟨Zek (by omega),h.q⟩
theorem ZoW{u base:U}{a:Nat}(l:LB)(hl:l.length≤30000)(h:Hm u a)(hb:Hm base a):Hm (Zcv u l base).1 a:=by
 unfold Zcv
 split
 ·have:=ZbT l 2
  exact Zki (u:={ u with hh:=true }) (l.drop 2) (by omega) ⟨h.host,h.q⟩
 split
 ·exact⟨h.host,h.q⟩
 split
 ·exact⟨hb.host,h.q⟩
 split
 ·exact⟨hb.host,h.q⟩
 ·exact Zjb (u:={ u with hh:=true,host:=base.host }) l ⟨hb.host,h.q⟩ hb
theorem ZsH{u:U}{a:Nat}(p:LB)(h:Hm u a):Hm (ZdO u p).1 a:=by
 unfold ZdO
 split
 ·exact Zbs _
 show Hm (ZaW u _) a
 unfold ZaW
 split
 ·exact⟨h.host,h.q⟩
 ·exact⟨h.host,h.q⟩
theorem ZqK{u:U}{a:Nat}(p:LB)(hp:p.length≤30000)(h:Hm u a):Hm (ZP u p).1 a:=by
 have hc:=ZfU p;unfold ZP
 split
 ·exact Zbs _
 split
 ·exact Zbs _
 have h2:Hm { u with hh:=true,host:=(ZI (Zu p).1 (Zb u.sch)).1 } a:=⟨ZfS (by omega),h.q⟩
 split
 ·exact h2
 ·exact ZsH _ h2
theorem Zds{u:U}{a:Nat}(t:LB)(ht:t.length≤30000)(h:Hm u a):Hm (Zs u t).1 a:=by
 have hc:=(Z8 (slB (Zb u.sch)) t).1;have hl:=ZeZ 64 (bcut (slB (Zb u.sch)) t).1;unfold Zs
 split
 ·exact Zbs _
 unfold ZbR
 have h2:=ZqK (u:={ u with nam:=Zgn (bcut (isB 58) (bcutLast 64 (bcut (slB (Zb u.sch)) t).1).1).1,pw:=Zgn (bcut (isB 58) (bcutLast 64 (bcut (slB (Zb u.sch)) t).1).1).2.1 }) (a:=a) (bcutLast 64 (bcut (slB (Zb u.sch)) t).1).2.1 (by omega) ⟨h.host,h.q⟩
 split
 ·exact Zbs _
 split
 ·exact⟨h2.host,h2.q⟩
 ·exact h2
theorem Zhf{u base:U}{a:Nat}(l:LB)(hl:l.length≤30000)(h:Hm u a)(hb:Hm base a):Hm (ZV u l base).1 a:=by
 unfold ZV
 split
 ·exact ZoW l hl h hb
 split
 ·have:=ZbT l (if Zb u.sch=true then countSl (Zb u.sch) l else 2)
  exact Zds _ (by omega) h
 split
 ·exact⟨hb.host,h.q⟩
 ·exact Zjb l (u:=kept u base) ⟨hb.host,h.q⟩ hb
theorem Zmz{u base:U}{a:Nat}(l:LB)(hl:l.length≤30000)(h:Hm u a)(hb:Hm base a):Hm (ZQ u l base).1 a:=by
 unfold ZQ
 split
 ·exact ZoW l hl h hb
 split
 ·unfold Zay
  split
  ·exact Zhf l hl h hb
  ·have:=ZbT l (countSl true l)
   exact Zds _ (by omega) h
 split
 ·exact⟨h.host,h.q⟩
 split
 ·exact⟨h.host,h.q⟩
 ·have:=ZbT l 2
  exact Zds _ (by omega) h
theorem ZoX(sch rest:LB)(f:Bool){base:U}{a:Nat}(hr:rest.length≤30000)(ha:9*rest.length≤a)(hb:Hm base a):Hm (ZbY sch rest f base).1 a:=by
 have hc:=(Z8 (isB 63) rest).1;have hc2:=(Z8 (isB 63) rest).2;unfold ZbY
 split
 ·exact Zbs _
 split
 ·exact Zmz _ (by omega) (Zlq _ _ _ (by omega)) hb
 ·exact Zhf _ (by omega) (Zlq _ _ _ (by omega)) hb
theorem ZqL(l:LB)(hf:Bool){base:U}{a:Nat}(hl:l.length≤30000)(ha:9*l.length≤a)(hb:Hm base a):Hm (ZaT l hf base).1 a:=by
 have hc:=(Zez l).2;unfold ZaT
 split
 ·exact ZoX _ _ _ (by omega) (by omega) hb
 split
 ·unfold ZbQ
  split
  ·exact hb
  ·exact Zbs _
 ·exact ZoX _ _ _ (by omega) (by omega) hb
theorem Zhg(l:LB){base:U}{a:Nat}(hl:l.length≤10000)(ha:27*l.length≤a)(hb:Hm base a):Hm (ZD l base).1 a:=by
 have h1:=Ze5 l;have h2:=(Z8 (isB 35) (wholeText l)).1;unfold ZD Zgv
 have h3:=ZqL (bcut (isB 35) (wholeText l)).1 (bcut (isB 35) (wholeText l)).2.2 (a:=a) (by omega) (by omega) hb
 split
 ·exact Zbs _
 ·exact⟨h3.host,h3.q⟩
theorem ZsI(l:LB)(hl:l.length≤10000):Hm (ZbK l).1 (27*l.length):=Zhg l hl (Xh _) (Zbs _)
theorem ZqM(l base:LB)(b:Bool):Hm (Zat l base b).1 4320:=by
 unfold Zat
 split
 ·exact Zbs _
 ·next h0=>
  split
  ·exact Zbs _
  ·refine Zhg l (by omega) (by omega) ?_
   unfold ZbS
   split
   ·exact Zbs _
   ·next h1=>
    have hb:base.length≤160:=by
     cases b
     ·exact absurd rfl h1
     ·rcases Nat.lt_or_ge 160 base.length with g|g
      ·exact absurd (Or.inr ⟨rfl,g⟩) h0
      ·exact g
    split
    ·exact Zbs _
    ·have h2:=ZsI base (by omega)
     exact⟨h2.host,Xa h2.q (by omega)⟩
theorem ZmA(l:LB):(dropBl l).length≤l.length:=by
 unfold dropBl;rw[Xd]
 exact Xa (List.dropWhile_sublist _).length_le (by rw[Xd];exact Xh _)
end Go.Proofs.YtchkhibgbnhjpabGreatDoor
