import Derived.Test.YtchkhibgbnhjpabGreatDoorT04
import Derived.Test.YtchkhibgbnhjpabGreatDoorT09
open Bool renaming and_eq_true→Xj,not_eq_true'→Xk,not_eq_true→Xl,or_eq_true→Xo
open List renaming take_succ_cons→Xa,append_cancel_right→Xb,take_zero→Xc,mem_append→Xd,append_nil→Xe,cons_append→Xf,mem_cons→Xg,mem_singleton→Xh,take_nil→Xi,isEmpty_iff→Xm,nil_append→Xn,mem_flatMap→Xp,not_mem_nil→Xq
namespace Go.Proofs.YtchkhibgbnhjpabGreatDoor
open Go.RowKit
theorem Zv5{n:Int}{a r:LB}{c:UInt8}(h:∀b∈r,isB n b=false)(hc:isB n c=true):bcutLast n (a++c::r)=(a,r,true):=by
 induction a with
 | nil=>rw[Xn,bcutLast,ZiT h,if_neg (by intro e;cases e),if_pos hc]
 | cons x a ih=>rw[Xf,bcutLast,ih,if_pos rfl]
theorem ZvM{p:UInt8→Bool}(g l:LB)(h:∀b∈g,p b=false):Zbl p (g++l)=match Zbl p l with | []=>[g]|a::q=>(g++a)::q:=by
 induction g with
 | nil=>
  obtain⟨a,q,hq⟩:=Zdd p l;rw[Xn,hq]
  rfl
 | cons c r ih=>
  rw[Xf,Zbl,if_neg (by rw[h c (by simp)];decide),ih (fun b hb=>h b (by simp[hb]))]
  obtain⟨a,q,hq⟩:=Zdd p l;rw[hq]
  rfl
theorem Zv6{sp:Bool}:∀(rest:List LB) (s:LB),(∀x∈s::rest,∀b∈x,slB sp b=false)→Zbl (slB sp) (s++joinSl rest)=s::rest:=by
 intro rest
 induction rest with
 | nil=>
  intro s h
  rw[ZvM s _ (h s (by simp))]
  show(match Zbl (slB sp) []with | []=>[s]|a::q=>(s++a)::q)=_
  rw[Zbl]
  simp
 | cons x r ih=>
  intro s h
  have e:joinSl (x::r)=47::(x++joinSl r):=by simp[joinSl]
  have ihx:=ih x (fun y hy=>h y (by simp only[Xg]at hy ⊢;exact Or.inr hy))
  rw[ZvM s _ (h s (by simp)),e]
  have e2:Zbl (slB sp) (47::(x++joinSl r))=[]::Zbl (slB sp) (x++joinSl r):=by rw[Zbl,if_pos (Ztl sp)]
  rw[e2,ihx]
  simp
theorem Zza{f:Bool}{ps:List LB}{s:LB}(ha:Asis (tl (ZaN 4)) s)(hd:f=true→ps=[]→Zaf s=true→s.getD 1 0=58):joinL f ps s=ps++[s]:=by
 unfold joinL
 split
 ·next h=>
  have h1:=hd h.1 h.2.1 h.2.2;have h2:=h.2.2;unfold Zaf at h2
  split at h2
  ·next a b=>
   have:b=58:=h1;rw[this]
   rfl
  ·cases h2
 ·rw[ha.clean]
theorem Zxj{f sp:Bool}{ps:List LB}{s:LB}(last:Bool)(h:Zob sp s)(hd:f=true→ps=[]→Zaf s=true→s.getD 1 0=58):ZcF f ps s last=ps++[s]:=by unfold ZcF;rw[if_pos h.dots,Zza h.asis hd]
theorem ZwF{f sp:Bool}:∀(ss ps:List LB),(∀s∈ss,Zob sp s)→(f=true→ps=[]→Zsl f ss)→Zbu f ps ss=ps++ss:=by
 intro ss
 induction ss with
 | nil=>intro ps _ _;rw[Zbu];simp
 | cons x r ih=>
  intro ps h hd
  have hx:=h x (by simp)
  have hdx:f=true→ps=[]→Zaf x=true→x.getD 1 0=58:=fun a b c=>hd a b a c
  cases r with
  | nil=>rw[Zbu,Zxj true hx hdx]
  | cons y q=>
   rw[Zbu,Zxj false hx hdx,ih _ (fun s hs=>h s (by simp only[Xg]at hs ⊢;exact Or.inr hs)) (fun _ e=>absurd e (by simp))]
   simp
theorem Zv7{sch s:LB}{rest:List LB}(h:ZdP (sch==Zw) (Zb sch) (s::rest)):Zbg (s++joinSl rest) sch=s::rest:=by
 unfold Zbg ZaR
 rw[Zv6 rest s (fun x hx=>(h.each x hx).sl),ZwF (s::rest) [] h.each (fun _ _=>h.drv)]
 rfl
theorem ZAU:countDots [46]=1:=by decide
theorem Zzb{sch s:LB}{rest:List LB}(hf:(sch==Zw)=false)(h:∀x∈s::rest,Zob (Zb sch) x):Zbg (46::47::(s++joinSl rest)) sch=s::rest:=by
 have e:Zbl (slB (Zb sch)) (46::47::(s++joinSl rest))=[46]::s::rest:=by
  have h46:slB (Zb sch) 46=false:=by cases Zb sch<;>decide
  have hh:∀b∈([46]:LB),slB (Zb sch) b=false:=fun b hb=>by rw[Xh]at hb;subst hb;exact h46
  have:=ZvM (p:=slB (Zb sch)) [46] (47::(s++joinSl rest)) hh;rw[show([46]:LB)++47::(s++joinSl rest)=46::47::(s++joinSl rest)from rfl]at this
  rw[this,Zbl,if_pos (Ztl _),Zv6 rest s (fun x hx=>(h x hx).sl)]
  rfl
 unfold Zbg ZaR;rw[e,Zbu,hf]
 have:ZcF false [] [46] false=[]:=by unfold ZcF;rw[if_neg (by rw[ZAU];decide),if_neg (by decide),if_neg (by rw[ZAU];decide)]
 rw[this,ZwF (s::rest) [] h (fun e=>by cases e)]
 rfl
theorem Zzc(n base:Int)(_hb:base=8∨base=10∨base=16):ZL n base=if 0≤Zhr n∧Zhr n<base then(Zhr n,true)else(0,false):=by
 unfold ZL Zhr;simp only
 by_cases a1:48≤n∧n≤57
 ·rw[if_pos a1,if_pos a1]
  by_cases h:base≤n-48
  ·rw[if_pos h,if_neg (by omega)]
  ·rw[if_neg h,if_pos (by omega)]
 rw[if_neg a1,if_neg a1]
 by_cases a2:97≤n∧n≤102
 ·rw[if_pos a2,if_pos a2]
  by_cases h:base≤n-97+10
  ·rw[if_pos h,if_neg (by omega)]
  ·rw[if_neg h,if_pos (by omega)]
   congr 1;omega
 rw[if_neg a2,if_neg a2]
 by_cases a3:65≤n∧n≤70
 ·rw[if_pos a3,if_pos a3]
  by_cases h:base≤n-65+10
  ·rw[if_pos h,if_neg (by omega)]
  ·rw[if_neg h,if_pos (by omega)]
   congr 1;omega
 rw[if_neg a3,if_neg a3,if_pos (by omega),if_neg (by omega)]
theorem ZwC(most:Int)(l:LB):∀n,(Z3 10 most n l).isSome=l.all fun b=>Znc (b.toNat:Int):=by
 induction l with
 | nil=>intro n;rfl
 | cons c r ih=>
  intro n
  rw[Z3,Zzc _ _ (by omega),List.all_cons]
  have hnum:Znc (c.toNat:Int)=decide (0≤Zhr (c.toNat:Int)∧Zhr (c.toNat:Int)<10):=by
   unfold Znc Zhr
   by_cases a1:48≤(c.toNat:Int)∧(c.toNat:Int)≤57
   ·rw[if_pos a1,decide_eq_true a1,decide_eq_true (by omega)]
   ·rw[if_neg a1,decide_eq_false a1]
    split
    ·rw[decide_eq_false (by omega)]
    ·split
     ·rw[decide_eq_false (by omega)]
     ·rw[decide_eq_false (by omega)]
  rw[hnum]
  by_cases hd:0≤Zhr (c.toNat:Int)∧Zhr (c.toNat:Int)<10
  ·rw[if_pos hd,decide_eq_true hd]
   simp only[if_true,Bool.true_and];exact ih _
  ·rw[if_neg hd,decide_eq_false hd]
   simp
theorem ZwV(most:Int)(l:LB):(Zv l 10 most).2=((l.all fun b=>Znc (b.toNat:Int)) && !l.isEmpty):=by
 unfold Zv
 cases l with
 | nil=>rfl
 | cons c r=>
  rw[if_neg (by simp)]
  have h:=ZwC most (c::r) 0
  cases hn:Z3 10 most 0 (c::r)with
  | none=>rw[hn]at h;simp only[Option.isSome]at h;rw[←h];rfl
  | some n=>rw[hn]at h;simp only[Option.isSome]at h;rw[←h];simp only;split<;>rfl
def tb(p:List Int):List UInt8:=Zae (Zn p)
theorem ZAV{c:UInt8}(h:c≠35∧c≠63∧c≠32):Cl [c]:=fun b hb=>by rw[Xh]at hb;subst hb;exact h
theorem Zv8{l:LB}(h:Asis S5 l):Zgn l=l:=h.clean
theorem ZAY{u:U}(h:St' u):∃who fnd,bcutLast 64 (userU u++Zl u)=(who,Zl u,fnd)∧Zgn (bcut (isB 58) who).1=u.nam∧Zgn (bcut (isB 58) who).2.1=u.pw∧(fnd=true→u.host≠[]):=by
 have h64:∀b∈Zl u,isB 64 b=false:=fun b hb=>Zlk (c:=64) rfl (ZcW h b hb).2.2.2.2.2
 have n58:∀b∈u.nam,isB 58 b=false:=fun b hb=>Zlk (c:=58) rfl (Zsy h.anam b hb).2.2.2.2.2.2
 have hho:¬(u.nam=[]∧u.pw=[])→u.host≠[]:=fun hn e=>hn (by have:=h.sd.who (Or.inl e);exact⟨this.1,this.2.1⟩)
 unfold userU
 split
 ·next hn=>
  refine⟨[],false,ZiT h64,?_,?_,fun e=>by cases e⟩
  ·rw[hn.1];exact Zfq
  ·rw[hn.2];exact Zfq
 next hn=>
  split
  ·next hp=>
   refine⟨u.nam,true,?_,?_,?_,fun _=>hho hn⟩
   ·rw[List.append_assoc];exact Zv5 h64 (by decide)
   ·rw[ZhP n58];exact Zv8 h.anam
   ·rw[ZhP n58,hp];exact Zfq
  ·refine⟨u.nam++58::u.pw,true,?_,?_,?_,fun _=>hho hn⟩
   ·have e:u.nam++([58]++u.pw)++[64]++Zl u=(u.nam++58::u.pw)++64::Zl u:=by simp
    rw[e];exact Zv5 h64 (by decide)
   ·rw[Zsk u.pw n58 (by decide)];exact Zv8 h.anam
   ·rw[Zsk u.pw n58 (by decide)];exact Zv8 h.apw
theorem Zyf{u w:U}(h:St' u)(hf:u.sch≠Zw)(hh:u.hh=true)(ho:u.op=false)(hw:w={ zeroU with sch:=u.sch,hq:=u.hq,q:=u.q }):Zs w (userU u++Zl u++joinSl u.segs)=({ u with hf:=false,fr:=[] },0):=by
 obtain⟨who,fnd,w1,w2,w3,w4⟩:=ZAY h
 have hws:w.sch=u.sch:=by rw[hw]
 have hfree:∀b∈userU u++Zl u,slB (Zb u.sch) b=false:=fun b hb=>by
  rcases Xd.1 hb with hb|hb
  ·have:=Zsz h b hb;exact Zty this.2.2.2.1 this.2.2.2.2
  ·have:=ZcW h b hb;exact Zty this.2.2.2.1 this.2.2.2.2.1
 have hpl:=ZoM (w:={ w with nam:=u.nam,pw:=u.pw }) h hf hws (by rw[hw];rfl) (by rw[hw];rfl)
 simp only[hws]at hpl
 have hne:fnd=true→Zl u≠[]:=fun e x=>by
  have hn:=w4 e;unfold Zl at x
  split at x
  ·simp at x
  ·exact hn x
 have hcut:bcut (slB (Zb u.sch)) (userU u++Zl u++joinSl u.segs)=(userU u++Zl u,(bcut (slB (Zb u.sch)) (joinSl u.segs)).2)∧(bcut (slB (Zb u.sch)) (joinSl u.segs)).1=[]:=by
  have e:(bcut (slB (Zb u.sch)) (joinSl u.segs)).1=[]:=by
   cases u.segs with
   | nil=>rfl
   | cons s r=>
    have:joinSl (s::r)=47::(s++joinSl r):=by simp[joinSl]
    rw[this,bcut,if_pos (Ztl _)]
  exact⟨by rw[Zlc _ hfree,e,Xe],e⟩
 unfold Zs;rw[hws,hcut.1];simp only;rw[w1];simp only
 rw[if_neg (fun x=>hne x.1 x.2),w2,w3,hpl]
 unfold ZbR
 rw[if_neg (by intro x;exact x rfl)]
 have fin:∀s,s=u.segs→(({ { { w with nam:=u.nam,pw:=u.pw }with hh:=true,host:=u.host,hp:=u.hp,port:=u.port }with segs:=s }:U),(0:Int))=({ u with hf:=false,fr:=[] },0):=by
  intro s hs;subst hs;rw[hw];obtain⟨sch,nam,pw,hh',host,hp',port,op,opath,segs,hq,q,hf',fr⟩:=u;simp only at hh ho;subst hh ho;have:=h.zop rfl;simp only at this;subst this
  rfl
 cases hs:u.segs with
 | nil=>
  have hsp:Zb u.sch=false:=by
   cases hsp:Zb u.sch
   ·rfl
   ·exact absurd hs (h.sd.sp hsp).2
  rw[hsp]
  show(if(false||false)=true then _ else _)=_
  rw[if_neg (by decide)]
  have:=fin u.segs rfl;rw[hw]at this ⊢;rw[hs]at this;exact this
 | cons s r=>
  have e:joinSl (s::r)=47::(s++joinSl r):=by simp[joinSl]
  rw[e,bcut,if_pos (Ztl _)];simp only
  rw[if_pos (by simp)]
  have hr:Zbg (s++joinSl r) u.sch=s::r:=Zv7 (by rw[←hs];exact h.seg)
  rw[hr];have:=fin _ hs.symm;simp only[hws]at this;rw[hs]at this;exact this
theorem Zvu{a b:LB}(hb:b≠[])(h:NoEnd b):NoEnd (a++b):=fun x e=>by
 obtain⟨y,hy⟩:=ZoH hb e;exact h y hy
theorem ZBh{u:U}(h:St' u):∀b∈u.q,b≠35∧b≠32:=by
 intro b hb;have ha:=h.aq;unfold SQ Zbr at ha
 split at ha
 ·exact⟨ha.ne (by decide) b hb,ha.ne (by decide) b hb⟩
 ·exact⟨ha.ne (by decide) b hb,ha.ne (by decide) b hb⟩
theorem ZwG{u:U}(h:St u):NoEnd (Zdg u):=by
 unfold Zdg
 cases hf:u.hf
 ·rw[if_neg (by decide:¬false=true),Xe]
  cases hq:u.hq
  ·rw[if_neg (by decide:¬false=true),Xe]
   unfold pathU
   cases ho:u.op
   ·rw[if_neg (by decide:¬false=true)]
    by_cases hs:u.segs=[]
    ·rw[hs]
     show NoEnd (Zad u++Zbb u++[])
     rw[Xe]
     exact(Zll (Zll (ZrG h.st.sd.sc) (ZAV (by decide))) (ZqE h.st)).noEnd
    ·refine Zvu ?_ (ZoN h.st).noEnd
     cases hs':u.segs with
     | nil=>exact absurd hs' hs
     | cons s r=>simp[joinSl]
   ·rw[if_pos (rfl:true=true)]
    by_cases hp:u.opath=[]
    ·rw[hp,Xe]
     exact(Zll (Zll (ZrG h.st.sd.sc) (ZAV (by decide))) (ZqE h.st)).noEnd
    ·exact Zvu hp (h.blank ho hq hf)
  ·rw[if_pos (rfl:true=true)]
   refine Zvu (by simp) (ZqD fun b hb=>?_)
   rcases Xd.1 hb with hb|hb
   ·rw[Xh]at hb;subst hb;decide
   ·exact(ZBh h.st b hb).2
 ·rw[if_pos (rfl:true=true)]
  refine Zvu (by simp) (ZqD fun b hb=>?_)
  rcases Xd.1 hb with hb|hb
  ·rw[Xh]at hb;subst hb;decide
  ·exact h.st.afr.ne (by decide) b hb
theorem Zyg{u:U}(h:St' u):Pr (Zdg u):=by
 have hs:=h.sd
 have h1:Pr (userU u):=by
  unfold userU
  split
  ·exact pr_nil
  split
  ·exact Zar hs.pnam (ZaX (by decide) (by decide))
  ·exact Zar (Zar hs.pnam (Zar (ZaX (by decide) (by decide)) hs.ppw)) (ZaX (by decide) (by decide))
 have h2:Pr (Zl u):=by
  unfold Zl
  split
  ·next hp=>
   refine Zar (Zar hs.phost (ZaX (by decide) (by decide))) ?_
   unfold ZC;rw[if_pos hp]
   exact(Zcw (by have:=(hs.port hp).1;omega)).pr
  ·exact hs.phost
 have h3:Pr (Zbb u):=by
  unfold Zbb
  split
  ·exact Zar (Zar (ZcR (by decide) (by decide) (ZaX (by decide) (by decide))) h1) h2
  split
  ·exact ZcR (by decide) (by decide) (ZaX (by decide) (by decide))
  ·exact pr_nil
 have h4:Pr (pathU u):=by
  unfold pathU
  split
  ·exact hs.popath
  ·intro b hb
   unfold joinSl at hb;obtain⟨s,hs',hc⟩:=Xp.1 hb
   exact Zar (ZaX (by decide) (by decide)) (hs.psegs s hs') b hc
 unfold Zdg
 refine Zar (Zar (Zar (Zar (Zar hs.sc.pr (ZaX (by decide) (by decide))) h3) h4) ?_) ?_
 ·split
  ·exact Zar (ZaX (by decide) (by decide)) hs.pq
  ·exact pr_nil
 ·split
  ·exact Zar (ZaX (by decide) (by decide)) hs.pfr
  ·exact pr_nil
theorem ZwH{l:LB}(h:HostT l):Zaf l=false:=by
 cases hd:Zaf l
 ·rfl
 ·obtain⟨a,b,rfl,ha,hb⟩:=Zf0 hd
  rcases h with⟨t,ht,-⟩|h
  ·simp only[List.cons.injEq]at ht
   rw[ht.1]at ha
   exact absurd ha (by decide)
  ·have:=h b (by simp)
   rcases hb with rfl|rfl
   ·exact absurd rfl this.2.2.1
   ·exact absurd rfl this.2.2.2.2.2.2.2.2.2
theorem ZwW{u:U}(h:St' u)(hf:u.sch=Zw):ZH u.host=(u.host,0):=by
 unfold ZH
 by_cases hn:u.host=[]
 ·rw[if_pos hn,hn]
 ·have hl:=h.fhost hn
  rw[hf,file_special]at hl
  rw[if_neg hn,hl,if_neg (by intro x;exact x rfl),if_neg (h.fil hf)]
theorem ZAm{u w base:U}(h:St' u)(hf:u.sch=Zw)(hw:w={ zeroU with sch:=u.sch,hq:=u.hq,q:=u.q }):Zcv w (Zbb u++pathU u) base=({ u with hf:=false,fr:=[] },0):=by
 have hsp:Zb u.sch=true:=by rw[hf];exact file_special
 have hh:=h.sp hsp;have ho:=(h.sd.sp hsp).1;have hw0:=h.sd.who (Or.inr hf)
 have hus:userU u=[]:=by unfold userU;rw[if_pos ⟨hw0.1,hw0.2.1⟩]
 have hhp:Zl u=u.host:=by unfold Zl;rw[if_neg (by rw[hw0.2.2];decide)]
 cases hs:u.segs with
 | nil=>exact absurd hs (h.sd.sp hsp).2
 | cons s r=>
  have hj:joinSl (s::r)=47::(s++joinSl r):=by simp[joinSl]
  have hb:Zbb u++pathU u=47::47::(u.host++47::(s++joinSl r)):=by
   unfold Zbb pathU
   rw[if_pos hh,if_neg (by rw[ho];decide),hus,hhp,hs,hj]
   rfl
  have hcut:bcut (slB true) (u.host++47::(s++joinSl r))=(u.host,s++joinSl r,true):=
   Zsk _ (fun b hb=>by have:=h.ahost.mem b hb;exact Zty this.2.1 this.2.2.2.2.1) (by decide)
  unfold Zcv
  rw[hb,ZbN,ZbN,if_pos (by omega)]
  show ZY { w with hh:=true } (u.host++47::(s++joinSl r))=_
  have hr:Zbg (s++joinSl r) u.sch=s::r:=Zv7 (by rw[←hs];exact h.seg)
  have hz:=h.zop ho;have hzp:=h.zport hw0.2.2;unfold ZY;rw[hcut];simp only
  rw[ZwH h.ahost,if_neg (by decide),ZwW h hf,if_neg (by intro x;exact x rfl),hw]
  simp only;rw[hr,←hs];obtain⟨sch,nam,pw,hh',host,hp',port,op,opath,segs,hq,q,hf',fr⟩:=u;simp only at hh ho hw0 hz hzp;obtain⟨a1,a2,a3⟩:=hw0;subst hh ho a1 a2 a3 hz hzp
  rfl
theorem ZxI{u w base:U}(h:St' u)(hw:w={ zeroU with sch:=u.sch,hq:=u.hq,q:=u.q }):ZQ w (Zbb u++pathU u) base=({ u with hf:=false,fr:=[] },0):=by
 have hws:w.sch=u.sch:=by rw[hw]
 by_cases hf:u.sch=Zw
 ·unfold ZQ
  rw[hws,if_pos hf];exact ZAm h hf hw
 generalize hv:({ u with hf:=false,fr:=[] }:U)=v
 unfold ZQ;rw[hws,if_neg hf]
 have hauth:u.hh=true→u.op=false→Zbb u++pathU u=47::47::(userU u++Zl u++joinSl u.segs):=fun hh ho=>by
  unfold Zbb pathU
  rw[if_pos hh,if_neg (by rw[ho];decide)]
  simp
 cases hsp:Zb u.sch
 ·rw[if_neg (by decide)]
  cases ho:u.op
  ·cases hh:u.hh
   ·have hn:=h.pth ho hh
    obtain⟨a1,a2,a3,a4⟩:=h.wf.nh hh;have hz:=h.zop ho;have hzp:=h.zport a4;have hff:(u.sch==Zw)=false:=beq_eq_false_iff_ne.2 hf
    have fin:∀s,s=u.segs→(({ w with sch:=u.sch,segs:=s }:U),(0:Int))=(v,0):=by
     intro s hs;subst hs;rw[hw,←hv];obtain⟨sch,nam,pw,hh',host,hp',port,op,opath,segs,hq,q,hf',fr⟩:=u;simp only at hh ho a1 a2 a3 a4 hz hzp;subst hh ho a1 a2 a3 a4 hz hzp
     rfl
    cases hs:u.segs with
    | nil=>exact absurd hs hn
    | cons s r=>
     have hj:joinSl (s::r)=47::(s++joinSl r):=by simp[joinSl]
     by_cases hdot:1<u.segs.length∧u.segs.getD 0 []=[]
     ·have hb:Zbb u++pathU u=47::46::47::(s++joinSl r):=by
       unfold Zbb pathU
       rw[if_neg (by rw[hh];decide),if_pos ⟨ho,hdot.1,hdot.2⟩,if_neg (by rw[ho];decide),hs,hj]
       rfl
      have hc:countSl false (47::46::47::(s++joinSl r))=1:=by rw[ZbN,Zhb _ (by decide)]
      rw[hb,hc,if_neg (by decide),if_pos rfl]
      show(({ w with sch:=u.sch,segs:=Zbg (46::47::(s++joinSl r)) u.sch }:U),(0:Int))=_
      rw[Zzb hff (fun x hx=>h.seg.each x (by rw[hs];exact hx))]
      exact fin _ hs.symm
     ·have hb:Zbb u++pathU u=47::(s++joinSl r):=by
       unfold Zbb pathU
       rw[if_neg (by rw[hh];decide),if_neg (fun x=>hdot x.2),if_neg (by rw[ho];decide),hs,hj]
       rfl
      have hc:countSl false (47::(s++joinSl r))=1:=by
       rw[ZbN]
       cases s with
       | nil=>
        cases r with
        | nil=>rfl
        | cons x y=>exact absurd ⟨by rw[hs];simp,by rw[hs];rfl⟩ hdot
       | cons c s'=>
        have:=(h.seg.each (c::s') (by rw[hs];simp)).sl c (by simp)
        rw[hsp]at this;rw[Xf,Zhb _ this]
      rw[hb,hc,if_neg (by decide),if_pos rfl]
      show(({ w with sch:=u.sch,segs:=Zbg (s++joinSl r) u.sch }:U),(0:Int))=_
      rw[Zv7 (by rw[←hs];exact h.seg)]
      exact fin _ hs.symm
   ·rw[hauth hh ho,ZbN,ZbN,if_neg (by omega),if_neg (by omega)]
    exact(Zyf h hf hh ho hw).trans (by rw[hv])
  ·obtain⟨b1,b2,b3,b4⟩:=h.opq ho
   obtain⟨a1,a2,a3,a4⟩:=h.wf.nh b2;have hzp:=h.zport a4
   have hb:Zbb u++pathU u=u.opath:=by
    unfold Zbb pathU
    rw[if_neg (by rw[b2];decide),if_neg (fun x=>by rw[ho]at x;cases x.1),if_pos ho]
    rfl
   have hen:encB S0 (clean u.opath)=u.opath:=by
    refine Asis.clean fun b hb=>?_
    have:=h.sd.popath b hb;exact⟨this.1,this.2,rfl⟩
   rw[hb,b3,if_pos rfl,hw,hen,←hv];obtain⟨sch,nam,pw,hh',host,hp',port,op,opath,segs,hq,q,hf',fr⟩:=u;simp only at b1 b2 ho a1 a2 a3 a4 hzp;subst b1 b2 ho a1 a2 a3 a4 hzp
   rfl
 ·rw[if_pos rfl]
  have hh:=h.sp hsp;have ho:=(h.sd.sp hsp).1;have hne:=h.sd.hst hsp hf
  have hc2:countSl false (Zbb u++pathU u)=countSl false (userU u++Zl u++joinSl u.segs)+2:=by rw[hauth hh ho,ZbN,ZbN]
  have hc3:countSl true (Zbb u++pathU u)=2:=by
   rw[hauth hh ho,ZbN,ZbN]
   have:∃c m,userU u++Zl u++joinSl u.segs=c::m∧slB true c=false:=by
    cases hu:userU u with
    | cons c m=>
     have:=Zsz h c (by rw[hu];simp)
     exact⟨c,m++Zl u++joinSl u.segs,by simp,Zty this.2.2.2.1 this.2.2.2.2⟩
    | nil=>
     cases hp:Zl u with
     | cons c m=>
      have:=ZcW h c (by rw[hp];simp)
      exact⟨c,m++joinSl u.segs,by simp,Zty this.2.2.2.1 this.2.2.2.2.1⟩
     | nil=>
      exfalso
      unfold Zl at hp
      split at hp
      ·simp at hp
      ·exact hne hp
   obtain⟨c,m,hm,hcs⟩:=this;rw[hm,Zhb _ hcs]
  unfold Zay
  rw[if_neg (fun x=>by have:=x.2;omega),hc3,hauth hh ho]
  exact(Zyf h hf hh ho hw).trans (by rw[hv])
theorem Zzd{u:U}(h:St u)(base:U):ZD (Zdg u) base=(u,0):=by
 have hst:=h.st
 have hw:=ZqC (Zyg hst) (fun c r e=>by
  have hne:=hst.sd.sc.ne
  cases hs:u.sch with
  | nil=>exact absurd hs hne
  | cons d q=>
   have hd:=hst.sd.sc.first d q hs;unfold Zdg Zad at e;rw[hs]at e;simp only[Xf,List.cons.injEq]at e;rw[←e.1];rintro rfl
   exact absurd hd (by decide)) (ZwG h)
 have e1:Zdg u=(u.sch++58::((Zbb u++pathU u)++(if u.hq=true then [63]++u.q else [])))++(if u.hf=true then [35]++u.fr else []):=by unfold Zdg Zad;simp
 have n35:∀b∈u.sch++58::((Zbb u++pathU u)++(if u.hq=true then [63]++u.q else [])),isB 35 b=false:=by
  intro b hb
  refine Zlk (c:=35) rfl ?_
  simp only[Xd,Xg]at hb;rcases hb with hb|rfl|(hb|hb)|hb
  ·exact(ZrG hst.sd.sc b hb).1
  ·decide
  ·exact(ZqE hst b hb).1
  ·exact(ZsA hst b hb).1
  ·split at hb
   ·simp only[Xd,Xg,Xq,or_false]at hb
    rcases hb with rfl|hb
    ·decide
    ·exact(ZBh hst b hb).1
   ·cases hb
 have n63:∀b∈Zbb u++pathU u,isB 63 b=false:=by
  intro b hb
  refine Zlk (c:=63) rfl ?_
  rcases Xd.1 hb with hb|hb
  ·exact(ZqE hst b hb).2.1
  ·exact(ZsA hst b hb).2
 have hc:bcut (isB 35) (Zdg u)=(u.sch++58::((Zbb u++pathU u)++(if u.hq=true then [63]++u.q else [])),u.fr,u.hf):=by
  rw[e1]
  cases hf:u.hf
  ·rw[if_neg (by decide:¬false=true),Xe,ZhP n35,hst.wf.nf hf]
  ·rw[if_pos (rfl:true=true)]
   exact Zsk _ n35 (by decide)
 have hq:bcut (isB 63) ((Zbb u++pathU u)++(if u.hq=true then [63]++u.q else []))=(Zbb u++pathU u,u.q,u.hq):=by
  cases hq:u.hq
  ·rw[if_neg (by decide:¬false=true),Xe,ZhP n63,hst.wf.nq hq]
  ·rw[if_pos (rfl:true=true)]
   exact Zsk _ n63 (by decide)
 unfold ZD;rw[hw,hc];simp only
 have ha:ZaT (u.sch++58::((Zbb u++pathU u)++(if u.hq=true then [63]++u.q else []))) u.hf base=({ u with hf:=false,fr:=[] },0):=by
  unfold ZaT;rw[Zmq hst.sd.sc];simp only;rw[if_pos trivial];unfold ZbY;rw[if_neg hst.sd.sc.ne,if_pos rfl,hq];simp only
  refine ZxI hst ?_
  unfold ZbI;rw[hst.aq.clean]
 rw[ha];unfold Zgv
 rw[if_neg (by intro x;exact x rfl),hst.afr.clean]
theorem Zze{l:LB}(h:(ZbK l).2=0):St (ZbK l).1:=ZeH l (Or.inl rfl) h
theorem ZxQ(l:LB):clean (clean l)=clean l:=by rw[Zi5 l,Zee _ (ZnC l)]
theorem Zyo(u:U)(s:LB)(hsp:Zb u.sch=true→u.hh=true):ZuI u s=true↔¬(Zb s≠Zb u.sch)∧¬(s=Zw∧(u.nam≠[]∨u.pw≠[]∨u.hp=true))∧¬(u.sch=Zw∧u.hh=true∧u.host=[]):=by
 unfold ZuI ZuY;rw[Xj,Xj,beq_iff_eq]
 have e1:(!(s==Zw&&((!(u.nam.isEmpty&&u.pw.isEmpty))||u.hp)))=true↔¬(s=Zw∧(u.nam≠[]∨u.pw≠[]∨u.hp=true)):=by
  rw[Xk,←Xl,Xj,beq_iff_eq,Xo,Xk,←Xl,Xj,Xm,Xm]
  constructor
  ·rintro h ⟨h1,h2⟩
   refine h ⟨h1,?_⟩
   rcases h2 with h2|h2|h2
   ·exact Or.inl (fun g=>h2 g.1)
   ·exact Or.inl (fun g=>h2 g.2)
   ·exact Or.inr h2
  ·rintro h ⟨h1,h2⟩
   refine h ⟨h1,?_⟩
   rcases h2 with h2|h2
   ·by_cases g:u.nam=[]
    ·exact Or.inr (Or.inl (fun g2=>h2 ⟨g,g2⟩))
    ·exact Or.inl g
   ·exact Or.inr (Or.inr h2)
 have e2:(u.sch != Zw || !u.host.isEmpty)=true↔¬(u.sch=Zw∧u.hh=true∧u.host=[]):=by
  rw[Xo,bne_iff_ne,Xk,←Xl,Xm]
  constructor
  ·rintro(h|h) ⟨h1,-,h2⟩
   ·exact h h1
   ·exact h h2
  ·intro h
   by_cases g:u.sch=Zw
   ·right
    intro g2
    exact h ⟨g,hsp (by rw[g];decide),g2⟩
   ·exact Or.inl g
 rw[e1,e2]
 constructor
 ·rintro⟨⟨a,b⟩,c⟩;exact⟨fun g=>g a.symm,b,c⟩
 ·rintro⟨a,b,c⟩;exact⟨⟨(Classical.not_not.1 a).symm,b⟩,c⟩
theorem ZxR(l:LB):wholeText (clean l)=wholeText l:=by unfold wholeText;rw[ZxQ]
theorem Zyp(l:LB):ZbK (clean l)=ZbK l:=by unfold ZbK ZD;rw[ZxR]
theorem Zzh{u:U}(h:Wk u){p:Int}(hp:p≤65535):Wk (ZaW u p):=by
 unfold ZaW
 split
 ·exact⟨fun g=>(by cases g),h.opq,h.zop,h.nq,h.pq,h.sp,h.path,h.lq⟩
 ·exact⟨fun _=>by show p.toNat≤65535;omega,h.opq,h.zop,h.nq,h.pq,h.sp,h.path,h.lq⟩
theorem Zxn{u:U}(h:Wk u)(l:LB):Wk (ZuQ u l):=by
 unfold ZuQ
 split
 ·exact h
 ·exact Zzh h (Zdi _).2
theorem Zyh{u:U}(h:Wk u)(l:LB):Wk (ZuH u l):=by
 unfold ZuH
 split
 ·exact h
 ·next hc=>
  generalize (Zax (noBreaks l++[58])).1=s at *
  have hm:ZuI u s=true:=by
   cases g:ZuI u s with
   | true=>rfl
   | false=>exact absurd (Or.inr g) hc
  have hsp:=((Zyo u s h.sp).1 hm).1;have hs:Zb s=Zb u.sch:=Classical.not_not.1 hsp
  have hw:Wk { u with sch:=s }:=⟨h.port,h.opq,h.zop,h.nq,h.pq,fun g=>h.sp (by rw[←hs];exact g),h.path,h.lq⟩
  split
  ·next hp=>exact Zzh hw (by have:=h.port hp;omega)
  ·exact hw
theorem Zw8{u:U}(h:Wk u)(k:Int)(l:LB):Wk (ZuK u k l):=by
 unfold ZuK
 split
 ·exact h
 ·split
  ·exact⟨h.port,h.opq,h.zop,h.nq,h.pq,h.sp,h.path,h.lq⟩
  ·exact⟨h.port,h.opq,h.zop,h.nq,h.pq,h.sp,h.path,h.lq⟩
theorem ZwI{u:U}(h:Wk u)(l:LB):Wk (ZuP u l):=by
 unfold ZuP
 split
 ·exact h
 ·split
  ·exact⟨fun g=>(by cases g),h.opq,h.zop,h.nq,h.pq,h.sp,h.path,h.lq⟩
  ·exact Zxn h _
theorem Zw9{u:U}(h:Wk u)(l:LB)(p:Bool)(h0:(ZuN u l p).2=0):Wk (ZuN u l p).1:=by
 unfold ZuN at h0 ⊢
 split
 ·exact h
 ·next ho=>
  split
  ·exact h
  ·split
   ·next h2 h3=>rw[if_neg ho,if_neg h2,if_pos h3]at h0;exact absurd h0 h3
   ·have hw:Wk { u with hh:=true,host:=(ZuG u l p).1 }:=⟨h.port,fun g=>absurd g ho,h.zop,h.nq,h.pq,fun _=>rfl,h.path,h.lq⟩
    exact Zxn hw _
theorem Zxo(sp:Bool)(l:LB):(Zu1 sp l).length≤l.length:=by
 unfold Zu1
 split
 ·exact Nat.le_refl _
 ·split
  ·simp
  ·exact Nat.le_refl _
theorem Zzi{u:U}(h:Wk u)(l:LB)(hl:l.length≤480):Wk (ZuT u l):=by
 unfold ZuT
 split
 ·exact h
 ·next ho=>
  have ho':u.op=false:=by simpa using ho
  split
  ·refine⟨h.port,fun g=>absurd g ho,h.zop,h.nq,h.pq,h.sp,?_,h.lq⟩
   unfold pathU;simp only;rw[if_neg ho];exact Nat.zero_le _
  ·refine⟨h.port,fun g=>absurd g ho,h.zop,h.nq,h.pq,h.sp,?_,h.lq⟩
   unfold pathU;simp only;rw[if_neg ho];have h1:=Zdq (Zu1 (Zb u.sch) (noBreaks l)) u.sch;have h2:=Zxo (Zb u.sch) (noBreaks l);have h3:=Zdh l;unfold pl at h1
   omega
theorem Zxp{u:U}(h:Wk u):Wk (Zbe u):=by
 unfold Zbe
 split
 ·exact h
 ·refine⟨h.port,h.opq,fun g=>?_,h.nq,h.pq,h.sp,?_,h.lq⟩
  ·show dropBl u.opath=[]
   rw[h.zop g]
   rfl
  ·have hp:=h.path
   unfold pathU at hp ⊢;simp only
   split
   ·next ho=>
    rw[if_pos ho]at hp;have:=ZmA u.opath
    omega
   ·next ho=>
    rw[if_neg ho]at hp;exact hp
theorem Zxq{u:U}(h:Wk u)(l:LB)(hl:l.length≤480):Wk (ZuL u l):=by
 unfold ZuL
 split
 ·exact Zxp (u:={ u with hq:=false,q:=[] }) ⟨h.port,h.opq,h.zop,fun _=>rfl,pr_nil,h.sp,h.path,Nat.zero_le _⟩
 ·refine⟨h.port,h.opq,h.zop,fun g=>(by cases g),ZcS _ _,h.sp,h.path,?_⟩
  show(ZvA u.sch l).length≤90000
  unfold ZvA;have h1:=ZtL (tl (ZaN (Zbr u.sch))) (noBreaks (Zu5 63 l));have h2:=Zdh (Zu5 63 l);have h3:=Zvs 63 l
  omega
theorem Zzj{u:U}(h:Wk u)(l:LB):Wk (ZuS u l):=by
 unfold ZuS
 split
 ·exact Zxp (u:={ u with hf:=false,fr:=[] }) ⟨h.port,h.opq,h.zop,h.nq,h.pq,h.sp,h.path,h.lq⟩
 ·exact⟨h.port,h.opq,h.zop,h.nq,h.pq,h.sp,h.path,h.lq⟩
theorem ZAZ{l:LB}(hl:l.length≤160)(h0:(ZbK l).2=0):Wk (ZbK l).1:=by
 have h1:=Zhe l (base:=zeroU) (B:=0) (ZbB 0)
 have h2:=(ZsI l (by omega)).q
 refine St'.wk (Zze h0).st ?_ (by omega)
 have h3:=Pm.path h1
 show(pathU (ZbK l).1).length≤9000
 have e:(ZD l zeroU).1=(ZbK l).1:=rfl;rw[e]at h3
 omega
theorem ZvC{l:LB}(hl:l.length≤160):(clean l).length≤480:=by
 have:=Za9 l
 omega
theorem ZA1(s:BA)(k:Nat)(h:k<s.size):(tl s)[k]?=some s[k]:=by
 have:=Zcp s k h;rw[List.getD_eq_getElem?_getD]at this
 have hk:k<(tl s).length:=by rw[tl_length];exact h
 rw[List.getElem?_eq_getElem hk]at this ⊢
 simpa using this
theorem ZAW(s:BA)(k:Nat)(h:k<s.size):s[k]∈tl s:=List.mem_of_getElem? (ZA1 s k h)
theorem Zzt{d:Nat}(h:d≤9):((Zea d).toNat:Int)=48+d:=by unfold Zea;rw[UInt8.toNat_ofNat',Nat.mod_eq_of_lt (by omega)];omega
theorem ZAE{n:Nat}(h:n≤65535):vD (Za8 n)=n:=by
 have c:∀d,d≤9→((Zea d).toNat:Int)=48+d:=fun d hd=>Zzt hd
 unfold Za8
 (repeat' split)<;>simp only[vD,List.foldl]<;>(repeat rw[c _ (by omega)])<;>omega
theorem ZAF{n:Nat}(h:n≤65535)(k:Nat):0≤vD ((Za8 n).take k)∧vD ((Za8 n).take k)≤65535:=by
 have c:∀d,d≤9→((Zea d).toNat:Int)=48+d:=fun d hd=>Zzt hd
 have t0:∀l:LB,l.take 0=[]:=fun l=>rfl
 have z:vD []=0:=rfl;unfold Za8
 (repeat' split)
 ·rcases k with _|k
  ·rw[t0,z];omega
  ·simp only[Xa,Xi,vD,List.foldl];rw[c _ (by omega)];omega
 ·rcases k with _|_|k
  ·rw[t0,z];omega
  ·simp only[Xa,Xc,vD,List.foldl];rw[c _ (by omega)];omega
  ·simp only[Xa,Xi,vD,List.foldl];rw[c _ (by omega),c _ (by omega)];omega
 ·rcases k with _|_|_|k
  ·rw[t0,z];omega
  ·simp only[Xa,Xc,vD,List.foldl];rw[c _ (by omega)];omega
  ·simp only[Xa,Xc,vD,List.foldl];rw[c _ (by omega),c _ (by omega)];omega
  ·simp only[Xa,Xi,vD,List.foldl];rw[c _ (by omega),c _ (by omega),c _ (by omega)];omega
 ·rcases k with _|_|_|_|k
  ·rw[t0,z];omega
  ·simp only[Xa,Xc,vD,List.foldl];rw[c _ (by omega)];omega
  ·simp only[Xa,Xc,vD,List.foldl];rw[c _ (by omega),c _ (by omega)];omega
  ·simp only[Xa,Xc,vD,List.foldl];rw[c _ (by omega),c _ (by omega),c _ (by omega)];omega
  ·simp only[Xa,Xi,vD,List.foldl];rw[c _ (by omega),c _ (by omega),c _ (by omega),c _ (by omega)];omega
 ·rcases k with _|_|_|_|_|k
  ·rw[t0,z];omega
  ·simp only[Xa,Xc,vD,List.foldl];rw[c _ (by omega)];omega
  ·simp only[Xa,Xc,vD,List.foldl];rw[c _ (by omega),c _ (by omega)];omega
  ·simp only[Xa,Xc,vD,List.foldl];rw[c _ (by omega),c _ (by omega),c _ (by omega)];omega
  ·simp only[Xa,Xc,vD,List.foldl];rw[c _ (by omega),c _ (by omega),c _ (by omega),c _ (by omega)];omega
  ·simp only[Xa,Xi,vD,List.foldl];rw[c _ (by omega),c _ (by omega),c _ (by omega),c _ (by omega),c _ (by omega)];omega
theorem ZyA{n:Nat}(h:n≤65535)(h1:1<(Za8 n).length):∃c r,Za8 n=c::r∧49≤(c.toNat:Int):=by
 have c:∀d,d≤9→((Zea d).toNat:Int)=48+d:=fun d hd=>Zzt hd
 unfold Za8 at h1 ⊢
 (repeat' split at h1)<;>simp only[List.length_cons,List.length_nil]at h1
 ·omega
 ·next a b=>rw[if_neg a,if_pos b];exact⟨_,_,rfl,by rw[c _ (by omega)];omega⟩
 ·next a b d=>rw[if_neg a,if_neg b,if_pos d];exact⟨_,_,rfl,by rw[c _ (by omega)];omega⟩
 ·next a b d e=>rw[if_neg a,if_neg b,if_neg d,if_pos e];exact⟨_,_,rfl,by rw[c _ (by omega)];omega⟩
 ·next a b d e=>rw[if_neg a,if_neg b,if_neg d,if_neg e];exact⟨_,_,rfl,by rw[c _ (by omega)];omega⟩
theorem ZyB(s l:LB):(s++[58]==l++[58])=(s==l):=by
 by_cases h:s=l
 ·rw[h];simp
 ·rw[beq_eq_false_iff_ne.2 h,beq_eq_false_iff_ne.2];intro e;exact h (Xb e)
theorem Zvb(s:LB):ZuO (s++[58])=Zb s:=by
 have e1:=ZyB s [104,116,116,112];have e2:=ZyB s [104,116,116,112,115];have e3:=ZyB s [119,115];have e4:=ZyB s [119,115,115];have e5:=ZyB s [102,116,112];have e6:=ZyB s [102,105,108,101];simp only[Xf,Xn]at e1 e2 e3 e4 e5 e6;unfold ZuO Zb ZM;rw[e1,e2,e3,e4,e5,e6]
 by_cases h1:s=[104,116,116,112]
 ·subst h1;decide
 by_cases h2:s=[104,116,116,112,115]
 ·subst h2;decide
 by_cases h3:s=[119,115]
 ·subst h3;decide
 by_cases h4:s=[119,115,115]
 ·subst h4;decide
 by_cases h5:s=[102,116,112]
 ·subst h5;decide
 simp[h1,h2,h3,h4,h5]
theorem Zvp{s:LB}:s++[58]=[102,105,108,101,58]↔s=Zw:=by
 constructor
 ·intro e;exact Xb (bs:=[58]) e
 ·intro e;rw[e];rfl
theorem ZyC{u:U}(h:Sd u):ZC u≠Zwk (u.sch++[58]):=by
 have hz:Zwk (u.sch++[58])≠[]:=by unfold Zwk;(repeat' split)<;>simp
 unfold ZC
 split
 ·next hp=>
  obtain⟨hl,ho⟩:=h.port hp;intro e;have hv:=ZAE hl
  have hd:=Zcw (n:=u.port) (by omega)
  rw[e]at hv hd
  by_cases h1:u.sch=[104,116,116,112]
  ·rw[h1]at hv ho;exact ho rfl (by rw[←hv];rfl)
  by_cases h2:u.sch=[104,116,116,112,115]
  ·rw[h2]at hv ho;exact ho rfl (by rw[←hv];rfl)
  by_cases h3:u.sch=[119,115]
  ·rw[h3]at hv ho;exact ho rfl (by rw[←hv];rfl)
  by_cases h4:u.sch=[119,115,115]
  ·rw[h4]at hv ho;exact ho rfl (by rw[←hv];rfl)
  by_cases h5:u.sch=[102,116,112]
  ·rw[h5]at hv ho;exact ho rfl (by rw[←hv];rfl)
  have f1:¬u.sch++[58]=[104,116,116,112,58]:=fun x=>h1 (Xb (bs:=[58]) x)
  have f2:¬u.sch++[58]=[104,116,116,112,115,58]:=fun x=>h2 (Xb (bs:=[58]) x)
  have f3:¬u.sch++[58]=[119,115,58]:=fun x=>h3 (Xb (bs:=[58]) x)
  have f4:¬u.sch++[58]=[119,115,115,58]:=fun x=>h4 (Xb (bs:=[58]) x)
  have f5:¬u.sch++[58]=[102,116,112,58]:=fun x=>h5 (Xb (bs:=[58]) x)
  unfold Zwk at hd
  rw[if_neg (by rintro(x|x);exact f1 x;exact f3 x),if_neg (by rintro(x|x);exact f2 x;exact f4 x),if_neg f5]at hd
  have:=hd 0 (by simp)
  exact absurd this.1 (by decide)
 ·exact fun e=>hz e.symm
theorem Zzu{ps:List LB}(h:PrS ps):Pr (joinSl ps):=by
 intro b hb;unfold joinSl at hb;obtain⟨s,hs,hc⟩:=Xp.1 hb
 exact Zar (ZaX (by decide) (by decide)) (h s hs) b hc
theorem Zwm{u:U}(h:Sd u):Dg (ZC u):=by
 unfold ZC
 split
 ·next hp=>exact Zcw (by have:=(h.port hp).1;omega)
 ·exact fun b hb=>by cases hb
theorem ZA2{u:U}(h:Sd u):Pr (userU u):=by
 unfold userU
 split
 ·exact pr_nil
 split
 ·exact Zar h.pnam (ZaX (by decide) (by decide))
 ·exact Zar (Zar h.pnam (Zar (ZaX (by decide) (by decide)) h.ppw)) (ZaX (by decide) (by decide))
theorem Zx0{u:U}(h:Sd u):Pr (Zl u):=by
 unfold Zl
 split
 ·exact Zar (Zar h.phost (ZaX (by decide) (by decide))) (Zwm h).pr
 ·exact h.phost
theorem ZAG{u:U}(h:Sd u):Pr (Zbb u):=by
 unfold Zbb
 split
 ·exact Zar (Zar (ZcR (by decide) (by decide) (ZaX (by decide) (by decide))) (ZA2 h)) (Zx0 h)
 split
 ·exact ZcR (by decide) (by decide) (ZaX (by decide) (by decide))
 ·exact pr_nil
theorem ZA3{u:U}(h:Sd u):Pr (pathU u):=by
 unfold pathU
 split
 ·exact h.popath
 ·exact Zzu h.psegs
theorem ZA4{u:U}(h:Sd u):Pr (Zdg u):=by
 unfold Zdg
 refine Zar (Zar (Zar (Zar (Zar h.sc.pr (ZaX (by decide) (by decide))) (ZAG h)) (ZA3 h)) ?_) ?_
 ·split
  ·exact Zar (ZaX (by decide) (by decide)) h.pq
  ·exact pr_nil
 ·split
  ·exact Zar (ZaX (by decide) (by decide)) h.pfr
  ·exact pr_nil
def ovU(v:U):U:={ zeroU with sch:=v.sch,hh:=true,host:=v.host,hp:=v.hp,port:=v.port,segs:=[[]] }
theorem Zzz(sch:LB):Zbg [] sch=[[]]:=by
 have e:joinL (sch==Zw) [] []=[[]]:=by
  unfold joinL
  rw[if_neg (fun x=>by cases x.2.2)]
  show [en4 []]=_
  rw[Zdl]
 unfold Zbg ZaR;rw[Zbl,Zbu];unfold ZcF;rw[e];exact if_pos rfl
theorem Zvz{s:LB}(h:Zb s=true)(hf:s≠Zw):ZbA s=true:=by
 unfold Zb at h;have h2:(s == [102,105,108,101])=false:=beq_eq_false_iff_ne.2 hf;rw[h2,Bool.or_false]at h;unfold ZM at h;unfold ZbA
 split at h
 ·next e=>rcases e with e|e<;>(rw[e];decide)
 split at h
 ·next e=>rcases e with e|e<;>(rw[e];decide)
 split at h
 ·next e=>rw[e];decide
 ·cases h
theorem Zvn{s:LB}(h:ZbA s=true):Zb s=true∧s≠Zw:=by unfold ZbA at h;simp only[Xo,beq_iff_eq]at h;rcases h with(((h|h)|h)|h)|h<;>(rw[h];decide)
theorem ZyH{v:U}(h:St' v)(hsp:Zb v.sch=true)(hf:v.sch≠Zw):ZD (Zo v) zeroU=(ovU v,0):=by
 have hne:=h.sd.hst hsp hf
 have hhp:Zl v≠[]:=by
  unfold Zl
  split
  ·simp
  ·exact hne
 have e1:Zo v=v.sch++58::(47::47::Zl v):=by unfold Zo;simp
 have hcl:Cl (Zo v):=by
  rw[e1]
  refine Zll (ZrG h.sd.sc) (Zll (a:=[58,47,47]) ?_ ?_)
  ·intro b hb;simp only[Xg,Xq,or_false]at hb;rcases hb with rfl|rfl|rfl<;>decide
  ·intro b hb;have:=ZcW h b hb;exact⟨this.1,this.2.1,this.2.2.1⟩
 have hpr:Pr (Zo v):=by
  rw[e1]
  refine Zar h.sd.sc.pr (Zar (a:=[58,47,47]) (ZcR (by decide) (by decide) (ZcR (by decide) (by decide) (ZaX (by decide) (by decide)))) ?_)
  show Pr (if v.hp=true then v.host++[58]++ZC v else v.host)
  split
  ·next hp=>
   refine Zar (Zar h.sd.phost (ZaX (by decide) (by decide))) ?_
   unfold ZC;rw[if_pos hp]
   exact(Zcw (by have:=(h.sd.port hp).1;omega)).pr
  ·exact h.sd.phost
 have hw:=ZqC hpr (fun c r e=>(hcl c (by rw[e];simp)).2.2) hcl.noEnd
 have n35:∀b∈Zo v,isB 35 b=false:=fun b hb=>Zlk (c:=35) rfl (hcl b hb).1
 have n63:∀b∈47::47::Zl v,isB 63 b=false:=fun b hb=>Zlk (c:=63) rfl (hcl b (by rw[e1];simp only[Xd,Xg]at hb ⊢;exact Or.inr (Or.inr hb))).2.1
 have nsl:∀b∈Zl v,slB true b=false:=fun b hb=>by have:=ZcW h b hb;exact Zty this.2.2.2.1 this.2.2.2.2.1
 have n64:∀b∈Zl v,isB 64 b=false:=fun b hb=>Zlk (c:=64) rfl (ZcW h b hb).2.2.2.2.2
 unfold ZD;rw[hw,ZhP n35];simp only
 have ha:ZaT (Zo v) false zeroU=(ovU v,0):=by
  unfold ZaT;rw[e1,Zmq h.sd.sc];simp only;rw[if_pos trivial];unfold ZbY;rw[if_neg h.sd.sc.ne,if_pos rfl,ZhP n63];simp only
  have hfr:ZbI v.sch false []={ zeroU with sch:=v.sch }:=by unfold ZbI;rw[Za3];rfl
  rw[hfr];unfold ZQ;simp only;rw[if_neg hf,if_pos hsp]
  have hc2:countSl false (47::47::Zl v)=countSl false (Zl v)+2:=by rw[ZbN,ZbN]
  have hc3:countSl true (47::47::Zl v)=2:=by
   rw[ZbN,ZbN]
   cases hp:Zl v with
   | nil=>exact absurd hp hhp
   | cons c m=>rw[Zhb _ (nsl c (by rw[hp];simp))]
  unfold Zay
  rw[if_neg (fun x=>by have:=x.2;omega),hc3]
  show Zs { zeroU with sch:=v.sch } (Zl v)=_
  have hpl:=ZoM (w:={ zeroU with sch:=v.sch }) h hf rfl rfl rfl
  unfold Zs;simp only;rw[hsp,ZhP nsl];simp only;rw[ZiT n64];simp only
  rw[if_neg (fun x=>by cases x.1)]
  have hz1:Zgn (bcut (isB 58) []).1=[]:=Zfq;have hz2:Zgn (bcut (isB 58) []).2.1=[]:=Zfq;rw[hz1,hz2]
  show ZbR (ZP { zeroU with sch:=v.sch } (Zl v)) v.sch [] (true||false)=_
  rw[hpl];unfold ZbR
  rw[if_neg (by intro x;exact x rfl),if_pos (show(true||false)=true from rfl),Zzz]
  rfl
 rw[ha];unfold Zgv
 rw[if_neg (by intro x;exact x rfl),Za3]
 rfl
theorem ZzA{u:U}(h:St u):ZZ u=ZcX∨∃v,St' v∧Zb v.sch=true∧v.sch≠Zw∧ZZ u=Zo v:=by
 unfold ZZ
 split
 ·next hp=>exact Or.inr ⟨u,h.st,(Zvn hp).1,(Zvn hp).2,rfl⟩
 split
 ·unfold Zbz
  split
  ·exact Or.inl rfl
  next h1=>
   split
   ·exact Or.inl rfl
   next h2=>
    have hk:=(ZeH (pathU u) (base:=zeroU) (Or.inl rfl) (Classical.not_not.1 h1)).st
    have hs:(ZbK (pathU u)).1.sch=[104,116,116,112]∨(ZbK (pathU u)).1.sch=[104,116,116,112,115]:=by
     by_cases e:(ZbK (pathU u)).1.sch=[104,116,116,112]
     ·exact Or.inl e
     ·exact Or.inr (Classical.byContradiction fun e2=>h2 ⟨e,e2⟩)
    refine Or.inr ⟨_,hk,?_,?_,rfl⟩
    ·show Zb (ZbK (pathU u)).1.sch=true
     rcases hs with e|e<;>(rw[e];decide)
    ·show(ZbK (pathU u)).1.sch≠Zw
     rcases hs with e|e<;>(rw[e];decide)
 ·exact Or.inl rfl
theorem Zx1{u:U}(h:St u)(hn:ZZ u≠ZcX)(hl:(ZZ u).length≤160):∃v,Zat (ZZ u) [] false=(v,0)∧ZZ v=ZZ u∧pathU v=[47]∧Z4 v=[]∧ZbX v=[]∧v.nam=[]∧v.sch≠[98,108,111,98]:=by
 rcases ZzA h with e|⟨v,hv,hsp,hf,e⟩
 ·exact absurd e hn
 ·refine⟨ovU v,?_,?_,rfl,rfl,rfl,rfl,?_⟩
  ·unfold Zat
   rw[if_neg (by rintro(x|x);omega;cases x.1),if_neg (by intro x;exact x rfl)]
   show ZD (ZZ u) zeroU=_
   rw[e];exact ZyH hv hsp hf
  ·rw[e]
   show ZZ (ovU v)=Zo v
   unfold ZZ;rw[if_pos (show ZbA (ovU v).sch=true from Zvz hsp hf)]
   rfl
  ·intro x
   have x':v.sch=[98,108,111,98]:=x;rw[x']at hsp
   exact absurd hsp (by decide)
theorem Zxd{u:U}(h:Zb u.sch=true)(hf:u.sch≠Zw):ZZ u=Zad u++[47,47]++Zl u:=by
 unfold ZZ;rw[if_pos (Zvz h hf)];unfold Zo Zad
 simp
theorem Zwp{u:U}(h:¬(Zb u.sch=true∧u.sch≠Zw))(hb:u.sch≠[98,108,111,98]):ZZ u=ZcX:=by
 unfold ZZ
 rw[if_neg (fun x=>h (Zvn x)),if_neg hb]
end Go.Proofs.YtchkhibgbnhjpabGreatDoor
