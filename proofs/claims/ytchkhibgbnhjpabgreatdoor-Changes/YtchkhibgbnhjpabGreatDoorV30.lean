import Derived.Test.YtchkhibgbnhjpabGreatDoorV29
open List renaming take_succ_cons→Xa,append_cancel_right→Xb,take_zero→Xc,take_nil→Xd,mem_cons→Xe
namespace Go.Proofs.YtchkhibgbnhjpabGreatDoor
open Go.RowKit
theorem ZsO(s:BA)(k:Nat)(h:k<s.size):(tl s)[k]?=some s[k]:=by
 have:=Zcp s k h;rw[List.getD_eq_getElem?_getD]at this
 have hk:k<(tl s).length:=by rw[tl_length];exact h
 rw[List.getElem?_eq_getElem hk]at this ⊢
 simpa using this
theorem ZrI(s:BA)(k:Nat)(h:k<s.size):s[k]∈tl s:=List.mem_of_getElem? (ZsO s k h)
theorem Zpl{d:Nat}(h:d≤9):((Zea d).toNat:Int)=48+d:=by unfold Zea;rw[UInt8.toNat_ofNat',Nat.mod_eq_of_lt (by omega)];omega
theorem Zq9{n:Nat}(h:n≤65535):vD (Za8 n)=n:=by
 have c:∀d,d≤9→((Zea d).toNat:Int)=48+d:=fun d hd=>Zpl hd
 unfold Za8
 (repeat' split)<;>simp only[vD,List.foldl]<;>(repeat rw[c _ (by omega)])<;>omega
theorem Zra{n:Nat}(h:n≤65535)(k:Nat):0≤vD ((Za8 n).take k)∧vD ((Za8 n).take k)≤65535:=by
 have c:∀d,d≤9→((Zea d).toNat:Int)=48+d:=fun d hd=>Zpl hd
 have t0:∀l:LB,l.take 0=[]:=fun l=>rfl
 have z:vD []=0:=rfl;unfold Za8
 (repeat' split)
 ·rcases k with _|k
  ·rw[t0,z];omega
  ·simp only[Xa,Xd,vD,List.foldl];rw[c _ (by omega)];omega
 ·rcases k with _|_|k
  ·rw[t0,z];omega
  ·simp only[Xa,Xc,vD,List.foldl];rw[c _ (by omega)];omega
  ·simp only[Xa,Xd,vD,List.foldl];rw[c _ (by omega),c _ (by omega)];omega
 ·rcases k with _|_|_|k
  ·rw[t0,z];omega
  ·simp only[Xa,Xc,vD,List.foldl];rw[c _ (by omega)];omega
  ·simp only[Xa,Xc,vD,List.foldl];rw[c _ (by omega),c _ (by omega)];omega
  ·simp only[Xa,Xd,vD,List.foldl];rw[c _ (by omega),c _ (by omega),c _ (by omega)];omega
 ·rcases k with _|_|_|_|k
  ·rw[t0,z];omega
  ·simp only[Xa,Xc,vD,List.foldl];rw[c _ (by omega)];omega
  ·simp only[Xa,Xc,vD,List.foldl];rw[c _ (by omega),c _ (by omega)];omega
  ·simp only[Xa,Xc,vD,List.foldl];rw[c _ (by omega),c _ (by omega),c _ (by omega)];omega
  ·simp only[Xa,Xd,vD,List.foldl];rw[c _ (by omega),c _ (by omega),c _ (by omega),c _ (by omega)];omega
 ·rcases k with _|_|_|_|_|k
  ·rw[t0,z];omega
  ·simp only[Xa,Xc,vD,List.foldl];rw[c _ (by omega)];omega
  ·simp only[Xa,Xc,vD,List.foldl];rw[c _ (by omega),c _ (by omega)];omega
  ·simp only[Xa,Xc,vD,List.foldl];rw[c _ (by omega),c _ (by omega),c _ (by omega)];omega
  ·simp only[Xa,Xc,vD,List.foldl];rw[c _ (by omega),c _ (by omega),c _ (by omega),c _ (by omega)];omega
  ·simp only[Xa,Xd,vD,List.foldl];rw[c _ (by omega),c _ (by omega),c _ (by omega),c _ (by omega),c _ (by omega)];omega
theorem ZmM{n:Nat}(h:n≤65535)(h1:1<(Za8 n).length):∃c r,Za8 n=c::r∧49≤(c.toNat:Int):=by
 have c:∀d,d≤9→((Zea d).toNat:Int)=48+d:=fun d hd=>Zpl hd
 unfold Za8 at h1 ⊢
 (repeat' split at h1)<;>simp only[List.length_cons,List.length_nil]at h1
 ·omega
 ·next a b=>rw[if_neg a,if_pos b];exact⟨_,_,rfl,by rw[c _ (by omega)];omega⟩
 ·next a b d=>rw[if_neg a,if_neg b,if_pos d];exact⟨_,_,rfl,by rw[c _ (by omega)];omega⟩
 ·next a b d e=>rw[if_neg a,if_neg b,if_neg d,if_pos e];exact⟨_,_,rfl,by rw[c _ (by omega)];omega⟩
 ·next a b d e=>rw[if_neg a,if_neg b,if_neg d,if_neg e];exact⟨_,_,rfl,by rw[c _ (by omega)];omega⟩
theorem ZmN(s l:LB):(s++[58]==l++[58])=(s==l):=by
 by_cases h:s=l
 ·rw[h];simp
 ·rw[beq_eq_false_iff_ne.2 h,beq_eq_false_iff_ne.2];intro e;exact h (Xb e)
theorem Zc0(s:LB):Zap (s++[58])=Zb s:=by
 have e1:=ZmN s [104,116,116,112];have e2:=ZmN s [104,116,116,112,115];have e3:=ZmN s [119,115];have e4:=ZmN s [119,115,115];have e5:=ZmN s [102,116,112];have e6:=ZmN s [102,105,108,101];simp only[List.cons_append,List.nil_append]at e1 e2 e3 e4 e5 e6;unfold Zap Zb ZM;rw[e1,e2,e3,e4,e5,e6]
 by_cases h1:s=[104,116,116,112]
 ·subst h1;decide
 by_cases h2:s=[104,116,116,112,115]
 ·subst h2;decide
 by_cases h3:s=[119,115]
 ·subst h3;decide
 by_cases h4:s=[119,115,115]
 ·subst h4;decide
 by_cases h5:s=[102,116,112]
 ·subst h5;decide
 simp[h1,h2,h3,h4,h5]
theorem ZcK{s:LB}:s++[58]=[102,105,108,101,58]↔s=Zw:=by
 constructor
 ·intro e;exact Xb (bs:=[58]) e
 ·intro e;rw[e];rfl
theorem ZmO{u:U}(h:Sd u):ZC u≠Zge (u.sch++[58]):=by
 have hz:Zge (u.sch++[58])≠[]:=by unfold Zge;(repeat' split)<;>simp
 unfold ZC
 split
 ·next hp=>
  obtain⟨hl,ho⟩:=h.port hp;intro e;have hv:=Zq9 hl
  have hd:=Zcw (n:=u.port) (by omega)
  rw[e]at hv hd
  by_cases h1:u.sch=[104,116,116,112]
  ·rw[h1]at hv ho;exact ho rfl (by rw[←hv];rfl)
  by_cases h2:u.sch=[104,116,116,112,115]
  ·rw[h2]at hv ho;exact ho rfl (by rw[←hv];rfl)
  by_cases h3:u.sch=[119,115]
  ·rw[h3]at hv ho;exact ho rfl (by rw[←hv];rfl)
  by_cases h4:u.sch=[119,115,115]
  ·rw[h4]at hv ho;exact ho rfl (by rw[←hv];rfl)
  by_cases h5:u.sch=[102,116,112]
  ·rw[h5]at hv ho;exact ho rfl (by rw[←hv];rfl)
  have f1:¬u.sch++[58]=[104,116,116,112,58]:=fun x=>h1 (Xb (bs:=[58]) x)
  have f2:¬u.sch++[58]=[104,116,116,112,115,58]:=fun x=>h2 (Xb (bs:=[58]) x)
  have f3:¬u.sch++[58]=[119,115,58]:=fun x=>h3 (Xb (bs:=[58]) x)
  have f4:¬u.sch++[58]=[119,115,115,58]:=fun x=>h4 (Xb (bs:=[58]) x)
  have f5:¬u.sch++[58]=[102,116,112,58]:=fun x=>h5 (Xb (bs:=[58]) x)
  unfold Zge at hd
  rw[if_neg (by rintro(x|x);exact f1 x;exact f3 x),if_neg (by rintro(x|x);exact f2 x;exact f4 x),if_neg f5]at hd
  have:=hd 0 (by simp)
  exact absurd this.1 (by decide)
 ·exact fun e=>hz e.symm
theorem Zpm{ps:List LB}(h:PrS ps):Pr (joinSl ps):=by
 intro b hb;unfold joinSl at hb;obtain⟨s,hs,hc⟩:=List.mem_flatMap.1 hb
 exact Zar (ZaX (by decide) (by decide)) (h s hs) b hc
theorem Zgi{u:U}(h:Sd u):Dg (ZC u):=by
 unfold ZC
 split
 ·next hp=>exact Zcw (by have:=(h.port hp).1;omega)
 ·exact fun b hb=>by cases hb
theorem ZsP{u:U}(h:Sd u):Pr (userU u):=by
 unfold userU
 split
 ·exact pr_nil
 split
 ·exact Zar h.pnam (ZaX (by decide) (by decide))
 ·exact Zar (Zar h.pnam (Zar (ZaX (by decide) (by decide)) h.ppw)) (ZaX (by decide) (by decide))
theorem Zkw{u:U}(h:Sd u):Pr (Zl u):=by
 unfold Zl
 split
 ·exact Zar (Zar h.phost (ZaX (by decide) (by decide))) (Zgi h).pr
 ·exact h.phost
theorem Zrb{u:U}(h:Sd u):Pr (Zbb u):=by
 unfold Zbb
 split
 ·exact Zar (Zar (ZcR (by decide) (by decide) (ZaX (by decide) (by decide))) (ZsP h)) (Zkw h)
 split
 ·exact ZcR (by decide) (by decide) (ZaX (by decide) (by decide))
 ·exact pr_nil
theorem ZsQ{u:U}(h:Sd u):Pr (pathU u):=by
 unfold pathU
 split
 ·exact h.popath
 ·exact Zpm h.psegs
theorem ZsR{u:U}(h:Sd u):Pr (Zdg u):=by
 unfold Zdg
 refine Zar (Zar (Zar (Zar (Zar h.sc.pr (ZaX (by decide) (by decide))) (Zrb h)) (ZsQ h)) ?_) ?_
 ·split
  ·exact Zar (ZaX (by decide) (by decide)) h.pq
  ·exact pr_nil
 ·split
  ·exact Zar (ZaX (by decide) (by decide)) h.pfr
  ·exact pr_nil
def ovU(v:U):U:={ zeroU with sch:=v.sch,hh:=true,host:=v.host,hp:=v.hp,port:=v.port,segs:=[[]] }
theorem Zpq(sch:LB):Zbg [] sch=[[]]:=by
 have e:joinL (sch==Zw) [] []=[[]]:=by
  unfold joinL
  rw[if_neg (fun x=>by cases x.2.2)]
  show [en4 []]=_
  rw[Zdl]
 unfold Zbg ZaR;rw[Zbl,Zbu];unfold ZcF;rw[e];exact if_pos rfl
theorem ZdV{s:LB}(h:Zb s=true)(hf:s≠Zw):ZbA s=true:=by
 unfold Zb at h;have h2:(s == [102,105,108,101])=false:=beq_eq_false_iff_ne.2 hf;rw[h2,Bool.or_false]at h;unfold ZM at h;unfold ZbA
 split at h
 ·next e=>rcases e with e|e<;>(rw[e];decide)
 split at h
 ·next e=>rcases e with e|e<;>(rw[e];decide)
 split at h
 ·next e=>rw[e];decide
 ·cases h
theorem Zcz{s:LB}(h:ZbA s=true):Zb s=true∧s≠Zw:=by unfold ZbA at h;simp only[Bool.or_eq_true,beq_iff_eq]at h;rcases h with(((h|h)|h)|h)|h<;>(rw[h];decide)
theorem ZmU{v:U}(h:St' v)(hsp:Zb v.sch=true)(hf:v.sch≠Zw):ZD (Zo v) zeroU=(ovU v,0):=by
 have hne:=h.sd.hst hsp hf
 have hhp:Zl v≠[]:=by
  unfold Zl
  split
  ·simp
  ·exact hne
 have e1:Zo v=v.sch++58::(47::47::Zl v):=by unfold Zo;simp
 have hcl:Cl (Zo v):=by
  rw[e1]
  refine Zll (ZrG h.sd.sc) (Zll (a:=[58,47,47]) ?_ ?_)
  ·intro b hb;simp only[Xe,List.not_mem_nil,or_false]at hb;rcases hb with rfl|rfl|rfl<;>decide
  ·intro b hb;have:=ZcW h b hb;exact⟨this.1,this.2.1,this.2.2.1⟩
 have hpr:Pr (Zo v):=by
  rw[e1]
  refine Zar h.sd.sc.pr (Zar (a:=[58,47,47]) (ZcR (by decide) (by decide) (ZcR (by decide) (by decide) (ZaX (by decide) (by decide)))) ?_)
  show Pr (if v.hp=true then v.host++[58]++ZC v else v.host)
  split
  ·next hp=>
   refine Zar (Zar h.sd.phost (ZaX (by decide) (by decide))) ?_
   unfold ZC;rw[if_pos hp]
   exact(Zcw (by have:=(h.sd.port hp).1;omega)).pr
  ·exact h.sd.phost
 have hw:=ZqC hpr (fun c r e=>(hcl c (by rw[e];simp)).2.2) hcl.noEnd
 have n35:∀b∈Zo v,isB 35 b=false:=fun b hb=>Zlk (c:=35) rfl (hcl b hb).1
 have n63:∀b∈47::47::Zl v,isB 63 b=false:=fun b hb=>Zlk (c:=63) rfl (hcl b (by rw[e1];simp only[List.mem_append,Xe]at hb ⊢;exact Or.inr (Or.inr hb))).2.1
 have nsl:∀b∈Zl v,slB true b=false:=fun b hb=>by have:=ZcW h b hb;exact Zty this.2.2.2.1 this.2.2.2.2.1
 have n64:∀b∈Zl v,isB 64 b=false:=fun b hb=>Zlk (c:=64) rfl (ZcW h b hb).2.2.2.2.2
 unfold ZD;rw[hw,ZhP n35];simp only
 have ha:ZaT (Zo v) false zeroU=(ovU v,0):=by
  unfold ZaT;rw[e1,Zmq h.sd.sc];simp only;rw[if_pos trivial];unfold ZbY;rw[if_neg h.sd.sc.ne,if_pos rfl,ZhP n63];simp only
  have hfr:ZbI v.sch false []={ zeroU with sch:=v.sch }:=by unfold ZbI;rw[Za3];rfl
  rw[hfr];unfold ZQ;simp only;rw[if_neg hf,if_pos hsp]
  have hc2:countSl false (47::47::Zl v)=countSl false (Zl v)+2:=by rw[ZbN,ZbN]
  have hc3:countSl true (47::47::Zl v)=2:=by
   rw[ZbN,ZbN]
   cases hp:Zl v with
   | nil=>exact absurd hp hhp
   | cons c m=>rw[Zhb _ (nsl c (by rw[hp];simp))]
  unfold Zay
  rw[if_neg (fun x=>by have:=x.2;omega),hc3]
  show Zs { zeroU with sch:=v.sch } (Zl v)=_
  have hpl:=ZoM (w:={ zeroU with sch:=v.sch }) h hf rfl rfl rfl
  unfold Zs;simp only;rw[hsp,ZhP nsl];simp only;rw[ZiT n64];simp only
  rw[if_neg (fun x=>by cases x.1)]
  have hz1:Zgn (bcut (isB 58) []).1=[]:=Zfq;have hz2:Zgn (bcut (isB 58) []).2.1=[]:=Zfq;rw[hz1,hz2]
  show ZbR (ZP { zeroU with sch:=v.sch } (Zl v)) v.sch [] (true||false)=_
  rw[hpl];unfold ZbR
  rw[if_neg (by intro x;exact x rfl),if_pos (show(true||false)=true from rfl),Zpq]
  rfl
 rw[ha];unfold Zgv
 rw[if_neg (by intro x;exact x rfl),Za3]
 rfl
theorem Zpr{u:U}(h:St u):ZZ u=ZcX∨∃v,St' v∧Zb v.sch=true∧v.sch≠Zw∧ZZ u=Zo v:=by
 unfold ZZ
 split
 ·next hp=>exact Or.inr ⟨u,h.st,(Zcz hp).1,(Zcz hp).2,rfl⟩
 split
 ·unfold Zbz
  split
  ·exact Or.inl rfl
  next h1=>
   split
   ·exact Or.inl rfl
   next h2=>
    have hk:=(ZeH (pathU u) (base:=zeroU) (Or.inl rfl) (Classical.not_not.1 h1)).st
    have hs:(ZbK (pathU u)).1.sch=[104,116,116,112]∨(ZbK (pathU u)).1.sch=[104,116,116,112,115]:=by
     by_cases e:(ZbK (pathU u)).1.sch=[104,116,116,112]
     ·exact Or.inl e
     ·exact Or.inr (Classical.byContradiction fun e2=>h2 ⟨e,e2⟩)
    refine Or.inr ⟨_,hk,?_,?_,rfl⟩
    ·show Zb (ZbK (pathU u)).1.sch=true
     rcases hs with e|e<;>(rw[e];decide)
    ·show(ZbK (pathU u)).1.sch≠Zw
     rcases hs with e|e<;>(rw[e];decide)
 ·exact Or.inl rfl
theorem Zky{u:U}(h:St u)(hn:ZZ u≠ZcX)(hl:(ZZ u).length≤160):∃v,Zat (ZZ u) [] false=(v,0)∧ZZ v=ZZ u∧pathU v=[47]∧Z4 v=[]∧ZbX v=[]∧v.nam=[]∧v.sch≠[98,108,111,98]:=by
 rcases Zpr h with e|⟨v,hv,hsp,hf,e⟩
 ·exact absurd e hn
 ·refine⟨ovU v,?_,?_,rfl,rfl,rfl,rfl,?_⟩
  ·unfold Zat
   rw[if_neg (by rintro(x|x);omega;cases x.1),if_neg (by intro x;exact x rfl)]
   show ZD (ZZ u) zeroU=_
   rw[e];exact ZmU hv hsp hf
  ·rw[e]
   show ZZ (ovU v)=Zo v
   unfold ZZ;rw[if_pos (show ZbA (ovU v).sch=true from ZdV hsp hf)]
   rfl
  ·intro x
   have x':v.sch=[98,108,111,98]:=x;rw[x']at hsp
   exact absurd hsp (by decide)
theorem Zia{u:U}(h:Zb u.sch=true)(hf:u.sch≠Zw):ZZ u=Zad u++[47,47]++Zl u:=by
 unfold ZZ;rw[if_pos (ZdV h hf)];unfold Zo Zad
 simp
theorem Zkz{u:U}(h:¬(Zb u.sch=true∧u.sch≠Zw))(hb:u.sch≠[98,108,111,98]):ZZ u=ZcX:=by
 unfold ZZ
 rw[if_neg (fun x=>h (Zcz x)),if_neg hb]
end Go.Proofs.YtchkhibgbnhjpabGreatDoor
