import Derived.Test.YtchkhibgbnhjpaaGreatDoorP34
open Bool renaming and_eq_true→Xe,false_eq_true→Xk
open List renaming mem_of_mem_drop→Xa,sum_cons→Xd,map_cons→Xf,dropWhile_suffix→Xg,mem_cons_of_mem→Xh,length_reverse→Xj,mem_cons_self→Xl,filter_cons→Xn,length_cons→Xo,length_nil→Xp
open Nat renaming zero_le→Xb,le_trans→Xc,le_refl→Xi,le_of_not_lt→Xq
namespace Go.Proofs.YtchkhibgbnhjpaaGreatDoor
open Go.RowKit
def toR(u:U):RU:=⟨u.sch,u.nam,u.pw,u.hh,u.host,if u.hp=true then(u.port:Int)else -1,u.segs,u.op,u.opath,u.hq,u.q,u.hf,u.fr⟩
def Bl(base:U)(ob:Option RU):Prop:=(ob=none∧base=zeroU)∨(ob=some (toR base)∧St' base)
theorem Bl.near{base:U}{ob:Option RU}(h:Bl base ob):(base.sch≠Zo∧Zjn ob=none)∨(base.sch=Zo∧Zjn ob=some (toR base)∧base.hh=true):=by
 rcases h with⟨rfl,rfl⟩|⟨rfl,hs⟩
 ·exact Or.inl ⟨by decide,rfl⟩
 ·by_cases hf:base.sch=Zo
  ·exact Or.inr ⟨hf,if_pos hf,hs.sp (by rw[hf];decide)⟩
  ·exact Or.inl ⟨hf,if_neg hf⟩
theorem Zj6{b:Bool}{Q S:LB}{u:U}{m:RU}(h:Rl b Q S u m)(hqb:u.hq=b)(base:U)(l:LI)(hl:∀c∈l,Sc c)(h0:l=[]):Rl b Q S (Zak u (Zc l) base) (Zhd m (toR base)):=by
 subst h0;unfold Zak Zhd;rw[if_pos (show Zc []=[]from rfl)]
 refine { h with path:=rfl,hq:=by show(m.hq||base.hq)=(u.hq||base.hq);rw[h.hq],q:=?_ }
 show(if b=true then Q else if m.hq=true then m.q else base.q)=if u.hq=true then u.q else base.q
 rw[h.hq,hqb];have:=h.q
 cases b
 ·simp
 ·simpa using this
theorem Zpf{b:Bool}{Q S:LB}{u:U}{m:RU}(h:Rl b Q S u m)(hqb:u.hq=b)(hf:u.sch=Zo)(hz:u.host=[]){base:U}{ob:Option RU}(hB:Bl base ob)(l:LI)(hl:∀c∈l,Sc c):ZuU b Q S (ZdS u (Zc l) base) (Zbw m l (Zjn ob)):=by
 have hpt:∀c∈l,Pt c:=fun c hc=>(hl c hc).pt
 unfold ZdS Zbw
 have hsp:Zb Zs=true:=by decide
 have s0:=Zo7 Zs l hpt;have s01:=Zme Zs l hpt;rw[hsp]at s0 s01;have hdr:=Zdf true l;have hcnt:=ZaH true l hpt
 by_cases h2:1<countSl true (Zc l)
 ·rw[if_pos h2,if_pos (by rw[s01];exact decide_eq_true h2),hdr 2 (by omega)]
  exact Zmi (u:={ u with hh:=true }) (m:={ m with his:=true,htx:=[] }) { h with his:=rfl,htx:=hz.symm } rfl (l.drop 2) (fun c hc=>hl c (Xa hc))
 ·have h2':¬(Zq l 0 Zs&&Zq l 1 Zs)=true:=by rw[s01];simpa using h2
  rw[if_neg h2,if_neg h2'];rcases hB.near with⟨hn,hr⟩|⟨hn,hr,hbh⟩
  ·rw[if_pos hn,hr]
   simp only
   by_cases h1:Zq l 0 Zs=true
   ·have h1':countSl true (Zc l)=1:=by rw[s0]at h1;have:=of_decide_eq_true h1;omega
    rw[if_pos h1,h1',hdr 1 (by omega)]
    exact⟨rfl,fun _=>{ h with his:=rfl,htx:=hz.symm,path:=by show walked m.sch [] _=_;rw[h.sch];exact Zbx u.sch _ (fun c hc=>hl c (Xa hc)) }⟩
   ·have h1':countSl true (Zc l)=0:=by rw[s0,decide_eq_true_iff]at h1;omega
    rw[if_neg h1,h1',List.drop_zero]
    exact⟨rfl,fun _=>{ h with his:=rfl,htx:=hz.symm,path:=by show walked m.sch [] _=_;rw[h.sch];exact Zbx u.sch _ hl }⟩
  ·rw[if_neg (fun g=>g hn),hr]
   simp only
   by_cases h1:Zq l 0 Zs=true
   ·have h1':countSl true (Zc l)=1:=by rw[s0]at h1;have:=of_decide_eq_true h1;omega
    rw[if_pos h1,if_pos h1',hdr 1 (by omega)]
    have hld:∀c∈l.drop 1,Sc c:=fun c hc=>hl c (Xa hc)
    refine⟨rfl,fun _=>{ h with his:=hbh,htx:=rfl,path:=?_ }⟩
    show walked m.sch (if driven (l.drop 1)=false∧base.segs≠[]∧drive (base.segs.headD [])=true then [base.segs.headD []]else []) (l.drop 1)=ZaS base.segs (Zc (l.drop 1))
    unfold ZaS
    have hda:=ZiX (l.drop 1) (fun c hc=>(hld c hc).pt)
    have hhd:base.segs.headD []=base.segs.getD 0 []:=by cases base.segs<;>rfl
    rw[h.sch,hf,Zo6,hhd]
    by_cases hc:driven (l.drop 1)=false∧base.segs≠[]∧Zaz (base.segs.getD 0 [])=true
    ·have hc':¬(base.segs=[]∨Zaz (base.segs.getD 0 [])=false∨Zaq (Zc (l.drop 1))=true):=by
      rintro(g|g|g)
      ·exact hc.2.1 g
      ·rw[hc.2.2]at g;cases g
      ·rw[hda,hc.1]at g;cases g
     rw[if_pos hc,if_neg hc',Ze5 Zo _ _ hld]
     have:[base.segs.getD 0 []]=base.segs.take 1:=by
      cases hs:base.segs with
      | nil=>exact absurd hs hc.2.1
      | cons a r=>rfl
     rw[this]
     rfl
    ·have hc':base.segs=[]∨Zaz (base.segs.getD 0 [])=false∨Zaq (Zc (l.drop 1))=true:=by
      refine Classical.byContradiction fun g=>hc ⟨?_,?_,?_⟩
      ·cases hx:driven (l.drop 1)with
       | false=>rfl
       | true=>exact absurd (Or.inr (Or.inr (by rw[hda,hx]))) g
      ·exact fun e=>g (Or.inl e)
      ·cases hx:Zaz (base.segs.getD 0 [])with
       | true=>rfl
       | false=>exact absurd (Or.inr (Or.inl hx)) g
     rw[if_neg hc,if_pos hc',Ze5 Zo _ _ hld]
     rfl
   ·have h1':countSl true (Zc l)=0:=by rw[s0,decide_eq_true_iff]at h1;omega
    have hda:=ZiX l hpt
    rw[if_neg h1,if_neg (by omega)]
    by_cases h0:l=[]
    ·rw[if_pos h0]
     have hd0:¬Zaq (Zc l)=true:=by rw[h0];decide
     rw[if_neg hd0]
     exact⟨rfl,fun _=>Zj6 (u:={ u with hh:=true,host:=base.host }) (m:={ m with his:=base.hh,htx:=base.host }) { h with his:=hbh,htx:=rfl } hqb base l hl h0⟩
    ·rw[if_neg h0]
     have h0':¬Zc l=[]:=fun g=>h0 ((Zp hpt).1 g)
     by_cases hd:driven l=true
     ·rw[if_pos hd,if_pos (by rw[hda];exact hd)]
      exact⟨rfl,fun _=>{ h with his:=hbh,htx:=rfl,path:=by show walked m.sch [] _=_;rw[h.sch];exact Zbx u.sch _ hl }⟩
     ·rw[if_neg hd,if_neg (by rw[hda];exact hd)]
      unfold Zak;rw[if_neg h0']
      refine⟨rfl,fun _=>{ h with his:=hbh,htx:=rfl,path:=?_ }⟩
      show walked m.sch (ZaU m.sch base.segs) l=ZcZ base.segs (Zc l) u.sch
      rw[h.sch,Ze5 u.sch _ l hl,Zhg]
      rfl
theorem Zmo(sp:Bool)(l:LB):∀k,k≤countSl sp l→countSl sp (l.drop k)=countSl sp l-k:=by
 induction l with
 | nil=>intro k h;rw[List.drop_nil];rw[countSl];omega
 | cons c r ih=>
  intro k h
  cases k with
  | zero=>rfl
  | succ k=>
   rw[countSl]at h ⊢
   by_cases hc:slB sp c=true
   ·rw[if_pos hc]at h ⊢
    rw[List.drop_succ_cons,ih k (by omega)]
    omega
   ·rw[if_neg hc]at h;omega
theorem Zu8(sch:LB)(l:LI)(hl:∀c∈l,Pt c)(h:1<countSl (Zb sch) (Zc l)):(Zc l).drop (if Zb sch=true then countSl (Zb sch) (Zc l)else 2)=Zc (Zc7 sch (l.drop 2)):=by
 rw[ZkV sch (l.drop 2) (fun c hc=>hl c (Xa hc))]
 have hcnt:=ZaH (Zb sch) l hl
 have hd:=Zdf (Zb sch) l 2 (by omega)
 by_cases hs:Zb sch=true
 ·rw[if_pos hs,if_pos hs,←hd]
  rw[hs]at h ⊢
  rw[Zmo true _ 2 (by omega),List.drop_drop]
  congr 1
  omega
 ·rw[if_neg hs,if_neg hs,hd]
theorem Zmp{b:Bool}{Q S:LB}{u:U}{m:RU}(h:Rl b Q S u m)(hqb:u.hq=b)(hf:u.sch≠Zo)(hn:u.nam=[])(hw:u.pw=[])(base:U)(l:LI)(hl:∀c∈l,Sc c):ZuU b Q S (Z1 u (Zc l) base) (ZdI m l (toR base)):=by
 have hpt:∀c∈l,Pt c:=fun c hc=>(hl c hc).pt
 unfold Z1 ZdI;rw[if_neg hf,h.sch,Zme u.sch l hpt,Zo7 u.sch l hpt];have hcnt:=ZaH (Zb u.sch) l hpt
 by_cases h2:1<countSl (Zb u.sch) (Zc l)
 ·rw[if_pos h2,if_pos (decide_eq_true h2)]
  exact ZkY h hn hw (l.drop 2) (fun c hc=>hl c (Xa hc)) _ (Zu8 u.sch l hpt h2)
 ·have h2':¬decide (1<countSl (Zb u.sch) (Zc l))=true:=by rw[decide_eq_true_iff];exact h2
  rw[if_neg h2,if_neg h2']
  have hk:Rl b Q S (kept u base) (Zmc m (toR base)):={ h with user:=rfl,pass:=rfl,his:=rfl,htx:=rfl,port:=rfl }
  by_cases h1:countSl (Zb u.sch) (Zc l)=1
  ·rw[if_pos h1,if_pos (decide_eq_true (by omega)),Zdf (Zb u.sch) l 1 (by omega)]
   exact⟨rfl,fun _=>{ hk with path:=Zbx u.sch _ (fun c hc=>hl c (Xa hc)) }⟩
  ·have h1':¬decide (1≤countSl (Zb u.sch) (Zc l))=true:=by rw[decide_eq_true_iff];omega
   rw[if_neg h1,if_neg h1']
   by_cases h0:l=[]
   ·rw[if_pos h0]
    exact⟨rfl,fun _=>Zj6 hk hqb base l hl h0⟩
   ·rw[if_neg h0]
    have h0':¬Zc l=[]:=fun g=>h0 ((Zp hpt).1 g)
    unfold Zak;rw[if_neg h0']
    refine⟨rfl,fun _=>{ hk with path:=?_ }⟩
    show walked u.sch (ZaU u.sch base.segs) l=ZcZ base.segs (Zc l) u.sch
    rw[Ze5 u.sch _ l hl,Zhg]
    rfl
theorem ZwV{b:Bool}{Q S:LB}{u:U}{m:RU}(h:Rl b Q S u m)(hqb:u.hq=b)(hn:u.nam=[])(hw:u.pw=[])(hz:u.host=[])(hs0:u.sch≠[]){base:U}{ob:Option RU}(hB:Bl base ob)(l:LI)(hl:∀c∈l,Sc c):ZuU b Q S (Z2 u (Zc l) base) (Zav m l ob):=by
 have hpt:∀c∈l,Pt c:=fun c hc=>(hl c hc).pt
 unfold Z2 Zav;rw[h.sch,special_eq]
 by_cases hf:u.sch=Zo
 ·have hf':u.sch=Zs:=hf
  rw[if_pos hf,if_pos hf'];exact Zpf h hqb hf hz hB l hl
 ·have hf':¬u.sch=Zs:=hf
  rw[if_neg hf,if_neg hf'];have htwo:=ZwO l hpt;have hone:=ZwP l hpt;have hcnt:=ZaH false l hpt
  by_cases hs:Zb u.sch=true
  ·rw[if_pos hs,if_pos hs]
   unfold Zbf
   by_cases hc:base.sch=u.sch∧countSl false (Zc l)<2
   ·rw[if_pos hc]
    have e:(if Zh5 l=true then none else Zqj m ob)=some (toR base):=by
     rw[if_neg (by rw[htwo,decide_eq_true_iff];omega)]
     rcases hB with⟨rfl,rfl⟩|⟨rfl,-⟩
     ·exact absurd hc.1.symm hs0
     ·show(if(toR base).sch=m.sch then some (toR base)else none)=_
      rw[if_pos (by rw[h.sch];exact hc.1)]
    rw[e];exact Zmp h hqb hf hn hw base l hl
   ·rw[if_neg hc]
    have e:(if Zh5 l=true then none else Zqj m ob)=none:=by
     by_cases ht:Zh5 l=true
     ·rw[if_pos ht]
     ·rw[if_neg ht]
      rcases hB with⟨rfl,rfl⟩|⟨rfl,-⟩
      ·rfl
      ·show(if(toR base).sch=m.sch then some (toR base)else none)=_
       rw[if_neg];intro g;rw[h.sch]at g;rw[htwo,decide_eq_true_iff]at ht
       exact hc ⟨g,by omega⟩
    rw[e]
    refine ZkY h hn hw l hl _ ?_
    rw[ZkV u.sch l hpt,if_pos hs]
  ·rw[if_neg hs,if_neg hs]
   by_cases h0:countSl false (Zc l)=0
   ·rw[if_pos h0,if_neg (by rw[htwo,decide_eq_true_iff];omega),if_neg (by rw[hone,decide_eq_true_iff];omega)]
    exact⟨rfl,fun _=>{ h with sch:=rfl,op:=rfl,bl:=(ZbE _ l hl).symm }⟩
   ·rw[if_neg h0]
    by_cases h1:countSl false (Zc l)=1
    ·rw[if_pos h1,if_neg (by rw[htwo,decide_eq_true_iff];omega),if_pos (by rw[hone];exact decide_eq_true (by omega)),Zdf false l 1 (by omega)]
     exact⟨rfl,fun _=>{ h with sch:=rfl,path:=Zbx u.sch _ (fun c hc=>hl c (Xa hc)) }⟩
    ·rw[if_neg h1,if_pos (by rw[htwo];exact decide_eq_true (by omega))]
     refine ZkY h hn hw (l.drop 2) (fun c hc=>hl c (Xa hc)) _ ?_
     rw[ZkV u.sch _ (fun c hc=>hpt c (Xa hc)),if_neg hs,Zdf false l 2 (by omega)]
theorem ZsY(sch:LB)(l:LI)(hl:∀c∈l,Sc c):encB (tl (ZaO (Zbd sch))) (clean (Zc l))=encoded l (tl (Zok (Zf sch))):=by
 rw[ZbE _ l hl,special_eq];unfold Zbd Zok
 cases Zb sch
 ·exact Zcf (Zec (by decide) (by decide)) l
 ·exact Zcf (Zec (by decide) (by decide)) l
theorem Zpg(l:LI)(hl:∀c∈l,Sc c):encB (tl (ZaO 1)) (clean (Zc l))=encoded l ZeC:=by
 rw[ZbE _ l hl]
 exact Zcf (Zec (by decide) (by decide)) l
theorem Zph(l:LI)(t:LB)(h:(cut l t).2.2=false):(cut l t).2.1=[]:=by
 induction l with
 | nil=>rfl
 | cons c r ih=>
  rw[cut]at h ⊢
  split
  ·next hc=>rw[if_pos hc]at h;cases h
  ·next hc=>rw[if_neg hc]at h;exact ih h
theorem Zpi(sch:LB)(rest:LI):Rl (cut rest [63]).2.2 (encB (tl (ZaO (Zbd sch))) (clean (Zc (cut rest [63]).2.1))) sch (ZcO sch (cut rest [63]).2.2 (Zc (cut rest [63]).2.1)) (ZiV sch rest):=by
 refine⟨rfl,rfl,rfl,rfl,rfl,rfl,rfl,rfl,rfl,rfl,rfl,?_,rfl,rfl,rfl⟩
 show(if(cut rest [63]).2.2=true then _ else([]:LB))=encB _ (clean _)
 cases hq:(cut rest [63]).2.2
 ·rw[if_neg (by decide),Zph rest _ hq,bytesOf_nil,Zbh]
 ·rw[if_pos rfl]
def ZxI(x:U×Int)(y:RU×Int):Prop:=x.2=y.2∧(x.2=0→y.1=toR x.1)
theorem Zk2{b:Bool}{S:LB}{x:U×Int}{y:RU×Int}{query:LI}(hq:∀c∈query,Sc c)(h:ZuU b (encB (tl (ZaO (Zbd S))) (clean (Zc query))) S x y)(hf:Bool)(frag:LI)(hfr:∀c∈frag,Sc c)(hfn:hf=false→frag=[]):ZxI (Zg3 x hf (Zc frag)) (Zqk (queried y b query) hf frag):=by
 have hc:(queried y b query).2=y.2:=by unfold queried;split<;>rfl
 unfold Zg3 Zqk;rw[hc,←h.1]
 by_cases h0:x.2≠0
 ·rw[if_pos h0,if_pos h0]
  exact⟨rfl,fun g=>absurd g h0⟩
 ·rw[if_neg h0,if_neg h0]
  have hr:=h.2 (Classical.not_not.1 h0)
  refine⟨rfl,fun _=>?_⟩
  have hfrag:(if hf=true then encoded frag ZeC else(queried y b query).1.fr)=encB (tl (ZaO 1)) (clean (Zc frag)):=by
   cases hf
   ·rw[if_neg (by decide),hfn rfl,bytesOf_nil,Zbh]
    have:(queried y b query).1.fr=y.1.fr:=by unfold queried;split<;>rfl
    rw[this,hr.fr]
   ·rw[if_pos rfl,Zpg frag hfr]
  rw[hfrag]
  have hsq:encoded query (tl (Zok (Zf y.1.sch)))=encB (tl (ZaO (Zbd S))) (clean (Zc query)):=by rw[hr.sch,hr.own,ZsY S query hq]
  obtain⟨x1,x2⟩:=x;obtain⟨y1,y2⟩:=y;obtain⟨a1,a2,a3,a4,a5,a6,a7,a8,a9,a10,a11,a12,a13⟩:=y1;obtain⟨r1,r2,r3,r4,r5,r6,r7,r8,r9,r10,r11,r12,r13,r14,r15⟩:=hr;unfold queried toR;simp only at *
  cases b
  ·rw[if_neg (by decide)]at r12 ⊢
   simp only;rw[r1,r3,r4,r5,r6,r7,r8,r9,r10,r11,r12]
  ·rw[if_pos rfl]at r12 ⊢
   simp only;rw[hsq,r12,r1,r3,r4,r5,r6,r7,r8,r9,r10,r11]
theorem ZsZ{l:LI}(hl:∀c∈l,Pt c)(h:(schemeOf l).2.2=true):(schemeOf l).1≠[]:=by
 unfold schemeOf at h ⊢
 split at h
 ·next hc=>
  rw[if_pos hc];rw[Xe]at hc;intro e
  have h1:=(Zp (l:=(cut l [58]).1) (fun c hm=>hl c (ZC (Or.inl hm)))).1 (Zfr.1 e)
  rw[h1]at hc
  exact absurd hc.2 (by decide)
 ·cases h
theorem ZwW{l:LI}(h:(schemeOf l).2.2=false):(schemeOf l).2.1=l:=by
 unfold schemeOf at h ⊢
 split
 ·next hc=>rw[if_pos hc]at h;cases h
 ·rfl
theorem ZhM(t:LB){base:U}{ob:Option RU}(hB:Bl base ob):ZxI (Zan t base) (parseR t ob):=by
 unfold Zan parseR;rw[Zni,show ZaD t=ZlL t from rfl];have hsc:=ZrP t;generalize ZlL t=L at *
 have hpt:∀c∈L,Pt c:=fun c hc=>(hsc c hc).pt
 rw[Zah ZrQ L hpt]
 have ha:∀c∈(cut L [35]).1,Sc c:=fun c hc=>hsc c (ZC (Or.inl hc))
 have hfr:∀c∈(cut L [35]).2.1,Sc c:=fun c hc=>hsc c (ZC (Or.inr hc))
 have hfn:(cut L [35]).2.2=false→(cut L [35]).2.1=[]:=Zph L _;generalize cut L [35]=cc at *;obtain⟨a,frag,hf⟩:=cc;simp only at *
 have hap:∀c∈a,Pt c:=fun c hc=>(ha c hc).pt
 unfold ZbP Zej;rw[ZhA a hap];simp only
 have hrest:∀c∈(schemeOf a).2.1,Sc c:=fun c hc=>ha c (Zb3 hc)
 have hcq:=Zah Zp1 (schemeOf a).2.1 (fun c hc=>(hrest c hc).pt)
 have hq1:∀c∈(cut (schemeOf a).2.1 [63]).1,Sc c:=fun c hc=>hrest c (ZC (Or.inl hc))
 have hq2:∀c∈(cut (schemeOf a).2.1 [63]).2.1,Sc c:=fun c hc=>hrest c (ZC (Or.inr hc))
 by_cases hok:(schemeOf a).2.2=true
 ·rw[if_pos hok,if_pos hok]
  have hne:=ZsZ hap hok;unfold Zc4 ZuS;rw[if_neg hne,if_pos rfl,hcq];simp only;exact Zk2 hq2 (ZwV (Zpi (schemeOf a).1 (schemeOf a).2.1) rfl rfl rfl rfl hne hB _ hq1) hf frag hfr hfn
 ·rw[if_neg hok,if_neg hok]
  have hoff:=ZwW (l:=a) (by simpa using hok)
  rcases hB with⟨rfl,rfl⟩|⟨rfl,hst⟩
  ·rw[if_neg (show ¬zeroU.op=true by decide)]
   unfold Zc4 Zg3;rw[if_pos (show zeroU.sch=[]from rfl)]
   exact⟨rfl,fun g=>by cases g⟩
  ·simp only
   by_cases ho:base.op=true
   ·rw[if_pos ho,if_pos (show(toR base).op=true from ho)]
    unfold Zc0;rw[hoff];have hE:=Zp hap
    by_cases hc:a=[]∧hf=true
    ·have hc1:Zc a=[]∧hf=true:=⟨hE.2 hc.1,hc.2⟩
     have hc2:¬(a≠[]∨hf=false):=by
      rintro(g|g)
      ·exact g hc.1
      ·rw[hc.2]at g;cases g
     rw[if_pos hc1,if_neg hc2];unfold Zg3 Zqk
     have n1:¬((base,(0:Int)).2≠0):=fun g=>g rfl
     rw[if_neg n1,if_neg (fun g=>g rfl)]
     refine⟨rfl,fun _=>?_⟩
     obtain⟨o1,o2,-⟩:=hst.opq ho;obtain⟨w1,w2,w3,w4⟩:=hst.wf.nh o2;have hff:=Zpg frag hfr;rw[hc.2];unfold toR zeroR;simp only[if_true];rw[hff,w1,w2,o2,w3,w4,o1,ho]
     rfl
    ·have hc1:¬(Zc a=[]∧hf=true):=fun g=>hc ⟨hE.1 g.1,g.2⟩
     have hc2:a≠[]∨hf=false:=by
      by_cases g:a=[]
      ·right
       cases hf with
       | false=>rfl
       | true=>exact absurd ⟨g,rfl⟩ hc
      ·exact Or.inl g
     rw[if_neg hc1,if_pos hc2];unfold Zg3
     exact⟨rfl,fun g=>by cases g⟩
   ·rw[if_neg ho,if_neg (show ¬(toR base).op=true from ho)]
    have hne:base.sch≠[]:=hst.sd.sc.ne;unfold Zc4 Zo5 Zei
    rw[if_neg hne,if_neg (by decide),hcq]
    simp only;have hst0:=Zpi base.sch (schemeOf a).2.1
    by_cases hff:base.sch=Zo
    ·have hg:(ZiV (toR base).sch (schemeOf a).2.1).sch=Zs:=hff
     rw[if_pos hg];unfold Z1;have hg2:(ZcO base.sch (cut (schemeOf a).2.1 [63]).2.2 (Zc (cut (schemeOf a).2.1 [63]).2.1)).sch=Zo:=hff;rw[if_pos hg2];exact Zk2 hq2 (Zpf hst0 rfl hff rfl (Or.inr ⟨rfl,hst⟩) _ hq1) hf frag hfr hfn
    ·have hg:¬(ZiV (toR base).sch (schemeOf a).2.1).sch=Zs:=hff
     rw[if_neg hg];exact Zk2 hq2 (Zmp hst0 rfl hff rfl rfl base _ hq1) hf frag hfr hfn
structure Wk (u:U):Prop where
 port:u.hp=true→u.port≤65535
 opq:u.op=true→u.segs=[]∧u.hh=false
 zop:u.op=false→u.opath=[]
 nq:u.hq=false→u.q=[]
 pq:Pr u.q
 sp:Zb u.sch=true→u.hh=true
 path:(Zbi u).length≤9000
 lq:u.q.length≤90000
theorem St'.wk{u:U}(h:St' u)(h1:(Zbi u).length≤9000)(h2:u.q.length≤90000):Wk u:=
 ⟨fun g=>(h.sd.port g).1,fun g=>⟨(h.opq g).1,(h.opq g).2.1⟩,h.zop,h.wf.nq,h.sd.pq,h.sp,h1,h2⟩
theorem ZgI{u:U}(h:u.hp=true→u.port≤65535):ZdM (toR u)=ZbN u:=by
 unfold ZdM ZbN Zcd toR;simp only
 cases hp:u.hp
 ·simp
 ·simp only[if_true]
  rw[if_pos (by omega),Int.toNat_natCast,Zfw _ (by have:=h hp;omega)]
theorem Zva{u:U}(h:u.hp=true→u.port≤65535):Zs4 (toR u)=Zcd u:=by
 unfold Zs4 Zcd toR;simp only
 cases hp:u.hp
 ·simp
 ·simp only[if_true]
  rw[if_pos (by omega),Int.toNat_natCast,Zfw _ (by have:=h hp;omega)]
theorem Zh6{u:U}(h:Wk u):ZdC (toR u)=Zbi u:=by
 unfold ZdC Zbi toR;simp only
 cases ho:u.op
 ·rw[h.zop ho,if_neg (by decide)];rfl
 ·rw[(h.opq ho).1,if_pos rfl];simp[Zdp]
theorem Zvb(u:U):Zf8 (toR u)=ZpX u:=by
 unfold Zf8 ZpX toR;simp only
 split
 ·rfl
 ·split
  ·rfl
  ·simp
theorem Zs5{u:U}(h:Wk u):Zdv (toR u)=ZjK u:=by
 unfold Zdv ZjK;rw[ZgI h.port,Zvb];unfold toR;simp only
 cases hh:u.hh
 ·simp only[Xk,if_false]
  cases ho:u.op
  ·by_cases hc:1<u.segs.length∧u.segs.getD 0 []=[]
   ·rw[if_pos hc,if_pos ⟨rfl,hc.1,hc.2⟩]
   ·rw[if_neg hc,if_neg (fun g=>hc ⟨g.2.1,g.2.2⟩)]
  ·rw[(h.opq ho).1,if_neg (by simp),if_neg (by simp)]
 ·rw[if_pos rfl,if_pos rfl]
theorem Zvc{u:U}(h:Wk u):ZhV (toR u)=Zng u:=by
 unfold ZhV Zng ZcL;rw[Zs5 h,Zh6 h]
 rfl
theorem Zs6:Bl zeroU none:=Or.inl ⟨rfl,rfl⟩
theorem ZnN{l:LB}(h:(ZbQ l).2=0):St (ZbQ l).1:=Zhj l (Or.inl rfl) h
theorem Zfz(l:LB):ZxI (ZbQ l) (parseR l none):=ZhM l Zs6
theorem Zs7(s:LB):Zdx s=(Zb s&&s != Zo):=by
 by_cases h1:s=[104,116,116,112]
 ·subst h1;rfl
 by_cases h2:s=[104,116,116,112,115]
 ·subst h2;rfl
 by_cases h3:s=[119,115]
 ·subst h3;rfl
 by_cases h4:s=[119,115,115]
 ·subst h4;rfl
 by_cases h5:s=[102,116,112]
 ·subst h5;rfl
 have e1:Zdx s=false:=by unfold Zdx;simp[h1,h2,h3,h4,h5]
 have e2:Zb s=(s==Zo):=by
  unfold Zb ZI
  rw[if_neg (by rintro(g|g);exact h1 g;exact h3 g),if_neg (by rintro(g|g);exact h2 g;exact h4 g),if_neg h5]
  rfl
 rw[e1,e2,bne]
 cases s==Zo<;>rfl
theorem Zqz{u:U}(h:Wk u):Zby (toR u)=Zcy u:=by
 unfold Zby Zcy;rw[Zh6 h,Zs7];have e:(toR u).sch=u.sch:=rfl;rw[e,special_eq]
 by_cases hp:Zb u.sch=true∧u.sch≠Zs
 ·have hp2:(Zb u.sch&&u.sch != Zo)=true:=by rw[Xe,bne_iff_ne];exact hp
  rw[if_pos hp,if_pos hp2];unfold Zf9 Zai;rw[ZgI h.port]
  rfl
 ·have hp2:¬(Zb u.sch&&u.sch != Zo)=true:=by rw[Xe,bne_iff_ne];exact hp
  rw[if_neg hp,if_neg hp2]
  by_cases hb:u.sch=Zqw
  ·have hb':u.sch=[98,108,111,98]:=hb
   rw[if_pos hb,if_pos hb'];unfold Zi0 Zdw;obtain⟨s1,s2⟩:=Zfz (Zbi u)
   by_cases h0:(ZbQ (Zbi u)).2=0
   ·have s3:=s2 h0
    rw[←s1,s3]
    have n0:¬((ZbQ (Zbi u)).2≠0):=fun g=>g h0
    rw[if_neg n0];have e2:(toR (ZbQ (Zbi u)).1).sch=(ZbQ (Zbi u)).1.sch:=rfl;rw[e2]
    by_cases hc:(ZbQ (Zbi u)).1.sch=ZwY∨(ZbQ (Zbi u)).1.sch=Zs2
    ·rw[if_pos ⟨h0,hc⟩,if_neg (by
      rintro⟨g1,g2⟩;rcases hc with hc|hc
      ·exact g1 hc
      ·exact g2 hc)]
     unfold Zf9 Zai
     rw[ZgI (fun g=>((ZnN h0).st.sd.port g).1)]
     rfl
    ·rw[if_neg (fun g=>hc g.2),if_pos ⟨fun g=>hc (Or.inl g),fun g=>hc (Or.inr g)⟩]
     rfl
   ·rw[if_pos h0,if_neg (fun g=>h0 (s1.trans g.1))]
    rfl
  ·have hb':¬u.sch=[98,108,111,98]:=hb
   rw[if_neg hb,if_neg hb']
   rfl
theorem Zvd:∀n:Fin 128,Zs0 (toB (n.val:Int))=toB (Zc9 (n.val:Int)):=by decide
theorem ZqA(l:LI)(hl:∀c∈l,Pt c):ZwX (Zc l)=Zc (l.map Zc9):=by
 induction l with
 | nil=>rfl
 | cons c r ih=>
  have ih':=ih (fun x hx=>hl x (Xh _ hx))
  unfold ZwX at ih' ⊢;rw[bytesOf_cons,List.map_append,ih',Xf,bytesOf_cons]
  congr 1
  rcases Zae (hl c (Xl ..))with⟨a,b,e⟩|⟨a,b,e⟩
  ·have hp:0≤Zc9 c∧Zc9 c<128:=by unfold Zc9;split<;>omega
   rw[e,Zor hp.2]
   have:=Zvd ⟨c.toNat,by omega⟩
   have hc:((⟨c.toNat,by omega⟩:Fin 128).val:Int)=c:=by simp;omega
   rw[hc]at this
   show [Zs0 (toB c)]=[toB (Zc9 c)]
   rw[this]
  ·have hp:Zc9 c=c:=by unfold Zc9;rw[if_neg (by omega)]
   rw[hp]
   have hid:∀b∈(utf c).map toB,Zs0 b=b:=fun b hb=>by
    have:=e b hb;unfold Zs0
    rw[if_neg (by omega)]
   rw[List.map_congr_left hid,List.map_id']
theorem Zj8(l:LI)(hl:∀c∈l,Pt c):Zi1 l=Zpj (Zc l):=by unfold Zi1 Zpj;rw[ZaZ,bdecode_decoded,ZqA l hl]
theorem Zs8(l:LI)(hl:∀c∈l,Pt c):ZnM l=Zpk (Zc l):=by
 unfold ZnM Zpk
 rw[Zah (Zet 61 (by decide) (by decide) 61 rfl) l hl]
 rw[Zj8 _ (fun c hc=>hl c (ZC (Or.inl hc))),Zj8 _ (fun c hc=>hl c (ZC (Or.inr hc)))]
theorem Zve:∀(ps:List LI),(∀p∈ps,∀c∈p,Pt c)→(ps.filter fun a=>!a.isEmpty).map ZnM=((ps.map Zc).filter fun p=>!p.isEmpty).map Zpk:=by
 intro ps
 induction ps with
 | nil=>intro _;rfl
 | cons p r ih=>
  intro hpp;have hp:=hpp p (Xl ..)
  have ih':=ih (fun q hq=>hpp q (Xh _ hq))
  rw[Xf,Xn,Xn]
  have he:(Zc p).isEmpty=p.isEmpty:=by
   cases p with
   | nil=>rfl
   | cons c t=>
    have:Zc (c::t)≠[]:=fun e=>by have:=(Zp hp).1 e;cases this
    cases hx:Zc (c::t)with
    | nil=>exact absurd hx this
    | cons _ _=>rfl
  rw[he]
  cases p.isEmpty
  ·simp only[Bool.not_false,if_true,Xf]
   rw[ih',Zs8 p hp]
  ·simp only[Bool.not_true,Xk,if_false]
   exact ih'
theorem ZqB{q:LB}(hq:Pr q):ZhN q=Za1 q:=by
 unfold ZhN Za1 Zs1 ZxJ
 have hpt:∀c∈Zk q,Pt c:=fun c hc=>(ZaR q c hc).pt
 have hb:=ZaZ q
 rw[Zds (fun b hb=>by have:=hq b hb;omega)]at hb
 have hs:=Zcz (n:=38) (t:=38) (by decide) (by decide) rfl (Zk q) hpt
 rw[hb]at hs;rw[hs]
 exact Zve _ (fun p hp c hc=>hpt c (((ZbS (Zk q) [38]).2 p hp).2 c hc))
theorem Zs9{u:U}(h:Wk u):Zi2 (toR u)=Za1 u.q:=by
 unfold Zi2;have e:(toR u).hq=u.hq:=rfl;rw[e]
 cases hq:u.hq
 ·rw[if_neg (by decide),h.nq hq];rfl
 ·rw[if_pos rfl];exact ZqB h.pq
theorem ZnO(base:LB)(based:Bool):(Zc8 base based).2=(ZdV base based).2∧((Zc8 base based).2=0→Bl (Zc8 base based).1 (ZdV base based).1):=by
 unfold Zc8 ZdV
 cases based
 ·exact⟨rfl,fun _=>Zs6⟩
 ·simp only[Bool.true_eq_false,if_false]
  obtain⟨s1,s2⟩:=Zfz base;rw[←s1]
  by_cases h2:(ZbQ base).2=2
  ·rw[if_pos h2,if_pos h2]
   exact⟨rfl,fun g=>by cases g⟩
  ·rw[if_neg h2,if_neg h2]
   by_cases h0:(ZbQ base).2=0
   ·rw[if_neg (fun g=>g h0)]
    exact⟨h0,fun _=>Or.inr ⟨by rw[s2 h0],(ZnN h0).st⟩⟩
   ·have h0':(ZbQ base).2≠0:=h0
    rw[if_pos h0']
    exact⟨rfl,fun g=>absurd g h0⟩
theorem Zvf(l base:LB)(based:Bool):ZxI (Zcp l base based) (Zje l base based):=by
 unfold Zcp Zje
 by_cases hl:160<l.length∨(based=true∧160<base.length)
 ·rw[if_pos hl,if_pos hl]
  exact⟨rfl,fun g=>by cases g⟩
 ·rw[if_neg hl,if_neg hl]
  obtain⟨g1,g2⟩:=ZnO base based;rw[←g1]
  by_cases h0:(Zc8 base based).2=0
  ·rw[if_neg (fun g=>g h0),if_neg (fun g=>g h0)]
   exact ZhM l (g2 h0)
  ·have h0':(Zc8 base based).2≠0:=h0
   rw[if_pos h0',if_pos h0']
   exact⟨rfl,fun g=>absurd g h0⟩
def pl(ps:List (List UInt8)):Nat:=(Zdp ps).length
theorem Zpl(a b:List LB):pl (a++b)=pl a+pl b:=by simp[pl,Zdp]
theorem Zta(s:LB):pl [s]=1+s.length:=by simp[pl,Zdp];omega
theorem Ztb(ps:List LB)(n:Nat):pl (ps.take n)≤pl ps:=by
 conv=>rhs;rw[←List.take_append_drop n ps]
 rw[Zpl];omega
theorem Zpm(f:Bool)(ps:List LB):pl (ZaN f ps)≤pl ps:=by
 unfold ZaN
 split
 ·exact Xi _
 ·exact Ztb _ _
theorem Zye(set l:LB):(encB set (clean l)).length≤9*l.length:=by
 have h1:=Zko set (clean l);have h2:=Zca l
 omega
theorem ZwZ(f:Bool)(ps:List LB)(s:LB):pl (joinL f ps s)≤pl ps+(2+9*s.length):=by
 unfold joinL;rw[Zpl,Zta]
 split
 ·rw[List.length_append,List.length_take];simp;omega
 ·have:=Zye (tl (ZaO 4)) s;omega
theorem ZxK(f:Bool)(ps:List LB)(s:LB)(last:Bool):pl (ZdR f ps s last)≤pl ps+(2+9*s.length):=by
 have h2:pl (if countDots s=2 then ZaN f ps else ps)≤pl ps:=by
  split
  ·exact Zpm _ _
  ·exact Xi _
 unfold ZdR
 split
 ·exact ZwZ _ _ _
 split
 ·rw[Zpl,Zta];simp only[Xp];omega
 ·omega
def cost(ss:List (List UInt8)):Nat:=(ss.map fun s=>2+9*s.length).sum
theorem Zw0(f:Bool)(ss:List LB):∀ps,pl (Zco f ps ss)≤pl ps+cost ss:=by
 induction ss with
 | nil=>intro ps;exact Nat.le_add_right _ _
 | cons x r ih=>
  intro ps
  cases r with
  | nil=>have:=ZxK f ps x true;simp only[Zco,cost,List.map,Xd,List.sum_nil];omega
  | cons y q=>
   have h1:=ih (ZdR f ps x false);have h2:=ZxK f ps x false;rw[Zco];simp only[cost,List.map,Xd]at h1 ⊢
   omega
theorem ZqC(p:UInt8→Bool)(l:LB):cost (Zb0 p l)≤9*l.length+2:=by
 induction l with
 | nil=>rw[Zb0];simp[cost]
 | cons c r ih=>
  rw[Zb0]
  split
  ·simp only[cost,List.map,Xd,Xp,Xo]at ih ⊢
   omega
  ·obtain⟨x,q,hx⟩:=ZeU p r
   rw[hx]at ih ⊢;simp only[cost,List.map,Xd,Xo]at ih ⊢
   omega
theorem Zi3(f sp:Bool)(ps:List LB)(t:LB):pl (Zbc f sp ps t)≤pl ps+9*t.length+2:=by
 have h1:=Zw0 f (Zb0 (slB sp) t) ps;have h2:=ZqC (slB sp) t;unfold Zbc
 omega
theorem Ze8(t sch:LB):pl (ZbY t sch)≤9*t.length+2:=by
 have h:=Zi3 (sch==Zo) (Zb sch) [] t;have h0:pl []=0:=rfl;unfold ZbY
 omega
theorem Ztc(b:List LB)(t sch:LB):pl (ZcZ b t sch)≤pl b+9*t.length+2:=by
 have h:=Zi3 (sch==Zo) (Zb sch) (ZaN (sch==Zo) b) t;have h0:=Zpm (sch==Zo) b;unfold ZcZ
 omega
theorem Zvg(b:List LB)(t:LB):pl (ZaS b t)≤pl b+9*t.length+2:=by
 unfold ZaS
 split
 ·have:=Ze8 t Zo;omega
 ·have:=Zi3 true true (b.take 1) t
  have:=Ztb b 1
  omega
structure Pm (u:U) (a:Nat):Prop where
 o:u.opath.length≤a
 s:pl u.segs≤a
theorem Pm.path{u:U}{a:Nat}(h:Pm u a):(Zbi u).length≤a:=by
 unfold Zbi
 split
 ·exact h.o
 ·exact h.s
theorem Pm.le{u:U}{a b:Nat}(h:Pm u a)(hab:a≤b):Pm u b:=⟨Xc h.o hab,Xc h.s hab⟩
theorem Zch(a:Nat):Pm zeroU a:=⟨Xb _,Xb _⟩
theorem Zpn(sch q:LB)(b:Bool):Pm (ZcO sch b q) 0:=⟨Xb _,Xb _⟩
theorem Zmq{u base:U}{B:Nat}(l:LB)(h:Pm u 0)(hb:Pm base B):Pm (Zak u l base) (B+9*l.length+2):=by
 have h1:=h.o;have h2:=hb.s;unfold Zak
 split
 ·exact⟨by show u.opath.length≤_;omega,by show pl base.segs≤_;omega⟩
 ·exact⟨by show u.opath.length≤_;omega,by show pl (ZcZ base.segs l u.sch)≤_;have:=Ztc base.segs l u.sch;omega⟩
theorem Ztd{u:U}{a:Nat}(h:Pm u 0)(s:List LB)(hs:pl s≤a):Pm { u with segs:=s } a:=⟨Xc h.o (Xb _),hs⟩
theorem Zc2(l:LB)(n:Nat):(l.drop n).length≤l.length:=by rw[List.length_drop];omega
theorem ZnP{u:U}(t:LB)(h:Pm u 0):Pm (Zad u t).1 (9*t.length+2):=by
 have hc:=(Z7 (slB true) t).1;unfold Zad
 split
 ·exact Ztd h _ (Ze8 _ _)
 split
 ·exact Zch _
 ·exact⟨Xc h.o (Xb _),by show pl (ZbY _ _)≤_;have:=Ze8 (bcut (slB true) t).2.1 u.sch;omega⟩
theorem Zte{u base:U}{B:Nat}(l:LB)(h:Pm u 0)(hb:Pm base B):Pm (ZdS u l base).1 (B+9*l.length+2):=by
 have h0:=h.o;have hs:=hb.s;unfold ZdS
 split
 ·have:=Zc2 l 2
  exact(ZnP (u:={ u with hh:=true }) (l.drop 2) ⟨h.o,h.s⟩).le (by omega)
 split
 ·exact⟨by show u.opath.length≤_;omega,by show pl (ZbY _ _)≤_;have:=Ze8 (l.drop (countSl true l)) u.sch;have:=Zc2 l (countSl true l);omega⟩
 split
 ·exact⟨by show u.opath.length≤_;omega,by show pl (ZaS _ _)≤_;have:=Zvg base.segs (l.drop 1);have:=Zc2 l 1;omega⟩
 split
 ·exact⟨by show u.opath.length≤_;omega,by show pl (ZbY _ _)≤_;have:=Ze8 l u.sch;omega⟩
 ·exact Zmq (u:={ u with hh:=true,host:=base.host }) l ⟨h.o,h.s⟩ hb
theorem Zw1{u:U}(p:LB)(h:Pm u 0):Pm (Zgu u p).1 0:=by
 unfold Zgu
 split
 ·exact Zch _
 show Pm (Zal u _) 0
 unfold Zal
 split
 ·exact⟨h.o,h.s⟩
 ·exact⟨h.o,h.s⟩
theorem Zvh{u:U}(p:LB)(h:Pm u 0):Pm (Z9 u p).1 0:=by
 unfold Z9
 split
 ·exact Zch _
 split
 ·exact Zch _
 split
 ·exact⟨h.o,h.s⟩
 ·exact Zw1 _ ⟨h.o,h.s⟩
theorem Ze9{u:U}(t:LB)(h:Pm u 0):Pm (ZE u t).1 (9*t.length+2):=by
 have hc:=(Z7 (slB (Zb u.sch)) t).1;unfold ZE
 split
 ·exact Zch _
 ·unfold Zdq
  split
  ·exact Zch _
  have hp:=Zvh (u:={ u with nam:=ZfF (bcut (isB 58) (bcutLast 64 (bcut (slB (Zb u.sch)) t).1).1).1,pw:=ZfF (bcut (isB 58) (bcutLast 64 (bcut (slB (Zb u.sch)) t).1).1).2.1 }) (bcutLast 64 (bcut (slB (Zb u.sch)) t).1).2.1 ⟨h.o,h.s⟩
  split
  ·exact Ztd hp _ (by have:=Ze8 (bcut (slB (Zb u.sch)) t).2.1 u.sch;omega)
  ·exact hp.le (Xb _)
theorem Zj9{u base:U}{B:Nat}(l:LB)(h:Pm u 0)(hb:Pm base B):Pm (Z1 u l base).1 (B+9*l.length+2):=by
 have h0:=h.o;unfold Z1
 split
 ·exact Zte l h hb
 split
 ·exact(Ze9 _ h).le (by have:=Zc2 l (if Zb u.sch=true then countSl (Zb u.sch) l else 2);omega)
 split
 ·exact⟨by show u.opath.length≤_;omega,by show pl (ZbY _ _)≤_;have:=Ze8 (l.drop 1) u.sch;have:=Zc2 l 1;omega⟩
 ·exact Zmq (u:=kept u base) l ⟨h.o,h.s⟩ hb
theorem ZqD{u base:U}{B:Nat}(l:LB)(h:Pm u 0)(hb:Pm base B):Pm (Zbf u l base).1 (B+9*l.length+2):=by
 unfold Zbf
 split
 ·exact Zj9 l h hb
 ·exact(Ze9 _ h).le (by have:=Zc2 l (countSl true l);omega)
theorem ZqE{u base:U}{B:Nat}(l:LB)(h:Pm u 0)(hb:Pm base B):Pm (Z2 u l base).1 (B+9*l.length+2):=by
 have h0:=h.o;have h1:=h.s;unfold Z2
 split
 ·exact Zte l h hb
 split
 ·exact ZqD l h hb
 split
 ·exact⟨by show(encB _ (clean l)).length≤_;have:=Zye (tl (ZaO 0)) l;omega,by show pl u.segs≤_;omega⟩
 split
 ·exact⟨by show u.opath.length≤_;omega,by show pl (ZbY _ _)≤_;have:=Ze8 (l.drop 1) u.sch;have:=Zc2 l 1;omega⟩
 ·exact(Ze9 _ h).le (by have:=Zc2 l 2;omega)
theorem Ztf(sch rest:LB)(f:Bool){base:U}{B:Nat}(hb:Pm base B):Pm (Zc4 sch rest f base).1 (B+9*rest.length+2):=by
 have hc:=(Z7 (isB 63) rest).1;unfold Zc4
 split
 ·exact Zch _
 split
 ·exact(ZqE _ (Zpn _ _ _) hb).le (by omega)
 ·exact(Zj9 _ (Zpn _ _ _) hb).le (by omega)
theorem Zvi(l:LB)(hf:Bool){base:U}{B:Nat}(hb:Pm base B):Pm (ZbP l hf base).1 (B+9*l.length+2):=by
 have hc:=(Zd9 l).2;unfold ZbP
 split
 ·exact(Ztf _ _ _ hb).le (by omega)
 split
 ·unfold Zc0
  split
  ·exact hb.le (by omega)
  ·exact Zch _
 ·exact(Ztf _ _ _ hb).le (by omega)
theorem Zvj(l:LB):(trimB l).length≤l.length:=by
 unfold trimB;rw[Xj]
 refine Xc (List.IsSuffix.length_le (Xg _)) ?_
 rw[Xj];exact List.IsSuffix.length_le (Xg _)
theorem ZhO(l:LB):(wholeText l).length≤3*l.length:=by
 have h1:=Za8 (trimB (clean l));have h2:=Zvj (clean l);have h3:=Zca l;unfold wholeText
 omega
theorem Zhl(l:LB){base:U}{B:Nat}(hb:Pm base B):Pm (Zan l base).1 (B+27*l.length+2):=by
 have h1:=(Z7 (isB 35) (wholeText l)).1;have h2:=ZhO l;unfold Zan Zg3
 split
 ·exact Zch _
 ·have h:=Zvi (bcut (isB 35) (wholeText l)).1 (bcut (isB 35) (wholeText l)).2.2 hb
  have ho:=h.o;have hs:=h.s
  exact⟨Xc ho (by omega),Xc hs (by omega)⟩
theorem Zvk(l base:LB)(b:Bool):(Zbi (Zcp l base b).1).length≤8644:=by
 have hz:(Zbi zeroU).length≤8644:=(Zch 8644).path;unfold Zcp
 split
 ·exact hz
 next hl=>
  split
  ·exact hz
  ·refine Pm.path ?_
   have h1:l.length≤160:=Xq fun h=>hl (Or.inl h)
   have hbase:Pm (Zc8 base b).1 4322:=by
    unfold Zc8
    split
    ·exact Zch _
    next hb=>
     split
     ·exact Zch _
     ·have h2:base.length≤160:=Xq fun h=>hl (Or.inr ⟨by cases b;exact absurd rfl hb;rfl,h⟩)
      exact(Zhl base (Zch 0)).le (by omega)
   exact(Zhl l hbase).le (by omega)
structure Hm (u:U) (a:Nat):Prop where
 host:u.host.length≤300000
 q:u.q.length≤a
theorem Zci(a:Nat):Hm zeroU a:=⟨Xb _,Xb _⟩
theorem Zpo(sch q:LB)(b:Bool){a:Nat}(h:9*q.length≤a):Hm (ZcO sch b q) a:=⟨Xb _,Xc (Zye _ _) h⟩
theorem Zmr{u base:U}{a:Nat}(l:LB)(h:Hm u a)(hb:Hm base a):Hm (Zak u l base) a:=by
 unfold Zak
 split
 ·refine⟨h.host,?_⟩
  show(if u.hq=true then u.q else base.q).length≤a
  split
  ·exact h.q
  ·exact hb.q
 ·exact⟨h.host,h.q⟩
theorem ZnQ{u:U}{a:Nat}(t:LB)(ht:t.length≤30000)(h:Hm u a):Hm (Zad u t).1 a:=by
 have hc:=(Z7 (slB true) t).1;unfold Zad
 split
 ·exact⟨h.host,h.q⟩
 split
 ·exact Zci _
 ·exact⟨Zey (by omega),h.q⟩
theorem Ztg{u base:U}{a:Nat}(l:LB)(hl:l.length≤30000)(h:Hm u a)(hb:Hm base a):Hm (ZdS u l base).1 a:=by
 unfold ZdS
 split
 ·have:=Zc2 l 2
  exact ZnQ (u:={ u with hh:=true }) (l.drop 2) (by omega) ⟨h.host,h.q⟩
 split
 ·exact⟨h.host,h.q⟩
 split
 ·exact⟨hb.host,h.q⟩
 split
 ·exact⟨hb.host,h.q⟩
 ·exact Zmr (u:={ u with hh:=true,host:=base.host }) l ⟨hb.host,h.q⟩ hb
theorem Zw2{u:U}{a:Nat}(p:LB)(h:Hm u a):Hm (Zgu u p).1 a:=by
 unfold Zgu
 split
 ·exact Zci _
 show Hm (Zal u _) a
 unfold Zal
 split
 ·exact⟨h.host,h.q⟩
 ·exact⟨h.host,h.q⟩
theorem Zvl{u:U}{a:Nat}(p:LB)(hp:p.length≤30000)(h:Hm u a):Hm (Z9 u p).1 a:=by
 have hc:=Zf1 p;unfold Z9
 split
 ·exact Zci _
 split
 ·exact Zci _
 have h2:Hm { u with hh:=true,host:=(ZO (Zr p).1 (Zb u.sch)).1 } a:=⟨Zd8 (by omega),h.q⟩
 split
 ·exact h2
 ·exact Zw2 _ h2
theorem Zfa{u:U}{a:Nat}(t:LB)(ht:t.length≤30000)(h:Hm u a):Hm (ZE u t).1 a:=by
 have hc:=(Z7 (slB (Zb u.sch)) t).1;have hl:=Zhy 64 (bcut (slB (Zb u.sch)) t).1;unfold ZE
 split
 ·exact Zci _
 unfold Zdq
 have h2:=Zvl (u:={ u with nam:=ZfF (bcut (isB 58) (bcutLast 64 (bcut (slB (Zb u.sch)) t).1).1).1,pw:=ZfF (bcut (isB 58) (bcutLast 64 (bcut (slB (Zb u.sch)) t).1).1).2.1 }) (a:=a) (bcutLast 64 (bcut (slB (Zb u.sch)) t).1).2.1 (by omega) ⟨h.host,h.q⟩
 split
 ·exact Zci _
 split
 ·exact⟨h2.host,h2.q⟩
 ·exact h2
theorem Zka{u base:U}{a:Nat}(l:LB)(hl:l.length≤30000)(h:Hm u a)(hb:Hm base a):Hm (Z1 u l base).1 a:=by
 unfold Z1
 split
 ·exact Ztg l hl h hb
 split
 ·have:=Zc2 l (if Zb u.sch=true then countSl (Zb u.sch) l else 2)
  exact Zfa _ (by omega) h
 split
 ·exact⟨hb.host,h.q⟩
 ·exact Zmr l (u:=kept u base) ⟨hb.host,h.q⟩ hb
theorem ZqF{u base:U}{a:Nat}(l:LB)(hl:l.length≤30000)(h:Hm u a)(hb:Hm base a):Hm (Z2 u l base).1 a:=by
 unfold Z2
 split
 ·exact Ztg l hl h hb
 split
 ·unfold Zbf
  split
  ·exact Zka l hl h hb
  ·have:=Zc2 l (countSl true l)
   exact Zfa _ (by omega) h
 split
 ·exact⟨h.host,h.q⟩
 split
 ·exact⟨h.host,h.q⟩
 ·have:=Zc2 l 2
  exact Zfa _ (by omega) h
theorem Zth(sch rest:LB)(f:Bool){base:U}{a:Nat}(hr:rest.length≤30000)(ha:9*rest.length≤a)(hb:Hm base a):Hm (Zc4 sch rest f base).1 a:=by
 have hc:=(Z7 (isB 63) rest).1;have hc2:=(Z7 (isB 63) rest).2;unfold Zc4
 split
 ·exact Zci _
 split
 ·exact ZqF _ (by omega) (Zpo _ _ _ (by omega)) hb
 ·exact Zka _ (by omega) (Zpo _ _ _ (by omega)) hb
theorem Zvm(l:LB)(hf:Bool){base:U}{a:Nat}(hl:l.length≤30000)(ha:9*l.length≤a)(hb:Hm base a):Hm (ZbP l hf base).1 a:=by
 have hc:=(Zd9 l).2;unfold ZbP
 split
 ·exact Zth _ _ _ (by omega) (by omega) hb
 split
 ·unfold Zc0
  split
  ·exact hb
  ·exact Zci _
 ·exact Zth _ _ _ (by omega) (by omega) hb
theorem Zkb(l:LB){base:U}{a:Nat}(hl:l.length≤10000)(ha:27*l.length≤a)(hb:Hm base a):Hm (Zan l base).1 a:=by
 have h1:=ZhO l;have h2:=(Z7 (isB 35) (wholeText l)).1;unfold Zan Zg3
 have h3:=Zvm (bcut (isB 35) (wholeText l)).1 (bcut (isB 35) (wholeText l)).2.2 (a:=a) (by omega) (by omega) hb
 split
 ·exact Zci _
 ·exact⟨h3.host,h3.q⟩
theorem Zti(l:LB)(hl:l.length≤10000):Hm (ZbQ l).1 (27*l.length):=Zkb l hl (Xi _) (Zci _)
theorem Zpp(l base:LB)(b:Bool):Hm (Zcp l base b).1 4320:=by
 unfold Zcp
 split
 ·exact Zci _
 ·next h0=>
  split
  ·exact Zci _
  ·refine Zkb l (by omega) (by omega) ?_
   unfold Zc8
   split
   ·exact Zci _
   ·next h1=>
    have hb:base.length≤160:=by
     cases b
     ·exact absurd rfl h1
     ·rcases Nat.lt_or_ge 160 base.length with g|g
      ·exact absurd (Or.inr ⟨rfl,g⟩) h0
      ·exact g
    split
    ·exact Zci _
    ·have h2:=Zti base (by omega)
     exact⟨h2.host,Xc h2.q (by omega)⟩
end Go.Proofs.YtchkhibgbnhjpaaGreatDoor
