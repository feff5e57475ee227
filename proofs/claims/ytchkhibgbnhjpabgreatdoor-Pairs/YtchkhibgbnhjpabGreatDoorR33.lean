import Derived.Test.YtchkhibgbnhjpabGreatDoorR32
open Bool renaming and_eq_true→Xf,false_eq_true→Xk
open List renaming mem_of_mem_drop→Xa,length_reverse→Xd,sum_cons→Xe,map_cons→Xh,dropWhile_suffix→Xi,mem_cons_of_mem→Xj,mem_cons_self→Xl,filter_cons→Xn,length_cons→Xo,length_nil→Xp
open Nat renaming le_trans→Xb,zero_le→Xc,le_refl→Xg,le_of_not_lt→Xq
namespace Go.Proofs.YtchkhibgbnhjpabGreatDoor
open Go.RowKit
def toR(u:U):RU:=⟨u.sch,u.nam,u.pw,u.hh,u.host,if u.hp=true then(u.port:Int)else -1,u.segs,u.op,u.opath,u.hq,u.q,u.hf,u.fr⟩
def Bl(base:U)(ob:Option RU):Prop:=(ob=none∧base=zeroU)∨(ob=some (toR base)∧St' base)
theorem Bl.near{base:U}{ob:Option RU}(h:Bl base ob):(base.sch≠Zt∧ZmB ob=none)∨(base.sch=Zt∧ZmB ob=some (toR base)∧base.hh=true):=by
 rcases h with⟨rfl,rfl⟩|⟨rfl,hs⟩
 ·exact Or.inl ⟨by decide,rfl⟩
 ·by_cases hf:base.sch=Zt
  ·exact Or.inr ⟨hf,if_pos hf,hs.sp (by rw[hf];decide)⟩
  ·exact Or.inl ⟨hf,if_neg hf⟩
theorem Zki{b:Bool}{Q S:LB}{u:U}{m:RU}(h:Rl b Q S u m)(hqb:u.hq=b)(base:U)(l:LI)(hl:∀c∈l,Sc c)(h0:l=[]):Rl b Q S (Zab u (Zb l) base) (Zwl m (toR base)):=by
 subst h0;unfold Zab Zwl;rw[if_pos (show Zb []=[]from rfl)]
 refine { h with path:=rfl,hq:=by show(m.hq||base.hq)=(u.hq||base.hq);rw[h.hq],q:=?_ }
 show(if b=true then Q else if m.hq=true then m.q else base.q)=if u.hq=true then u.q else base.q
 rw[h.hq,hqb];have:=h.q
 cases b
 ·simp
 ·simpa using this
theorem ZpZ{b:Bool}{Q S:LB}{u:U}{m:RU}(h:Rl b Q S u m)(hqb:u.hq=b)(hf:u.sch=Zt)(hz:u.host=[]){base:U}{ob:Option RU}(hB:Bl base ob)(l:LI)(hl:∀c∈l,Sc c):Zwx b Q S (ZdD u (Zb l) base) (Zgq m l (ZmB ob)):=by
 have hpt:∀c∈l,Pt c:=fun c hc=>(hl c hc).pt
 unfold ZdD Zgq
 have hsp:Zc ZO=true:=by decide
 have s0:=ZpS ZO l hpt;have s01:=ZmD ZO l hpt;rw[hsp]at s0 s01;have hdr:=ZcV true l;have hcnt:=Zat true l hpt
 by_cases h2:1<countSl true (Zb l)
 ·rw[if_pos h2,if_pos (by rw[s01];exact decide_eq_true h2),hdr 2 (by omega)]
  exact ZmG (u:={ u with hh:=true }) (m:={ m with his:=true,htx:=[] }) { h with his:=rfl,htx:=hz.symm } rfl (l.drop 2) (fun c hc=>hl c (Xa hc))
 ·have h2':¬(ZB l 0 ZO&&ZB l 1 ZO)=true:=by rw[s01];simpa using h2
  rw[if_neg h2,if_neg h2'];rcases hB.near with⟨hn,hr⟩|⟨hn,hr,hbh⟩
  ·rw[if_pos hn,hr]
   simp only
   by_cases h1:ZB l 0 ZO=true
   ·have h1':countSl true (Zb l)=1:=by rw[s0]at h1;have:=of_decide_eq_true h1;omega
    rw[if_pos h1,h1',hdr 1 (by omega)]
    exact⟨rfl,fun _=>{ h with his:=rfl,htx:=hz.symm,path:=by show walked m.sch [] _=_;rw[h.sch];exact Zbr u.sch _ (fun c hc=>hl c (Xa hc)) }⟩
   ·have h1':countSl true (Zb l)=0:=by rw[s0,decide_eq_true_iff]at h1;omega
    rw[if_neg h1,h1',List.drop_zero]
    exact⟨rfl,fun _=>{ h with his:=rfl,htx:=hz.symm,path:=by show walked m.sch [] _=_;rw[h.sch];exact Zbr u.sch _ hl }⟩
  ·rw[if_neg (fun g=>g hn),hr]
   simp only
   by_cases h1:ZB l 0 ZO=true
   ·have h1':countSl true (Zb l)=1:=by rw[s0]at h1;have:=of_decide_eq_true h1;omega
    rw[if_pos h1,if_pos h1',hdr 1 (by omega)]
    have hld:∀c∈l.drop 1,Sc c:=fun c hc=>hl c (Xa hc)
    refine⟨rfl,fun _=>{ h with his:=hbh,htx:=rfl,path:=?_ }⟩
    show walked m.sch (if driven (l.drop 1)=false∧base.segs≠[]∧drive (base.segs.headD [])=true then [base.segs.headD []]else []) (l.drop 1)=ZaE base.segs (Zb (l.drop 1))
    unfold ZaE
    have hda:=ZiU (l.drop 1) (fun c hc=>(hld c hc).pt)
    have hhd:base.segs.headD []=base.segs.getD 0 []:=by cases base.segs<;>rfl
    rw[h.sch,hf,ZpR,hhd]
    by_cases hc:driven (l.drop 1)=false∧base.segs≠[]∧Zap (base.segs.getD 0 [])=true
    ·have hc':¬(base.segs=[]∨Zap (base.segs.getD 0 [])=false∨Zag (Zb (l.drop 1))=true):=by
      rintro(g|g|g)
      ·exact hc.2.1 g
      ·rw[hc.2.2]at g;cases g
      ·rw[hda,hc.1]at g;cases g
     rw[if_pos hc,if_neg hc',ZeW Zt _ _ hld]
     have:[base.segs.getD 0 []]=base.segs.take 1:=by
      cases hs:base.segs with
      | nil=>exact absurd hs hc.2.1
      | cons a r=>rfl
     rw[this]
     rfl
    ·have hc':base.segs=[]∨Zap (base.segs.getD 0 [])=false∨Zag (Zb (l.drop 1))=true:=by
      refine Classical.byContradiction fun g=>hc ⟨?_,?_,?_⟩
      ·cases hx:driven (l.drop 1)with
       | false=>rfl
       | true=>exact absurd (Or.inr (Or.inr (by rw[hda,hx]))) g
      ·exact fun e=>g (Or.inl e)
      ·cases hx:Zap (base.segs.getD 0 [])with
       | true=>rfl
       | false=>exact absurd (Or.inr (Or.inl hx)) g
     rw[if_neg hc,if_pos hc',ZeW Zt _ _ hld]
     rfl
   ·have h1':countSl true (Zb l)=0:=by rw[s0,decide_eq_true_iff]at h1;omega
    have hda:=ZiU l hpt
    rw[if_neg h1,if_neg (by omega)]
    by_cases h0:l=[]
    ·rw[if_pos h0]
     have hd0:¬Zag (Zb l)=true:=by rw[h0];decide
     rw[if_neg hd0]
     exact⟨rfl,fun _=>Zki (u:={ u with hh:=true,host:=base.host }) (m:={ m with his:=base.hh,htx:=base.host }) { h with his:=hbh,htx:=rfl } hqb base l hl h0⟩
    ·rw[if_neg h0]
     have h0':¬Zb l=[]:=fun g=>h0 ((Zr hpt).1 g)
     by_cases hd:driven l=true
     ·rw[if_pos hd,if_pos (by rw[hda];exact hd)]
      exact⟨rfl,fun _=>{ h with his:=hbh,htx:=rfl,path:=by show walked m.sch [] _=_;rw[h.sch];exact Zbr u.sch _ hl }⟩
     ·rw[if_neg hd,if_neg (by rw[hda];exact hd)]
      unfold Zab;rw[if_neg h0']
      refine⟨rfl,fun _=>{ h with his:=hbh,htx:=rfl,path:=?_ }⟩
      show walked m.sch (Zcn m.sch base.segs) l=ZcG base.segs (Zb l) u.sch
      rw[h.sch,ZeW u.sch _ l hl,ZgW]
      rfl
theorem ZmM(sp:Bool)(l:LB):∀k,k≤countSl sp l→countSl sp (l.drop k)=countSl sp l-k:=by
 induction l with
 | nil=>intro k h;rw[List.drop_nil];rw[countSl];omega
 | cons c r ih=>
  intro k h
  cases k with
  | zero=>rfl
  | succ k=>
   rw[countSl]at h ⊢
   by_cases hc:slB sp c=true
   ·rw[if_pos hc]at h ⊢
    rw[List.drop_succ_cons,ih k (by omega)]
    omega
   ·rw[if_neg hc]at h;omega
theorem ZwL(sch:LB)(l:LI)(hl:∀c∈l,Pt c)(h:1<countSl (Zc sch) (Zb l)):(Zb l).drop (if Zc sch=true then countSl (Zc sch) (Zb l)else 2)=Zb (ZcP sch (l.drop 2)):=by
 rw[Zlg sch (l.drop 2) (fun c hc=>hl c (Xa hc))]
 have hcnt:=Zat (Zc sch) l hl
 have hd:=ZcV (Zc sch) l 2 (by omega)
 by_cases hs:Zc sch=true
 ·rw[if_pos hs,if_pos hs,←hd]
  rw[hs]at h ⊢
  rw[ZmM true _ 2 (by omega),List.drop_drop]
  congr 1
  omega
 ·rw[if_neg hs,if_neg hs,hd]
theorem ZmN{b:Bool}{Q S:LB}{u:U}{m:RU}(h:Rl b Q S u m)(hqb:u.hq=b)(hf:u.sch≠Zt)(hn:u.nam=[])(hw:u.pw=[])(base:U)(l:LI)(hl:∀c∈l,Sc c):Zwx b Q S (ZW u (Zb l) base) (Zgr m l (toR base)):=by
 have hpt:∀c∈l,Pt c:=fun c hc=>(hl c hc).pt
 unfold ZW Zgr;rw[if_neg hf,h.sch,ZmD u.sch l hpt,ZpS u.sch l hpt];have hcnt:=Zat (Zc u.sch) l hpt
 by_cases h2:1<countSl (Zc u.sch) (Zb l)
 ·rw[if_pos h2,if_pos (decide_eq_true h2)]
  exact Zlk h hn hw (l.drop 2) (fun c hc=>hl c (Xa hc)) _ (ZwL u.sch l hpt h2)
 ·have h2':¬decide (1<countSl (Zc u.sch) (Zb l))=true:=by rw[decide_eq_true_iff];exact h2
  rw[if_neg h2,if_neg h2']
  have hk:Rl b Q S (kept u base) (Zwo m (toR base)):={ h with user:=rfl,pass:=rfl,his:=rfl,htx:=rfl,port:=rfl }
  by_cases h1:countSl (Zc u.sch) (Zb l)=1
  ·rw[if_pos h1,if_pos (decide_eq_true (by omega)),ZcV (Zc u.sch) l 1 (by omega)]
   exact⟨rfl,fun _=>{ hk with path:=Zbr u.sch _ (fun c hc=>hl c (Xa hc)) }⟩
  ·have h1':¬decide (1≤countSl (Zc u.sch) (Zb l))=true:=by rw[decide_eq_true_iff];omega
   rw[if_neg h1,if_neg h1']
   by_cases h0:l=[]
   ·rw[if_pos h0]
    exact⟨rfl,fun _=>Zki hk hqb base l hl h0⟩
   ·rw[if_neg h0]
    have h0':¬Zb l=[]:=fun g=>h0 ((Zr hpt).1 g)
    unfold Zab;rw[if_neg h0']
    refine⟨rfl,fun _=>{ hk with path:=?_ }⟩
    show walked u.sch (Zcn u.sch base.segs) l=ZcG base.segs (Zb l) u.sch
    rw[ZeW u.sch _ l hl,ZgW]
    rfl
theorem ZyB{b:Bool}{Q S:LB}{u:U}{m:RU}(h:Rl b Q S u m)(hqb:u.hq=b)(hn:u.nam=[])(hw:u.pw=[])(hz:u.host=[])(hs0:u.sch≠[]){base:U}{ob:Option RU}(hB:Bl base ob)(l:LI)(hl:∀c∈l,Sc c):Zwx b Q S (ZX u (Zb l) base) (ZaI m l ob):=by
 have hpt:∀c∈l,Pt c:=fun c hc=>(hl c hc).pt
 unfold ZX ZaI;rw[h.sch,special_eq]
 by_cases hf:u.sch=Zt
 ·have hf':u.sch=ZO:=hf
  rw[if_pos hf,if_pos hf'];exact ZpZ h hqb hf hz hB l hl
 ·have hf':¬u.sch=ZO:=hf
  rw[if_neg hf,if_neg hf'];have htwo:=Zyu l hpt;have hone:=Zyv l hpt;have hcnt:=Zat false l hpt
  by_cases hs:Zc u.sch=true
  ·rw[if_pos hs,if_pos hs]
   unfold ZaX
   by_cases hc:base.sch=u.sch∧countSl false (Zb l)<2
   ·rw[if_pos hc]
    have e:(if ZiS l=true then none else Zwq m ob)=some (toR base):=by
     rw[if_neg (by rw[htwo,decide_eq_true_iff];omega)]
     rcases hB with⟨rfl,rfl⟩|⟨rfl,-⟩
     ·exact absurd hc.1.symm hs0
     ·show(if(toR base).sch=m.sch then some (toR base)else none)=_
      rw[if_pos (by rw[h.sch];exact hc.1)]
    rw[e];exact ZmN h hqb hf hn hw base l hl
   ·rw[if_neg hc]
    have e:(if ZiS l=true then none else Zwq m ob)=none:=by
     by_cases ht:ZiS l=true
     ·rw[if_pos ht]
     ·rw[if_neg ht]
      rcases hB with⟨rfl,rfl⟩|⟨rfl,-⟩
      ·rfl
      ·show(if(toR base).sch=m.sch then some (toR base)else none)=_
       rw[if_neg];intro g;rw[h.sch]at g;rw[htwo,decide_eq_true_iff]at ht
       exact hc ⟨g,by omega⟩
    rw[e]
    refine Zlk h hn hw l hl _ ?_
    rw[Zlg u.sch l hpt,if_pos hs]
  ·rw[if_neg hs,if_neg hs]
   by_cases h0:countSl false (Zb l)=0
   ·rw[if_pos h0,if_neg (by rw[htwo,decide_eq_true_iff];omega),if_neg (by rw[hone,decide_eq_true_iff];omega)]
    exact⟨rfl,fun _=>{ h with sch:=rfl,op:=rfl,bl:=(ZaV _ l hl).symm }⟩
   ·rw[if_neg h0]
    by_cases h1:countSl false (Zb l)=1
    ·rw[if_pos h1,if_neg (by rw[htwo,decide_eq_true_iff];omega),if_pos (by rw[hone];exact decide_eq_true (by omega)),ZcV false l 1 (by omega)]
     exact⟨rfl,fun _=>{ h with sch:=rfl,path:=Zbr u.sch _ (fun c hc=>hl c (Xa hc)) }⟩
    ·rw[if_neg h1,if_pos (by rw[htwo];exact decide_eq_true (by omega))]
     refine Zlk h hn hw (l.drop 2) (fun c hc=>hl c (Xa hc)) _ ?_
     rw[Zlg u.sch _ (fun c hc=>hpt c (Xa hc)),if_neg hs,ZcV false l 2 (by omega)]
theorem Zt4(sch:LB)(l:LI)(hl:∀c∈l,Sc c):encB (tl (ZaD (Zbb sch))) (clean (Zb l))=encoded l (tl (Zvd (Zg sch))):=by
 rw[ZaV _ l hl,special_eq];unfold Zbb Zvd
 cases Zc sch
 ·exact Zby (ZdU (by decide) (by decide)) l
 ·exact Zby (ZdU (by decide) (by decide)) l
theorem Zp0(l:LI)(hl:∀c∈l,Sc c):encB (tl (ZaD 1)) (clean (Zb l))=encoded l Zlf:=by
 rw[ZaV _ l hl]
 exact Zby (ZdU (by decide) (by decide)) l
theorem Zp1(l:LI)(t:LB)(h:(cut l t).2.2=false):(cut l t).2.1=[]:=by
 induction l with
 | nil=>rfl
 | cons c r ih=>
  rw[cut]at h ⊢
  split
  ·next hc=>rw[if_pos hc]at h;cases h
  ·next hc=>rw[if_neg hc]at h;exact ih h
theorem Zp2(sch:LB)(rest:LI):Rl (cut rest [63]).2.2 (encB (tl (ZaD (Zbb sch))) (clean (Zb (cut rest [63]).2.1))) sch (Zcw sch (cut rest [63]).2.2 (Zb (cut rest [63]).2.1)) (Zkb sch rest):=by
 refine⟨rfl,rfl,rfl,rfl,rfl,rfl,rfl,rfl,rfl,rfl,rfl,?_,rfl,rfl,rfl⟩
 show(if(cut rest [63]).2.2=true then _ else([]:LB))=encB _ (clean _)
 cases hq:(cut rest [63]).2.2
 ·rw[if_neg (by decide),Zp1 rest _ hq,bytesOf_nil,ZaZ]
 ·rw[if_pos rfl]
def Zzu(x:U×Int)(y:RU×Int):Prop:=x.2=y.2∧(x.2=0→y.1=toR x.1)
theorem Zlo{b:Bool}{S:LB}{x:U×Int}{y:RU×Int}{query:LI}(hq:∀c∈query,Sc c)(h:Zwx b (encB (tl (ZaD (Zbb S))) (clean (Zb query))) S x y)(hf:Bool)(frag:LI)(hfr:∀c∈frag,Sc c)(hfn:hf=false→frag=[]):Zzu (ZgK x hf (Zb frag)) (Zwt (queried y b query) hf frag):=by
 have hc:(queried y b query).2=y.2:=by unfold queried;split<;>rfl
 unfold ZgK Zwt;rw[hc,←h.1]
 by_cases h0:x.2≠0
 ·rw[if_pos h0,if_pos h0]
  exact⟨rfl,fun g=>absurd g h0⟩
 ·rw[if_neg h0,if_neg h0]
  have hr:=h.2 (Classical.not_not.1 h0)
  refine⟨rfl,fun _=>?_⟩
  have hfrag:(if hf=true then encoded frag Zlf else(queried y b query).1.fr)=encB (tl (ZaD 1)) (clean (Zb frag)):=by
   cases hf
   ·rw[if_neg (by decide),hfn rfl,bytesOf_nil,ZaZ]
    have:(queried y b query).1.fr=y.1.fr:=by unfold queried;split<;>rfl
    rw[this,hr.fr]
   ·rw[if_pos rfl,Zp0 frag hfr]
  rw[hfrag]
  have hsq:encoded query (tl (Zvd (Zg y.1.sch)))=encB (tl (ZaD (Zbb S))) (clean (Zb query)):=by rw[hr.sch,hr.own,Zt4 S query hq]
  obtain⟨x1,x2⟩:=x;obtain⟨y1,y2⟩:=y;obtain⟨a1,a2,a3,a4,a5,a6,a7,a8,a9,a10,a11,a12,a13⟩:=y1;obtain⟨r1,r2,r3,r4,r5,r6,r7,r8,r9,r10,r11,r12,r13,r14,r15⟩:=hr;unfold queried toR;simp only at *
  cases b
  ·rw[if_neg (by decide)]at r12 ⊢
   simp only;rw[r1,r3,r4,r5,r6,r7,r8,r9,r10,r11,r12]
  ·rw[if_pos rfl]at r12 ⊢
   simp only;rw[hsq,r12,r1,r3,r4,r5,r6,r7,r8,r9,r10,r11]
theorem Zt5{l:LI}(hl:∀c∈l,Pt c)(h:(schemeOf l).2.2=true):(schemeOf l).1≠[]:=by
 unfold schemeOf at h ⊢
 split at h
 ·next hc=>
  rw[if_pos hc];rw[Xf]at hc;intro e
  have h1:=(Zr (l:=(cut l [58]).1) (fun c hm=>hl c (ZR (Or.inl hm)))).1 (Zfk.1 e)
  rw[h1]at hc
  exact absurd hc.2 (by decide)
 ·cases h
theorem ZyC{l:LI}(h:(schemeOf l).2.2=false):(schemeOf l).2.1=l:=by
 unfold schemeOf at h ⊢
 split
 ·next hc=>rw[if_pos hc]at h;cases h
 ·rfl
theorem Zhz(t:LB){base:U}{ob:Option RU}(hB:Bl base ob):Zzu (Zac t base) (Zaj t ob):=by
 unfold Zac Zaj;rw[ZnR,show ZdF t=Zl9 t from rfl];have hsc:=ZsV t;generalize Zl9 t=L at *
 have hpt:∀c∈L,Pt c:=fun c hc=>(hsc c hc).pt
 rw[Zao ZsW L hpt]
 have ha:∀c∈(cut L [35]).1,Sc c:=fun c hc=>hsc c (ZR (Or.inl hc))
 have hfr:∀c∈(cut L [35]).2.1,Sc c:=fun c hc=>hsc c (ZR (Or.inr hc))
 have hfn:(cut L [35]).2.2=false→(cut L [35]).2.1=[]:=Zp1 L _;generalize cut L [35]=cc at *;obtain⟨a,frag,hf⟩:=cc;simp only at *
 have hap:∀c∈a,Pt c:=fun c hc=>(ha c hc).pt
 unfold ZbH Zkc;rw[Zmb a hap];simp only
 have hrest:∀c∈(schemeOf a).2.1,Sc c:=fun c hc=>ha c (ZeV hc)
 have hcq:=Zao ZqR (schemeOf a).2.1 (fun c hc=>(hrest c hc).pt)
 have hq1:∀c∈(cut (schemeOf a).2.1 [63]).1,Sc c:=fun c hc=>hrest c (ZR (Or.inl hc))
 have hq2:∀c∈(cut (schemeOf a).2.1 [63]).2.1,Sc c:=fun c hc=>hrest c (ZR (Or.inr hc))
 by_cases hok:(schemeOf a).2.2=true
 ·rw[if_pos hok,if_pos hok]
  have hne:=Zt5 hap hok;unfold ZcL Zwu;rw[if_neg hne,if_pos rfl,hcq];simp only;exact Zlo hq2 (ZyB (Zp2 (schemeOf a).1 (schemeOf a).2.1) rfl rfl rfl rfl hne hB _ hq1) hf frag hfr hfn
 ·rw[if_neg hok,if_neg hok]
  have hoff:=ZyC (l:=a) (by simpa using hok)
  rcases hB with⟨rfl,rfl⟩|⟨rfl,hst⟩
  ·rw[if_neg (show ¬zeroU.op=true by decide)]
   unfold ZcL ZgK;rw[if_pos (show zeroU.sch=[]from rfl)]
   exact⟨rfl,fun g=>by cases g⟩
  ·simp only
   by_cases ho:base.op=true
   ·rw[if_pos ho,if_pos (show(toR base).op=true from ho)]
    unfold ZcH;rw[hoff];have hE:=Zr hap
    by_cases hc:a=[]∧hf=true
    ·have hc1:Zb a=[]∧hf=true:=⟨hE.2 hc.1,hc.2⟩
     have hc2:¬(a≠[]∨hf=false):=by
      rintro(g|g)
      ·exact g hc.1
      ·rw[hc.2]at g;cases g
     rw[if_pos hc1,if_neg hc2];unfold ZgK Zwt
     have n1:¬((base,(0:Int)).2≠0):=fun g=>g rfl
     rw[if_neg n1,if_neg (fun g=>g rfl)]
     refine⟨rfl,fun _=>?_⟩
     obtain⟨o1,o2,-⟩:=hst.opq ho;obtain⟨w1,w2,w3,w4⟩:=hst.wf.nh o2;have hff:=Zp0 frag hfr;rw[hc.2];unfold toR zeroR;simp only[if_true];rw[hff,w1,w2,o2,w3,w4,o1,ho]
     rfl
    ·have hc1:¬(Zb a=[]∧hf=true):=fun g=>hc ⟨hE.1 g.1,g.2⟩
     have hc2:a≠[]∨hf=false:=by
      by_cases g:a=[]
      ·right
       cases hf with
       | false=>rfl
       | true=>exact absurd ⟨g,rfl⟩ hc
      ·exact Or.inl g
     rw[if_neg hc1,if_pos hc2];unfold ZgK
     exact⟨rfl,fun g=>by cases g⟩
   ·rw[if_neg ho,if_neg (show ¬(toR base).op=true from ho)]
    have hne:base.sch≠[]:=hst.sd.sc.ne;unfold ZcL ZxC Zka
    rw[if_neg hne,if_neg (by decide),hcq]
    simp only;have hst0:=Zp2 base.sch (schemeOf a).2.1
    by_cases hff:base.sch=Zt
    ·have hg:(Zkb (toR base).sch (schemeOf a).2.1).sch=ZO:=hff
     rw[if_pos hg];unfold ZW;have hg2:(Zcw base.sch (cut (schemeOf a).2.1 [63]).2.2 (Zb (cut (schemeOf a).2.1 [63]).2.1)).sch=Zt:=hff;rw[if_pos hg2];exact Zlo hq2 (ZpZ hst0 rfl hff rfl (Or.inr ⟨rfl,hst⟩) _ hq1) hf frag hfr hfn
    ·have hg:¬(Zkb (toR base).sch (schemeOf a).2.1).sch=ZO:=hff
     rw[if_neg hg];exact Zlo hq2 (ZmN hst0 rfl hff rfl rfl base _ hq1) hf frag hfr hfn
structure Wk (u:U):Prop where
 port:u.hp=true→u.port≤65535
 opq:u.op=true→u.segs=[]∧u.hh=false
 zop:u.op=false→u.opath=[]
 nq:u.hq=false→u.q=[]
 pq:Pr u.q
 sp:Zc u.sch=true→u.hh=true
 path:(Za8 u).length≤9000
 lq:u.q.length≤90000
theorem St'.wk{u:U}(h:St' u)(h1:(Za8 u).length≤9000)(h2:u.q.length≤90000):Wk u:=
 ⟨fun g=>(h.sd.port g).1,fun g=>⟨(h.opq g).1,(h.opq g).2.1⟩,h.zop,h.wf.nq,h.sd.pq,h.sp,h1,h2⟩
theorem Zgs{u:U}(h:u.hp=true→u.port≤65535):Zdt (toR u)=ZbF u:=by
 unfold Zdt ZbF Zb4 toR;simp only
 cases hp:u.hp
 ·simp
 ·simp only[if_true]
  rw[if_pos (by omega),Int.toNat_natCast,Zfp _ (by have:=h hp;omega)]
theorem ZwM{u:U}(h:u.hp=true→u.port≤65535):Zt8 (toR u)=Zb4 u:=by
 unfold Zt8 Zb4 toR;simp only
 cases hp:u.hp
 ·simp
 ·simp only[if_true]
  rw[if_pos (by omega),Int.toNat_natCast,Zfp _ (by have:=h hp;omega)]
theorem ZhX{u:U}(h:Wk u):Zdi (toR u)=Za8 u:=by
 unfold Zdi Za8 toR;simp only
 cases ho:u.op
 ·rw[h.zop ho,if_neg (by decide)];rfl
 ·rw[(h.opq ho).1,if_pos rfl];simp[Zc6]
theorem ZwN(u:U):ZfZ (toR u)=ZqL u:=by
 unfold ZfZ ZqL toR;simp only
 split
 ·rfl
 ·split
  ·rfl
  ·simp
theorem Zt9{u:U}(h:Wk u):Zdc (toR u)=ZjR u:=by
 unfold Zdc ZjR;rw[Zgs h.port,ZwN];unfold toR;simp only
 cases hh:u.hh
 ·simp only[Xk,if_false]
  cases ho:u.op
  ·by_cases hc:1<u.segs.length∧u.segs.getD 0 []=[]
   ·rw[if_pos hc,if_pos ⟨rfl,hc.1,hc.2⟩]
   ·rw[if_neg hc,if_neg (fun g=>hc ⟨g.2.1,g.2.2⟩)]
  ·rw[(h.opq ho).1,if_neg (by simp),if_neg (by simp)]
 ·rw[if_pos rfl,if_pos rfl]
theorem ZwO{u:U}(h:Wk u):ZhN (toR u)=ZnN u:=by
 unfold ZhN ZnN Zcv;rw[Zt9 h,ZhX h]
 rfl
theorem Zua:Bl zeroU none:=Or.inl ⟨rfl,rfl⟩
theorem Zom{l:LB}(h:(Zb8 l).2=0):St (Zb8 l).1:=ZgZ l (Or.inl rfl) h
theorem Zg1(l:LB):Zzu (Zb8 l) (Zaj l none):=Zhz l Zua
theorem Zub(s:LB):Zde s=(Zc s&&s != Zt):=by
 by_cases h1:s=[104,116,116,112]
 ·subst h1;rfl
 by_cases h2:s=[104,116,116,112,115]
 ·subst h2;rfl
 by_cases h3:s=[119,115]
 ·subst h3;rfl
 by_cases h4:s=[119,115,115]
 ·subst h4;rfl
 by_cases h5:s=[102,116,112]
 ·subst h5;rfl
 have e1:Zde s=false:=by unfold Zde;simp[h1,h2,h3,h4,h5]
 have e2:Zc s=(s==Zt):=by
  unfold Zc ZG
  rw[if_neg (by rintro(g|g);exact h1 g;exact h3 g),if_neg (by rintro(g|g);exact h2 g;exact h4 g),if_neg h5]
  rfl
 rw[e1,e2,bne]
 cases s==Zt<;>rfl
theorem Zrm{u:U}(h:Wk u):Zbs (toR u)=Zcj u:=by
 unfold Zbs Zcj;rw[ZhX h,Zub];have e:(toR u).sch=u.sch:=rfl;rw[e,special_eq]
 by_cases hp:Zc u.sch=true∧u.sch≠ZO
 ·have hp2:(Zc u.sch&&u.sch != Zt)=true:=by rw[Xf,bne_iff_ne];exact hp
  rw[if_pos hp,if_pos hp2];unfold Zf0 Zaa;rw[Zgs h.port]
  rfl
 ·have hp2:¬(Zc u.sch&&u.sch != Zt)=true:=by rw[Xf,bne_iff_ne];exact hp
  rw[if_neg hp,if_neg hp2]
  by_cases hb:u.sch=Zrj
  ·have hb':u.sch=[98,108,111,98]:=hb
   rw[if_pos hb,if_pos hb'];unfold ZiX Zdd;obtain⟨s1,s2⟩:=Zg1 (Za8 u)
   by_cases h0:(Zb8 (Za8 u)).2=0
   ·have s3:=s2 h0
    rw[←s1,s3]
    have n0:¬((Zb8 (Za8 u)).2≠0):=fun g=>g h0
    rw[if_neg n0];have e2:(toR (Zb8 (Za8 u)).1).sch=(Zb8 (Za8 u)).1.sch:=rfl;rw[e2]
    by_cases hc:(Zb8 (Za8 u)).1.sch=ZyD∨(Zb8 (Za8 u)).1.sch=Zt6
    ·rw[if_pos ⟨h0,hc⟩,if_neg (by
      rintro⟨g1,g2⟩;rcases hc with hc|hc
      ·exact g1 hc
      ·exact g2 hc)]
     unfold Zf0 Zaa
     rw[Zgs (fun g=>((Zom h0).st.sd.port g).1)]
     rfl
    ·rw[if_neg (fun g=>hc g.2),if_pos ⟨fun g=>hc (Or.inl g),fun g=>hc (Or.inr g)⟩]
     rfl
   ·rw[if_pos h0,if_neg (fun g=>h0 (s1.trans g.1))]
    rfl
  ·have hb':¬u.sch=[98,108,111,98]:=hb
   rw[if_neg hb,if_neg hb']
   rfl
theorem ZwP:∀n:Fin 128,plusB (toB (n.val:Int))=toB (ZcR (n.val:Int)):=by decide
theorem Zrn(l:LI)(hl:∀c∈l,Pt c):Zfy (Zb l)=Zb (l.map ZcR):=by
 induction l with
 | nil=>rfl
 | cons c r ih=>
  have ih':=ih (fun x hx=>hl x (Xj _ hx))
  unfold Zfy at ih' ⊢;rw[bytesOf_cons,List.map_append,ih',Xh,bytesOf_cons]
  congr 1
  rcases Zad (hl c (Xl ..))with⟨a,b,e⟩|⟨a,b,e⟩
  ·have hp:0≤ZcR c∧ZcR c<128:=by unfold ZcR;split<;>omega
   rw[e,Zpg hp.2]
   have:=ZwP ⟨c.toNat,by omega⟩
   have hc:((⟨c.toNat,by omega⟩:Fin 128).val:Int)=c:=by simp;omega
   rw[hc]at this
   show [plusB (toB c)]=[toB (ZcR c)]
   rw[this]
  ·have hp:ZcR c=c:=by unfold ZcR;rw[if_neg (by omega)]
   rw[hp]
   have hid:∀b∈(utf c).map toB,plusB b=b:=fun b hb=>by
    have:=e b hb;unfold plusB
    rw[if_neg (by omega)]
   rw[List.map_congr_left hid,List.map_id']
theorem Zkk(l:LI)(hl:∀c∈l,Pt c):ZiY l=Zcq (Zb l):=by unfold ZiY Zcq;rw[ZaK,bdecode_decoded,Zrn l hl]
theorem Zuc(l:LI)(hl:∀c∈l,Pt c):Zol l=Zb1 (Zb l):=by
 unfold Zol Zb1
 rw[Zao (Zec 61 (by decide) (by decide) 61 rfl) l hl]
 rw[Zkk _ (fun c hc=>hl c (ZR (Or.inl hc))),Zkk _ (fun c hc=>hl c (ZR (Or.inr hc)))]
theorem ZwQ:∀(ps:List LI),(∀p∈ps,∀c∈p,Pt c)→(ps.filter fun a=>!a.isEmpty).map Zol=((ps.map Zb).filter fun p=>!p.isEmpty).map Zb1:=by
 intro ps
 induction ps with
 | nil=>intro _;rfl
 | cons p r ih=>
  intro hpp;have hp:=hpp p (Xl ..)
  have ih':=ih (fun q hq=>hpp q (Xj _ hq))
  rw[Xh,Xn,Xn]
  have he:(Zb p).isEmpty=p.isEmpty:=by
   cases p with
   | nil=>rfl
   | cons c t=>
    have:Zb (c::t)≠[]:=fun e=>by have:=(Zr hp).1 e;cases this
    cases hx:Zb (c::t)with
    | nil=>exact absurd hx this
    | cons _ _=>rfl
  rw[he]
  cases p.isEmpty
  ·simp only[Bool.not_false,if_true,Xh]
   rw[ih',Zuc p hp]
  ·simp only[Bool.not_true,Xk,if_false]
   exact ih'
theorem Zro{q:LB}(hq:Pr q):ZhA q=Zs q:=by
 unfold ZhA Zs ZeE Zgy
 have hpt:∀c∈Zk q,Pt c:=fun c hc=>(Za3 q c hc).pt
 have hb:=ZaK q
 rw[Zda (fun b hb=>by have:=hq b hb;omega)]at hb
 have hs:=Za6 (n:=38) (t:=38) (by decide) (by decide) rfl (Zk q) hpt
 rw[hb]at hs;rw[hs]
 exact ZwQ _ (fun p hp c hc=>hpt c (((ZaQ (Zk q) [38]).2 p hp).2 c hc))
theorem Zud{u:U}(h:Wk u):ZiZ (toR u)=Zs u.q:=by
 unfold ZiZ;have e:(toR u).hq=u.hq:=rfl;rw[e]
 cases hq:u.hq
 ·rw[if_neg (by decide),h.nq hq];rfl
 ·rw[if_pos rfl];exact Zro h.pq
theorem Zon(base:LB)(based:Bool):(ZcQ base based).2=(Zg0 base based).2∧((ZcQ base based).2=0→Bl (ZcQ base based).1 (Zg0 base based).1):=by
 unfold ZcQ Zg0
 cases based
 ·exact⟨rfl,fun _=>Zua⟩
 ·simp only[Bool.true_eq_false,if_false]
  obtain⟨s1,s2⟩:=Zg1 base;rw[←s1]
  by_cases h2:(Zb8 base).2=2
  ·rw[if_pos h2,if_pos h2]
   exact⟨rfl,fun g=>by cases g⟩
  ·rw[if_neg h2,if_neg h2]
   by_cases h0:(Zb8 base).2=0
   ·rw[if_neg (fun g=>g h0)]
    exact⟨h0,fun _=>Or.inr ⟨by rw[s2 h0],(Zom h0).st⟩⟩
   ·have h0':(Zb8 base).2≠0:=h0
    rw[if_pos h0']
    exact⟨rfl,fun g=>absurd g h0⟩
theorem ZwR(l base:LB)(based:Bool):Zzu (Zcc l base based) (Zvg l base based):=by
 unfold Zcc Zvg
 by_cases hl:160<l.length∨(based=true∧160<base.length)
 ·rw[if_pos hl,if_pos hl]
  exact⟨rfl,fun g=>by cases g⟩
 ·rw[if_neg hl,if_neg hl]
  obtain⟨g1,g2⟩:=Zon base based;rw[←g1]
  by_cases h0:(ZcQ base based).2=0
  ·rw[if_neg (fun g=>g h0),if_neg (fun g=>g h0)]
   exact Zhz l (g2 h0)
  ·have h0':(ZcQ base based).2≠0:=h0
   rw[if_pos h0',if_pos h0']
   exact⟨rfl,fun g=>absurd g h0⟩
theorem ZcB(l:LB):clean l=Zb (Zk l):=(ZaK l).symm
theorem Zrp{u:U}(h:u.op=false→u.opath=[]):ZhB (toR u)=toR (Zbt u):=by
 unfold ZhB Zbt;have e:(toR u).op=u.op∧(toR u).hq=u.hq∧(toR u).hf=u.hf:=⟨rfl,rfl,rfl⟩;rw[e.1,e.2.1,e.2.2]
 cases hq:u.hq
 ·cases hf:u.hf
  ·rw[if_neg (show ¬(false=true∨false=true)by decide)]
   cases ho:u.op
   ·rw[if_neg (by rintro⟨g,-⟩;cases g),h ho]
    have:ZbR []=[]:=rfl;unfold toR
    simp[this,h ho,ho,hq,hf]
   ·rw[if_pos ⟨rfl,rfl,rfl⟩]
    rfl
  ·rw[if_neg (by rintro⟨-,-,g⟩;cases g),if_pos (Or.inr rfl)]
 ·rw[if_neg (by rintro⟨-,g,-⟩;cases g),if_pos (Or.inl rfl)]
def pl(ps:List (List UInt8)):Nat:=(Zc6 ps).length
theorem Zue(a b:List LB):pl (a++b)=pl a+pl b:=by simp[pl,Zc6]
theorem ZxG(s:LB):pl [s]=1+s.length:=by simp[pl,Zc6];omega
theorem Zuf(ps:List LB)(n:Nat):pl (ps.take n)≤pl ps:=by
 conv=>rhs;rw[←List.take_append_drop n ps]
 rw[Zue];omega
theorem Zp3(f:Bool)(ps:List LB):pl (ZaA f ps)≤pl ps:=by
 unfold ZaA
 split
 ·exact Xg _
 ·exact Zuf _ _
theorem Zzv(set l:LB):(encB set (clean l)).length≤9*l.length:=by
 have h1:=ZkJ set (clean l);have h2:=ZdM l
 omega
theorem ZyG(f:Bool)(ps:List LB)(s:LB):pl (joinL f ps s)≤pl ps+(2+9*s.length):=by
 unfold joinL;rw[Zue,ZxG]
 split
 ·rw[List.length_append,List.length_take];simp;omega
 ·have:=Zzv (tl (ZaD 4)) s;omega
theorem Zzm(f:Bool)(ps:List LB)(s:LB)(last:Bool):pl (ZdC f ps s last)≤pl ps+(2+9*s.length):=by
 have h2:pl (if countDots s=2 then ZaA f ps else ps)≤pl ps:=by
  split
  ·exact Zp3 _ _
  ·exact Xg _
 unfold ZdC
 split
 ·exact ZyG _ _ _
 split
 ·rw[Zue,ZxG];simp only[Xp];omega
 ·omega
def cost(ss:List (List UInt8)):Nat:=(ss.map fun s=>2+9*s.length).sum
theorem ZyH(f:Bool)(ss:List LB):∀ps,pl (Zcb f ps ss)≤pl ps+cost ss:=by
 induction ss with
 | nil=>intro ps;exact Nat.le_add_right _ _
 | cons x r ih=>
  intro ps
  cases r with
  | nil=>have:=Zzm f ps x true;simp only[Zcb,cost,List.map,Xe,List.sum_nil];omega
  | cons y q=>
   have h1:=ih (ZdC f ps x false);have h2:=Zzm f ps x false;rw[Zcb];simp only[cost,List.map,Xe]at h1 ⊢
   omega
theorem Zrq(p:UInt8→Bool)(l:LB):cost (ZbQ p l)≤9*l.length+2:=by
 induction l with
 | nil=>rw[ZbQ];simp[cost]
 | cons c r ih=>
  rw[ZbQ]
  split
  ·simp only[cost,List.map,Xe,Xp,Xo]at ih ⊢
   omega
  ·obtain⟨x,q,hx⟩:=ZeG p r
   rw[hx]at ih ⊢;simp only[cost,List.map,Xe,Xo]at ih ⊢
   omega
theorem Zi1(f sp:Bool)(ps:List LB)(t:LB):pl (ZaW f sp ps t)≤pl ps+9*t.length+2:=by
 have h1:=ZyH f (ZbQ (slB sp) t) ps;have h2:=Zrq (slB sp) t;unfold ZaW
 omega
theorem ZeZ(t sch:LB):pl (ZbU t sch)≤9*t.length+2:=by
 have h:=Zi1 (sch==Zt) (Zc sch) [] t;have h0:pl []=0:=rfl;unfold ZbU
 omega
theorem Zug(b:List LB)(t sch:LB):pl (ZcG b t sch)≤pl b+9*t.length+2:=by
 have h:=Zi1 (sch==Zt) (Zc sch) (ZaA (sch==Zt) b) t;have h0:=Zp3 (sch==Zt) b;unfold ZcG
 omega
theorem ZwS(b:List LB)(t:LB):pl (ZaE b t)≤pl b+9*t.length+2:=by
 unfold ZaE
 split
 ·have:=ZeZ t Zt;omega
 ·have:=Zi1 true true (b.take 1) t
  have:=Zuf b 1
  omega
structure Pm (u:U) (a:Nat):Prop where
 o:u.opath.length≤a
 s:pl u.segs≤a
theorem Pm.path{u:U}{a:Nat}(h:Pm u a):(Za8 u).length≤a:=by
 unfold Za8
 split
 ·exact h.o
 ·exact h.s
theorem Pm.le{u:U}{a b:Nat}(h:Pm u a)(hab:a≤b):Pm u b:=⟨Xb h.o hab,Xb h.s hab⟩
theorem Zck(a:Nat):Pm zeroU a:=⟨Xc _,Xc _⟩
theorem Zp4(sch q:LB)(b:Bool):Pm (Zcw sch b q) 0:=⟨Xc _,Xc _⟩
theorem ZmP{u base:U}{B:Nat}(l:LB)(h:Pm u 0)(hb:Pm base B):Pm (Zab u l base) (B+9*l.length+2):=by
 have h1:=h.o;have h2:=hb.s;unfold Zab
 split
 ·exact⟨by show u.opath.length≤_;omega,by show pl base.segs≤_;omega⟩
 ·exact⟨by show u.opath.length≤_;omega,by show pl (ZcG base.segs l u.sch)≤_;have:=Zug base.segs l u.sch;omega⟩
theorem Zuh{u:U}{a:Nat}(h:Pm u 0)(s:List LB)(hs:pl s≤a):Pm { u with segs:=s } a:=⟨Xb h.o (Xc _),hs⟩
theorem ZcJ(l:LB)(n:Nat):(l.drop n).length≤l.length:=by rw[List.length_drop];omega
theorem Zop{u:U}(t:LB)(h:Pm u 0):Pm (Z7 u t).1 (9*t.length+2):=by
 have hc:=(Zak (slB true) t).1;unfold Z7
 split
 ·exact Zuh h _ (ZeZ _ _)
 split
 ·exact Zck _
 ·exact⟨Xb h.o (Xc _),by show pl (ZbU _ _)≤_;have:=ZeZ (bcut (slB true) t).2.1 u.sch;omega⟩
theorem Zui{u base:U}{B:Nat}(l:LB)(h:Pm u 0)(hb:Pm base B):Pm (ZdD u l base).1 (B+9*l.length+2):=by
 have h0:=h.o;have hs:=hb.s;unfold ZdD
 split
 ·have:=ZcJ l 2
  exact(Zop (u:={ u with hh:=true }) (l.drop 2) ⟨h.o,h.s⟩).le (by omega)
 split
 ·exact⟨by show u.opath.length≤_;omega,by show pl (ZbU _ _)≤_;have:=ZeZ (l.drop (countSl true l)) u.sch;have:=ZcJ l (countSl true l);omega⟩
 split
 ·exact⟨by show u.opath.length≤_;omega,by show pl (ZaE _ _)≤_;have:=ZwS base.segs (l.drop 1);have:=ZcJ l 1;omega⟩
 split
 ·exact⟨by show u.opath.length≤_;omega,by show pl (ZbU _ _)≤_;have:=ZeZ l u.sch;omega⟩
 ·exact ZmP (u:={ u with hh:=true,host:=base.host }) l ⟨h.o,h.s⟩ hb
theorem ZyI{u:U}(p:LB)(h:Pm u 0):Pm (Zgh u p).1 0:=by
 unfold Zgh
 split
 ·exact Zck _
 show Pm (Zbn u _) 0
 unfold Zbn
 split
 ·exact⟨h.o,h.s⟩
 ·exact⟨h.o,h.s⟩
theorem ZwT{u:U}(p:LB)(h:Pm u 0):Pm (Z2 u p).1 0:=by
 unfold Z2
 split
 ·exact Zck _
 split
 ·exact Zck _
 split
 ·exact⟨h.o,h.s⟩
 ·exact ZyI _ ⟨h.o,h.s⟩
theorem Ze0{u:U}(t:LB)(h:Pm u 0):Pm (Zx u t).1 (9*t.length+2):=by
 have hc:=(Zak (slB (Zc u.sch)) t).1;unfold Zx
 split
 ·exact Zck _
 ·unfold Zc8
  split
  ·exact Zck _
  have hp:=ZwT (u:={ u with nam:=Zf2 (bcut (isB 58) (bcutLast 64 (bcut (slB (Zc u.sch)) t).1).1).1,pw:=Zf2 (bcut (isB 58) (bcutLast 64 (bcut (slB (Zc u.sch)) t).1).1).2.1 }) (bcutLast 64 (bcut (slB (Zc u.sch)) t).1).2.1 ⟨h.o,h.s⟩
  split
  ·exact Zuh hp _ (by have:=ZeZ (bcut (slB (Zc u.sch)) t).2.1 u.sch;omega)
  ·exact hp.le (Xc _)
theorem Zkm{u base:U}{B:Nat}(l:LB)(h:Pm u 0)(hb:Pm base B):Pm (ZW u l base).1 (B+9*l.length+2):=by
 have h0:=h.o;unfold ZW
 split
 ·exact Zui l h hb
 split
 ·exact(Ze0 _ h).le (by have:=ZcJ l (if Zc u.sch=true then countSl (Zc u.sch) l else 2);omega)
 split
 ·exact⟨by show u.opath.length≤_;omega,by show pl (ZbU _ _)≤_;have:=ZeZ (l.drop 1) u.sch;have:=ZcJ l 1;omega⟩
 ·exact ZmP (u:=kept u base) l ⟨h.o,h.s⟩ hb
theorem Zrr{u base:U}{B:Nat}(l:LB)(h:Pm u 0)(hb:Pm base B):Pm (ZaX u l base).1 (B+9*l.length+2):=by
 unfold ZaX
 split
 ·exact Zkm l h hb
 ·exact(Ze0 _ h).le (by have:=ZcJ l (countSl true l);omega)
theorem Zrs{u base:U}{B:Nat}(l:LB)(h:Pm u 0)(hb:Pm base B):Pm (ZX u l base).1 (B+9*l.length+2):=by
 have h0:=h.o;have h1:=h.s;unfold ZX
 split
 ·exact Zui l h hb
 split
 ·exact Zrr l h hb
 split
 ·exact⟨by show(encB _ (clean l)).length≤_;have:=Zzv (tl (ZaD 0)) l;omega,by show pl u.segs≤_;omega⟩
 split
 ·exact⟨by show u.opath.length≤_;omega,by show pl (ZbU _ _)≤_;have:=ZeZ (l.drop 1) u.sch;have:=ZcJ l 1;omega⟩
 ·exact(Ze0 _ h).le (by have:=ZcJ l 2;omega)
theorem Zuj(sch rest:LB)(f:Bool){base:U}{B:Nat}(hb:Pm base B):Pm (ZcL sch rest f base).1 (B+9*rest.length+2):=by
 have hc:=(Zak (isB 63) rest).1;unfold ZcL
 split
 ·exact Zck _
 split
 ·exact(Zrs _ (Zp4 _ _ _) hb).le (by omega)
 ·exact(Zkm _ (Zp4 _ _ _) hb).le (by omega)
theorem ZwU(l:LB)(hf:Bool){base:U}{B:Nat}(hb:Pm base B):Pm (ZbH l hf base).1 (B+9*l.length+2):=by
 have hc:=(ZgJ l).2;unfold ZbH
 split
 ·exact(Zuj _ _ _ hb).le (by omega)
 split
 ·unfold ZcH
  split
  ·exact hb.le (by omega)
  ·exact Zck _
 ·exact(Zuj _ _ _ hb).le (by omega)
theorem ZwV(l:LB):(trimB l).length≤l.length:=by
 unfold trimB;rw[Xd]
 refine Xb (List.IsSuffix.length_le (Xi _)) ?_
 rw[Xd];exact List.IsSuffix.length_le (Xi _)
theorem ZhC(l:LB):(wholeText l).length≤3*l.length:=by
 have h1:=ZeJ (trimB (clean l));have h2:=ZwV (clean l);have h3:=ZdM l;unfold wholeText
 omega
theorem Zkn(l:LB){base:U}{B:Nat}(hb:Pm base B):Pm (Zac l base).1 (B+27*l.length+2):=by
 have h1:=(Zak (isB 35) (wholeText l)).1;have h2:=ZhC l;unfold Zac ZgK
 split
 ·exact Zck _
 ·have h:=ZwU (bcut (isB 35) (wholeText l)).1 (bcut (isB 35) (wholeText l)).2.2 hb
  have ho:=h.o;have hs:=h.s
  exact⟨Xb ho (by omega),Xb hs (by omega)⟩
theorem ZwW(l base:LB)(b:Bool):(Za8 (Zcc l base b).1).length≤8644:=by
 have hz:(Za8 zeroU).length≤8644:=(Zck 8644).path;unfold Zcc
 split
 ·exact hz
 next hl=>
  split
  ·exact hz
  ·refine Pm.path ?_
   have h1:l.length≤160:=Xq fun h=>hl (Or.inl h)
   have hbase:Pm (ZcQ base b).1 4322:=by
    unfold ZcQ
    split
    ·exact Zck _
    next hb=>
     split
     ·exact Zck _
     ·have h2:base.length≤160:=Xq fun h=>hl (Or.inr ⟨by cases b;exact absurd rfl hb;rfl,h⟩)
      exact(Zkn base (Zck 0)).le (by omega)
   exact(Zkn l hbase).le (by omega)
structure Hm (u:U) (a:Nat):Prop where
 host:u.host.length≤300000
 q:u.q.length≤a
theorem Zb6(a:Nat):Hm zeroU a:=⟨Xc _,Xc _⟩
theorem Zp5(sch q:LB)(b:Bool){a:Nat}(h:9*q.length≤a):Hm (Zcw sch b q) a:=⟨Xc _,Xb (Zzv _ _) h⟩
theorem ZmQ{u base:U}{a:Nat}(l:LB)(h:Hm u a)(hb:Hm base a):Hm (Zab u l base) a:=by
 unfold Zab
 split
 ·refine⟨h.host,?_⟩
  show(if u.hq=true then u.q else base.q).length≤a
  split
  ·exact h.q
  ·exact hb.q
 ·exact⟨h.host,h.q⟩
theorem Zoq{u:U}{a:Nat}(t:LB)(ht:t.length≤30000)(h:Hm u a):Hm (Z7 u t).1 a:=by
 have hc:=(Zak (slB true) t).1;unfold Z7
 split
 ·exact⟨h.host,h.q⟩
 split
 ·exact Zb6 _
 ·exact⟨Zgg (by omega),h.q⟩
theorem Zuk{u base:U}{a:Nat}(l:LB)(hl:l.length≤30000)(h:Hm u a)(hb:Hm base a):Hm (ZdD u l base).1 a:=by
 unfold ZdD
 split
 ·have:=ZcJ l 2
  exact Zoq (u:={ u with hh:=true }) (l.drop 2) (by omega) ⟨h.host,h.q⟩
 split
 ·exact⟨h.host,h.q⟩
 split
 ·exact⟨hb.host,h.q⟩
 split
 ·exact⟨hb.host,h.q⟩
 ·exact ZmQ (u:={ u with hh:=true,host:=base.host }) l ⟨hb.host,h.q⟩ hb
theorem ZyJ{u:U}{a:Nat}(p:LB)(h:Hm u a):Hm (Zgh u p).1 a:=by
 unfold Zgh
 split
 ·exact Zb6 _
 show Hm (Zbn u _) a
 unfold Zbn
 split
 ·exact⟨h.host,h.q⟩
 ·exact⟨h.host,h.q⟩
theorem ZwX{u:U}{a:Nat}(p:LB)(hp:p.length≤30000)(h:Hm u a):Hm (Z2 u p).1 a:=by
 have hc:=Ziv p;unfold Z2
 split
 ·exact Zb6 _
 split
 ·exact Zb6 _
 have h2:Hm { u with hh:=true,host:=(ZT (Zz p).1 (Zc u.sch)).1 } a:=⟨Zit (by omega),h.q⟩
 split
 ·exact h2
 ·exact ZyJ _ h2
theorem Ze1{u:U}{a:Nat}(t:LB)(ht:t.length≤30000)(h:Hm u a):Hm (Zx u t).1 a:=by
 have hc:=(Zak (slB (Zc u.sch)) t).1;have hl:=Zhk 64 (bcut (slB (Zc u.sch)) t).1;unfold Zx
 split
 ·exact Zb6 _
 unfold Zc8
 have h2:=ZwX (u:={ u with nam:=Zf2 (bcut (isB 58) (bcutLast 64 (bcut (slB (Zc u.sch)) t).1).1).1,pw:=Zf2 (bcut (isB 58) (bcutLast 64 (bcut (slB (Zc u.sch)) t).1).1).2.1 }) (a:=a) (bcutLast 64 (bcut (slB (Zc u.sch)) t).1).2.1 (by omega) ⟨h.host,h.q⟩
 split
 ·exact Zb6 _
 split
 ·exact⟨h2.host,h2.q⟩
 ·exact h2
theorem Zko{u base:U}{a:Nat}(l:LB)(hl:l.length≤30000)(h:Hm u a)(hb:Hm base a):Hm (ZW u l base).1 a:=by
 unfold ZW
 split
 ·exact Zuk l hl h hb
 split
 ·have:=ZcJ l (if Zc u.sch=true then countSl (Zc u.sch) l else 2)
  exact Ze1 _ (by omega) h
 split
 ·exact⟨hb.host,h.q⟩
 ·exact ZmQ l (u:=kept u base) ⟨hb.host,h.q⟩ hb
theorem Zrt{u base:U}{a:Nat}(l:LB)(hl:l.length≤30000)(h:Hm u a)(hb:Hm base a):Hm (ZX u l base).1 a:=by
 unfold ZX
 split
 ·exact Zuk l hl h hb
 split
 ·unfold ZaX
  split
  ·exact Zko l hl h hb
  ·have:=ZcJ l (countSl true l)
   exact Ze1 _ (by omega) h
 split
 ·exact⟨h.host,h.q⟩
 split
 ·exact⟨h.host,h.q⟩
 ·have:=ZcJ l 2
  exact Ze1 _ (by omega) h
theorem Zul(sch rest:LB)(f:Bool){base:U}{a:Nat}(hr:rest.length≤30000)(ha:9*rest.length≤a)(hb:Hm base a):Hm (ZcL sch rest f base).1 a:=by
 have hc:=(Zak (isB 63) rest).1;have hc2:=(Zak (isB 63) rest).2;unfold ZcL
 split
 ·exact Zb6 _
 split
 ·exact Zrt _ (by omega) (Zp5 _ _ _ (by omega)) hb
 ·exact Zko _ (by omega) (Zp5 _ _ _ (by omega)) hb
theorem ZwY(l:LB)(hf:Bool){base:U}{a:Nat}(hl:l.length≤30000)(ha:9*l.length≤a)(hb:Hm base a):Hm (ZbH l hf base).1 a:=by
 have hc:=(ZgJ l).2;unfold ZbH
 split
 ·exact Zul _ _ _ (by omega) (by omega) hb
 split
 ·unfold ZcH
  split
  ·exact hb
  ·exact Zb6 _
 ·exact Zul _ _ _ (by omega) (by omega) hb
theorem Zkp(l:LB){base:U}{a:Nat}(hl:l.length≤10000)(ha:27*l.length≤a)(hb:Hm base a):Hm (Zac l base).1 a:=by
 have h1:=ZhC l;have h2:=(Zak (isB 35) (wholeText l)).1;unfold Zac ZgK
 have h3:=ZwY (bcut (isB 35) (wholeText l)).1 (bcut (isB 35) (wholeText l)).2.2 (a:=a) (by omega) (by omega) hb
 split
 ·exact Zb6 _
 ·exact⟨h3.host,h3.q⟩
theorem Zum(l:LB)(hl:l.length≤10000):Hm (Zb8 l).1 (27*l.length):=Zkp l hl (Xg _) (Zb6 _)
theorem Zlp(l base:LB)(b:Bool):Hm (Zcc l base b).1 4320:=by
 unfold Zcc
 split
 ·exact Zb6 _
 ·next h0=>
  split
  ·exact Zb6 _
  ·refine Zkp l (by omega) (by omega) ?_
   unfold ZcQ
   split
   ·exact Zb6 _
   ·next h1=>
    have hb:base.length≤160:=by
     cases b
     ·exact absurd rfl h1
     ·rcases Nat.lt_or_ge 160 base.length with g|g
      ·exact absurd (Or.inr ⟨rfl,g⟩) h0
      ·exact g
    split
    ·exact Zb6 _
    ·have h2:=Zum base (by omega)
     exact⟨h2.host,Xb h2.q (by omega)⟩
theorem Zru(l:LB):(ZbR l).length≤l.length:=by
 unfold ZbR;rw[Xd]
 exact Xb (List.dropWhile_sublist _).length_le (by rw[Xd];exact Xg _)
theorem Zun{u:U}(h:Wk u):Wk (Zbt u):=by
 unfold Zbt
 split
 ·exact h
 ·refine⟨h.port,h.opq,fun g=>?_,h.nq,h.pq,h.sp,?_,h.lq⟩
  ·show ZbR u.opath=[]
   rw[h.zop g]
   rfl
  ·have hp:=h.path
   unfold Za8 at hp ⊢;simp only
   split
   ·next ho=>
    rw[if_pos ho]at hp;have:=Zru u.opath
    omega
   ·next ho=>
    rw[if_neg ho]at hp;exact hp
end Go.Proofs.YtchkhibgbnhjpabGreatDoor
