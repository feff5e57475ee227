import Derived.Test.YtchkhibgbnhjpabGreatDoorB34
open Bool renaming and_eq_true→Xe,false_eq_true→Xk
open List renaming mem_of_mem_drop→Xa,sum_cons→Xd,map_cons→Xf,dropWhile_suffix→Xg,mem_cons_of_mem→Xh,length_reverse→Xj,mem_cons_self→Xl,filter_cons→Xn,length_cons→Xo,length_nil→Xp
open Nat renaming zero_le→Xb,le_trans→Xc,le_refl→Xi,le_of_not_lt→Xq
namespace Go.Proofs.YtchkhibgbnhjpabGreatDoor
open Go.RowKit
def toR(u:U):RU:=⟨u.sch,u.nam,u.pw,u.hh,u.host,if u.hp=true then(u.port:Int)else -1,u.segs,u.op,u.opath,u.hq,u.q,u.hf,u.fr⟩
def Bl(base:U)(ob:Option RU):Prop:=(ob=none∧base=zeroU)∨(ob=some (toR base)∧St' base)
theorem Bl.near{base:U}{ob:Option RU}(h:Bl base ob):(base.sch≠Zv∧ZiZ ob=none)∨(base.sch=Zv∧ZiZ ob=some (toR base)∧base.hh=true):=by
 rcases h with⟨rfl,rfl⟩|⟨rfl,hs⟩
 ·exact Or.inl ⟨by decide,rfl⟩
 ·by_cases hf:base.sch=Zv
  ·exact Or.inr ⟨hf,if_pos hf,hs.sp (by rw[hf];decide)⟩
  ·exact Or.inl ⟨hf,if_neg hf⟩
theorem ZjN{b:Bool}{Q S:LB}{u:U}{m:RU}(h:Rl b Q S u m)(hqb:u.hq=b)(base:U)(l:LI)(hl:∀c∈l,Sc c)(h0:l=[]):Rl b Q S (Zad u (Zb l) base) (ZgR m (toR base)):=by
 subst h0;unfold Zad ZgR;rw[if_pos (show Zb []=[]from rfl)]
 refine { h with path:=rfl,hq:=by show(m.hq||base.hq)=(u.hq||base.hq);rw[h.hq],q:=?_ }
 show(if b=true then Q else if m.hq=true then m.q else base.q)=if u.hq=true then u.q else base.q
 rw[h.hq,hqb];have:=h.q
 cases b
 ·simp
 ·simpa using this
theorem Zo5{b:Bool}{Q S:LB}{u:U}{m:RU}(h:Rl b Q S u m)(hqb:u.hq=b)(hf:u.sch=Zv)(hz:u.host=[]){base:U}{ob:Option RU}(hB:Bl base ob)(l:LI)(hl:∀c∈l,Sc c):ZuL b Q S (ZdN u (Zb l) base) (Zbq m l (ZiZ ob)):=by
 have hpt:∀c∈l,Pt c:=fun c hc=>(hl c hc).pt
 unfold ZdN Zbq
 have hsp:Zc Zx=true:=by decide
 have s0:=ZkD Zx l hpt;have s01:=Zl2 Zx l hpt;rw[hsp]at s0 s01;have hdr:=Zc5 true l;have hcnt:=Zal true l hpt
 by_cases h2:1<countSl true (Zb l)
 ·rw[if_pos h2,if_pos (by rw[s01];exact decide_eq_true h2),hdr 2 (by omega)]
  exact Zl5 (u:={ u with hh:=true }) (m:={ m with his:=true,htx:=[] }) { h with his:=rfl,htx:=hz.symm } rfl (l.drop 2) (fun c hc=>hl c (Xa hc))
 ·have h2':¬(Zn l 0 Zx&&Zn l 1 Zx)=true:=by rw[s01];simpa using h2
  rw[if_neg h2,if_neg h2'];rcases hB.near with⟨hn,hr⟩|⟨hn,hr,hbh⟩
  ·rw[if_pos hn,hr]
   simp only
   by_cases h1:Zn l 0 Zx=true
   ·have h1':countSl true (Zb l)=1:=by rw[s0]at h1;have:=of_decide_eq_true h1;omega
    rw[if_pos h1,h1',hdr 1 (by omega)]
    exact⟨rfl,fun _=>{ h with his:=rfl,htx:=hz.symm,path:=by show walked m.sch [] _=_;rw[h.sch];exact Zau u.sch _ (fun c hc=>hl c (Xa hc)) }⟩
   ·have h1':countSl true (Zb l)=0:=by rw[s0,decide_eq_true_iff]at h1;omega
    rw[if_neg h1,h1',List.drop_zero]
    exact⟨rfl,fun _=>{ h with his:=rfl,htx:=hz.symm,path:=by show walked m.sch [] _=_;rw[h.sch];exact Zau u.sch _ hl }⟩
  ·rw[if_neg (fun g=>g hn),hr]
   simp only
   by_cases h1:Zn l 0 Zx=true
   ·have h1':countSl true (Zb l)=1:=by rw[s0]at h1;have:=of_decide_eq_true h1;omega
    rw[if_pos h1,if_pos h1',hdr 1 (by omega)]
    have hld:∀c∈l.drop 1,Sc c:=fun c hc=>hl c (Xa hc)
    refine⟨rfl,fun _=>{ h with his:=hbh,htx:=rfl,path:=?_ }⟩
    show walked m.sch (if driven (l.drop 1)=false∧base.segs≠[]∧drive (base.segs.headD [])=true then [base.segs.headD []]else []) (l.drop 1)=ZaN base.segs (Zb (l.drop 1))
    unfold ZaN
    have hda:=ZiB (l.drop 1) (fun c hc=>(hld c hc).pt)
    have hhd:base.segs.headD []=base.segs.getD 0 []:=by cases base.segs<;>rfl
    rw[h.sch,hf,ZoY,hhd]
    by_cases hc:driven (l.drop 1)=false∧base.segs≠[]∧Zar (base.segs.getD 0 [])=true
    ·have hc':¬(base.segs=[]∨Zar (base.segs.getD 0 [])=false∨Zai (Zb (l.drop 1))=true):=by
      rintro(g|g|g)
      ·exact hc.2.1 g
      ·rw[hc.2.2]at g;cases g
      ·rw[hda,hc.1]at g;cases g
     rw[if_pos hc,if_neg hc',Ze1 Zv _ _ hld]
     have:[base.segs.getD 0 []]=base.segs.take 1:=by
      cases hs:base.segs with
      | nil=>exact absurd hs hc.2.1
      | cons a r=>rfl
     rw[this]
     rfl
    ·have hc':base.segs=[]∨Zar (base.segs.getD 0 [])=false∨Zai (Zb (l.drop 1))=true:=by
      refine Classical.byContradiction fun g=>hc ⟨?_,?_,?_⟩
      ·cases hx:driven (l.drop 1)with
       | false=>rfl
       | true=>exact absurd (Or.inr (Or.inr (by rw[hda,hx]))) g
      ·exact fun e=>g (Or.inl e)
      ·cases hx:Zar (base.segs.getD 0 [])with
       | true=>rfl
       | false=>exact absurd (Or.inr (Or.inl hx)) g
     rw[if_neg hc,if_pos hc',Ze1 Zv _ _ hld]
     rfl
   ·have h1':countSl true (Zb l)=0:=by rw[s0,decide_eq_true_iff]at h1;omega
    have hda:=ZiB l hpt
    rw[if_neg h1,if_neg (by omega)]
    by_cases h0:l=[]
    ·rw[if_pos h0]
     have hd0:¬Zai (Zb l)=true:=by rw[h0];decide
     rw[if_neg hd0]
     exact⟨rfl,fun _=>ZjN (u:={ u with hh:=true,host:=base.host }) (m:={ m with his:=base.hh,htx:=base.host }) { h with his:=hbh,htx:=rfl } hqb base l hl h0⟩
    ·rw[if_neg h0]
     have h0':¬Zb l=[]:=fun g=>h0 ((Zr hpt).1 g)
     by_cases hd:driven l=true
     ·rw[if_pos hd,if_pos (by rw[hda];exact hd)]
      exact⟨rfl,fun _=>{ h with his:=hbh,htx:=rfl,path:=by show walked m.sch [] _=_;rw[h.sch];exact Zau u.sch _ hl }⟩
     ·rw[if_neg hd,if_neg (by rw[hda];exact hd)]
      unfold Zad;rw[if_neg h0']
      refine⟨rfl,fun _=>{ h with his:=hbh,htx:=rfl,path:=?_ }⟩
      show walked m.sch (ZaR m.sch base.segs) l=ZcQ base.segs (Zb l) u.sch
      rw[h.sch,Ze1 u.sch _ l hl,ZgU]
      rfl
theorem Zmb(sp:Bool)(l:LB):∀k,k≤countSl sp l→countSl sp (l.drop k)=countSl sp l-k:=by
 induction l with
 | nil=>intro k h;rw[List.drop_nil];rw[countSl];omega
 | cons c r ih=>
  intro k h
  cases k with
  | zero=>rfl
  | succ k=>
   rw[countSl]at h ⊢
   by_cases hc:slB sp c=true
   ·rw[if_pos hc]at h ⊢
    rw[List.drop_succ_cons,ih k (by omega)]
    omega
   ·rw[if_neg hc]at h;omega
theorem ZuZ(sch:LB)(l:LI)(hl:∀c∈l,Pt c)(h:1<countSl (Zc sch) (Zb l)):(Zb l).drop (if Zc sch=true then countSl (Zc sch) (Zb l)else 2)=Zb (ZcZ sch (l.drop 2)):=by
 rw[ZkE sch (l.drop 2) (fun c hc=>hl c (Xa hc))]
 have hcnt:=Zal (Zc sch) l hl
 have hd:=Zc5 (Zc sch) l 2 (by omega)
 by_cases hs:Zc sch=true
 ·rw[if_pos hs,if_pos hs,←hd]
  rw[hs]at h ⊢
  rw[Zmb true _ 2 (by omega),List.drop_drop]
  congr 1
  omega
 ·rw[if_neg hs,if_neg hs,hd]
theorem Zmc{b:Bool}{Q S:LB}{u:U}{m:RU}(h:Rl b Q S u m)(hqb:u.hq=b)(hf:u.sch≠Zv)(hn:u.nam=[])(hw:u.pw=[])(base:U)(l:LI)(hl:∀c∈l,Sc c):ZuL b Q S (ZX u (Zb l) base) (ZdB m l (toR base)):=by
 have hpt:∀c∈l,Pt c:=fun c hc=>(hl c hc).pt
 unfold ZX ZdB;rw[if_neg hf,h.sch,Zl2 u.sch l hpt,ZkD u.sch l hpt];have hcnt:=Zal (Zc u.sch) l hpt
 by_cases h2:1<countSl (Zc u.sch) (Zb l)
 ·rw[if_pos h2,if_pos (decide_eq_true h2)]
  exact ZkI h hn hw (l.drop 2) (fun c hc=>hl c (Xa hc)) _ (ZuZ u.sch l hpt h2)
 ·have h2':¬decide (1<countSl (Zc u.sch) (Zb l))=true:=by rw[decide_eq_true_iff];exact h2
  rw[if_neg h2,if_neg h2']
  have hk:Rl b Q S (kept u base) (Zl0 m (toR base)):={ h with user:=rfl,pass:=rfl,his:=rfl,htx:=rfl,port:=rfl }
  by_cases h1:countSl (Zc u.sch) (Zb l)=1
  ·rw[if_pos h1,if_pos (decide_eq_true (by omega)),Zc5 (Zc u.sch) l 1 (by omega)]
   exact⟨rfl,fun _=>{ hk with path:=Zau u.sch _ (fun c hc=>hl c (Xa hc)) }⟩
  ·have h1':¬decide (1≤countSl (Zc u.sch) (Zb l))=true:=by rw[decide_eq_true_iff];omega
   rw[if_neg h1,if_neg h1']
   by_cases h0:l=[]
   ·rw[if_pos h0]
    exact⟨rfl,fun _=>ZjN hk hqb base l hl h0⟩
   ·rw[if_neg h0]
    have h0':¬Zb l=[]:=fun g=>h0 ((Zr hpt).1 g)
    unfold Zad;rw[if_neg h0']
    refine⟨rfl,fun _=>{ hk with path:=?_ }⟩
    show walked u.sch (ZaR u.sch base.segs) l=ZcQ base.segs (Zb l) u.sch
    rw[Ze1 u.sch _ l hl,ZgU]
    rfl
theorem ZwH{b:Bool}{Q S:LB}{u:U}{m:RU}(h:Rl b Q S u m)(hqb:u.hq=b)(hn:u.nam=[])(hw:u.pw=[])(hz:u.host=[])(hs0:u.sch≠[]){base:U}{ob:Option RU}(hB:Bl base ob)(l:LI)(hl:∀c∈l,Sc c):ZuL b Q S (ZY u (Zb l) base) (Zap m l ob):=by
 have hpt:∀c∈l,Pt c:=fun c hc=>(hl c hc).pt
 unfold ZY Zap;rw[h.sch,special_eq]
 by_cases hf:u.sch=Zv
 ·have hf':u.sch=Zx:=hf
  rw[if_pos hf,if_pos hf'];exact Zo5 h hqb hf hz hB l hl
 ·have hf':¬u.sch=Zx:=hf
  rw[if_neg hf,if_neg hf'];have htwo:=ZwA l hpt;have hone:=ZwB l hpt;have hcnt:=Zal false l hpt
  by_cases hs:Zc u.sch=true
  ·rw[if_pos hs,if_pos hs]
   unfold Za7
   by_cases hc:base.sch=u.sch∧countSl false (Zb l)<2
   ·rw[if_pos hc]
    have e:(if ZhK l=true then none else Zqa m ob)=some (toR base):=by
     rw[if_neg (by rw[htwo,decide_eq_true_iff];omega)]
     rcases hB with⟨rfl,rfl⟩|⟨rfl,-⟩
     ·exact absurd hc.1.symm hs0
     ·show(if(toR base).sch=m.sch then some (toR base)else none)=_
      rw[if_pos (by rw[h.sch];exact hc.1)]
    rw[e];exact Zmc h hqb hf hn hw base l hl
   ·rw[if_neg hc]
    have e:(if ZhK l=true then none else Zqa m ob)=none:=by
     by_cases ht:ZhK l=true
     ·rw[if_pos ht]
     ·rw[if_neg ht]
      rcases hB with⟨rfl,rfl⟩|⟨rfl,-⟩
      ·rfl
      ·show(if(toR base).sch=m.sch then some (toR base)else none)=_
       rw[if_neg];intro g;rw[h.sch]at g;rw[htwo,decide_eq_true_iff]at ht
       exact hc ⟨g,by omega⟩
    rw[e]
    refine ZkI h hn hw l hl _ ?_
    rw[ZkE u.sch l hpt,if_pos hs]
  ·rw[if_neg hs,if_neg hs]
   by_cases h0:countSl false (Zb l)=0
   ·rw[if_pos h0,if_neg (by rw[htwo,decide_eq_true_iff];omega),if_neg (by rw[hone,decide_eq_true_iff];omega)]
    exact⟨rfl,fun _=>{ h with sch:=rfl,op:=rfl,bl:=(Zbx _ l hl).symm }⟩
   ·rw[if_neg h0]
    by_cases h1:countSl false (Zb l)=1
    ·rw[if_pos h1,if_neg (by rw[htwo,decide_eq_true_iff];omega),if_pos (by rw[hone];exact decide_eq_true (by omega)),Zc5 false l 1 (by omega)]
     exact⟨rfl,fun _=>{ h with sch:=rfl,path:=Zau u.sch _ (fun c hc=>hl c (Xa hc)) }⟩
    ·rw[if_neg h1,if_pos (by rw[htwo];exact decide_eq_true (by omega))]
     refine ZkI h hn hw (l.drop 2) (fun c hc=>hl c (Xa hc)) _ ?_
     rw[ZkE u.sch _ (fun c hc=>hpt c (Xa hc)),if_neg hs,Zc5 false l 2 (by omega)]
theorem Zmd(sch:LB)(l:LI)(hl:∀c∈l,Sc c):encB (tl (ZaJ (ZaQ sch))) (clean (Zb l))=encoded l (tl (ZhD (Ze sch))):=by
 rw[Zbx _ l hl,special_eq];unfold ZaQ ZhD
 cases Zc sch
 ·exact Zb9 (Zd1 (by decide) (by decide)) l
 ·exact Zb9 (Zd1 (by decide) (by decide)) l
theorem ZkM(l:LI)(hl:∀c∈l,Sc c):encB (tl (ZaJ 1)) (clean (Zb l))=encoded l Zca:=by
 rw[Zbx _ l hl]
 exact Zb9 (Zd1 (by decide) (by decide)) l
theorem Zo6(l:LI)(t:LB)(h:(cut l t).2.2=false):(cut l t).2.1=[]:=by
 induction l with
 | nil=>rfl
 | cons c r ih=>
  rw[cut]at h ⊢
  split
  ·next hc=>rw[if_pos hc]at h;cases h
  ·next hc=>rw[if_neg hc]at h;exact ih h
theorem Zo7(sch:LB)(rest:LI):Rl (cut rest [63]).2.2 (encB (tl (ZaJ (ZaQ sch))) (clean (Zb (cut rest [63]).2.1))) sch (ZcE sch (cut rest [63]).2.2 (Zb (cut rest [63]).2.1)) (Ziz sch rest):=by
 refine⟨rfl,rfl,rfl,rfl,rfl,rfl,rfl,rfl,rfl,rfl,rfl,?_,rfl,rfl,rfl⟩
 show(if(cut rest [63]).2.2=true then _ else([]:LB))=encB _ (clean _)
 cases hq:(cut rest [63]).2.2
 ·rw[if_neg (by decide),Zo6 rest _ hq,bytesOf_nil,Za9]
 ·rw[if_pos rfl]
def ZxC(x:U×Int)(y:RU×Int):Prop:=x.2=y.2∧(x.2=0→y.1=toR x.1)
theorem ZkN{b:Bool}{S:LB}{x:U×Int}{y:RU×Int}{query:LI}(hq:∀c∈query,Sc c)(h:ZuL b (encB (tl (ZaJ (ZaQ S))) (clean (Zb query))) S x y)(hf:Bool)(frag:LI)(hfr:∀c∈frag,Sc c)(hfn:hf=false→frag=[]):ZxC (ZgG x hf (Zb frag)) (Zqb (queried y b query) hf frag):=by
 have hc:(queried y b query).2=y.2:=by unfold queried;split<;>rfl
 unfold ZgG Zqb;rw[hc,←h.1]
 by_cases h0:x.2≠0
 ·rw[if_pos h0,if_pos h0]
  exact⟨rfl,fun g=>absurd g h0⟩
 ·rw[if_neg h0,if_neg h0]
  have hr:=h.2 (Classical.not_not.1 h0)
  refine⟨rfl,fun _=>?_⟩
  have hfrag:(if hf=true then encoded frag Zca else(queried y b query).1.fr)=encB (tl (ZaJ 1)) (clean (Zb frag)):=by
   cases hf
   ·rw[if_neg (by decide),hfn rfl,bytesOf_nil,Za9]
    have:(queried y b query).1.fr=y.1.fr:=by unfold queried;split<;>rfl
    rw[this,hr.fr]
   ·rw[if_pos rfl,ZkM frag hfr]
  rw[hfrag]
  have hsq:encoded query (tl (ZhD (Ze y.1.sch)))=encB (tl (ZaJ (ZaQ S))) (clean (Zb query)):=by rw[hr.sch,hr.own,Zmd S query hq]
  obtain⟨x1,x2⟩:=x;obtain⟨y1,y2⟩:=y;obtain⟨a1,a2,a3,a4,a5,a6,a7,a8,a9,a10,a11,a12,a13⟩:=y1;obtain⟨r1,r2,r3,r4,r5,r6,r7,r8,r9,r10,r11,r12,r13,r14,r15⟩:=hr;unfold queried toR;simp only at *
  cases b
  ·rw[if_neg (by decide)]at r12 ⊢
   simp only;rw[r1,r3,r4,r5,r6,r7,r8,r9,r10,r11,r12]
  ·rw[if_pos rfl]at r12 ⊢
   simp only;rw[hsq,r12,r1,r3,r4,r5,r6,r7,r8,r9,r10,r11]
theorem ZsQ{l:LI}(hl:∀c∈l,Pt c)(h:(schemeOf l).2.2=true):(schemeOf l).1≠[]:=by
 unfold schemeOf at h ⊢
 split at h
 ·next hc=>
  rw[if_pos hc];rw[Xe]at hc;intro e
  have h1:=(Zr (l:=(cut l [58]).1) (fun c hm=>hl c (ZD (Or.inl hm)))).1 (Zfn.1 e)
  rw[h1]at hc
  exact absurd hc.2 (by decide)
 ·cases h
theorem ZwI{l:LI}(h:(schemeOf l).2.2=false):(schemeOf l).2.1=l:=by
 unfold schemeOf at h ⊢
 split
 ·next hc=>rw[if_pos hc]at h;cases h
 ·rfl
theorem Zhp(t:LB){base:U}{ob:Option RU}(hB:Bl base ob):ZxC (Zae t base) (parseR t ob):=by
 unfold Zae parseR;rw[Zm9,show Zay t=Zlx t from rfl];have hsc:=ZrI t;generalize Zlx t=L at *
 have hpt:∀c∈L,Pt c:=fun c hc=>(hsc c hc).pt
 rw[Zan ZrJ L hpt]
 have ha:∀c∈(cut L [35]).1,Sc c:=fun c hc=>hsc c (ZD (Or.inl hc))
 have hfr:∀c∈(cut L [35]).2.1,Sc c:=fun c hc=>hsc c (ZD (Or.inr hc))
 have hfn:(cut L [35]).2.2=false→(cut L [35]).2.1=[]:=Zo6 L _;generalize cut L [35]=cc at *;obtain⟨a,frag,hf⟩:=cc;simp only at *
 have hap:∀c∈a,Pt c:=fun c hc=>(ha c hc).pt
 unfold ZbK Zd6;rw[Zlz a hap];simp only
 have hrest:∀c∈(schemeOf a).2.1,Sc c:=fun c hc=>ha c (ZbV hc)
 have hcq:=Zan ZpT (schemeOf a).2.1 (fun c hc=>(hrest c hc).pt)
 have hq1:∀c∈(cut (schemeOf a).2.1 [63]).1,Sc c:=fun c hc=>hrest c (ZD (Or.inl hc))
 have hq2:∀c∈(cut (schemeOf a).2.1 [63]).2.1,Sc c:=fun c hc=>hrest c (ZD (Or.inr hc))
 by_cases hok:(schemeOf a).2.2=true
 ·rw[if_pos hok,if_pos hok]
  have hne:=ZsQ hap hok;unfold ZcX ZuI;rw[if_neg hne,if_pos rfl,hcq];simp only;exact ZkN hq2 (ZwH (Zo7 (schemeOf a).1 (schemeOf a).2.1) rfl rfl rfl rfl hne hB _ hq1) hf frag hfr hfn
 ·rw[if_neg hok,if_neg hok]
  have hoff:=ZwI (l:=a) (by simpa using hok)
  rcases hB with⟨rfl,rfl⟩|⟨rfl,hst⟩
  ·rw[if_neg (show ¬zeroU.op=true by decide)]
   unfold ZcX ZgG;rw[if_pos (show zeroU.sch=[]from rfl)]
   exact⟨rfl,fun g=>by cases g⟩
  ·simp only
   by_cases ho:base.op=true
   ·rw[if_pos ho,if_pos (show(toR base).op=true from ho)]
    unfold ZcR;rw[hoff];have hE:=Zr hap
    by_cases hc:a=[]∧hf=true
    ·have hc1:Zb a=[]∧hf=true:=⟨hE.2 hc.1,hc.2⟩
     have hc2:¬(a≠[]∨hf=false):=by
      rintro(g|g)
      ·exact g hc.1
      ·rw[hc.2]at g;cases g
     rw[if_pos hc1,if_neg hc2];unfold ZgG Zqb
     have n1:¬((base,(0:Int)).2≠0):=fun g=>g rfl
     rw[if_neg n1,if_neg (fun g=>g rfl)]
     refine⟨rfl,fun _=>?_⟩
     obtain⟨o1,o2,-⟩:=hst.opq ho;obtain⟨w1,w2,w3,w4⟩:=hst.wf.nh o2;have hff:=ZkM frag hfr;rw[hc.2];unfold toR zeroR;simp only[if_true];rw[hff,w1,w2,o2,w3,w4,o1,ho]
     rfl
    ·have hc1:¬(Zb a=[]∧hf=true):=fun g=>hc ⟨hE.1 g.1,g.2⟩
     have hc2:a≠[]∨hf=false:=by
      by_cases g:a=[]
      ·right
       cases hf with
       | false=>rfl
       | true=>exact absurd ⟨g,rfl⟩ hc
      ·exact Or.inl g
     rw[if_neg hc1,if_pos hc2];unfold ZgG
     exact⟨rfl,fun g=>by cases g⟩
   ·rw[if_neg ho,if_neg (show ¬(toR base).op=true from ho)]
    have hne:base.sch≠[]:=hst.sd.sc.ne;unfold ZcX ZoX Zd5
    rw[if_neg hne,if_neg (by decide),hcq]
    simp only;have hst0:=Zo7 base.sch (schemeOf a).2.1
    by_cases hff:base.sch=Zv
    ·have hg:(Ziz (toR base).sch (schemeOf a).2.1).sch=Zx:=hff
     rw[if_pos hg];unfold ZX;have hg2:(ZcE base.sch (cut (schemeOf a).2.1 [63]).2.2 (Zb (cut (schemeOf a).2.1 [63]).2.1)).sch=Zv:=hff;rw[if_pos hg2];exact ZkN hq2 (Zo5 hst0 rfl hff rfl (Or.inr ⟨rfl,hst⟩) _ hq1) hf frag hfr hfn
    ·have hg:¬(Ziz (toR base).sch (schemeOf a).2.1).sch=Zx:=hff
     rw[if_neg hg];exact ZkN hq2 (Zmc hst0 rfl hff rfl rfl base _ hq1) hf frag hfr hfn
structure Wk (u:U):Prop where
 port:u.hp=true→u.port≤65535
 opq:u.op=true→u.segs=[]∧u.hh=false
 zop:u.op=false→u.opath=[]
 nq:u.hq=false→u.q=[]
 pq:Pr u.q
 sp:Zc u.sch=true→u.hh=true
 path:(ZaY u).length≤9000
 lq:u.q.length≤90000
theorem St'.wk{u:U}(h:St' u)(h1:(ZaY u).length≤9000)(h2:u.q.length≤90000):Wk u:=
 ⟨fun g=>(h.sd.port g).1,fun g=>⟨(h.opq g).1,(h.opq g).2.1⟩,h.zop,h.wf.nq,h.sd.pq,h.sp,h1,h2⟩
theorem Zgs{u:U}(h:u.hp=true→u.port≤65535):ZdF (toR u)=ZbJ u:=by
 unfold ZdF ZbJ Zb7 toR;simp only
 cases hp:u.hp
 ·simp
 ·simp only[if_true]
  rw[if_pos (by omega),Int.toNat_natCast,Zfs _ (by have:=h hp;omega)]
theorem Zu1{u:U}(h:u.hp=true→u.port≤65535):ZsV (toR u)=Zb7 u:=by
 unfold ZsV Zb7 toR;simp only
 cases hp:u.hp
 ·simp
 ·simp only[if_true]
  rw[if_pos (by omega),Int.toNat_natCast,Zfs _ (by have:=h hp;omega)]
theorem ZhL{u:U}(h:Wk u):Zdu (toR u)=ZaY u:=by
 unfold Zdu ZaY toR;simp only
 cases ho:u.op
 ·rw[h.zop ho,if_neg (by decide)];rfl
 ·rw[(h.opq ho).1,if_pos rfl];simp[Zdh]
theorem Zu2(u:U):ZfY (toR u)=ZpO u:=by
 unfold ZfY ZpO toR;simp only
 split
 ·rfl
 ·split
  ·rfl
  ·simp
theorem ZsW{u:U}(h:Wk u):Zdn (toR u)=Zjn u:=by
 unfold Zdn Zjn;rw[Zgs h.port,Zu2];unfold toR;simp only
 cases hh:u.hh
 ·simp only[Xk,if_false]
  cases ho:u.op
  ·by_cases hc:1<u.segs.length∧u.segs.getD 0 []=[]
   ·rw[if_pos hc,if_pos ⟨rfl,hc.1,hc.2⟩]
   ·rw[if_neg hc,if_neg (fun g=>hc ⟨g.2.1,g.2.2⟩)]
  ·rw[(h.opq ho).1,if_neg (by simp),if_neg (by simp)]
 ·rw[if_pos rfl,if_pos rfl]
theorem Zu3{u:U}(h:Wk u):Zhy (toR u)=Zm5 u:=by
 unfold Zhy Zm5 ZcC;rw[ZsW h,ZhL h]
 rfl
theorem ZsX:Bl zeroU none:=Or.inl ⟨rfl,rfl⟩
theorem ZnF{l:LB}(h:(ZbL l).2=0):St (ZbL l).1:=ZgX l (Or.inl rfl) h
theorem Zfv(l:LB):ZxC (ZbL l) (parseR l none):=Zhp l ZsX
theorem ZsY(s:LB):Zdp s=(Zc s&&s != Zv):=by
 by_cases h1:s=[104,116,116,112]
 ·subst h1;rfl
 by_cases h2:s=[104,116,116,112,115]
 ·subst h2;rfl
 by_cases h3:s=[119,115]
 ·subst h3;rfl
 by_cases h4:s=[119,115,115]
 ·subst h4;rfl
 by_cases h5:s=[102,116,112]
 ·subst h5;rfl
 have e1:Zdp s=false:=by unfold Zdp;simp[h1,h2,h3,h4,h5]
 have e2:Zc s=(s==Zv):=by
  unfold Zc ZJ
  rw[if_neg (by rintro(g|g);exact h1 g;exact h3 g),if_neg (by rintro(g|g);exact h2 g;exact h4 g),if_neg h5]
  rfl
 rw[e1,e2,bne]
 cases s==Zv<;>rfl
theorem Zqq{u:U}(h:Wk u):Zbr (toR u)=Zcq u:=by
 unfold Zbr Zcq;rw[ZhL h,ZsY];have e:(toR u).sch=u.sch:=rfl;rw[e,special_eq]
 by_cases hp:Zc u.sch=true∧u.sch≠Zx
 ·have hp2:(Zc u.sch&&u.sch != Zv)=true:=by rw[Xe,bne_iff_ne];exact hp
  rw[if_pos hp,if_pos hp2];unfold ZfZ Zaa;rw[Zgs h.port]
  rfl
 ·have hp2:¬(Zc u.sch&&u.sch != Zv)=true:=by rw[Xe,bne_iff_ne];exact hp
  rw[if_neg hp,if_neg hp2]
  by_cases hb:u.sch=Zqn
  ·have hb':u.sch=[98,108,111,98]:=hb
   rw[if_pos hb,if_pos hb'];unfold ZiE Zdo;obtain⟨s1,s2⟩:=Zfv (ZaY u)
   by_cases h0:(ZbL (ZaY u)).2=0
   ·have s3:=s2 h0
    rw[←s1,s3]
    have n0:¬((ZbL (ZaY u)).2≠0):=fun g=>g h0
    rw[if_neg n0];have e2:(toR (ZbL (ZaY u)).1).sch=(ZbL (ZaY u)).1.sch:=rfl;rw[e2]
    by_cases hc:(ZbL (ZaY u)).1.sch=ZwK∨(ZbL (ZaY u)).1.sch=ZsT
    ·rw[if_pos ⟨h0,hc⟩,if_neg (by
      rintro⟨g1,g2⟩;rcases hc with hc|hc
      ·exact g1 hc
      ·exact g2 hc)]
     unfold ZfZ Zaa
     rw[Zgs (fun g=>((ZnF h0).st.sd.port g).1)]
     rfl
    ·rw[if_neg (fun g=>hc g.2),if_pos ⟨fun g=>hc (Or.inl g),fun g=>hc (Or.inr g)⟩]
     rfl
   ·rw[if_pos h0,if_neg (fun g=>h0 (s1.trans g.1))]
    rfl
  ·have hb':¬u.sch=[98,108,111,98]:=hb
   rw[if_neg hb,if_neg hb']
   rfl
theorem Zu4:∀n:Fin 128,ZsR (toB (n.val:Int))=toB (Zc1 (n.val:Int)):=by decide
theorem Zqr(l:LI)(hl:∀c∈l,Pt c):ZwJ (Zb l)=Zb (l.map Zc1):=by
 induction l with
 | nil=>rfl
 | cons c r ih=>
  have ih':=ih (fun x hx=>hl x (Xh _ hx))
  unfold ZwJ at ih' ⊢;rw[bytesOf_cons,List.map_append,ih',Xf,bytesOf_cons]
  congr 1
  rcases Z7 (hl c (Xl ..))with⟨a,b,e⟩|⟨a,b,e⟩
  ·have hp:0≤Zc1 c∧Zc1 c<128:=by unfold Zc1;split<;>omega
   rw[e,ZmN hp.2]
   have:=Zu4 ⟨c.toNat,by omega⟩
   have hc:((⟨c.toNat,by omega⟩:Fin 128).val:Int)=c:=by simp;omega
   rw[hc]at this
   show [ZsR (toB c)]=[toB (Zc1 c)]
   rw[this]
  ·have hp:Zc1 c=c:=by unfold Zc1;rw[if_neg (by omega)]
   rw[hp]
   have hid:∀b∈(utf c).map toB,ZsR b=b:=fun b hb=>by
    have:=e b hb;unfold ZsR
    rw[if_neg (by omega)]
   rw[List.map_congr_left hid,List.map_id']
theorem ZjP(l:LI)(hl:∀c∈l,Pt c):ZiF l=Zo8 (Zb l):=by unfold ZiF Zo8;rw[ZaU,bdecode_decoded,Zqr l hl]
theorem ZsZ(l:LI)(hl:∀c∈l,Pt c):ZnE l=Zo9 (Zb l):=by
 unfold ZnE Zo9
 rw[Zan (Zei 61 (by decide) (by decide) 61 rfl) l hl]
 rw[ZjP _ (fun c hc=>hl c (ZD (Or.inl hc))),ZjP _ (fun c hc=>hl c (ZD (Or.inr hc)))]
theorem Zu5:∀(ps:List LI),(∀p∈ps,∀c∈p,Pt c)→(ps.filter fun a=>!a.isEmpty).map ZnE=((ps.map Zb).filter fun p=>!p.isEmpty).map Zo9:=by
 intro ps
 induction ps with
 | nil=>intro _;rfl
 | cons p r ih=>
  intro hpp;have hp:=hpp p (Xl ..)
  have ih':=ih (fun q hq=>hpp q (Xh _ hq))
  rw[Xf,Xn,Xn]
  have he:(Zb p).isEmpty=p.isEmpty:=by
   cases p with
   | nil=>rfl
   | cons c t=>
    have:Zb (c::t)≠[]:=fun e=>by have:=(Zr hp).1 e;cases this
    cases hx:Zb (c::t)with
    | nil=>exact absurd hx this
    | cons _ _=>rfl
  rw[he]
  cases p.isEmpty
  ·simp only[Bool.not_false,if_true,Xf]
   rw[ih',ZsZ p hp]
  ·simp only[Bool.not_true,Xk,if_false]
   exact ih'
theorem Zqs{q:LB}(hq:Pr q):Zhq q=Zba q:=by
 unfold Zhq Zba ZsS Zxs
 have hpt:∀c∈Zj q,Pt c:=fun c hc=>(ZaX q c hc).pt
 have hb:=ZaU q
 rw[Zdk (fun b hb=>by have:=hq b hb;omega)]at hb
 have hs:=Zcs (n:=38) (t:=38) (by decide) (by decide) rfl (Zj q) hpt
 rw[hb]at hs;rw[hs]
 exact Zu5 _ (fun p hp c hc=>hpt c (((ZbN (Zj q) [38]).2 p hp).2 c hc))
theorem Zme{u:U}(h:Wk u):Zf0 (toR u)=Zba u.q:=by
 unfold Zf0;have e:(toR u).hq=u.hq:=rfl;rw[e]
 cases hq:u.hq
 ·rw[if_neg (by decide),h.nq hq];rfl
 ·rw[if_pos rfl];exact Zqs h.pq
theorem ZnG(base:LB)(based:Bool):(Zc0 base based).2=(ZdP base based).2∧((Zc0 base based).2=0→Bl (Zc0 base based).1 (ZdP base based).1):=by
 unfold Zc0 ZdP
 cases based
 ·exact⟨rfl,fun _=>ZsX⟩
 ·simp only[Bool.true_eq_false,if_false]
  obtain⟨s1,s2⟩:=Zfv base;rw[←s1]
  by_cases h2:(ZbL base).2=2
  ·rw[if_pos h2,if_pos h2]
   exact⟨rfl,fun g=>by cases g⟩
  ·rw[if_neg h2,if_neg h2]
   by_cases h0:(ZbL base).2=0
   ·rw[if_neg (fun g=>g h0)]
    exact⟨h0,fun _=>Or.inr ⟨by rw[s2 h0],(ZnF h0).st⟩⟩
   ·have h0':(ZbL base).2≠0:=h0
    rw[if_pos h0']
    exact⟨rfl,fun g=>absurd g h0⟩
theorem Zu6(l base:LB)(based:Bool):ZxC (Zci l base based) (ZiR l base based):=by
 unfold Zci ZiR
 by_cases hl:160<l.length∨(based=true∧160<base.length)
 ·rw[if_pos hl,if_pos hl]
  exact⟨rfl,fun g=>by cases g⟩
 ·rw[if_neg hl,if_neg hl]
  obtain⟨g1,g2⟩:=ZnG base based;rw[←g1]
  by_cases h0:(Zc0 base based).2=0
  ·rw[if_neg (fun g=>g h0),if_neg (fun g=>g h0)]
   exact Zhp l (g2 h0)
  ·have h0':(Zc0 base based).2≠0:=h0
   rw[if_pos h0',if_pos h0']
   exact⟨rfl,fun g=>absurd g h0⟩
def pl(ps:List (List UInt8)):Nat:=(Zdh ps).length
theorem Zpa(a b:List LB):pl (a++b)=pl a+pl b:=by simp[pl,Zdh]
theorem Zs0(s:LB):pl [s]=1+s.length:=by simp[pl,Zdh];omega
theorem Zs1(ps:List LB)(n:Nat):pl (ps.take n)≤pl ps:=by
 conv=>rhs;rw[←List.take_append_drop n ps]
 rw[Zpa];omega
theorem Zpb(f:Bool)(ps:List LB):pl (ZaK f ps)≤pl ps:=by
 unfold ZaK
 split
 ·exact Xi _
 ·exact Zs1 _ _
theorem ZxD(set l:LB):(encB set (clean l)).length≤9*l.length:=by
 have h1:=Zj6 set (clean l);have h2:=Zb4 l
 omega
theorem ZwL(f:Bool)(ps:List LB)(s:LB):pl (joinL f ps s)≤pl ps+(2+9*s.length):=by
 unfold joinL;rw[Zpa,Zs0]
 split
 ·rw[List.length_append,List.length_take];simp;omega
 ·have:=ZxD (tl (ZaJ 4)) s;omega
theorem Zxt(f:Bool)(ps:List LB)(s:LB)(last:Bool):pl (ZdM f ps s last)≤pl ps+(2+9*s.length):=by
 have h2:pl (if countDots s=2 then ZaK f ps else ps)≤pl ps:=by
  split
  ·exact Zpb _ _
  ·exact Xi _
 unfold ZdM
 split
 ·exact ZwL _ _ _
 split
 ·rw[Zpa,Zs0];simp only[Xp];omega
 ·omega
def cost(ss:List (List UInt8)):Nat:=(ss.map fun s=>2+9*s.length).sum
theorem ZwM(f:Bool)(ss:List LB):∀ps,pl (Zch f ps ss)≤pl ps+cost ss:=by
 induction ss with
 | nil=>intro ps;exact Nat.le_add_right _ _
 | cons x r ih=>
  intro ps
  cases r with
  | nil=>have:=Zxt f ps x true;simp only[Zch,cost,List.map,Xd,List.sum_nil];omega
  | cons y q=>
   have h1:=ih (ZdM f ps x false);have h2:=Zxt f ps x false;rw[Zch];simp only[cost,List.map,Xd]at h1 ⊢
   omega
theorem Zqt(p:UInt8→Bool)(l:LB):cost (ZbT p l)≤9*l.length+2:=by
 induction l with
 | nil=>rw[ZbT];simp[cost]
 | cons c r ih=>
  rw[ZbT]
  split
  ·simp only[cost,List.map,Xd,Xp,Xo]at ih ⊢
   omega
  ·obtain⟨x,q,hx⟩:=ZeO p r
   rw[hx]at ih ⊢;simp only[cost,List.map,Xd,Xo]at ih ⊢
   omega
theorem ZiG(f sp:Bool)(ps:List LB)(t:LB):pl (Za4 f sp ps t)≤pl ps+9*t.length+2:=by
 have h1:=ZwM f (ZbT (slB sp) t) ps;have h2:=Zqt (slB sp) t;unfold Za4
 omega
theorem Zet(t sch:LB):pl (Zbe t sch)≤9*t.length+2:=by
 have h:=ZiG (sch==Zv) (Zc sch) [] t;have h0:pl []=0:=rfl;unfold Zbe
 omega
theorem Zs2(b:List LB)(t sch:LB):pl (ZcQ b t sch)≤pl b+9*t.length+2:=by
 have h:=ZiG (sch==Zv) (Zc sch) (ZaK (sch==Zv) b) t;have h0:=Zpb (sch==Zv) b;unfold ZcQ
 omega
theorem Zu7(b:List LB)(t:LB):pl (ZaN b t)≤pl b+9*t.length+2:=by
 unfold ZaN
 split
 ·have:=Zet t Zv;omega
 ·have:=ZiG true true (b.take 1) t
  have:=Zs1 b 1
  omega
structure Pm (u:U) (a:Nat):Prop where
 o:u.opath.length≤a
 s:pl u.segs≤a
theorem Pm.path{u:U}{a:Nat}(h:Pm u a):(ZaY u).length≤a:=by
 unfold ZaY
 split
 ·exact h.o
 ·exact h.s
theorem Pm.le{u:U}{a b:Nat}(h:Pm u a)(hab:a≤b):Pm u b:=⟨Xc h.o hab,Xc h.s hab⟩
theorem Zcb(a:Nat):Pm zeroU a:=⟨Xb _,Xb _⟩
theorem Zpc(sch q:LB)(b:Bool):Pm (ZcE sch b q) 0:=⟨Xb _,Xb _⟩
theorem Zmf{u base:U}{B:Nat}(l:LB)(h:Pm u 0)(hb:Pm base B):Pm (Zad u l base) (B+9*l.length+2):=by
 have h1:=h.o;have h2:=hb.s;unfold Zad
 split
 ·exact⟨by show u.opath.length≤_;omega,by show pl base.segs≤_;omega⟩
 ·exact⟨by show u.opath.length≤_;omega,by show pl (ZcQ base.segs l u.sch)≤_;have:=Zs2 base.segs l u.sch;omega⟩
theorem Zs3{u:U}{a:Nat}(h:Pm u 0)(s:List LB)(hs:pl s≤a):Pm { u with segs:=s } a:=⟨Xc h.o (Xb _),hs⟩
theorem ZcU(l:LB)(n:Nat):(l.drop n).length≤l.length:=by rw[List.length_drop];omega
theorem ZnH{u:U}(t:LB)(h:Pm u 0):Pm (Z6 u t).1 (9*t.length+2):=by
 have hc:=(Zaz (slB true) t).1;unfold Z6
 split
 ·exact Zs3 h _ (Zet _ _)
 split
 ·exact Zcb _
 ·exact⟨Xc h.o (Xb _),by show pl (Zbe _ _)≤_;have:=Zet (bcut (slB true) t).2.1 u.sch;omega⟩
theorem Zs4{u base:U}{B:Nat}(l:LB)(h:Pm u 0)(hb:Pm base B):Pm (ZdN u l base).1 (B+9*l.length+2):=by
 have h0:=h.o;have hs:=hb.s;unfold ZdN
 split
 ·have:=ZcU l 2
  exact(ZnH (u:={ u with hh:=true }) (l.drop 2) ⟨h.o,h.s⟩).le (by omega)
 split
 ·exact⟨by show u.opath.length≤_;omega,by show pl (Zbe _ _)≤_;have:=Zet (l.drop (countSl true l)) u.sch;have:=ZcU l (countSl true l);omega⟩
 split
 ·exact⟨by show u.opath.length≤_;omega,by show pl (ZaN _ _)≤_;have:=Zu7 base.segs (l.drop 1);have:=ZcU l 1;omega⟩
 split
 ·exact⟨by show u.opath.length≤_;omega,by show pl (Zbe _ _)≤_;have:=Zet l u.sch;omega⟩
 ·exact Zmf (u:={ u with hh:=true,host:=base.host }) l ⟨h.o,h.s⟩ hb
theorem ZwN{u:U}(p:LB)(h:Pm u 0):Pm (Zgg u p).1 0:=by
 unfold Zgg
 split
 ·exact Zcb _
 show Pm (Za6 u _) 0
 unfold Za6
 split
 ·exact⟨h.o,h.s⟩
 ·exact⟨h.o,h.s⟩
theorem Zu8{u:U}(p:LB)(h:Pm u 0):Pm (Z2 u p).1 0:=by
 unfold Z2
 split
 ·exact Zcb _
 split
 ·exact Zcb _
 split
 ·exact⟨h.o,h.s⟩
 ·exact ZwN _ ⟨h.o,h.s⟩
theorem Ze4{u:U}(t:LB)(h:Pm u 0):Pm (Zy u t).1 (9*t.length+2):=by
 have hc:=(Zaz (slB (Zc u.sch)) t).1;unfold Zy
 split
 ·exact Zcb _
 ·unfold Zdi
  split
  ·exact Zcb _
  have hp:=Zu8 (u:={ u with nam:=ZfA (bcut (isB 58) (bcutLast 64 (bcut (slB (Zc u.sch)) t).1).1).1,pw:=ZfA (bcut (isB 58) (bcutLast 64 (bcut (slB (Zc u.sch)) t).1).1).2.1 }) (bcutLast 64 (bcut (slB (Zc u.sch)) t).1).2.1 ⟨h.o,h.s⟩
  split
  ·exact Zs3 hp _ (by have:=Zet (bcut (slB (Zc u.sch)) t).2.1 u.sch;omega)
  ·exact hp.le (Xb _)
theorem ZjQ{u base:U}{B:Nat}(l:LB)(h:Pm u 0)(hb:Pm base B):Pm (ZX u l base).1 (B+9*l.length+2):=by
 have h0:=h.o;unfold ZX
 split
 ·exact Zs4 l h hb
 split
 ·exact(Ze4 _ h).le (by have:=ZcU l (if Zc u.sch=true then countSl (Zc u.sch) l else 2);omega)
 split
 ·exact⟨by show u.opath.length≤_;omega,by show pl (Zbe _ _)≤_;have:=Zet (l.drop 1) u.sch;have:=ZcU l 1;omega⟩
 ·exact Zmf (u:=kept u base) l ⟨h.o,h.s⟩ hb
theorem Zqu{u base:U}{B:Nat}(l:LB)(h:Pm u 0)(hb:Pm base B):Pm (Za7 u l base).1 (B+9*l.length+2):=by
 unfold Za7
 split
 ·exact ZjQ l h hb
 ·exact(Ze4 _ h).le (by have:=ZcU l (countSl true l);omega)
theorem Zqv{u base:U}{B:Nat}(l:LB)(h:Pm u 0)(hb:Pm base B):Pm (ZY u l base).1 (B+9*l.length+2):=by
 have h0:=h.o;have h1:=h.s;unfold ZY
 split
 ·exact Zs4 l h hb
 split
 ·exact Zqu l h hb
 split
 ·exact⟨by show(encB _ (clean l)).length≤_;have:=ZxD (tl (ZaJ 0)) l;omega,by show pl u.segs≤_;omega⟩
 split
 ·exact⟨by show u.opath.length≤_;omega,by show pl (Zbe _ _)≤_;have:=Zet (l.drop 1) u.sch;have:=ZcU l 1;omega⟩
 ·exact(Ze4 _ h).le (by have:=ZcU l 2;omega)
theorem Zs5(sch rest:LB)(f:Bool){base:U}{B:Nat}(hb:Pm base B):Pm (ZcX sch rest f base).1 (B+9*rest.length+2):=by
 have hc:=(Zaz (isB 63) rest).1;unfold ZcX
 split
 ·exact Zcb _
 split
 ·exact(Zqv _ (Zpc _ _ _) hb).le (by omega)
 ·exact(ZjQ _ (Zpc _ _ _) hb).le (by omega)
theorem Zu9(l:LB)(hf:Bool){base:U}{B:Nat}(hb:Pm base B):Pm (ZbK l hf base).1 (B+9*l.length+2):=by
 have hc:=(ZgF l).2;unfold ZbK
 split
 ·exact(Zs5 _ _ _ hb).le (by omega)
 split
 ·unfold ZcR
  split
  ·exact hb.le (by omega)
  ·exact Zcb _
 ·exact(Zs5 _ _ _ hb).le (by omega)
theorem Zva(l:LB):(trimB l).length≤l.length:=by
 unfold trimB;rw[Xj]
 refine Xc (List.IsSuffix.length_le (Xg _)) ?_
 rw[Xj];exact List.IsSuffix.length_le (Xg _)
theorem Zhr(l:LB):(wholeText l).length≤3*l.length:=by
 have h1:=ZaP (trimB (clean l));have h2:=Zva (clean l);have h3:=Zb4 l;unfold wholeText
 omega
theorem ZgZ(l:LB){base:U}{B:Nat}(hb:Pm base B):Pm (Zae l base).1 (B+27*l.length+2):=by
 have h1:=(Zaz (isB 35) (wholeText l)).1;have h2:=Zhr l;unfold Zae ZgG
 split
 ·exact Zcb _
 ·have h:=Zu9 (bcut (isB 35) (wholeText l)).1 (bcut (isB 35) (wholeText l)).2.2 hb
  have ho:=h.o;have hs:=h.s
  exact⟨Xc ho (by omega),Xc hs (by omega)⟩
theorem Zvb(l base:LB)(b:Bool):(ZaY (Zci l base b).1).length≤8644:=by
 have hz:(ZaY zeroU).length≤8644:=(Zcb 8644).path;unfold Zci
 split
 ·exact hz
 next hl=>
  split
  ·exact hz
  ·refine Pm.path ?_
   have h1:l.length≤160:=Xq fun h=>hl (Or.inl h)
   have hbase:Pm (Zc0 base b).1 4322:=by
    unfold Zc0
    split
    ·exact Zcb _
    next hb=>
     split
     ·exact Zcb _
     ·have h2:base.length≤160:=Xq fun h=>hl (Or.inr ⟨by cases b;exact absurd rfl hb;rfl,h⟩)
      exact(ZgZ base (Zcb 0)).le (by omega)
   exact(ZgZ l hbase).le (by omega)
structure Hm (u:U) (a:Nat):Prop where
 host:u.host.length≤300000
 q:u.q.length≤a
theorem Zcc(a:Nat):Hm zeroU a:=⟨Xb _,Xb _⟩
theorem Zpd(sch q:LB)(b:Bool){a:Nat}(h:9*q.length≤a):Hm (ZcE sch b q) a:=⟨Xb _,Xc (ZxD _ _) h⟩
theorem Zmg{u base:U}{a:Nat}(l:LB)(h:Hm u a)(hb:Hm base a):Hm (Zad u l base) a:=by
 unfold Zad
 split
 ·refine⟨h.host,?_⟩
  show(if u.hq=true then u.q else base.q).length≤a
  split
  ·exact h.q
  ·exact hb.q
 ·exact⟨h.host,h.q⟩
theorem ZnI{u:U}{a:Nat}(t:LB)(ht:t.length≤30000)(h:Hm u a):Hm (Z6 u t).1 a:=by
 have hc:=(Zaz (slB true) t).1;unfold Z6
 split
 ·exact⟨h.host,h.q⟩
 split
 ·exact Zcc _
 ·exact⟨Zgf (by omega),h.q⟩
theorem Zs6{u base:U}{a:Nat}(l:LB)(hl:l.length≤30000)(h:Hm u a)(hb:Hm base a):Hm (ZdN u l base).1 a:=by
 unfold ZdN
 split
 ·have:=ZcU l 2
  exact ZnI (u:={ u with hh:=true }) (l.drop 2) (by omega) ⟨h.host,h.q⟩
 split
 ·exact⟨h.host,h.q⟩
 split
 ·exact⟨hb.host,h.q⟩
 split
 ·exact⟨hb.host,h.q⟩
 ·exact Zmg (u:={ u with hh:=true,host:=base.host }) l ⟨hb.host,h.q⟩ hb
theorem ZwO{u:U}{a:Nat}(p:LB)(h:Hm u a):Hm (Zgg u p).1 a:=by
 unfold Zgg
 split
 ·exact Zcc _
 show Hm (Za6 u _) a
 unfold Za6
 split
 ·exact⟨h.host,h.q⟩
 ·exact⟨h.host,h.q⟩
theorem Zvc{u:U}{a:Nat}(p:LB)(hp:p.length≤30000)(h:Hm u a):Hm (Z2 u p).1 a:=by
 have hc:=Zid p;unfold Z2
 split
 ·exact Zcc _
 split
 ·exact Zcc _
 have h2:Hm { u with hh:=true,host:=(ZT (Zu p).1 (Zc u.sch)).1 } a:=⟨Zib (by omega),h.q⟩
 split
 ·exact h2
 ·exact ZwO _ h2
theorem Ze5{u:U}{a:Nat}(t:LB)(ht:t.length≤30000)(h:Hm u a):Hm (Zy u t).1 a:=by
 have hc:=(Zaz (slB (Zc u.sch)) t).1;have hl:=Zhd 64 (bcut (slB (Zc u.sch)) t).1;unfold Zy
 split
 ·exact Zcc _
 unfold Zdi
 have h2:=Zvc (u:={ u with nam:=ZfA (bcut (isB 58) (bcutLast 64 (bcut (slB (Zc u.sch)) t).1).1).1,pw:=ZfA (bcut (isB 58) (bcutLast 64 (bcut (slB (Zc u.sch)) t).1).1).2.1 }) (a:=a) (bcutLast 64 (bcut (slB (Zc u.sch)) t).1).2.1 (by omega) ⟨h.host,h.q⟩
 split
 ·exact Zcc _
 split
 ·exact⟨h2.host,h2.q⟩
 ·exact h2
theorem ZjR{u base:U}{a:Nat}(l:LB)(hl:l.length≤30000)(h:Hm u a)(hb:Hm base a):Hm (ZX u l base).1 a:=by
 unfold ZX
 split
 ·exact Zs6 l hl h hb
 split
 ·have:=ZcU l (if Zc u.sch=true then countSl (Zc u.sch) l else 2)
  exact Ze5 _ (by omega) h
 split
 ·exact⟨hb.host,h.q⟩
 ·exact Zmg l (u:=kept u base) ⟨hb.host,h.q⟩ hb
theorem Zqw{u base:U}{a:Nat}(l:LB)(hl:l.length≤30000)(h:Hm u a)(hb:Hm base a):Hm (ZY u l base).1 a:=by
 unfold ZY
 split
 ·exact Zs6 l hl h hb
 split
 ·unfold Za7
  split
  ·exact ZjR l hl h hb
  ·have:=ZcU l (countSl true l)
   exact Ze5 _ (by omega) h
 split
 ·exact⟨h.host,h.q⟩
 split
 ·exact⟨h.host,h.q⟩
 ·have:=ZcU l 2
  exact Ze5 _ (by omega) h
theorem Zs7(sch rest:LB)(f:Bool){base:U}{a:Nat}(hr:rest.length≤30000)(ha:9*rest.length≤a)(hb:Hm base a):Hm (ZcX sch rest f base).1 a:=by
 have hc:=(Zaz (isB 63) rest).1;have hc2:=(Zaz (isB 63) rest).2;unfold ZcX
 split
 ·exact Zcc _
 split
 ·exact Zqw _ (by omega) (Zpd _ _ _ (by omega)) hb
 ·exact ZjR _ (by omega) (Zpd _ _ _ (by omega)) hb
theorem Zvd(l:LB)(hf:Bool){base:U}{a:Nat}(hl:l.length≤30000)(ha:9*l.length≤a)(hb:Hm base a):Hm (ZbK l hf base).1 a:=by
 have hc:=(ZgF l).2;unfold ZbK
 split
 ·exact Zs7 _ _ _ (by omega) (by omega) hb
 split
 ·unfold ZcR
  split
  ·exact hb
  ·exact Zcc _
 ·exact Zs7 _ _ _ (by omega) (by omega) hb
theorem ZjS(l:LB){base:U}{a:Nat}(hl:l.length≤10000)(ha:27*l.length≤a)(hb:Hm base a):Hm (Zae l base).1 a:=by
 have h1:=Zhr l;have h2:=(Zaz (isB 35) (wholeText l)).1;unfold Zae ZgG
 have h3:=Zvd (bcut (isB 35) (wholeText l)).1 (bcut (isB 35) (wholeText l)).2.2 (a:=a) (by omega) (by omega) hb
 split
 ·exact Zcc _
 ·exact⟨h3.host,h3.q⟩
theorem Zs8(l:LB)(hl:l.length≤10000):Hm (ZbL l).1 (27*l.length):=ZjS l hl (Xi _) (Zcc _)
theorem Zpe(l base:LB)(b:Bool):Hm (Zci l base b).1 4320:=by
 unfold Zci
 split
 ·exact Zcc _
 ·next h0=>
  split
  ·exact Zcc _
  ·refine ZjS l (by omega) (by omega) ?_
   unfold Zc0
   split
   ·exact Zcc _
   ·next h1=>
    have hb:base.length≤160:=by
     cases b
     ·exact absurd rfl h1
     ·rcases Nat.lt_or_ge 160 base.length with g|g
      ·exact absurd (Or.inr ⟨rfl,g⟩) h0
      ·exact g
    split
    ·exact Zcc _
    ·have h2:=Zs8 base (by omega)
     exact⟨h2.host,Xc h2.q (by omega)⟩
end Go.Proofs.YtchkhibgbnhjpabGreatDoor
