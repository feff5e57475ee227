import Derived.Test.YtchkhibgbnhjpaaGreatDoorK32
import Derived.Test.YtchkhibgbnhjpaaGreatDoorK33
import Derived.Test.YtchkhibgbnhjpaaGreatDoorK34
namespace Go.Proofs.YtchkhibgbnhjpaaGreatDoor
open Go.RowKit
structure St (u:U):Prop where
 st:St' u
 blank:u.op=true→u.hq=false→u.hf=false→NoEnd u.opath
theorem Zmz (l:List UInt8):∃ a,l=a++(ZaD l).2.1:=by
 unfold ZaD
 split
 ·next h=>
  rcases ZeU (isB 58) l with ⟨h1,-⟩ | ⟨-,c,h2⟩
  ·rw [h.1] at h1;cases h1
  ·exact ⟨(bcut (isB 58) l).1++[c],by rw [List.append_assoc];exact h2⟩
 ·exact ⟨[],rfl⟩
theorem Ztm (l:List UInt8) (hf:Bool) {base:U} (hb:base=zeroU∨St' base) (hl:∀ b∈l,b≠35) (he:hf=false→NoEnd l) (h0:(Zbv l hf base).2=0):
  St' (Zbv l hf base).1∧((Zbv l hf base).1.op=true→(Zbv l hf base).1.hq=false→hf=false→NoEnd (Zbv l hf base).1.opath):=by
 have hb':base.sch≠[]→St' base:=fun hn=>hb.elim (fun e=>absurd (by rw [e];rfl) hn) id
 obtain ⟨a,ha⟩:=Zmz l
 have hr:∀ b∈(ZaD l).2.1,b≠35:=fun b hb=>hl b (by rw [ha];simp [hb])
 have fin:∀ {v:U},(v.op=true→v.hq=(bcut (isB 63) (ZaD l).2.1).2.2∧v.opath=encB S0 (clean (bcut (isB 63) (ZaD l).2.1).1))→v.op=true→v.hq=false→hf=false→NoEnd v.opath:=by
  intro v hv h1 h2 h3
  obtain ⟨k1,k2⟩:=hv h1
  rw [h2] at k1
  rcases ZeU (isB 63) (ZaD l).2.1 with ⟨-,e⟩ | ⟨e,-⟩
  ·rw [e] at k2
   rw [k2]
   have hn:=he h3
   rw [ha] at hn
   exact hn.tail.enc
  ·rw [e] at k1;cases k1
 unfold Zbv at h0 ⊢
 split
 ·next h1=>
  rw [if_pos h1] at h0
  have k:=Zrp (sch:=(ZaD l).1) (rest:=(ZaD l).2.1) (found:=true) (fun _=>by
   unfold ZaD at h1 ⊢
   split
   ·next h2=>exact Zi0 h2.2
   ·next h2=>rw [if_neg h2] at h1;cases h1) hb' (fun e=>by cases e) hr h0
  exact ⟨k.1,fin k.2⟩
 next h1=>
  rw [if_neg h1] at h0
  split
  ·next h2=>
   rw [if_pos h2] at h0
   have hs:St' base:=hb.elim (fun e=>by rw [e] at h2;cases h2) id
   unfold Zcu at h0 ⊢
   split
   ·next h3=>exact ⟨hs,fun _ _ e=>by rw [h3.2] at e;cases e⟩
   ·next h3=>rw [if_neg h3] at h0;cases h0
  ·next h2=>
   rw [if_neg h2] at h0
   have k:=Zrp (sch:=base.sch) (rest:=(ZaD l).2.1) (found:=false) (fun hn=>(hb' hn).sd.sc) hb' (fun _=>⟨rfl,by simpa using h2⟩) hr h0
   exact ⟨k.1,fin k.2⟩
theorem Ztn (m:List UInt8):∀ a x,trimB m=a++[x]→ZaC x=false:=by
 intro a x h
 unfold trimB at h
 have h1:=congrArg List.reverse h
 rw [List.reverse_reverse,List.reverse_append] at h1
 have h2:(List.dropWhile ZaC (List.dropWhile ZaC m).reverse).head?=some x:=by rw [h1];rfl
 have:=List.head?_dropWhile_not ZaC (List.dropWhile ZaC m).reverse
 rw [h2] at this
 simpa using this
theorem Zrq (l:List UInt8):NoEnd (wholeText l):=by
 intro a h
 unfold wholeText noBreaks at h
 rcases List.eq_nil_or_concat (trimB (clean l)) with hn | ⟨y,x,hx⟩
 ·rw [hn] at h;exact absurd h (by simp)
 ·rw [List.concat_eq_append] at hx
  have hb:=Ztn _ _ _ hx
  have hk:(!Zdw x)=true:=by
   unfold ZaC at hb
   unfold Zdw
   have:=of_decide_eq_false hb
   have h1:((x.toNat:Int) == 9)=false:=beq_eq_false_iff_ne.2 (by omega)
   have h2:((x.toNat:Int) == 10)=false:=beq_eq_false_iff_ne.2 (by omega)
   have h3:((x.toNat:Int) == 13)=false:=beq_eq_false_iff_ne.2 (by omega)
   rw [h1,h2,h3];rfl
  rw [hx,List.filter_append] at h
  have hf1:List.filter (fun b=>!Zdw b) [x]=[x]:=by simp only [List.filter,hk]
  rw [hf1] at h
  have e:=List.append_inj_right' h rfl
  simp only [List.cons.injEq,and_true] at e
  subst e
  exact absurd hb (by decide)
theorem Zgs (l:List UInt8) {base:U} (hb:base=zeroU∨St' base) (h0:(Z8 l base).2=0):St (Z8 l base).1:=by
 have hwf:=ZoZ l (base:=base) (hb.elim (fun e=>by rw [e];exact Zdl) (fun h=>h.wf))
 have hsd:=Zo2 l (base:=base) (hb.elim Or.inl (fun h=>Or.inr h.sd)) h0
 unfold Z8 Zgb at h0 hwf hsd ⊢
 split
 ·next h1=>rw [if_pos h1] at h0;exact absurd h0 h1
 ·next h1=>
  rw [if_neg h1] at hwf hsd
  have hl:∀ b∈(bcut (isB 35) (wholeText l)).1,b≠35:=fun b hb' e=>by have:=Zlh (isB 35) _ b hb';rw [e] at this;exact absurd this (by decide)
  have h:=Ztm (bcut (isB 35) (wholeText l)).1 (bcut (isB 35) (wholeText l)).2.2 hb hl (fun e=>by
   rcases ZeU (isB 35) (wholeText l) with ⟨-,e2⟩ | ⟨e2,-⟩
   ·rw [e2];exact Zrq l
   ·rw [e2] at e;cases e) (Classical.not_not.1 h1)
  refine ⟨{ h.1 with sd:=hsd,wf:=hwf,afr:=Zck Zvn _ },fun e1 e2 e3=>h.2 e1 e2 e3⟩
theorem Zo5 {base:List UInt8} {b:Bool} (h3:(ZcC base b).2=0):(ZcC base b).1=zeroU∨St' (ZcC base b).1:=by
 unfold ZcC at h3 ⊢
 split
 ·exact Or.inl rfl
 next h4=>
  rw [if_neg h4] at h3
  split
  ·exact Or.inl rfl
  next h5=>
   rw [if_neg h5] at h3
   exact Or.inr (Zgs base (Or.inl rfl) h3).st
theorem Zto (l base:List UInt8) (b:Bool) (h0:(Zcp l base b).2=0):St (Zcp l base b).1:=by
 unfold Zcp at h0 ⊢
 split
 ·next h1=>rw [if_pos h1] at h0;cases h0
 next h1=>
  rw [if_neg h1] at h0
  split
  ·next h2=>rw [if_pos h2] at h0;exact absurd h0 h2
  next h2=>
   rw [if_neg h2] at h0
   exact Zgs l (Zo5 (Classical.not_not.1 h2)) h0
def toR (u:U):RU:=⟨u.sch,u.nam,u.pw,u.hh,u.host,if u.hp=true then (u.port:Int) else -1,u.segs,u.op,u.opath,u.hq,u.q,u.hf,u.fr⟩
def Bl (base:U) (ob:Option RU):Prop:=(ob=none∧base=zeroU)∨(ob=some (toR base)∧St' base)
theorem Bl.near {base:U} {ob:Option RU} (h:Bl base ob):(base.sch≠Zs∧Zim ob=none)∨(base.sch=Zs∧Zim ob=some (toR base)∧base.hh=true):=by
 rcases h with ⟨rfl,rfl⟩ | ⟨rfl,hs⟩
 ·exact Or.inl ⟨by decide,rfl⟩
 ·by_cases hf:base.sch=Zs
  ·exact Or.inr ⟨hf,if_pos hf,hs.sp (by rw [hf];decide)⟩
  ·exact Or.inl ⟨hf,if_neg hf⟩
theorem Zi3 {b:Bool} {Q S:List UInt8} {u:U} {m:RU} (h:Rl b Q S u m) (hqb:u.hq=b) (base:U) (l:List Int) (hl:∀ c∈l,Sc c) (h0:l=[]):Rl b Q S (Z7 u (Zb l) base) (Zgm m (toR base)):=by
 subst h0
 unfold Z7 Zgm
 rw [if_pos (show Zb []=[] from rfl)]
 refine { h with path:=rfl,hq:=by show (m.hq || base.hq)=(u.hq || base.hq);rw [h.hq],q:=?_ }
 show (if b=true then Q else if m.hq=true then m.q else base.q)=if u.hq=true then u.q else base.q
 rw [h.hq,hqb]
 have:=h.q
 cases b
 ·simp
 ·simpa using this
theorem ZnT {b:Bool} {Q S:List UInt8} {u:U} {m:RU} (h:Rl b Q S u m) (hqb:u.hq=b) (hf:u.sch=Zs) (hz:u.host=[]) {base:U} {ob:Option RU} (hB:Bl base ob) (l:List Int) (hl:∀ c∈l,Sc c):Ztb b Q S (Zdk u (Zb l) base) (Zbe m l (Zim ob)):=by
 have hpt:∀ c∈l,Pt c:=fun c hc=>(hl c hc).pt
 unfold Zdk Zbe
 have hsp:Zc ZD=true:=by decide
 have s0:=ZnM ZD l hpt
 have s01:=Zk9 ZD l hpt
 rw [hsp] at s0 s01
 have hdr:=ZcH true l
 have hcnt:=Zat true l hpt
 by_cases h2:1 < countSl true (Zb l)
 ·rw [if_pos h2,if_pos (by rw [s01];exact decide_eq_true h2),hdr 2 (by omega)]
  exact Zlc (u:={ u with hh:=true }) (m:={ m with his:=true,htx:=[] }) { h with his:=rfl,htx:=hz.symm } rfl (l.drop 2) (fun c hc=>hl c (List.mem_of_mem_drop hc))
 ·have h2':¬ (Zm l 0 ZD && Zm l 1 ZD)=true:=by rw [s01];simpa using h2
  rw [if_neg h2,if_neg h2']
  rcases hB.near with ⟨hn,hr⟩ | ⟨hn,hr,hbh⟩
  ·rw [if_pos hn,hr]
   simp only
   by_cases h1:Zm l 0 ZD=true
   ·have h1':countSl true (Zb l)=1:=by rw [s0] at h1;have:=of_decide_eq_true h1;omega
    rw [if_pos h1,h1',hdr 1 (by omega)]
    exact ⟨rfl,fun _=>{ h with his:=rfl,htx:=hz.symm,path:=by show walked m.sch [] _=_;rw [h.sch];exact Zbf u.sch _ (fun c hc=>hl c (List.mem_of_mem_drop hc)) }⟩
   ·have h1':countSl true (Zb l)=0:=by rw [s0,decide_eq_true_iff] at h1;omega
    rw [if_neg h1,h1',List.drop_zero]
    exact ⟨rfl,fun _=>{ h with his:=rfl,htx:=hz.symm,path:=by show walked m.sch [] _=_;rw [h.sch];exact Zbf u.sch _ hl }⟩
  ·rw [if_neg (fun g=>g hn),hr]
   simp only
   by_cases h1:Zm l 0 ZD=true
   ·have h1':countSl true (Zb l)=1:=by rw [s0] at h1;have:=of_decide_eq_true h1;omega
    rw [if_pos h1,if_pos h1',hdr 1 (by omega)]
    have hld:∀ c∈l.drop 1,Sc c:=fun c hc=>hl c (List.mem_of_mem_drop hc)
    refine ⟨rfl,fun _=>{ h with his:=hbh,htx:=rfl,path:=?_ }⟩
    show walked m.sch (if driven (l.drop 1)=false∧base.segs≠[]∧drive (base.segs.headD [])=true then [base.segs.headD []] else []) (l.drop 1)=ZaB base.segs (Zb (l.drop 1))
    unfold ZaB
    have hda:=Zh5 (l.drop 1) (fun c hc=>(hld c hc).pt)
    have hhd:base.segs.headD []=base.segs.getD 0 []:=by cases base.segs <;> rfl
    rw [h.sch,hf,ZnL,hhd]
    by_cases hc:driven (l.drop 1)=false∧base.segs≠[]∧Zam (base.segs.getD 0 [])=true
    ·have hc':¬ (base.segs=[]∨Zam (base.segs.getD 0 [])=false∨Zae (Zb (l.drop 1))=true):=by
      rintro (g | g | g)
      ·exact hc.2.1 g
      ·rw [hc.2.2] at g;cases g
      ·rw [hda,hc.1] at g;cases g
     rw [if_pos hc,if_neg hc',Zet Zs _ _ hld]
     have:[base.segs.getD 0 []]=base.segs.take 1:=by
      cases hs:base.segs with
      | nil=>exact absurd hs hc.2.1
      | cons a r=>rfl
     rw [this]
     rfl
    ·have hc':base.segs=[]∨Zam (base.segs.getD 0 [])=false∨Zae (Zb (l.drop 1))=true:=by
      refine Classical.byContradiction fun g=>hc ⟨?_,?_,?_⟩
      ·cases hx:driven (l.drop 1) with
       | false=>rfl
       | true=>exact absurd (Or.inr (Or.inr (by rw [hda,hx]))) g
      ·exact fun e=>g (Or.inl e)
      ·cases hx:Zam (base.segs.getD 0 []) with
       | true=>rfl
       | false=>exact absurd (Or.inr (Or.inl hx)) g
     rw [if_neg hc,if_pos hc',Zet Zs _ _ hld]
     rfl
   ·have h1':countSl true (Zb l)=0:=by rw [s0,decide_eq_true_iff] at h1;omega
    have hda:=Zh5 l hpt
    rw [if_neg h1,if_neg (by omega)]
    by_cases h0:l=[]
    ·rw [if_pos h0]
     have hd0:¬ Zae (Zb l)=true:=by rw [h0];decide
     rw [if_neg hd0]
     exact ⟨rfl,fun _=>Zi3 (u:={ u with hh:=true,host:=base.host }) (m:={ m with his:=base.hh,htx:=base.host }) { h with his:=hbh,htx:=rfl } hqb base l hl h0⟩
    ·rw [if_neg h0]
     have h0':¬ Zb l=[]:=fun g=>h0 ((Zr hpt).1 g)
     by_cases hd:driven l=true
     ·rw [if_pos hd,if_pos (by rw [hda];exact hd)]
      exact ⟨rfl,fun _=>{ h with his:=hbh,htx:=rfl,path:=by show walked m.sch [] _=_;rw [h.sch];exact Zbf u.sch _ hl }⟩
     ·rw [if_neg hd,if_neg (by rw [hda];exact hd)]
      unfold Z7
      rw [if_neg h0']
      refine ⟨rfl,fun _=>{ h with his:=hbh,htx:=rfl,path:=?_ }⟩
      show walked m.sch (ZaE m.sch base.segs) l=Zct base.segs (Zb l) u.sch
      rw [h.sch,Zet u.sch _ l hl,Zgp]
      rfl
theorem Zli (sp:Bool) (l:List UInt8):∀ k,k≤countSl sp l→countSl sp (l.drop k)=countSl sp l - k:=by
 induction l with
 | nil=>intro k h;rw [List.drop_nil];rw [countSl];omega
 | cons c r ih=>
  intro k h
  cases k with
  | zero=>rfl
  | succ k=>
   rw [countSl] at h ⊢
   by_cases hc:slB sp c=true
   ·rw [if_pos hc] at h ⊢
    rw [List.drop_succ_cons,ih k (by omega)]
    omega
   ·rw [if_neg hc] at h;omega
theorem Ztp (sch:List UInt8) (l:List Int) (hl:∀ c∈l,Pt c) (h:1 < countSl (Zc sch) (Zb l)):(Zb l).drop (if Zc sch=true then countSl (Zc sch) (Zb l) else 2)=Zb (ZcB sch (l.drop 2)):=by
 rw [ZjO sch (l.drop 2) (fun c hc=>hl c (List.mem_of_mem_drop hc))]
 have hcnt:=Zat (Zc sch) l hl
 have hd:=ZcH (Zc sch) l 2 (by omega)
 by_cases hs:Zc sch=true
 ·rw [if_pos hs,if_pos hs,← hd]
  rw [hs] at h ⊢
  rw [Zli true _ 2 (by omega),List.drop_drop]
  congr 1
  omega
 ·rw [if_neg hs,if_neg hs,hd]
theorem Zlj {b:Bool} {Q S:List UInt8} {u:U} {m:RU} (h:Rl b Q S u m) (hqb:u.hq=b) (hf:u.sch≠Zs) (hn:u.nam=[]) (hw:u.pw=[]) (base:U) (l:List Int) (hl:∀ c∈l,Sc c):Ztb b Q S (ZT u (Zb l) base) (Zda m l (toR base)):=by
 have hpt:∀ c∈l,Pt c:=fun c hc=>(hl c hc).pt
 unfold ZT Zda
 rw [if_neg hf,h.sch,Zk9 u.sch l hpt,ZnM u.sch l hpt]
 have hcnt:=Zat (Zc u.sch) l hpt
 by_cases h2:1 < countSl (Zc u.sch) (Zb l)
 ·rw [if_pos h2,if_pos (decide_eq_true h2)]
  exact ZjS h hn hw (l.drop 2) (fun c hc=>hl c (List.mem_of_mem_drop hc)) _ (Ztp u.sch l hpt h2)
 ·have h2':¬ decide (1 < countSl (Zc u.sch) (Zb l))=true:=by rw [decide_eq_true_iff];exact h2
  rw [if_neg h2,if_neg h2']
  have hk:Rl b Q S (kept u base) (Zk7 m (toR base)):={ h with user:=rfl,pass:=rfl,his:=rfl,htx:=rfl,port:=rfl }
  by_cases h1:countSl (Zc u.sch) (Zb l)=1
  ·rw [if_pos h1,if_pos (decide_eq_true (by omega)),ZcH (Zc u.sch) l 1 (by omega)]
   exact ⟨rfl,fun _=>{ hk with path:=Zbf u.sch _ (fun c hc=>hl c (List.mem_of_mem_drop hc)) }⟩
  ·have h1':¬ decide (1≤countSl (Zc u.sch) (Zb l))=true:=by rw [decide_eq_true_iff];omega
   rw [if_neg h1,if_neg h1']
   by_cases h0:l=[]
   ·rw [if_pos h0]
    exact ⟨rfl,fun _=>Zi3 hk hqb base l hl h0⟩
   ·rw [if_neg h0]
    have h0':¬ Zb l=[]:=fun g=>h0 ((Zr hpt).1 g)
    unfold Z7
    rw [if_neg h0']
    refine ⟨rfl,fun _=>{ hk with path:=?_ }⟩
    show walked u.sch (ZaE u.sch base.segs) l=Zct base.segs (Zb l) u.sch
    rw [Zet u.sch _ l hl,Zgp]
    rfl
theorem ZuY {b:Bool} {Q S:List UInt8} {u:U} {m:RU} (h:Rl b Q S u m) (hqb:u.hq=b) (hn:u.nam=[]) (hw:u.pw=[]) (hz:u.host=[]) (hs0:u.sch≠[]) {base:U} {ob:Option RU} (hB:Bl base ob) (l:List Int) (hl:∀ c∈l,Sc c):Ztb b Q S (ZU u (Zb l) base) (Zak m l ob):=by
 have hpt:∀ c∈l,Pt c:=fun c hc=>(hl c hc).pt
 unfold ZU Zak
 rw [h.sch,special_eq]
 by_cases hf:u.sch=Zs
 ·have hf':u.sch=ZD:=hf
  rw [if_pos hf,if_pos hf']
  exact ZnT h hqb hf hz hB l hl
 ·have hf':¬ u.sch=ZD:=hf
  rw [if_neg hf,if_neg hf']
  have htwo:=ZuR l hpt
  have hone:=ZuS l hpt
  have hcnt:=Zat false l hpt
  by_cases hs:Zc u.sch=true
  ·rw [if_pos hs,if_pos hs]
   unfold ZaQ
   by_cases hc:base.sch=u.sch∧countSl false (Zb l) < 2
   ·rw [if_pos hc]
    have e:(if Zhb l=true then none else ZoU m ob)=some (toR base):=by
     rw [if_neg (by rw [htwo,decide_eq_true_iff];omega)]
     rcases hB with ⟨rfl,rfl⟩ | ⟨rfl,-⟩
     ·exact absurd hc.1.symm hs0
     ·show (if (toR base).sch=m.sch then some (toR base) else none)=_
      rw [if_pos (by rw [h.sch];exact hc.1)]
    rw [e]
    exact Zlj h hqb hf hn hw base l hl
   ·rw [if_neg hc]
    have e:(if Zhb l=true then none else ZoU m ob)=none:=by
     by_cases ht:Zhb l=true
     ·rw [if_pos ht]
     ·rw [if_neg ht]
      rcases hB with ⟨rfl,rfl⟩ | ⟨rfl,-⟩
      ·rfl
      ·show (if (toR base).sch=m.sch then some (toR base) else none)=_
       rw [if_neg]
       intro g
       rw [h.sch] at g
       rw [htwo,decide_eq_true_iff] at ht
       exact hc ⟨g,by omega⟩
    rw [e]
    refine ZjS h hn hw l hl _ ?_
    rw [ZjO u.sch l hpt,if_pos hs]
  ·rw [if_neg hs,if_neg hs]
   by_cases h0:countSl false (Zb l)=0
   ·rw [if_pos h0,if_neg (by rw [htwo,decide_eq_true_iff];omega),if_neg (by rw [hone,decide_eq_true_iff];omega)]
    exact ⟨rfl,fun _=>{ h with sch:=rfl,op:=rfl,bl:=(Zbl _ l hl).symm }⟩
   ·rw [if_neg h0]
    by_cases h1:countSl false (Zb l)=1
    ·rw [if_pos h1,if_neg (by rw [htwo,decide_eq_true_iff];omega),if_pos (by rw [hone];exact decide_eq_true (by omega)),ZcH false l 1 (by omega)]
     exact ⟨rfl,fun _=>{ h with sch:=rfl,path:=Zbf u.sch _ (fun c hc=>hl c (List.mem_of_mem_drop hc)) }⟩
    ·rw [if_neg h1,if_pos (by rw [htwo];exact decide_eq_true (by omega))]
     refine ZjS h hn hw (l.drop 2) (fun c hc=>hl c (List.mem_of_mem_drop hc)) _ ?_
     rw [ZjO u.sch _ (fun c hc=>hpt c (List.mem_of_mem_drop hc)),if_neg hs,ZcH false l 2 (by omega)]
theorem Zrr (sch:List UInt8) (l:List Int) (hl:∀ c∈l,Sc c):encB (tl (ZaG (Za1 sch))) (clean (Zb l))=encoded l (tl (Zof (Zg sch))):=by
 rw [Zbl _ l hl,special_eq]
 unfold Za1 Zof
 cases Zc sch
 ·exact ZbR (Zdz (by decide) (by decide)) l
 ·exact ZbR (Zdz (by decide) (by decide)) l
theorem ZnU (l:List Int) (hl:∀ c∈l,Sc c):encB (tl (ZaG 1)) (clean (Zb l))=encoded l Zd5:=by
 rw [Zbl _ l hl]
 exact ZbR (Zdz (by decide) (by decide)) l
theorem ZnV (l:List Int) (t:List UInt8) (h:(cut l t).2.2=false):(cut l t).2.1=[]:=by
 induction l with
 | nil=>rfl
 | cons c r ih=>
  rw [cut] at h ⊢
  split
  ·next hc=>rw [if_pos hc] at h;cases h
  ·next hc=>rw [if_neg hc] at h;exact ih h
theorem ZnW (sch:List UInt8) (rest:List Int):Rl (cut rest [63]).2.2 (encB (tl (ZaG (Za1 sch))) (clean (Zb (cut rest [63]).2.1))) sch (Zci sch (cut rest [63]).2.2 (Zb (cut rest [63]).2.1)) (Zh3 sch rest):=by
 refine ⟨rfl,rfl,rfl,rfl,rfl,rfl,rfl,rfl,rfl,rfl,rfl,?_,rfl,rfl,rfl⟩
 show (if (cut rest [63]).2.2=true then _ else ([]:List UInt8))=encB _ (clean _)
 cases hq:(cut rest [63]).2.2
 ·rw [if_neg (by decide),ZnV rest _ hq,bytesOf_nil,ZaS]
 ·rw [if_pos rfl]
def ZvH (x:U × Int) (y:RU × Int):Prop:=x.2=y.2∧(x.2=0→y.1=toR x.1)
theorem ZjW {b:Bool} {S:List UInt8} {x:U × Int} {y:RU × Int} {query:List Int} (hq:∀ c∈query,Sc c) (h:Ztb b (encB (tl (ZaG (Za1 S))) (clean (Zb query))) S x y) (hf:Bool) (frag:List Int) (hfr:∀ c∈frag,Sc c) (hfn:hf=false→frag=[]):ZvH (Zgb x hf (Zb frag)) (ZoV (queried y b query) hf frag):=by
 have hc:(queried y b query).2=y.2:=by unfold queried;split <;> rfl
 unfold Zgb ZoV
 rw [hc,← h.1]
 by_cases h0:x.2≠0
 ·rw [if_pos h0,if_pos h0]
  exact ⟨rfl,fun g=>absurd g h0⟩
 ·rw [if_neg h0,if_neg h0]
  have hr:=h.2 (Classical.not_not.1 h0)
  refine ⟨rfl,fun _=>?_⟩
  have hfrag:(if hf=true then encoded frag Zd5 else (queried y b query).1.fr)=encB (tl (ZaG 1)) (clean (Zb frag)):=by
   cases hf
   ·rw [if_neg (by decide),hfn rfl,bytesOf_nil,ZaS]
    have:(queried y b query).1.fr=y.1.fr:=by unfold queried;split <;> rfl
    rw [this,hr.fr]
   ·rw [if_pos rfl,ZnU frag hfr]
  rw [hfrag]
  have hsq:encoded query (tl (Zof (Zg y.1.sch)))=encB (tl (ZaG (Za1 S))) (clean (Zb query)):=by rw [hr.sch,hr.own,Zrr S query hq]
  obtain ⟨x1,x2⟩:=x
  obtain ⟨y1,y2⟩:=y
  obtain ⟨a1,a2,a3,a4,a5,a6,a7,a8,a9,a10,a11,a12,a13⟩:=y1
  obtain ⟨r1,r2,r3,r4,r5,r6,r7,r8,r9,r10,r11,r12,r13,r14,r15⟩:=hr
  unfold queried toR
  simp only at *
  cases b
  ·rw [if_neg (by decide)] at r12 ⊢
   simp only
   rw [r1,r3,r4,r5,r6,r7,r8,r9,r10,r11,r12]
  ·rw [if_pos rfl] at r12 ⊢
   simp only
   rw [hsq,r12,r1,r3,r4,r5,r6,r7,r8,r9,r10,r11]
theorem Zrs {l:List Int} (hl:∀ c∈l,Pt c) (h:(schemeOf l).2.2=true):(schemeOf l).1≠[]:=by
 unfold schemeOf at h ⊢
 split at h
 ·next hc=>
  rw [if_pos hc]
  rw [Bool.and_eq_true] at hc
  intro e
  have h1:=(Zr (l:=(cut l [58]).1) (fun c hm=>hl c (ZA (Or.inl hm)))).1 (ZeN.1 e)
  rw [h1] at hc
  exact absurd hc.2 (by decide)
 ·cases h
theorem ZuZ {l:List Int} (h:(schemeOf l).2.2=false):(schemeOf l).2.1=l:=by
 unfold schemeOf at h ⊢
 split
 ·next hc=>rw [if_pos hc] at h;cases h
 ·rfl
theorem ZgR (t:List UInt8) {base:U} {ob:Option RU} (hB:Bl base ob):ZvH (Z8 t base) (parseR t ob):=by
 unfold Z8 parseR
 rw [Zl5,show Zaq t=ZkF t from rfl]
 have hsc:=Zqi t
 generalize ZkF t=L at *
 have hpt:∀ c∈L,Pt c:=fun c hc=>(hsc c hc).pt
 rw [Zaj Zqj L hpt]
 have ha:∀ c∈(cut L [35]).1,Sc c:=fun c hc=>hsc c (ZA (Or.inl hc))
 have hfr:∀ c∈(cut L [35]).2.1,Sc c:=fun c hc=>hsc c (ZA (Or.inr hc))
 have hfn:(cut L [35]).2.2=false→(cut L [35]).2.1=[]:=ZnV L _
 generalize cut L [35]=cc at *
 obtain ⟨a,frag,hf⟩:=cc
 simp only at *
 have hap:∀ c∈a,Pt c:=fun c hc=>(ha c hc).pt
 unfold Zbv ZdE
 rw [ZkH a hap]
 simp only
 have hrest:∀ c∈(schemeOf a).2.1,Sc c:=fun c hc=>ha c (ZbE hc)
 have hcq:=Zaj ZoC (schemeOf a).2.1 (fun c hc=>(hrest c hc).pt)
 have hq1:∀ c∈(cut (schemeOf a).2.1 [63]).1,Sc c:=fun c hc=>hrest c (ZA (Or.inl hc))
 have hq2:∀ c∈(cut (schemeOf a).2.1 [63]).2.1,Sc c:=fun c hc=>hrest c (ZA (Or.inr hc))
 by_cases hok:(schemeOf a).2.2=true
 ·rw [if_pos hok,if_pos hok]
  have hne:=Zrs hap hok
  unfold Zcy Zs8
  rw [if_neg hne,if_pos rfl,hcq]
  simp only
  exact ZjW hq2 (ZuY (ZnW (schemeOf a).1 (schemeOf a).2.1) rfl rfl rfl rfl hne hB _ hq1) hf frag hfr hfn
 ·rw [if_neg hok,if_neg hok]
  have hoff:=ZuZ (l:=a) (by simpa using hok)
  rcases hB with ⟨rfl,rfl⟩ | ⟨rfl,hst⟩
  ·rw [if_neg (show ¬ zeroU.op=true by decide)]
   unfold Zcy Zgb
   rw [if_pos (show zeroU.sch=[] from rfl)]
   exact ⟨rfl,fun g=>by cases g⟩
  ·simp only
   by_cases ho:base.op=true
   ·rw [if_pos ho,if_pos (show (toR base).op=true from ho)]
    unfold Zcu
    rw [hoff]
    have hE:=Zr hap
    by_cases hc:a=[]∧hf=true
    ·have hc1:Zb a=[]∧hf=true:=⟨hE.2 hc.1,hc.2⟩
     have hc2:¬ (a≠[]∨hf=false):=by
      rintro (g | g)
      ·exact g hc.1
      ·rw [hc.2] at g;cases g
     rw [if_pos hc1,if_neg hc2]
     unfold Zgb ZoV
     have n1:¬ ((base,(0:Int)).2≠0):=fun g=>g rfl
     rw [if_neg n1,if_neg (fun g=>g rfl)]
     refine ⟨rfl,fun _=>?_⟩
     obtain ⟨o1,o2,-⟩:=hst.opq ho
     obtain ⟨w1,w2,w3,w4⟩:=hst.wf.nh o2
     have hff:=ZnU frag hfr
     rw [hc.2]
     unfold toR zeroR
     simp only [if_true]
     rw [hff,w1,w2,o2,w3,w4,o1,ho]
     rfl
    ·have hc1:¬ (Zb a=[]∧hf=true):=fun g=>hc ⟨hE.1 g.1,g.2⟩
     have hc2:a≠[]∨hf=false:=by
      by_cases g:a=[]
      ·right
       cases hf with
       | false=>rfl
       | true=>exact absurd ⟨g,rfl⟩ hc
      ·exact Or.inl g
     rw [if_neg hc1,if_pos hc2]
     unfold Zgb
     exact ⟨rfl,fun g=>by cases g⟩
   ·rw [if_neg ho,if_neg (show ¬ (toR base).op=true from ho)]
    have hne:base.sch≠[]:=hst.sd.sc.ne
    unfold Zcy ZnK ZdD
    rw [if_neg hne,if_neg (by decide),hcq]
    simp only
    have hst0:=ZnW base.sch (schemeOf a).2.1
    by_cases hff:base.sch=Zs
    ·have hg:(Zh3 (toR base).sch (schemeOf a).2.1).sch=ZD:=hff
     rw [if_pos hg]
     unfold ZT
     have hg2:(Zci base.sch (cut (schemeOf a).2.1 [63]).2.2 (Zb (cut (schemeOf a).2.1 [63]).2.1)).sch=Zs:=hff
     rw [if_pos hg2]
     exact ZjW hq2 (ZnT hst0 rfl hff rfl (Or.inr ⟨rfl,hst⟩) _ hq1) hf frag hfr hfn
    ·have hg:¬ (Zh3 (toR base).sch (schemeOf a).2.1).sch=ZD:=hff
     rw [if_neg hg]
     exact ZjW hq2 (Zlj hst0 rfl hff rfl rfl base _ hq1) hf frag hfr hfn
structure Wk (u:U):Prop where
 port:u.hp=true→u.port≤65535
 opq:u.op=true→u.segs=[]∧u.hh=false
 zop:u.op=false→u.opath=[]
 nq:u.hq=false→u.q=[]
 pq:Pr u.q
 sp:Zc u.sch=true→u.hh=true
 path:(ZaU u).length≤9000
 lq:u.q.length≤90000
theorem St'.wk {u:U} (h:St' u) (h1:(ZaU u).length≤9000) (h2:u.q.length≤90000):Wk u:=
 ⟨fun g=>(h.sd.port g).1,fun g=>⟨(h.opq g).1,(h.opq g).2.1⟩,h.zop,h.wf.nq,h.sd.pq,h.sp,h1,h2⟩
theorem ZfW {u:U} (h:u.hp=true→u.port≤65535):Zdd (toR u)=Zbt u:=by
 unfold Zdd Zbt ZbP toR
 simp only
 cases hp:u.hp
 ·simp
 ·simp only [if_true]
  rw [if_pos (by omega),Int.toNat_natCast,ZeS _ (by have:=h hp;omega)]
theorem Ztr {u:U} (h:u.hp=true→u.port≤65535):Zrx (toR u)=ZbP u:=by
 unfold Zrx ZbP toR
 simp only
 cases hp:u.hp
 ·simp
 ·simp only [if_true]
  rw [if_pos (by omega),Int.toNat_natCast,ZeS _ (by have:=h hp;omega)]
theorem Zhc {u:U} (h:Wk u):Zc4 (toR u)=ZaU u:=by
 unfold Zc4 ZaU toR
 simp only
 cases ho:u.op
 ·rw [h.zop ho,if_neg (by decide)];rfl
 ·rw [(h.opq ho).1,if_pos rfl];simp [ZcS]
theorem Zts (u:U):Zfq (toR u)=Zow u:=by
 unfold Zfq Zow toR
 simp only
 split
 ·rfl
 ·split
  ·rfl
  ·simp
theorem Zry {u:U} (h:Wk u):ZcY (toR u)=ZiG u:=by
 unfold ZcY ZiG
 rw [ZfW h.port,Zts]
 unfold toR
 simp only
 cases hh:u.hh
 ·simp only [Bool.false_eq_true,if_false]
  cases ho:u.op
  ·by_cases hc:1 < u.segs.length∧u.segs.getD 0 []=[]
   ·rw [if_pos hc,if_pos ⟨rfl,hc.1,hc.2⟩]
   ·rw [if_neg hc,if_neg (fun g=>hc ⟨g.2.1,g.2.2⟩)]
  ·rw [(h.opq ho).1,if_neg (by simp),if_neg (by simp)]
 ·rw [if_pos rfl,if_pos rfl]
theorem Ztt {u:U} (h:Wk u):Zg0 (toR u)=Zl1 u:=by
 unfold Zg0 Zl1 Zch
 rw [Zry h,Zhc h]
 rfl
theorem Zrz:Bl zeroU none:=Or.inl ⟨rfl,rfl⟩
theorem ZmB {l:List UInt8} (h:(ZbA l).2=0):St (ZbA l).1:=Zgs l (Or.inl rfl) h
theorem ZeV (l:List UInt8):ZvH (ZbA l) (parseR l none):=ZgR l Zrz
theorem ZrA (s:List UInt8):Zc0 s=(Zc s && s != Zs):=by
 by_cases h1:s=[104,116,116,112]
 ·subst h1;rfl
 by_cases h2:s=[104,116,116,112,115]
 ·subst h2;rfl
 by_cases h3:s=[119,115]
 ·subst h3;rfl
 by_cases h4:s=[119,115,115]
 ·subst h4;rfl
 by_cases h5:s=[102,116,112]
 ·subst h5;rfl
 have e1:Zc0 s=false:=by unfold Zc0;simp [h1,h2,h3,h4,h5]
 have e2:Zc s=(s == Zs):=by
  unfold Zc ZF
  rw [if_neg (by rintro (g | g);exact h1 g;exact h3 g),if_neg (by rintro (g | g);exact h2 g;exact h4 g),if_neg h5]
  rfl
 rw [e1,e2,bne]
 cases s == Zs <;> rfl
theorem Zpa {u:U} (h:Wk u):Zbg (toR u)=Zb5 u:=by
 unfold Zbg Zb5
 rw [Zhc h,ZrA]
 have e:(toR u).sch=u.sch:=rfl
 rw [e,special_eq]
 by_cases hp:Zc u.sch=true∧u.sch≠ZD
 ·have hp2:(Zc u.sch && u.sch != Zs)=true:=by rw [Bool.and_eq_true,bne_iff_ne];exact hp
  rw [if_pos hp,if_pos hp2]
  unfold Zfr Z5
  rw [ZfW h.port]
  rfl
 ·have hp2:¬ (Zc u.sch && u.sch != Zs)=true:=by rw [Bool.and_eq_true,bne_iff_ne];exact hp
  rw [if_neg hp,if_neg hp2]
  by_cases hb:u.sch=Zo7
  ·have hb':u.sch=[98,108,111,98]:=hb
   rw [if_pos hb,if_pos hb']
   unfold Zh8 ZcZ
   obtain ⟨s1,s2⟩:=ZeV (ZaU u)
   by_cases h0:(ZbA (ZaU u)).2=0
   ·have s3:=s2 h0
    rw [← s1,s3]
    have n0:¬ ((ZbA (ZaU u)).2≠0):=fun g=>g h0
    rw [if_neg n0]
    have e2:(toR (ZbA (ZaU u)).1).sch=(ZbA (ZaU u)).1.sch:=rfl
    rw [e2]
    by_cases hc:(ZbA (ZaU u)).1.sch=Zu1∨(ZbA (ZaU u)).1.sch=Zrv
    ·rw [if_pos ⟨h0,hc⟩,if_neg (by
      rintro ⟨g1,g2⟩
      rcases hc with hc | hc
      ·exact g1 hc
      ·exact g2 hc)]
     unfold Zfr Z5
     rw [ZfW (fun g=>((ZmB h0).st.sd.port g).1)]
     rfl
    ·rw [if_neg (fun g=>hc g.2),if_pos ⟨fun g=>hc (Or.inl g),fun g=>hc (Or.inr g)⟩]
     rfl
   ·rw [if_pos h0,if_neg (fun g=>h0 (s1.trans g.1))]
    rfl
  ·have hb':¬ u.sch=[98,108,111,98]:=hb
   rw [if_neg hb,if_neg hb']
   rfl
theorem Ztu:∀ n:Fin 128,Zrt (toB (n.val:Int))=toB (ZcD (n.val:Int)):=by decide
theorem Zpb (l:List Int) (hl:∀ c∈l,Pt c):Zu0 (Zb l)=Zb (l.map ZcD):=by
 induction l with
 | nil=>rfl
 | cons c r ih=>
  have ih':=ih (fun x hx=>hl x (List.mem_cons_of_mem _ hx))
  unfold Zu0 at ih' ⊢
  rw [bytesOf_cons,List.map_append,ih',List.map_cons,bytesOf_cons]
  congr 1
  rcases Z9 (hl c (List.mem_cons_self ..)) with ⟨a,b,e⟩ | ⟨a,b,e⟩
  ·have hp:0≤ZcD c∧ZcD c < 128:=by unfold ZcD;split <;> omega
   rw [e,Zm5 hp.2]
   have:=Ztu ⟨c.toNat,by omega⟩
   have hc:((⟨c.toNat,by omega⟩:Fin 128).val:Int)=c:=by simp;omega
   rw [hc] at this
   show [Zrt (toB c)]=[toB (ZcD c)]
   rw [this]
  ·have hp:ZcD c=c:=by unfold ZcD;rw [if_neg (by omega)]
   rw [hp]
   have hid:∀ b∈(utf c).map toB,Zrt b=b:=fun b hb=>by
    have:=e b hb
    unfold Zrt
    rw [if_neg (by omega)]
   rw [List.map_congr_left hid,List.map_id']
theorem Zi5 (l:List Int) (hl:∀ c∈l,Pt c):Zh9 l=ZnX (Zb l):=by
 unfold Zh9 ZnX
 rw [ZaZ,bdecode_decoded,Zpb l hl]
theorem ZrB (l:List Int) (hl:∀ c∈l,Pt c):ZmA l=ZnY (Zb l):=by
 unfold ZmA ZnY
 rw [Zaj (ZdP 61 (by decide) (by decide) 61 rfl) l hl]
 rw [Zi5 _ (fun c hc=>hl c (ZA (Or.inl hc))),Zi5 _ (fun c hc=>hl c (ZA (Or.inr hc)))]
theorem Ztv:∀ (ps:List (List Int)),(∀ p∈ps,∀ c∈p,Pt c)→(ps.filter fun a=>!a.isEmpty).map ZmA=((ps.map Zb).filter fun p=>!p.isEmpty).map ZnY:=by
 intro ps
 induction ps with
 | nil=>intro _;rfl
 | cons p r ih=>
  intro hpp
  have hp:=hpp p (List.mem_cons_self ..)
  have ih':=ih (fun q hq=>hpp q (List.mem_cons_of_mem _ hq))
  rw [List.map_cons,List.filter_cons,List.filter_cons]
  have he:(Zb p).isEmpty=p.isEmpty:=by
   cases p with
   | nil=>rfl
   | cons c t=>
    have:Zb (c :: t)≠[]:=fun e=>by have:=(Zr hp).1 e;cases this
    cases hx:Zb (c :: t) with
    | nil=>exact absurd hx this
    | cons _ _=>rfl
  rw [he]
  cases p.isEmpty
  ·simp only [Bool.not_false,if_true,List.map_cons]
   rw [ih',ZrB p hp]
  ·simp only [Bool.not_true,Bool.false_eq_true,if_false]
   exact ih'
theorem Zpc {q:List UInt8} (hq:Pr q):ZgS q=ZjX q:=by
 unfold ZgS ZjX Zru ZvC
 have hpt:∀ c∈Zl q,Pt c:=fun c hc=>(Zdv q c hc).pt
 have hb:=ZaZ q
 rw [ZcV (fun b hb=>by have:=hq b hb;omega)] at hb
 have hs:=Zb7 (n:=38) (t:=38) (by decide) (by decide) rfl (Zl q) hpt
 rw [hb] at hs
 rw [hs]
 exact Ztv _ (fun p hp c hc=>hpt c (((Zbx (Zl q) [38]).2 p hp).2 c hc))
theorem ZrC {u:U} (h:Wk u):ZjY (toR u)=ZjX u.q:=by
 unfold ZjY
 have e:(toR u).hq=u.hq:=rfl
 rw [e]
 cases hq:u.hq
 ·rw [if_neg (by decide),h.nq hq];rfl
 ·rw [if_pos rfl];exact Zpc h.pq
theorem ZmC (base:List UInt8) (based:Bool):(ZcC base based).2=(Zdm base based).2∧((ZcC base based).2=0→Bl (ZcC base based).1 (Zdm base based).1):=by
 unfold ZcC Zdm
 cases based
 ·exact ⟨rfl,fun _=>Zrz⟩
 ·simp only [Bool.true_eq_false,if_false]
  obtain ⟨s1,s2⟩:=ZeV base
  rw [← s1]
  by_cases h2:(ZbA base).2=2
  ·rw [if_pos h2,if_pos h2]
   exact ⟨rfl,fun g=>by cases g⟩
  ·rw [if_neg h2,if_neg h2]
   by_cases h0:(ZbA base).2=0
   ·rw [if_neg (fun g=>g h0)]
    exact ⟨h0,fun _=>Or.inr ⟨by rw [s2 h0],(ZmB h0).st⟩⟩
   ·have h0':(ZbA base).2≠0:=h0
    rw [if_pos h0']
    exact ⟨rfl,fun g=>absurd g h0⟩
theorem Ztw (l base:List UInt8) (based:Bool):ZvH (Zcp l base based) (Zie l base based):=by
 unfold Zcp Zie
 by_cases hl:160 < l.length∨(based=true∧160 < base.length)
 ·rw [if_pos hl,if_pos hl]
  exact ⟨rfl,fun g=>by cases g⟩
 ·rw [if_neg hl,if_neg hl]
  obtain ⟨g1,g2⟩:=ZmC base based
  rw [← g1]
  by_cases h0:(ZcC base based).2=0
  ·rw [if_neg (fun g=>g h0),if_neg (fun g=>g h0)]
   exact ZgR l (g2 h0)
  ·have h0':(ZcC base based).2≠0:=h0
   rw [if_pos h0',if_pos h0']
   exact ⟨rfl,fun g=>absurd g h0⟩
def pl (ps:List (List UInt8)):Nat:=(ZcS ps).length
theorem ZnZ (a b:List (List UInt8)):pl (a++b)=pl a + pl b:=by simp [pl,ZcS]
theorem ZrD (s:List UInt8):pl [s]=1 + s.length:=by simp [pl,ZcS];omega
theorem ZrE (ps:List (List UInt8)) (n:Nat):pl (ps.take n)≤pl ps:=by
 conv=>rhs;rw [← List.take_append_drop n ps]
 rw [ZnZ];omega
theorem Zn0 (f:Bool) (ps:List (List UInt8)):pl (Zaz f ps)≤pl ps:=by
 unfold Zaz
 split
 ·exact Nat.le_refl _
 ·exact ZrE _ _
theorem ZvV (set l:List UInt8):(encB set (clean l)).length≤9 * l.length:=by
 have h1:=Zjh set (clean l)
 have h2:=Zea l
 omega
theorem Zu2 (f:Bool) (ps:List (List UInt8)) (s:List UInt8):pl (joinL f ps s)≤pl ps + (2 + 9 * s.length):=by
 unfold joinL
 rw [ZnZ,ZrD]
 split
 ·rw [List.length_append,List.length_take];simp;omega
 ·have:=ZvV (tl (ZaG 4)) s;omega
theorem ZvD (f:Bool) (ps:List (List UInt8)) (s:List UInt8) (last:Bool):pl (Zdj f ps s last)≤pl ps + (2 + 9 * s.length):=by
 have h2:pl (if countDots s=2 then Zaz f ps else ps)≤pl ps:=by
  split
  ·exact Zn0 _ _
  ·exact Nat.le_refl _
 unfold Zdj
 split
 ·exact Zu2 _ _ _
 split
 ·rw [ZnZ,ZrD];simp only [List.length_nil];omega
 ·omega
def cost (ss:List (List UInt8)):Nat:=(ss.map fun s=>2 + 9 * s.length).sum
theorem Zu3 (f:Bool) (ss:List (List UInt8)):∀ ps,pl (ZbX f ps ss)≤pl ps + cost ss:=by
 induction ss with
 | nil=>intro ps;exact Nat.le_add_right _ _
 | cons x r ih=>
  intro ps
  cases r with
  | nil=>have:=ZvD f ps x true;simp only [ZbX,cost,List.map,List.sum_cons,List.sum_nil];omega
  | cons y q=>
   have h1:=ih (Zdj f ps x false)
   have h2:=ZvD f ps x false
   rw [ZbX]
   simp only [cost,List.map,List.sum_cons] at h1 ⊢
   omega
theorem Zpd (p:UInt8→Bool) (l:List UInt8):cost (ZbC p l)≤9 * l.length + 2:=by
 induction l with
 | nil=>rw [ZbC];simp [cost]
 | cons c r ih=>
  rw [ZbC]
  split
  ·simp only [cost,List.map,List.sum_cons,List.length_nil,List.length_cons] at ih ⊢
   omega
  ·obtain ⟨x,q,hx⟩:=Zef p r
   rw [hx] at ih ⊢
   simp only [cost,List.map,List.sum_cons,List.length_cons] at ih ⊢
   omega
theorem Zia (f sp:Bool) (ps:List (List UInt8)) (t:List UInt8):pl (ZaP f sp ps t)≤pl ps + 9 * t.length + 2:=by
 have h1:=Zu3 f (ZbC (slB sp) t) ps
 have h2:=Zpd (slB sp) t
 unfold ZaP
 omega
theorem Zew (t sch:List UInt8):pl (ZbG t sch)≤9 * t.length + 2:=by
 have h:=Zia (sch == Zs) (Zc sch) [] t
 have h0:pl []=0:=rfl
 unfold ZbG
 omega
theorem ZrF (b:List (List UInt8)) (t sch:List UInt8):pl (Zct b t sch)≤pl b + 9 * t.length + 2:=by
 have h:=Zia (sch == Zs) (Zc sch) (Zaz (sch == Zs) b) t
 have h0:=Zn0 (sch == Zs) b
 unfold Zct
 omega
theorem Ztx (b:List (List UInt8)) (t:List UInt8):pl (ZaB b t)≤pl b + 9 * t.length + 2:=by
 unfold ZaB
 split
 ·have:=Zew t Zs;omega
 ·have:=Zia true true (b.take 1) t
  have:=ZrE b 1
  omega
structure Pm (u:U) (a:Nat):Prop where
 o:u.opath.length≤a
 s:pl u.segs≤a
theorem Pm.path {u:U} {a:Nat} (h:Pm u a):(ZaU u).length≤a:=by
 unfold ZaU
 split
 ·exact h.o
 ·exact h.s
theorem Pm.le {u:U} {a b:Nat} (h:Pm u a) (hab:a≤b):Pm u b:=⟨Nat.le_trans h.o hab,Nat.le_trans h.s hab⟩
theorem ZbS (a:Nat):Pm zeroU a:=⟨Nat.zero_le _,Nat.zero_le _⟩
theorem Zn1 (sch q:List UInt8) (b:Bool):Pm (Zci sch b q) 0:=⟨Nat.zero_le _,Nat.zero_le _⟩
theorem Zlk {u base:U} {B:Nat} (l:List UInt8) (h:Pm u 0) (hb:Pm base B):Pm (Z7 u l base) (B + 9 * l.length + 2):=by
 have h1:=h.o
 have h2:=hb.s
 unfold Z7
 split
 ·exact ⟨by show u.opath.length≤_;omega,by show pl base.segs≤_;omega⟩
 ·exact ⟨by show u.opath.length≤_;omega,by show pl (Zct base.segs l u.sch)≤_;have:=ZrF base.segs l u.sch;omega⟩
theorem ZrG {u:U} {a:Nat} (h:Pm u 0) (s:List (List UInt8)) (hs:pl s≤a):Pm { u with segs:=s } a:=⟨Nat.le_trans h.o (Nat.zero_le _),hs⟩
theorem Zcw (l:List UInt8) (n:Nat):(l.drop n).length≤l.length:=by rw [List.length_drop];omega
theorem ZmD {u:U} (t:List UInt8) (h:Pm u 0):Pm (Z2 u t).1 (9 * t.length + 2):=by
 have hc:=(Zar (slB true) t).1
 unfold Z2
 split
 ·exact ZrG h _ (Zew _ _)
 split
 ·exact ZbS _
 ·exact ⟨Nat.le_trans h.o (Nat.zero_le _),by show pl (ZbG _ _)≤_;have:=Zew (bcut (slB true) t).2.1 u.sch;omega⟩
theorem ZrH {u base:U} {B:Nat} (l:List UInt8) (h:Pm u 0) (hb:Pm base B):Pm (Zdk u l base).1 (B + 9 * l.length + 2):=by
 have h0:=h.o
 have hs:=hb.s
 unfold Zdk
 split
 ·have:=Zcw l 2
  exact (ZmD (u:={ u with hh:=true }) (l.drop 2) ⟨h.o,h.s⟩).le (by omega)
 split
 ·exact ⟨by show u.opath.length≤_;omega,by show pl (ZbG _ _)≤_;have:=Zew (l.drop (countSl true l)) u.sch;have:=Zcw l (countSl true l);omega⟩
 split
 ·exact ⟨by show u.opath.length≤_;omega,by show pl (ZaB _ _)≤_;have:=Ztx base.segs (l.drop 1);have:=Zcw l 1;omega⟩
 split
 ·exact ⟨by show u.opath.length≤_;omega,by show pl (ZbG _ _)≤_;have:=Zew l u.sch;omega⟩
 ·exact Zlk (u:={ u with hh:=true,host:=base.host }) l ⟨h.o,h.s⟩ hb
theorem Zu4 {u:U} (p:List UInt8) (h:Pm u 0):Pm (ZfK u p).1 0:=by
 unfold ZfK
 split
 ·exact ZbS _
 show Pm (Zba u _) 0
 unfold Zba
 split
 ·exact ⟨h.o,h.s⟩
 ·exact ⟨h.o,h.s⟩
theorem Zty {u:U} (p:List UInt8) (h:Pm u 0):Pm (ZZ u p).1 0:=by
 unfold ZZ
 split
 ·exact ZbS _
 split
 ·exact ZbS _
 split
 ·exact ⟨h.o,h.s⟩
 ·exact Zu4 _ ⟨h.o,h.s⟩
theorem Zex {u:U} (t:List UInt8) (h:Pm u 0):Pm (Zv u t).1 (9 * t.length + 2):=by
 have hc:=(Zar (slB (Zc u.sch)) t).1
 unfold Zv
 split
 ·exact ZbS _
 ·unfold ZcT
  split
  ·exact ZbS _
  have hp:=Zty (u:={ u with nam:=Zfs (bcut (isB 58) (bcutLast 64 (bcut (slB (Zc u.sch)) t).1).1).1,pw:=Zfs (bcut (isB 58) (bcutLast 64 (bcut (slB (Zc u.sch)) t).1).1).2.1 }) (bcutLast 64 (bcut (slB (Zc u.sch)) t).1).2.1 ⟨h.o,h.s⟩
  split
  ·exact ZrG hp _ (by have:=Zew (bcut (slB (Zc u.sch)) t).2.1 u.sch;omega)
  ·exact hp.le (Nat.zero_le _)
theorem Zi6 {u base:U} {B:Nat} (l:List UInt8) (h:Pm u 0) (hb:Pm base B):Pm (ZT u l base).1 (B + 9 * l.length + 2):=by
 have h0:=h.o
 unfold ZT
 split
 ·exact ZrH l h hb
 split
 ·exact (Zex _ h).le (by have:=Zcw l (if Zc u.sch=true then countSl (Zc u.sch) l else 2);omega)
 split
 ·exact ⟨by show u.opath.length≤_;omega,by show pl (ZbG _ _)≤_;have:=Zew (l.drop 1) u.sch;have:=Zcw l 1;omega⟩
 ·exact Zlk (u:=kept u base) l ⟨h.o,h.s⟩ hb
theorem Zpe {u base:U} {B:Nat} (l:List UInt8) (h:Pm u 0) (hb:Pm base B):Pm (ZaQ u l base).1 (B + 9 * l.length + 2):=by
 unfold ZaQ
 split
 ·exact Zi6 l h hb
 ·exact (Zex _ h).le (by have:=Zcw l (countSl true l);omega)
theorem Zpf {u base:U} {B:Nat} (l:List UInt8) (h:Pm u 0) (hb:Pm base B):Pm (ZU u l base).1 (B + 9 * l.length + 2):=by
 have h0:=h.o
 have h1:=h.s
 unfold ZU
 split
 ·exact ZrH l h hb
 split
 ·exact Zpe l h hb
 split
 ·exact ⟨by show (encB _ (clean l)).length≤_;have:=ZvV (tl (ZaG 0)) l;omega,by show pl u.segs≤_;omega⟩
 split
 ·exact ⟨by show u.opath.length≤_;omega,by show pl (ZbG _ _)≤_;have:=Zew (l.drop 1) u.sch;have:=Zcw l 1;omega⟩
 ·exact (Zex _ h).le (by have:=Zcw l 2;omega)
theorem ZrI (sch rest:List UInt8) (f:Bool) {base:U} {B:Nat} (hb:Pm base B):Pm (Zcy sch rest f base).1 (B + 9 * rest.length + 2):=by
 have hc:=(Zar (isB 63) rest).1
 unfold Zcy
 split
 ·exact ZbS _
 split
 ·exact (Zpf _ (Zn1 _ _ _) hb).le (by omega)
 ·exact (Zi6 _ (Zn1 _ _ _) hb).le (by omega)
theorem Ztz (l:List UInt8) (hf:Bool) {base:U} {B:Nat} (hb:Pm base B):Pm (Zbv l hf base).1 (B + 9 * l.length + 2):=by
 have hc:=(Zga l).2
 unfold Zbv
 split
 ·exact (ZrI _ _ _ hb).le (by omega)
 split
 ·unfold Zcu
  split
  ·exact hb.le (by omega)
  ·exact ZbS _
 ·exact (ZrI _ _ _ hb).le (by omega)
theorem ZtA (l:List UInt8):(trimB l).length≤l.length:=by
 unfold trimB
 rw [List.length_reverse]
 refine Nat.le_trans (List.IsSuffix.length_le (List.dropWhile_suffix _)) ?_
 rw [List.length_reverse]
 exact List.IsSuffix.length_le (List.dropWhile_suffix _)
theorem ZgT (l:List UInt8):(wholeText l).length≤3 * l.length:=by
 have h1:=Zei (trimB (clean l))
 have h2:=ZtA (clean l)
 have h3:=Zea l
 unfold wholeText
 omega
theorem Zgt (l:List UInt8) {base:U} {B:Nat} (hb:Pm base B):Pm (Z8 l base).1 (B + 27 * l.length + 2):=by
 have h1:=(Zar (isB 35) (wholeText l)).1
 have h2:=ZgT l
 unfold Z8 Zgb
 split
 ·exact ZbS _
 ·have h:=Ztz (bcut (isB 35) (wholeText l)).1 (bcut (isB 35) (wholeText l)).2.2 hb
  have ho:=h.o
  have hs:=h.s
  exact ⟨Nat.le_trans ho (by omega),Nat.le_trans hs (by omega)⟩
theorem ZtB (l base:List UInt8) (b:Bool):(ZaU (Zcp l base b).1).length≤8644:=by
 have hz:(ZaU zeroU).length≤8644:=(ZbS 8644).path
 unfold Zcp
 split
 ·exact hz
 next hl=>
  split
  ·exact hz
  ·refine Pm.path ?_
   have h1:l.length≤160:=Nat.le_of_not_lt fun h=>hl (Or.inl h)
   have hbase:Pm (ZcC base b).1 4322:=by
    unfold ZcC
    split
    ·exact ZbS _
    next hb=>
     split
     ·exact ZbS _
     ·have h2:base.length≤160:=Nat.le_of_not_lt fun h=>hl (Or.inr ⟨by cases b;exact absurd rfl hb;rfl,h⟩)
      exact (Zgt base (ZbS 0)).le (by omega)
   exact (Zgt l hbase).le (by omega)
end Go.Proofs.YtchkhibgbnhjpaaGreatDoor
