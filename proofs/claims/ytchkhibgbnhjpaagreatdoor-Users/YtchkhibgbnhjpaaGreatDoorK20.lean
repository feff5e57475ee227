import Derived.Test.YtchkhibgbnhjpaaGreatDoorK18
import Derived.Test.YtchkhibgbnhjpaaGreatDoorK19
namespace Go.Proofs.YtchkhibgbnhjpaaGreatDoor
open Go.RowKit
structure Asc (p:UInt8→Bool) (P:Int→Bool):Prop where
 lo:∀ c:Int,0≤c→c < 128→p (toB c)=P c
 hi:∀ b:UInt8,128≤b.toNat→p b=false
 up:∀ c:Int,128≤c→P c=false
theorem Z9 {c:Int} (h:Pt c):(0≤c∧c < 128∧(utf c).map toB=[toB c])∨(128≤c∧(utf c).map toB≠[]∧∀ b∈(utf c).map toB,128≤b.toNat):=by
 by_cases hc:c < 128
 ·exact Or.inl ⟨h.1,hc,by rw [Zm5 hc];rfl⟩
 ·refine Or.inr ⟨by omega,?_,?_⟩
  ·unfold utf
   rw [if_neg hc]
   split
   ·simp
   ·split <;> simp
  ·intro b hb
   obtain ⟨x,hx,rfl⟩:=List.mem_map.1 hb
   have h1:=Zjl (by omega) h.2 hx
   have h2:=Zbp (n:=x) (by omega) h1.2
   omega
theorem bytesOf_cons (c:Int) (l:List Int):Zb (c :: l)=(utf c).map toB++Zb l:=by simp [Zb]
theorem Zl4 (a b:List Int):Zb (a++b)=Zb a++Zb b:=by simp [Zb]
theorem bytesOf_nil:Zb []=[]:=rfl
theorem Zr {l:List Int} (hl:∀ c∈l,Pt c):Zb l=[]↔l=[]:=by
 constructor
 ·intro h
  cases l with
  | nil=>rfl
  | cons c r=>
   rw [bytesOf_cons] at h
   have h1:=(List.append_eq_nil_iff.1 h).1
   rcases Z9 (hl c (by simp)) with ⟨-,-,e⟩ | ⟨-,e,-⟩
   ·rw [e] at h1;cases h1
   ·exact absurd h1 e
 ·intro h;rw [h];rfl
section
variable {p:UInt8→Bool} {P:Int→Bool} (h:Asc p P)
include h
theorem Asc.filter (l:List Int) (hl:∀ c∈l,Pt c):(Zb l).filter (fun b=>!p b)=Zb (l.filter fun c=>!P c):=by
 induction l with
 | nil=>rfl
 | cons c r ih=>
  rw [bytesOf_cons,List.filter_append,ih (fun x hx=>hl x (by simp [hx]))]
  rcases Z9 (hl c (by simp)) with ⟨h0,h1,e⟩ | ⟨h0,-,e⟩
  ·rw [e]
   have hp:=h.lo c h0 h1
   cases hc:P c
   ·rw [hc] at hp
    simp [List.filter,hp,hc,bytesOf_cons,e]
   ·rw [hc] at hp
    simp [List.filter,hp,hc]
  ·have hc:=h.up c h0
   have:((utf c).map toB).filter (fun b=>!p b)=(utf c).map toB:=List.filter_eq_self.2 fun b hb=>by rw [h.hi b (e b hb)];rfl
   rw [this]
   simp [List.filter,hc,bytesOf_cons]
theorem Asc.dropWhile (l:List Int) (hl:∀ c∈l,Pt c):(Zb l).dropWhile p=Zb (l.dropWhile P):=by
 induction l with
 | nil=>rfl
 | cons c r ih=>
  rcases Z9 (hl c (by simp)) with ⟨h0,h1,e⟩ | ⟨h0,e1,e⟩
  ·have hp:=h.lo c h0 h1
   rw [bytesOf_cons,e,List.singleton_append,List.dropWhile_cons,List.dropWhile_cons,hp]
   split
   ·exact ih (fun x hx=>hl x (by simp [hx]))
   ·rw [bytesOf_cons,e];rfl
  ·have hc:=h.up c h0
   rw [List.dropWhile_cons,if_neg (by rw [hc];decide),bytesOf_cons]
   cases hx:(utf c).map toB with
   | nil=>exact absurd hx e1
   | cons b q=>
    have hb:=h.hi b (e b (by rw [hx];simp))
    rw [List.cons_append,List.dropWhile_cons,if_neg (by rw [hb];decide)]
theorem Asc.dropEnd' (r:List Int) (hl:∀ c∈r,Pt c):((Zb r.reverse).reverse.dropWhile p).reverse=Zb (r.dropWhile P).reverse:=by
 induction r with
 | nil=>rfl
 | cons c r ih=>
  have ih':=ih (fun x hx=>hl x (by simp [hx]))
  rw [List.reverse_cons,List.dropWhile_cons,bytesOf_snoc,List.reverse_append]
  rcases Z9 (hl c (by simp)) with ⟨h0,h1,e⟩ | ⟨h0,e1,e⟩
  ·have hp:=h.lo c h0 h1
   rw [e,List.reverse_singleton,List.singleton_append,List.dropWhile_cons,hp]
   split
   ·exact ih'
   ·rw [List.reverse_cons,List.reverse_reverse,List.reverse_cons,bytesOf_snoc,e]
  ·have hc:=h.up c h0
   rw [if_neg (by rw [hc];decide),List.reverse_cons,bytesOf_snoc]
   rcases List.eq_nil_or_concat ((utf c).map toB) with hx | ⟨q,b,hx⟩
   ·exact absurd hx e1
   ·have hb:=h.hi b (e b (by rw [hx];simp))
    rw [hx,List.concat_eq_append,List.reverse_append,List.reverse_singleton,List.singleton_append,List.cons_append,List.dropWhile_cons,if_neg (by rw [hb];decide)]
    simp
theorem Asc.dropEnd (l:List Int) (hl:∀ c∈l,Pt c):((Zb l).reverse.dropWhile p).reverse=Zb (l.reverse.dropWhile P).reverse:=by
 have h1:=Asc.dropEnd' h l.reverse (fun c hc=>hl c (List.mem_reverse.1 hc))
 rw [List.reverse_reverse] at h1
 exact h1
theorem Asc.all (l:List Int) (hl:∀ c∈l,Pt c):(Zb l).all p=l.all P:=by
 induction l with
 | nil=>rfl
 | cons c r ih=>
  rw [bytesOf_cons,List.all_append,List.all_cons,ih (fun x hx=>hl x (by simp [hx]))]
  rcases Z9 (hl c (by simp)) with ⟨h0,h1,e⟩ | ⟨h0,e1,e⟩
  ·rw [e];simp [h.lo c h0 h1]
  ·rw [h.up c h0]
   cases hx:(utf c).map toB with
   | nil=>exact absurd hx e1
   | cons b q=>rw [List.all_cons,h.hi b (e b (by rw [hx];simp))];rfl
theorem Asc.any (l:List Int) (hl:∀ c∈l,Pt c):(Zb l).any p=l.any P:=by
 induction l with
 | nil=>rfl
 | cons c r ih=>
  rw [bytesOf_cons,List.any_append,List.any_cons,ih (fun x hx=>hl x (by simp [hx]))]
  rcases Z9 (hl c (by simp)) with ⟨h0,h1,e⟩ | ⟨h0,e1,e⟩
  ·rw [e];simp [h.lo c h0 h1]
  ·rw [h.up c h0]
   have:((utf c).map toB).any p=false:=List.any_eq_false.2 fun b hb=>by rw [h.hi b (e b hb)];decide
   rw [this]
end
theorem Za2 {c:Int} (h0:0≤c) (h1:c < 128):((toB c).toNat:Int)=c:=Zbp h0 (by omega)
theorem ZkE:Asc ZaC (fun c=>decide (c≤32)) where
 lo:=fun c h0 h1=>by unfold ZaC;rw [Za2 h0 h1]
 hi:=fun b hb=>by unfold ZaC;rw [decide_eq_false_iff_not];omega
 up:=fun c hc=>by rw [decide_eq_false_iff_not];omega
theorem Zem {p:UInt8→Bool} {P:Int→Bool} (h:∀ n:Fin 128,p (toB (n.val:Int))=P (n.val:Int)) (c:Int) (h0:0≤c) (h1:c < 128):p (toB c)=P c:=by
 have:=h ⟨c.toNat,by omega⟩
 rw [show ((⟨c.toNat,by omega⟩:Fin 128).val:Int)=c from by simp;omega] at this
 exact this
theorem Zqh:Asc Zdw (fun c=>among c [9,10,13]) where
 lo:=Zem (by decide)
 hi:=fun b hb=>by unfold Zdw;simp;omega
 up:=fun c hc=>by simp [among];omega
theorem ZdT {α:Type} {p:α→Bool} {l:List α} {c:α} (h:c∈l.dropWhile p):c∈l:=(List.dropWhile_sublist p).subset h
theorem ZhI {l:List Int} {c:Int} (h:c∈trimmed l):c∈l:=by
 unfold trimmed Zd1 Zjf at h
 exact ZdT (List.mem_reverse.1 (ZdT (List.mem_reverse.1 h)))
def ZkF (l:List UInt8):List Int:=flat (trimmed (Zl l))
theorem Zqi (l:List UInt8):∀ c∈ZkF l,Sc c:=fun c hc=>Zdv l c (ZhI (List.mem_filter.1 hc).1)
theorem ZoA (l:List Int) (hl:∀ c∈l,Pt c):trimB (Zb l)=Zb (trimmed l):=by
 unfold trimB trimmed Zd1 Zjf
 rw [ZkE.dropWhile l hl,ZkE.dropEnd _ (fun c hc=>hl c (ZdT hc))]
theorem ZoB (l:List Int) (hl:∀ c∈l,Pt c):noBreaks (Zb l)=Zb (flat l):=by
 unfold noBreaks flat
 exact Zqh.filter l hl
theorem Zl5 (l:List UInt8):wholeText l=Zb (ZkF l):=by
 unfold wholeText ZkF
 rw [← ZaZ,ZoA _ (fun c hc=>(Zdv l c hc).pt),ZoB _ (fun c hc=>(Zdv l c (ZhI hc)).pt)]
theorem Zdx:Asc (fun b=>alpha b.toNat) alpha where
 lo:=Zem (p:=fun b=>alpha b.toNat) (P:=alpha) (by decide)
 hi:=fun b hb=>by simp [alpha];omega
 up:=fun c hc=>by simp [alpha];omega
theorem ZsB:Asc Zf9 ZcU where
 lo:=Zem (by decide)
 hi:=fun b hb=>by simp [Zf9,alpha];omega
 up:=fun c hc=>by simp [ZcU,alpha,numeral,among];omega
theorem ZkG (a:List Int) (hl:∀ c∈a,Pt c):Zb1 (Zb a)=ZkD a:=by
 cases a with
 | nil=>rfl
 | cons c r=>
  unfold ZkD
  rw [List.headD_cons,List.all_cons,bytesOf_cons]
  have hr:=ZsB.all r (fun x hx=>hl x (by simp [hx]))
  rcases Z9 (hl c (by simp)) with ⟨h0,h1,e⟩ | ⟨h0,e1,e⟩
  ·rw [e,List.singleton_append]
   show (alpha ((toB c).toNat:Int) && (Zb r).all Zf9)=_
   rw [Za2 h0 h1,hr]
   cases ha:alpha c
   ·rfl
   ·have:ZcU c=true:=by unfold ZcU;rw [ha];rfl
    rw [this];rfl
  ·rw [Zdx.up c h0]
   cases hx:(utf c).map toB with
   | nil=>exact absurd hx e1
   | cons b q=>
    show (alpha (b.toNat:Int) && _)=_
    rw [Zdx.hi b (e b (by rw [hx];simp))];rfl
theorem ZiL:Zr2 (isB 58) [58]:=ZdP 58 (by decide) (by decide) 58 (by decide)
theorem Zqj:Zr2 (isB 35) [35]:=ZdP 35 (by decide) (by decide) 35 (by decide)
theorem ZoC:Zr2 (isB 63) [63]:=ZdP 63 (by decide) (by decide) 63 (by decide)
theorem ZeK (sp:Bool):Zr2 (slB sp) (if sp then [47,92] else [47]):=by
 cases sp
 ·exact ⟨Zem (P:=fun c=>among c [47]) (by decide),fun b hb=>by simp [slB,Zdp];omega,fun c hc=>by simp [among];omega⟩
 ·exact ⟨Zem (P:=fun c=>among c [47,92]) (by decide),fun b hb=>by simp [slB,Zdp];omega,fun c hc=>by simp [among];omega⟩
theorem ZkH (l:List Int) (hl:∀ c∈l,Pt c):ZaD (Zb l)=((schemeOf l).1,Zb (schemeOf l).2.1,(schemeOf l).2.2):=by
 have hc:=Zaj ZiL l hl
 unfold ZaD schemeOf
 rw [hc]
 simp only
 rw [ZkG _ (fun c h=>hl c (ZA (Or.inl h)))]
 by_cases h:(cut l [58]).2.2=true∧ZkD (cut l [58]).1=true
 ·rw [if_pos h,if_pos (by rw [h.1,h.2];rfl)]
 ·rw [if_neg h,if_neg (by simpa using h)]
def ZgX (gs:List (List UInt8)):List UInt8:=gs.flatMap fun g=>[58]++g
def ZgY:List (List UInt8)→List UInt8
 | []=>[]
 | g :: r=>g++ZgX r
abbrev hx (x:Int):List UInt8:=ZeX x.toNat
theorem tailC_cons (g:List UInt8) (r:List (List UInt8)):ZgX (g :: r)=[58]++g++ZgX r:=by simp [ZgX]
theorem Zus (ns:List Int) (hl:ns.length=8) (st ln:Nat):∀ f i,st + ln≤i→st < i→8≤i + f→ZhA ns st ln f i=if i=st + ln then ZgY ((ns.drop i).map hx) else ZgX ((ns.drop i).map hx):=by
 intro f
 induction f with
 | zero=>
  intro i h1 h2 h3
  rw [ZhA,List.drop_of_length_le (by omega)]
  split <;> rfl
 | succ f ih=>
  intro i h1 h2 h3
  rw [ZhA]
  by_cases h8:8≤i
  ·rw [if_pos h8,List.drop_of_length_le (by omega)]
   split <;> rfl
  ·have hi:i < ns.length:=by omega
   have ihh:=ih (i + 1) (by omega) (by omega) (by omega)
   rw [if_neg (by omega:¬ i + 1=st + ln)] at ihh
   rw [if_neg h8,if_neg (by omega),ihh,List.drop_eq_getElem_cons hi,List.map_cons,List.getD_eq_getElem?_getD,List.getElem?_eq_getElem hi]
   by_cases he:i=st + ln
   ·rw [if_neg (fun h=>h.2 he),if_pos he];rfl
   ·rw [if_pos ⟨by omega,he⟩,if_neg he,tailC_cons];rfl
theorem Znh (ns:List Int) (hl:ns.length=8) (st ln:Nat) (hst:st < 8) (hln:1≤ln):∀ f i,i≤st→8≤i + f →
  ZhA ns st ln f i=(if i=0 then ZgY (((ns.take st).drop i).map hx) else ZgX (((ns.take st).drop i).map hx))++([58,58]++ZgY ((ns.drop (st + ln)).map hx)):=by
 intro f
 induction f with
 | zero=>intro i h1 h2;omega
 | succ f ih=>
  intro i h1 h2
  rw [ZhA,if_neg (by omega)]
  by_cases he:i=st
  ·have hb:=Zus ns hl st ln f (i + ln) (by omega) (by omega) (by omega)
   rw [if_pos (by omega:i + ln=st + ln)] at hb
   rw [if_pos he,hb,List.drop_of_length_le (by rw [List.length_take];omega:(ns.take st).length≤i)]
   subst he
   split <;> rfl
  ·have hi:i < (ns.take st).length:=by rw [List.length_take];omega
   have ihh:=ih (i + 1) (by omega) (by omega)
   rw [if_neg (by omega:¬ i + 1=0)] at ihh
   rw [if_neg he,ihh,List.drop_eq_getElem_cons hi,List.map_cons,List.getElem_take,List.getD_eq_getElem?_getD,List.getElem?_eq_getElem (by omega:i < ns.length)]
   by_cases h0:i=0
   ·subst h0
    rw [if_neg (by omega),if_pos rfl,ZgY]
    simp
   ·rw [if_pos ⟨by omega,by omega⟩,if_neg h0,tailC_cons]
    simp
theorem ZtQ (ns:List Int) (hl:ns.length=8) (st ln:Nat) (hst:8≤st):∀ f i,8≤i + f →
  ZhA ns st ln f i=if i=0 then ZgY ((ns.drop i).map hx) else ZgX ((ns.drop i).map hx):=by
 intro f
 induction f with
 | zero=>
  intro i h2
  rw [ZhA,List.drop_of_length_le (by omega)]
  split <;> rfl
 | succ f ih=>
  intro i h2
  rw [ZhA]
  by_cases h8:8≤i
  ·rw [if_pos h8,List.drop_of_length_le (by omega)]
   split <;> rfl
  ·have hi:i < ns.length:=by omega
   have ihh:=ih (i + 1) (by omega)
   rw [if_neg (by omega:¬ i + 1=0)] at ihh
   rw [if_neg h8,if_neg (by omega),ihh,List.drop_eq_getElem_cons hi,List.map_cons,List.getD_eq_getElem?_getD,List.getElem?_eq_getElem hi]
   by_cases he:i=0
   ·rw [if_neg (by omega),if_pos he];rfl
   ·rw [if_pos ⟨by omega,by omega⟩,if_neg he,tailC_cons];rfl
def Zvk (ns:List Int) (st ln:Nat):Prop:=(st=8∧ln=1)∨(st + ln≤8∧1≤ln∧∀ k,st≤k→k < st + ln→ns.getD k 0=0)
theorem ZvQ (ns:List Int) (hl:ns.length=8):∀ (rest:List Int) i st ln run,rest=ns.drop i→run≤i→i≤8→1≤ln→(∀ k,i - run≤k→k < i→ns.getD k 0=0)→((st=8∧ln=1)∨(st + ln≤8∧∀ k,st≤k→k < st + ln→ns.getD k 0=0))→Zvk ns (lrGo i st ln run rest).1 (lrGo i st ln run rest).2:=by
 intro rest
 induction rest with
 | nil=>
  intro i st ln run h1 h2 h3 h4 h5 h6
  rw [lrGo]
  rcases h6 with h | ⟨h,k⟩
  ·exact Or.inl h
  ·exact Or.inr ⟨h,h4,k⟩
 | cons x r ih=>
  intro i st ln run h1 h2 h3 h4 h5 h6
  have hi:i < ns.length:=by
   rcases Nat.lt_or_ge i ns.length with h | h
   ·exact h
   ·rw [List.drop_of_length_le h] at h1;cases h1
  rw [List.drop_eq_getElem_cons hi] at h1
  obtain ⟨hx0,hr⟩:=List.cons.inj h1
  have hrun:∀ k,i + 1 - (if x=0 then run + 1 else 0)≤k→k < i + 1→ns.getD k 0=0:=by
   intro k k1 k2
   split at k1
   ·next hz=>
    by_cases hk:k=i
    ·subst hk;rw [List.getD_eq_getElem?_getD,List.getElem?_eq_getElem hi,← hx0];exact hz
    ·exact h5 k (by omega) (by omega)
   ·omega
  have hrl:(if x=0 then run + 1 else 0)≤i + 1:=by split <;> omega
  rw [lrGo]
  generalize (if x=0 then run + 1 else 0)=run' at *
  split
  ·refine ih (i + 1) _ _ _ hr hrl (by omega) (by omega) hrun (Or.inr ⟨by omega,fun k k1 k2=>hrun k k1 (by omega)⟩)
  ·exact ih (i + 1) _ _ _ hr hrl (by omega) h4 hrun h6
theorem ZiM (ns:List Int) (hl:ns.length=8):Zvk ns (ZW ns).1 (ZW ns).2:=
 ZvQ ns hl ns 0 8 1 0 rfl (Nat.le_refl _) (by omega) (Nat.le_refl _) (fun k _ h=>absurd h (Nat.not_lt_zero _)) (Or.inl ⟨rfl,rfl⟩)
def NG:List UInt8→Prop
 | []=>True
 | c :: r=>(c=58→∃ d q,r=d :: q∧d≠58)∧NG r
theorem Zni:∀ (l:List UInt8),NG l→cutGap l=([],[],false)
 | [],_=>rfl
 | [_],_=>rfl
 | c :: d :: r,h=>by
  rw [cutGap,if_neg,Zni (d :: r) h.2,if_neg (by decide)]
  rintro ⟨h1,h2⟩
  obtain ⟨e,q,he,hne⟩:=h.1 h1
  cases he
  exact hne h2
theorem ZtR:∀ (a r:List UInt8),NG a→cutGap (a++([58,58]++r))=(a,r,true)
 | [],r,_=>by simp [cutGap]
 | [c],r,h=>by
  have hc:¬ c=58:=fun e=>by obtain ⟨d,q,hq,-⟩:=h.1 e;cases hq
  show cutGap (c :: 58 :: 58 :: r)=_
  rw [cutGap,if_neg (fun e=>hc e.1)]
  simp [cutGap]
 | c :: d :: a,r,h=>by
  have ih:=ZtR (d :: a) r h.2
  show cutGap (c :: d :: (a++([58,58]++r)))=_
  rw [cutGap,if_neg]
  ·rw [show d :: (a++([58,58]++r))=(d :: a)++([58,58]++r) from rfl,ih]
   simp
  ·rintro ⟨h1,h2⟩
   obtain ⟨e,q,he,hne⟩:=h.1 h1
   cases he
   exact hne h2
def Zut (g:List UInt8):Prop:=g≠[]∧∀ b∈g,b≠58
theorem ZtS {g l:List UInt8} (h:∀ b∈g,b≠58) (hl:NG l):NG (g++l):=by
 induction g with
 | nil=>exact hl
 | cons c r ih=>exact ⟨fun e=>absurd e (h c (by simp)),ih (fun b hb=>h b (by simp [hb]))⟩
theorem Zuu {gs:List (List UInt8)} (h:∀ g∈gs,Zut g):NG (ZgX gs):=by
 induction gs with
 | nil=>exact True.intro
 | cons g r ih=>
  rw [tailC_cons,List.append_assoc]
  show NG (58 :: (g++ZgX r))
  obtain ⟨hn,hb⟩:=h g (by simp)
  refine ⟨fun _=>?_,ZtS (g:=g) hb (ih fun q hq=>h q (by simp [hq]))⟩
  cases g with
  | nil=>exact absurd rfl hn
  | cons d q=>exact ⟨d,q++ZgX r,rfl,hb d (by simp)⟩
theorem Zqk {gs:List (List UInt8)} (h:∀ g∈gs,Zut g):NG (ZgY gs):=by
 cases gs with
 | nil=>exact True.intro
 | cons g r=>exact ZtS (h g (by simp)).2 (Zuu fun q hq=>h q (by simp [hq]))
theorem ZtT {b:UInt8}:isB 58 b=true↔b=58:=by
 unfold isB
 rw [beq_iff_eq]
 constructor
 ·intro h
  have h2:b.toNat=(58:UInt8).toNat:=by show b.toNat=58;omega
  exact UInt8.toNat_inj.1 h2
 ·intro h;subst h;rfl
theorem Zdy (g l:List UInt8) (n:Int) (h:∀ b∈g,isB n b=false):bsplit n (g++l)=match bsplit n l with | []=>[g] | p :: q=>(g++p) :: q:=by
 induction g with
 | nil=>
  obtain ⟨p,q,hpq⟩:=Zfz n l
  rw [List.nil_append,hpq]
  rfl
 | cons c r ih=>
  rw [List.cons_append,bsplit,if_neg (by rw [h c (by simp)];decide),ih (fun b hb=>h b (by simp [hb]))]
  obtain ⟨p,q,hpq⟩:=Zfz n l
  rw [hpq]
  rfl
theorem ZoD {gs:List (List UInt8)} (h:∀ g∈gs,Zut g):bsplit 58 (ZgX gs)=[] :: gs:=by
 induction gs with
 | nil=>rfl
 | cons g r ih=>
  have hb:∀ b∈g,isB 58 b=false:=fun b hb=>by
   cases hh:isB 58 b
   ·rfl
   ·exact absurd (ZtT.1 hh) ((h g (by simp)).2 b hb)
  rw [tailC_cons,List.append_assoc]
  show bsplit 58 (58 :: (g++ZgX r))=_
  rw [bsplit,if_pos (by decide),Zdy g _ 58 hb,ih (fun q hq=>h q (by simp [hq]))]
  simp
theorem ZoE {g:List UInt8} {r:List (List UInt8)} (h:∀ q∈g :: r,Zut q):bsplit 58 (ZgY (g :: r))=g :: r:=by
 have hb:∀ b∈g,isB 58 b=false:=fun b hb=>by
  cases hh:isB 58 b
  ·rfl
  ·exact absurd (ZtT.1 hh) ((h g (by simp)).2 b hb)
 rw [ZgY,Zdy g _ 58 hb,ZoD (fun q hq=>h q (by simp [hq]))]
 simp
theorem Znj {d:Nat} (h:d≤15):ZL ((Zc3 d).toNat:Int) 16=((d:Int),true)∧Zc3 d≠58∧Zc3 d≠46:=by
 match d,h with
 | 0,_=>decide
 | 1,_=>decide
 | 2,_=>decide
 | 3,_=>decide
 | 4,_=>decide
 | 5,_=>decide
 | 6,_=>decide
 | 7,_=>decide
 | 8,_=>decide
 | 9,_=>decide
 | 10,_=>decide
 | 11,_=>decide
 | 12,_=>decide
 | 13,_=>decide
 | 14,_=>decide
 | 15,_=>decide
theorem ZsC (n:Nat):(ZeX n).length≤4:=by unfold ZeX;(repeat' split) <;> simp
theorem hexD_ne (n:Nat):ZeX n≠[]:=by unfold ZeX;(repeat' split) <;> simp
theorem Znk {n:Nat} (h:n≤65535):∀ b∈ZeX n,b≠58∧b≠46:=by
 intro b hb
 have key:∀ d,d≤15→b=Zc3 d→b≠58∧b≠46:=fun d hd e=>by subst e;exact (Znj hd).2
 unfold ZeX at hb
 (repeat' split at hb) <;> simp only [List.mem_cons,List.not_mem_nil,or_false] at hb
 ·exact key _ (by omega) hb
 ·rcases hb with hb | hb <;> exact key _ (by omega) hb
 ·rcases hb with hb | hb | hb <;> exact key _ (by omega) hb
 ·rcases hb with hb | hb | hb | hb <;> exact key _ (by omega) hb
theorem Zbw (n d:Nat) (hd:d≤15) (hn:n≤65535) (r:List UInt8):numGo 16 65535 (n:Int) (Zc3 d :: r)=numGo 16 65535 ((n * 16 + d:Nat):Int) r:=by
 rw [numGo,(Znj hd).1,if_pos rfl,if_pos (by omega)]
 simp
theorem ZsD {n:Nat} (h:n≤65535):Zn (ZeX n) 16 65535=((n:Int),true):=by
 unfold Zn
 rw [if_neg (hexD_ne n)]
 have key:numGo 16 65535 0 (ZeX n)=some (n:Int):=by
  show numGo 16 65535 ((0:Nat):Int) (ZeX n)=_
  unfold ZeX
  split
  ·rw [Zbw 0 n (by omega) (by omega),numGo];simp
  split
  ·rw [Zbw 0 _ (by omega) (by omega),Zbw _ _ (by omega) (by omega),numGo];congr 1;omega
  split
  ·rw [Zbw 0 _ (by omega) (by omega),Zbw _ _ (by omega) (by omega),Zbw _ _ (by omega) (by omega),numGo];congr 1;omega
  ·rw [Zbw 0 _ (by omega) (by omega),Zbw _ _ (by omega) (by omega),Zbw _ _ (by omega) (by omega),Zbw _ _ (by omega) (by omega),numGo];congr 1;omega
 rw [key]
 show (if (65535:Int) < n then _ else _)=_
 rw [if_neg (by omega)]
theorem ZtU {x:Int} (h:0≤x∧x≤65535):Zut (hx x):=⟨hexD_ne _,fun b hb=>(Znk (by omega) b hb).1⟩
theorem Zvl {x:Int} (h:0≤x∧x≤65535) (g:List Int × Nat):Za8 g (hx x)=Zfd g x:=by
 have:=ZsD (n:=x.toNat) (by omega)
 unfold Za8
 rw [this,if_neg]
 ·congr 1;show ((x.toNat:Nat):Int)=x;omega
 ·rintro (e | e)
  ·cases e
  ·have:(hx x).length≤4:=ZsC x.toNat
   omega
theorem ZsE {l:List UInt8} (h:∀ b∈l,b≠46):among 46 l=false:=by
 cases hh:among 46 l
 ·rfl
 ·exfalso
  unfold among at hh
  obtain ⟨b,hb,he⟩:=List.any_eq_true.1 hh
  refine h b hb (UInt8.toNat_inj.1 ?_)
  have:=of_decide_eq_true (p:=(b.toNat:Int)=46) (by simpa using he)
  show b.toNat=46
  omega
theorem ZeL:∀ (xs zs:List Int) (n:Nat),n + xs.length≤zs.length→putGo zs n xs=zs.take n++xs++zs.drop (n + xs.length):=by
 intro xs
 induction xs with
 | nil=>intro zs n h;rw [putGo];simp
 | cons x r ih=>
  intro zs n h
  simp only [List.length_cons] at h
  rw [putGo,ih (zs.set n x) (n + 1) (by rw [List.length_set];omega)]
  rw [List.take_set,List.drop_set,if_pos (by omega),List.take_succ_eq_append_getElem (by omega)]
  have:(zs.take n++[zs[n]]).set n x=zs.take n++[x]:=by
   rw [List.set_append_right _ _ (by rw [List.length_take];omega)]
   rw [List.length_take,Nat.min_eq_left (by omega),Nat.sub_self]
   rfl
  rw [this,List.length_cons,show n + 1 + r.length=n + (r.length + 1) by omega]
  simp
theorem ZsF (en:Bool):∀ (xs zs:List Int) (n:Nat),GOk xs→n + xs.length≤8→grpGo en (zs,n) (xs.map hx)=some (putGo zs n xs,n + xs.length):=by
 intro xs
 induction xs with
 | nil=>intro zs n _ _;rfl
 | cons x r ih=>
  intro zs n h hl
  simp only [List.length_cons] at hl
  have hx0:=h x (by simp)
  have ha:Za8 (zs,n) (hx x)=((zs.set n x,n + 1),true):=by rw [Zvl hx0];unfold Zfd;rw [if_pos (by show n < 8;omega)]
  rw [List.map_cons,grpGo,ZsE (fun b hb=>(Znk (by omega) b hb).2),if_neg (by rintro ⟨-,-,e⟩;cases e),ha,if_pos rfl,ih _ _ (fun y hy=>h y (by simp [hy])) (by omega),putGo,List.length_cons]
  congr 2;omega
theorem Zgc (en:Bool) (xs:List Int) (h:GOk xs) (hl:xs.length≤8):Zx (ZgY (xs.map hx)) en=((putGo zeros8 0 xs,xs.length),true):=by
 cases xs with
 | nil=>rfl
 | cons x r=>
  have hg:∀ q∈(x :: r).map hx,Zut q:=fun q hq=>by
   obtain ⟨y,hy,rfl⟩:=List.mem_map.1 hq
   exact ZtU (h y hy)
  have hs:=ZoE (g:=hx x) (r:=r.map hx) hg
  have hgo:=ZsF en (x :: r) zeros8 0 h (by simpa using hl)
  unfold Zx
  rw [if_neg,List.map_cons,hs]
  ·rw [show zeroG=(zeros8,0) from rfl,← List.map_cons,hgo]
   simp
  ·rw [List.map_cons,ZgY]
   intro e
   exact hexD_ne _ (List.append_eq_nil_iff.1 e).1
theorem ZsG {a b:List Int} {n:Nat} (h:∀ k,k < n→(a.getD k 0)=0) (hl:a.length=n) (hb:b=List.replicate n 0):a=b:=by
 subst hb
 refine List.ext_getElem (by simp [hl]) fun i h1 h2=>?_
 have:=h i (by omega)
 rw [List.getD_eq_getElem?_getD,List.getElem?_eq_getElem h1] at this
 simpa using this
theorem ZsH {ns:List Int} (hl:ns.length=8) (h:GOk ns):ip6 (ZfG ns)=(ns,true):=by
 have hok:=ZiM ns hl
 unfold ZfG
 generalize (ZW ns).1=st at *
 generalize (ZW ns).2=ln at *
 have hgr:∀ xs:List Int,GOk xs→∀ q∈xs.map hx,Zut q:=fun xs hxs q hq=>by
  obtain ⟨y,hy,rfl⟩:=List.mem_map.1 hq
  exact ZtU (hxs y hy)
 by_cases h8:8≤st
 ·have ht:=ZtQ ns hl st ln h8 8 0 (by omega)
  rw [if_pos rfl,List.drop_zero] at ht
  rw [ht]
  unfold ip6
  rw [Zni _ (Zqk (hgr ns h)),if_pos rfl]
  unfold ZgA
  rw [Zgc true ns h (by omega),if_neg (by rintro (e | e);cases e;exact e hl),ZeL ns zeros8 0 (by rw [hl];decide),hl]
  simp [zeros8]
 ·rcases hok with ⟨e,-⟩ | ⟨h1,h2,h3⟩
  ·omega
  ·have ht:=Znh ns hl st ln (by omega) h2 8 0 (by omega) (by omega)
   rw [if_pos rfl,List.drop_zero] at ht
   rw [ht]
   have ga:GOk (ns.take st):=fun x hx=>h x (List.mem_of_mem_take hx)
   have gb:GOk (ns.drop (st + ln)):=fun x hx=>h x (List.mem_of_mem_drop hx)
   have la:(ns.take st).length=st:=by rw [List.length_take];omega
   have lb:(ns.drop (st + ln)).length=8 - (st + ln):=by rw [List.length_drop];omega
   unfold ip6
   rw [ZtR _ _ (Zqk (hgr _ ga)),if_neg (by intro e;cases e)]
   simp only
   rw [Zgc false _ ga (by omega),Zgc true _ gb (by omega)]
   simp only
   rw [la,lb,if_neg (by rintro (e | e | e);cases e;cases e;omega),ZeL (ns.drop (st + ln)) zeros8 0 (by rw [lb];show 0 + _≤8;omega)]
   have hz:zeros8.length=8:=rfl
   rw [List.take_zero,List.nil_append,List.take_left' lb]
   rw [ZeL (ns.take st) zeros8 0 (by rw [la,hz];omega),List.take_zero,List.nil_append,la]
   rw [show 8 - (8 - (st + ln))=st + ln by omega]
   have l3:(ns.take st++zeros8.drop (0 + st)).length=8:=by rw [List.length_append,la,List.length_drop,hz];omega
   rw [ZeL _ _ _ (by rw [lb,l3];omega),lb,show st + ln + (8 - (st + ln))=8 by omega,List.drop_of_length_le (Nat.le_of_eq l3),List.append_nil]
   refine Prod.ext ?_ rfl
   show List.take (st + ln) (ns.take st++zeros8.drop (0 + st))++ns.drop (st + ln)=ns
   conv=>rhs;rw [← List.take_append_drop (st + ln) ns]
   congr 1
   rw [List.take_append,List.take_of_length_le (by omega:(ns.take st).length≤st + ln),la,show st + ln - st=ln by omega]
   have hsplit:ns.take (st + ln)=ns.take st++(ns.drop st).take ln:=by
    rw [List.take_add]
   rw [hsplit]
   congr 1
   have hrep:zeros8.drop (0 + st)=List.replicate (8 - st) 0:=by
    show (List.replicate 8 (0:Int)).drop (0 + st)=_
    rw [List.drop_replicate];congr 1;omega
   symm
   refine ZsG (n:=ln) (fun k hk=>?_) (by rw [List.length_take,List.length_drop];omega) ?_
   ·have:=h3 (st + k) (by omega) (by omega)
    rw [List.getD_eq_getElem?_getD] at this ⊢
    rw [List.getElem?_take,if_pos hk,List.getElem?_drop]
    exact this
   ·rw [hrep,List.take_replicate];congr 1;omega
def Pr (l:List UInt8):Prop:=∀ b∈l,32≤b.toNat∧b.toNat≤126
theorem pr_nil:Pr []:=fun b hb=>by cases hb
theorem ZfL {a b:List UInt8} (ha:Pr a) (hb:Pr b):Pr (a++b):=fun x hx=>(List.mem_append.1 hx).elim (ha x) (hb x)
theorem ZeZ {c:UInt8} (h1:32≤c.toNat) (h2:c.toNat≤126):Pr [c]:=fun b hb=>by rw [List.mem_singleton] at hb;subst hb;exact ⟨h1,h2⟩
theorem Zl6 {c:UInt8} {l:List UInt8} (h1:32≤c.toNat) (h2:c.toNat≤126) (h:Pr l):Pr (c :: l):=ZfL (a:=[c]) (ZeZ h1 h2) h
theorem Zjz {n:Nat} (h1:32≤n) (h2:n≤126):32≤(UInt8.ofNat n).toNat∧(UInt8.ofNat n).toNat≤126:=by
 rw [UInt8.toNat_ofNat',Nat.mod_eq_of_lt (by omega)];exact ⟨h1,h2⟩
theorem ZtV {n:Int} (h1:32≤n) (h2:n≤126):32≤(toB n).toNat∧(toB n).toNat≤126:=Zjz (by omega) (by omega)
theorem ZiN {n:Int} (h0:0≤n) (h1:n < 16):32≤capital n∧capital n≤126:=by unfold capital;split <;> omega
theorem ZiO (set:List UInt8) (b:UInt8):Pr (Z6 set b):=by
 have hb:=b.toNat_lt
 unfold Z6
 split
 ·have h1:=ZiN (n:=(b.toNat:Int) / 16) (by omega) (by omega)
  have h2:=ZiN (n:=(b.toNat:Int) % 16) (by omega) (by omega)
  have k1:=ZtV h1.1 h1.2
  have k2:=ZtV h2.1 h2.2
  exact Zl6 (by decide) (by decide) (Zl6 k1.1 k1.2 (ZeZ k2.1 k2.2))
 ·next h=>
  refine ZeZ ?_ ?_
  ·have:¬ (b.toNat:Int) < 32:=fun hh=>h (Or.inl hh)
   omega
  ·have:¬ 126 < (b.toNat:Int):=fun hh=>h (Or.inr (Or.inl hh))
   omega
theorem Zen (set l:List UInt8):Pr (encB set l):=by
 intro b hb
 unfold encB at hb
 obtain ⟨c,-,hc⟩:=List.mem_flatMap.1 hb
 exact ZiO set c b hc
theorem Zuv {d:Nat} (h:d≤9):48≤(ZgV d).toNat∧(ZgV d).toNat≤57:=by
 unfold ZgV;rw [UInt8.toNat_ofNat',Nat.mod_eq_of_lt (by omega)];omega
def Dg (l:List UInt8):Prop:=∀ b∈l,48≤b.toNat∧b.toNat≤57
theorem Dg.pr {l:List UInt8} (h:Dg l):Pr l:=fun b hb=>by have:=h b hb;omega
theorem Zgd {n:Nat} (h:n≤99999):Dg (ZbU n):=by
 intro b hb
 have key:∀ d,d≤9→b=ZgV d→48≤b.toNat∧b.toNat≤57:=fun d hd e=>by subst e;exact Zuv hd
 unfold ZbU at hb
 (repeat' split at hb) <;> simp only [List.mem_cons,List.not_mem_nil,or_false] at hb
 ·exact key _ (by omega) hb
 ·rcases hb with hb | hb <;> exact key _ (by omega) hb
 ·rcases hb with hb | hb | hb <;> exact key _ (by omega) hb
 ·rcases hb with hb | hb | hb | hb <;> exact key _ (by omega) hb
 ·rcases hb with hb | hb | hb | hb | hb <;> exact key _ (by omega) hb
theorem Zuw (v:Nat):∀ k,Pr (ZlU v k):=by
 intro k
 induction k with
 | zero=>exact pr_nil
 | succ k ih=>
  rw [ZlU]
  have:v / 256 ^ k % 256 < 256:=Nat.mod_lt _ (by decide)
  refine ZfL (Zgd (by omega)).pr ?_
  split
  ·exact ZfL (ZeZ (by decide) (by decide)) ih
  ·exact ih
theorem Zux {d:Nat} (h:d≤15):32≤(Zc3 d).toNat∧(Zc3 d).toNat≤126:=by
 unfold Zc3
 split
 ·exact Zjz (by omega) (by omega)
 ·exact Zjz (by omega) (by omega)
theorem Zuy {n:Nat} (h:n≤65535):Pr (ZeX n):=by
 intro b hb
 have key:∀ d,d≤15→b=Zc3 d→32≤b.toNat∧b.toNat≤126:=fun d hd e=>by subst e;exact Zux hd
 unfold ZeX at hb
 (repeat' split at hb) <;> simp only [List.mem_cons,List.not_mem_nil,or_false] at hb
 ·exact key _ (by omega) hb
 ·rcases hb with hb | hb <;> exact key _ (by omega) hb
 ·rcases hb with hb | hb | hb <;> exact key _ (by omega) hb
 ·rcases hb with hb | hb | hb | hb <;> exact key _ (by omega) hb
theorem ZvR {ns:List Int} (h:GOk ns) (st ln:Nat):∀ f i,Pr (ZhA ns st ln f i):=by
 intro f
 induction f with
 | zero=>intro i;exact pr_nil
 | succ f ih=>
  intro i
  rw [ZhA]
  split
  ·exact pr_nil
  split
  ·exact ZfL (Zl6 (by decide) (by decide) (ZeZ (by decide) (by decide))) (ih _)
  ·refine ZfL (ZfL ?_ (Zuy ?_)) (ih _)
   ·split
    ·exact ZeZ (by decide) (by decide)
    ·exact pr_nil
   ·by_cases hi:i < ns.length
    ·have:=h ns[i] (List.getElem_mem hi)
     rw [List.getD_eq_getElem?_getD,List.getElem?_eq_getElem hi]
     simp only [Option.getD_some]
     omega
    ·rw [List.getD_eq_getElem?_getD,List.getElem?_eq_none (by omega)]
     simp
theorem Zl7 {l:List UInt8} (h1:beyondB l=false) (h2:plainDom l=true):Pr l:=by
 intro b hb
 unfold beyondB at h1
 unfold plainDom at h2
 have h3:(l.any Zid)=false:=by
  cases h:l.any Zid
  ·rfl
  ·rw [h] at h2;simp at h2
 have k1:=List.any_eq_false.1 h1 b hb
 have k2:=List.any_eq_false.1 h3 b hb
 unfold Zid at k2
 simp only [Bool.or_eq_true,decide_eq_true_eq,beq_iff_eq,not_or] at k1 k2
 omega
theorem Znl (l:List UInt8) (sp:Bool):Pr (ZR l sp).1:=by
 unfold ZR
 split
 ·unfold Zap
  split
  ·exact pr_nil
  split
  ·refine ZfL (ZfL (ZeZ (by decide) (by decide)) ?_) (ZeZ (by decide) (by decide))
   exact ZvR (Znc _) _ _ _ _
  ·exact pr_nil
 split
 ·unfold ZaA
  split
  ·exact pr_nil
  next hb=>
   split
   ·exact pr_nil
   next hp=>
    unfold Zd0
    split
    ·refine Zl7 ?_ ?_
     ·cases h:beyondB (lower (Zw l))
      ·rfl
      ·rw [h] at hb;simp at hb
     ·cases h:plainDom (lower (Zw l))
      ·exact absurd h hp
      ·rfl
    split
    ·exact Zuw _ _
    ·exact pr_nil
 ·unfold ZbW
  split
  ·exact pr_nil
  ·exact Zen _ _
theorem decD_ne (n:Nat):ZbU n≠[]:=by unfold ZbU;(repeat' split) <;> simp
theorem ZkI (want:Int):∀ l lo hi sz,sz≤Zaf want lo hi sz l:=by
 intro l
 induction l with
 | nil=>intro lo hi sz;rw [Zaf];exact Nat.le_refl _
 | cons c r ih=>
  intro lo hi sz
  rw [Zaf]
  split
  ·exact Nat.le_trans (Nat.le_succ _) (ih _ _ _)
  ·exact Nat.le_refl _
theorem ZjA {l:List UInt8} (h:l≠[]):clean l≠[]:=by
 cases l with
 | nil=>exact absurd rfl h
 | cons c r=>
  conv=>lhs;unfold clean
  intro e
  have e1:=(List.append_eq_nil_iff.1 e).1
  split at e1
  ·have h1:1≤(measure (c :: r)).1:=by show 1≤Zaf _ _ _ 1 r;exact ZkI _ _ _ _ _
   have:=congrArg List.length e1
   rw [List.length_take] at this
   simp only [List.length_cons,List.length_nil] at this
   omega
  ·cases e1
theorem Zql {set l:List UInt8} (h:l≠[]):encB set l≠[]:=by
 cases l with
 | nil=>exact absurd rfl h
 | cons c r=>
  unfold encB
  rw [List.flatMap_cons]
  intro e
  have e1:=(List.append_eq_nil_iff.1 e).1
  unfold Z6 at e1
  split at e1 <;> cases e1
theorem ZsI {l:List UInt8} {sp:Bool} (h:l≠[]) (h0:(ZR l sp).2=0):(ZR l sp).1≠[]:=by
 unfold ZR at h0 ⊢
 split
 ·next hb=>
  rw [if_pos hb] at h0
  unfold Zap at h0 ⊢
  split
  ·next hc=>rw [if_pos hc] at h0;cases h0
  split
  ·simp
  ·next hc hd=>rw [if_neg hc,if_neg hd] at h0;cases h0
 next hb=>
  rw [if_neg hb] at h0
  split
  ·next hs=>
   rw [if_pos hs] at h0
   unfold ZaA at h0 ⊢
   split
   ·next hc=>rw [if_pos hc] at h0;cases h0
   next hc=>
    rw [if_neg hc] at h0
    split
    ·next hd=>rw [if_pos hd] at h0;cases h0
    next hd=>
     rw [if_neg hd] at h0
     unfold Zd0 at h0 ⊢
     split
     ·intro e
      have e':lower (Zw l)=[]:=e
      rw [e'] at hd
      exact hd (by decide)
     split
     ·show ZcR _≠[]
      unfold ZcR
      rw [ZlU]
      intro e
      exact decD_ne _ (List.append_eq_nil_iff.1 e).1
     ·next h1 h2=>rw [if_neg h1,if_neg h2] at h0;cases h0
  ·next hs=>
   rw [if_neg hs] at h0
   unfold ZbW at h0 ⊢
   split
   ·next hc=>rw [if_pos hc] at h0;cases h0
   ·exact Zql (ZjA h)
theorem ZcV:∀ {l:List UInt8},(∀ b∈l,b.toNat < 128)→clean l=l:=by
 intro l
 induction l with
 | nil=>intro _;exact clean_nil
 | cons c r ih=>
  intro h
  have hf:follow (c.toNat:Int)=(1,0,0):=if_pos (by have:=h c (by simp);omega)
  have hg:∀ q:List UInt8,Zaf 1 0 0 1 q=1:=fun q=>by
   cases q with
   | nil=>rfl
   | cons a b=>rw [Zaf,if_neg (by rintro ⟨e,-⟩;exact absurd e (by decide))]
  have hm:measure (c :: r)=(1,true):=by
   rw [measure,hf]
   simp only
   rw [hg]
   rfl
  rw [ZcE,hm]
  simp only [if_true,Nat.sub_self,List.drop_zero]
  rw [ih (fun b hb=>h b (by simp [hb]))]
  rfl
def Asis (set l:List UInt8):Prop:=∀ b∈l,32≤b.toNat∧b.toNat≤126∧among (b.toNat:Int) set=false
theorem Zqm {set l:List UInt8} (h:Asis set l):encB set l=l:=by
 induction l with
 | nil=>rfl
 | cons c r ih=>
  have hc:=h c (by simp)
  unfold encB at ih ⊢
  rw [List.flatMap_cons,ih (fun b hb=>h b (by simp [hb]))]
  unfold Z6
  rw [if_neg]
  ·rfl
  ·rintro (e | e | e)
   ·omega
   ·omega
   ·rw [hc.2.2] at e;cases e
theorem Asis.clean {set l:List UInt8} (h:Asis set l):encB set (Go.Proofs.YtchkhibgbnhjpaaGreatDoor.clean l)=l:=by
 rw [ZcV (fun b hb=>by have:=h b hb;omega),Zqm h]
def Zij (set:List UInt8):Prop:=∀ n:Nat,n=37∨(48≤n∧n≤57)∨(65≤n∧n≤70)→among (n:Int) set=false
theorem Zbm {n:Int} (h0:0≤n) (h1:n < 16):(48≤(toB (capital n)).toNat∧(toB (capital n)).toNat≤57)∨(65≤(toB (capital n)).toNat∧(toB (capital n)).toNat≤70):=by
 unfold capital toB
 split
 ·left;rw [UInt8.toNat_ofNat',Nat.mod_eq_of_lt (by omega)];omega
 ·right;rw [UInt8.toNat_ofNat',Nat.mod_eq_of_lt (by omega)];omega
theorem Zck {set:List UInt8} (hs:Zij set) (l:List UInt8):Asis set (encB set l):=by
 intro b hb
 obtain ⟨c,-,hc⟩:=List.mem_flatMap.1 hb
 have hp:=ZiO set c b hc
 refine ⟨hp.1,hp.2,?_⟩
 have hcl:=c.toNat_lt
 unfold Z6 at hc
 split at hc
 ·simp only [List.mem_cons,List.not_mem_nil,or_false] at hc
  rcases hc with rfl | rfl | rfl
  ·exact hs 37 (Or.inl rfl)
  ·exact hs _ (Or.inr (Zbm (by omega) (by omega)))
  ·exact hs _ (Or.inr (Zbm (by omega) (by omega)))
 ·next hn=>
  rw [List.mem_singleton] at hc
  subst hc
  cases ha:among (b.toNat:Int) set
  ·rfl
  ·exact absurd (Or.inr (Or.inr ha)) hn
theorem ZeM {set:List UInt8} (h:∀ b∈set,¬ (b.toNat=37∨(48≤b.toNat∧b.toNat≤57)∨(65≤b.toNat∧b.toNat≤70))):Zij set:=by
 intro n hn
 cases ha:among (n:Int) set
 ·rfl
 ·exfalso
  unfold among at ha
  obtain ⟨b,hb,he⟩:=List.any_eq_true.1 ha
  have:b.toNat=n:=by have:=of_decide_eq_true (p:=(b.toNat:Int)=n) (by simpa using he);omega
  exact h b hb (by rw [this];exact hn)
theorem Zvm:Zij (tl (ZaG 0)):=ZeM (by decide)
theorem Zvn:Zij (tl (ZaG 1)):=ZeM (by decide)
theorem Zvo:Zij (tl (ZaG 2)):=ZeM (by decide)
theorem Zvp:Zij (tl (ZaG 3)):=ZeM (by decide)
theorem Zvq:Zij (tl (ZaG 4)):=ZeM (by decide)
theorem Znm:Zij (tl (ZaG 5)):=ZeM (by decide)
theorem Zuz {set:List UInt8} (hs:Zij set) (l:List UInt8):encB set (clean (encB set l))=encB set l:=(Zck hs l).clean
theorem ZiP:∀ {l:List UInt8},(∀ b∈l,b≠37)→Zw l=l:=by
 intro l
 induction l with
 | nil=>intro _;exact ZdK
 | cons c r ih=>
  intro h
  have hc:(ZcO (c :: r)).2=false:=by
   unfold ZcO
   split
   ·next e=>
    cases e
    rw [if_neg (fun e=>h c (by simp) e.1)]
   ·rfl
  rw [Zeb,hc,if_neg (by decide),ih (fun b hb=>h b (by simp [hb]))]
theorem ZsJ (b:UInt8):ZdG (ZdG b)=ZdG b:=by
 by_cases h:65≤b.toNat∧b.toNat≤90
 ·have:=Zjg h.1 h.2
  exact Zdq (by omega)
 ·rw [Zdq h,Zdq h]
theorem Zqn (l:List UInt8):lower (lower l)=lower l:=by
 unfold lower
 rw [List.map_map]
 exact List.map_congr_left fun b _=>ZsJ b
theorem ZsK {l:List UInt8} (h:∀ b∈l,¬ (65≤b.toNat∧b.toNat≤90)):lower l=l:=by
 unfold lower
 conv=>rhs;rw [← List.map_id l]
 exact List.map_congr_left fun b hb=>Zdq (h b hb)
theorem ZgH {l:List UInt8} (h:plainDom l=true):∀ b∈l,Zid b=false:=by
 intro b hb
 unfold plainDom at h
 rw [Bool.and_eq_true] at h
 have h3:(l.any Zid)=false:=by
  cases hh:l.any Zid
  ·rfl
  ·rw [hh] at h;exact absurd h.1 (by decide)
 have:=List.any_eq_false.1 h3 b hb
 simpa using this
theorem ZkJ {b:UInt8} (h:Zid b=false):b≠37∧b≠91:=by
 constructor
 ·rintro rfl;exact absurd h (by decide)
 ·rintro rfl;exact absurd h (by decide)
theorem ZhJ {l:List UInt8} (h:∀ b∈l,b≠91):¬ ((l.getD 0 0).toNat:Int)=91:=by
 cases l with
 | nil=>decide
 | cons c r=>
  intro e
  refine h c (by simp) (UInt8.toNat_inj.1 ?_)
  have e':(c.toNat:Int)=91:=e
  show c.toNat=91
  omega
theorem ZoF {l:List UInt8} (h0:(ZaA l).2=0) (he:ZbN (ZdZ (bsplit 46 (lower (Zw l))))=false):ZR (ZaA l).1 true=((ZaA l).1,0):=by
 unfold ZaA at h0 ⊢
 split at h0
 ·cases h0
 next h1=>
  split at h0
  ·cases h0
  next h2=>
   rw [if_neg h1,if_neg h2]
   have hd:Zd0 (lower (Zw l)) (ZdZ (bsplit 46 (lower (Zw l))))=(lower (Zw l),0):=if_pos he
   rw [hd]
   have hp:plainDom (lower (Zw l))=true:=by simpa using h2
   have hb:=ZgH hp
   have hx:lower (Zw (lower (Zw l)))=lower (Zw l):=by
    rw [ZiP (fun b hb'=>(ZkJ (hb b hb')).1),Zqn]
   show ZR (lower (Zw l)) true=_
   unfold ZR
   rw [if_neg (ZhJ fun b hb'=>(ZkJ (hb b hb')).2),if_pos rfl]
   unfold ZaA
   rw [hx,if_neg h1,if_neg h2,hd]
theorem ZhK:∀ (n:Nat) (l:List UInt8),l.length≤n→∀ b∈clean l,b∈l∨128≤b.toNat:=by
 intro n
 induction n with
 | zero=>
  intro l hl b hb
  have:l=[]:=List.length_eq_zero_iff.1 (by omega)
  subst this
  rw [clean_nil] at hb
  cases hb
 | succ n ih=>
  intro l hl b hb
  cases l with
  | nil=>rw [clean_nil] at hb;cases hb
  | cons c r=>
   rw [ZcE] at hb
   rcases List.mem_append.1 hb with hb | hb
   ·split at hb
    ·exact Or.inl (List.mem_of_mem_take hb)
    ·right
     simp only [List.mem_cons,List.not_mem_nil,or_false] at hb
     rcases hb with rfl | rfl | rfl <;> decide
   ·simp only [List.length_cons] at hl
    rcases ih (r.drop ((measure (c :: r)).1 - 1)) (by rw [List.length_drop];omega) b hb with h | h
    ·exact Or.inl (List.mem_cons_of_mem _ (List.mem_of_mem_drop h))
    ·exact Or.inr h
theorem ZuA {b:UInt8} (h:among (b.toNat:Int) ZdQ=true):b.toNat≤124∧¬ (b.toNat=37∨(48≤b.toNat∧b.toNat≤57)∨(65≤b.toNat∧b.toNat≤70)):=by
 unfold among at h
 obtain ⟨c,hc,he⟩:=List.any_eq_true.1 h
 have e:c.toNat=b.toNat:=by have:=of_decide_eq_true (p:=(c.toNat:Int)=b.toNat) (by simpa using he);omega
 have key:∀ c∈ZdQ,c.toNat≤124∧¬ (c.toNat=37∨(48≤c.toNat∧c.toNat≤57)∨(65≤c.toNat∧c.toNat≤70)):=by decide
 rw [← e]
 exact key c hc
theorem ZkK {set l:List UInt8} (h:(l.any fun b=>among b.toNat ZdQ)=false):((encB set (clean l)).any fun b=>among b.toNat ZdQ)=false:=by
 rw [List.any_eq_false]
 intro b hb ha
 have hf:=ZuA ha
 obtain ⟨c,hcm,hc⟩:=List.mem_flatMap.1 hb
 have hcl:=c.toNat_lt
 unfold Z6 at hc
 split at hc
 ·simp only [List.mem_cons,List.not_mem_nil,or_false] at hc
  rcases hc with rfl | rfl | rfl
  ·exact hf.2 (Or.inl rfl)
  ·exact hf.2 (Or.inr (Zbm (by omega) (by omega)))
  ·exact hf.2 (Or.inr (Zbm (by omega) (by omega)))
 ·rw [List.mem_singleton] at hc
  subst hc
  rcases ZhK _ l (Nat.le_refl _) b hcm with h1 | h1
  ·exact List.any_eq_false.1 h b h1 ha
  ·omega
theorem Zqo {l:List UInt8} (h0:(ZbW l).2=0):ZR (ZbW l).1 false=((ZbW l).1,0):=by
 unfold ZbW at h0 ⊢
 split at h0
 ·cases h0
 next h1=>
  rw [if_neg h1]
  have hf:(l.any fun b=>among b.toNat ZdQ)=false:=by simpa using h1
  have h2:=ZkK (set:=tl (ZaG 0)) hf
  show ZR (encB (tl (ZaG 0)) (clean l)) false=_
  unfold ZR
  rw [if_neg (ZhJ fun b hb e=>List.any_eq_false.1 h2 b hb (by rw [e];decide)),if_neg (by decide)]
  unfold ZbW
  rw [if_neg (by rw [h2];decide),Zuz Zvm]
theorem Zqp:∀ (xs zs:List Int) (n:Nat),(putGo zs n xs).length=zs.length:=by
 intro xs
 induction xs with
 | nil=>intro zs n;rw [putGo]
 | cons x r ih=>intro zs n;rw [putGo,ih,List.length_set]
theorem Zqq (en:Bool) (ps:List (List UInt8)):∀ g q,grpGo en g ps=some q→q.1.length=g.1.length:=by
 induction ps with
 | nil=>intro g q h;rw [grpGo] at h;cases h;rfl
 | cons p r ih=>
  intro g q h
  rw [grpGo] at h
  split at h
  ·split at h
   ·rw [ih _ _ h,Ziz]
   ·cases h
  ·split at h
   ·rw [ih _ _ h,ZeH]
   ·cases h
theorem ZhL (l:List UInt8) (en:Bool):(Zx l en).1.1.length=8:=by
 unfold Zx
 split
 ·rfl
 ·split
  ·rfl
  ·next h=>rw [Zqq _ _ _ _ h];rfl
theorem ZuB (l:List UInt8):(ip6 l).1.length=8:=by
 unfold ip6
 split
 ·unfold ZgA
  split
  ·rfl
  ·exact ZhL _ _
 split
 ·rfl
 ·rw [Zqp];exact ZhL _ _
theorem ZkL {l:List UInt8} (sp:Bool) (h0:(Zap l).2=0):ZR (Zap l).1 sp=((Zap l).1,0):=by
 unfold Zap at h0 ⊢
 split at h0
 ·cases h0
 next h1=>
  split at h0
  ·next h2=>
   rw [if_neg h1,if_pos h2]
   have hl:=ZuB ((l.take (l.length - 1)).drop 1)
   have hg:=Znc ((l.take (l.length - 1)).drop 1)
   generalize (ip6 ((l.take (l.length - 1)).drop 1)).1=ns at *
   have ht:=ZsH hl hg
   generalize hte:ZfG ns=t at ht ⊢
   show ZR ([91]++t++[93]) sp=([91]++t++[93],0)
   have e1:([91]++t++[93]:List UInt8).length - 1=t.length + 1:=by simp
   have e2:(([91]++t++[93]:List UInt8).getD (([91]++t++[93]:List UInt8).length - 1) 0)=93:=by
    rw [e1,List.getD_eq_getElem?_getD,List.getElem?_append_right (by simp)]
    simp
   have e3:(([91]++t++[93]:List UInt8).take (([91]++t++[93]:List UInt8).length - 1)).drop 1=t:=by
    rw [e1,List.take_left' (by simp)]
    rfl
   unfold ZR
   rw [if_pos (by rfl)]
   unfold Zap
   rw [if_neg,e3,ht,if_pos rfl]
   ·show ([91]++ZfG ns++[93],(0:Int))=_
    rw [hte]
   ·rintro (e | e)
    ·simp at e;omega
    ·exact e (by rw [e2];rfl)
  ·cases h0
end Go.Proofs.YtchkhibgbnhjpaaGreatDoor
