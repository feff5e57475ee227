import Derived.Test.YtchkhibgbnhjpaaGreatDoorK21
namespace Go.Proofs.YtchkhibgbnhjpaaGreatDoor
open Go.RowKit
theorem ZsL {d:Nat} (h:d≤9):ZL ((ZgV d).toNat:Int) 10=((d:Int),true):=by
 match d,h with
 | 0,_=>decide
 | 1,_=>decide
 | 2,_=>decide
 | 3,_=>decide
 | 4,_=>decide
 | 5,_=>decide
 | 6,_=>decide
 | 7,_=>decide
 | 8,_=>decide
 | 9,_=>decide
theorem Zaw (most:Int) (n d:Nat) (hd:d≤9) (hn:(n:Int)≤most) (r:List UInt8):numGo 10 most (n:Int) (ZgV d :: r)=numGo 10 most ((n * 10 + d:Nat):Int) r:=by
 rw [numGo,ZsL hd,if_pos rfl,if_pos hn]
 simp
theorem Znn {n:Nat} {most:Int} (h:n≤65535) (hm:65535≤most):Zn (ZbU n) 10 most=((n:Int),true):=by
 unfold Zn
 rw [if_neg (decD_ne n)]
 have key:numGo 10 most 0 (ZbU n)=some (n:Int):=by
  show numGo 10 most ((0:Nat):Int) (ZbU n)=_
  unfold ZbU
  split
  ·rw [Zaw _ 0 n (by omega) (by omega),numGo];simp
  split
  ·rw [Zaw _ 0 _ (by omega) (by omega),Zaw _ _ _ (by omega) (by omega),numGo];congr 1;omega
  split
  ·rw [Zaw _ 0 _ (by omega) (by omega),Zaw _ _ _ (by omega) (by omega),Zaw _ _ _ (by omega) (by omega),numGo];congr 1;omega
  split
  ·rw [Zaw _ 0 _ (by omega) (by omega),Zaw _ _ _ (by omega) (by omega),Zaw _ _ _ (by omega) (by omega),Zaw _ _ _ (by omega) (by omega),numGo];congr 1;omega
  ·rw [Zaw _ 0 _ (by omega) (by omega),Zaw _ _ _ (by omega) (by omega),Zaw _ _ _ (by omega) (by omega),Zaw _ _ _ (by omega) (by omega),Zaw _ _ _ (by omega) (by omega),numGo];congr 1;omega
 rw [key]
 show (if most < (n:Int) then _ else _)=_
 rw [if_neg (by omega)]
theorem ZjB {d:Nat} (h1:1≤d) (h:d≤9):¬ ((ZgV d).toNat:Int)=48:=by
 unfold ZgV;rw [UInt8.toNat_ofNat',Nat.mod_eq_of_lt (by omega)];omega
theorem Zqr {n:Nat} (h:n≤65535):(ZbU n).length < 2∨¬ (((ZbU n).getD 0 0).toNat:Int)=48:=by
 unfold ZbU
 split
 ·left;show 1 < 2;decide
 split
 ·right;exact ZjB (by omega) (by omega)
 split
 ·right;exact ZjB (by omega) (by omega)
 split
 ·right;exact ZjB (by omega) (by omega)
 ·right;exact ZjB (by omega) (by omega)
theorem ZdU {n:Nat} (h:n≤65535):ZG (ZbU n)=((n:Int),true):=by
 unfold ZG
 rw [if_pos (Zqr h),Znn h (by decide)]
theorem ZoG {n:Nat} (h:n≤255):(ZbU n).length≤3:=by
 unfold ZbU
 split
 ·simp
 split
 ·simp
 rw [if_pos (by omega)]
 simp
def dots4 (a b c d:Nat):List UInt8:=ZbU a++(46 :: (ZbU b++(46 :: (ZbU c++(46 :: (ZbU d++[]))))))
theorem Zc8 (v:Nat):ZcR v=dots4 (v / 256 ^ 3 % 256) (v / 256 ^ 2 % 256) (v / 256 ^ 1 % 256) (v / 256 ^ 0 % 256):=rfl
theorem ZfM {n:Nat} (h:n≤255):∀ b∈ZbU n,isB 46 b=false:=fun b hb=>by
 have:=Zgd (n:=n) (by omega) b hb
 unfold isB
 exact beq_eq_false_iff_ne.2 (by omega)
theorem Zl8 {a b c d:Nat} (ha:a≤255) (hb:b≤255) (hc:c≤255) (hd:d≤255):bsplit 46 (dots4 a b c d)=[ZbU a,ZbU b,ZbU c,ZbU d]:=by
 have step:∀ l:List UInt8,bsplit 46 (46 :: l)=[] :: bsplit 46 l:=fun l=>by rw [bsplit,if_pos (by decide)]
 unfold dots4
 rw [Zdy _ _ 46 (ZfM ha),step,Zdy _ _ 46 (ZfM hb),step,Zdy _ _ 46 (ZfM hc),step,Zdy _ _ 46 (ZfM hd)]
 simp [bsplit]
theorem ZkM {a b c d:Nat} (ha:a≤255) (hb:b≤255) (hc:c≤255) (hd:d≤255):∀ x∈dots4 a b c d,(48≤x.toNat∧x.toNat≤57)∨x.toNat=46:=by
 intro x hx
 unfold dots4 at hx
 simp only [List.mem_append,List.mem_cons,List.not_mem_nil,or_false] at hx
 rcases hx with hx | hx | hx | hx | hx | hx | hx
 ·exact Or.inl (Zgd (n:=a) (by omega) x hx)
 ·subst hx;exact Or.inr rfl
 ·exact Or.inl (Zgd (n:=b) (by omega) x hx)
 ·subst hx;exact Or.inr rfl
 ·exact Or.inl (Zgd (n:=c) (by omega) x hx)
 ·subst hx;exact Or.inr rfl
 ·exact Or.inl (Zgd (n:=d) (by omega) x hx)
theorem ZsM {a b c d:Nat} (ha:a≤255) (hb:b≤255) (hc:c≤255) (hd:d≤255):ip4 [ZbU a,ZbU b,ZbU c,ZbU d]=(((a * 16777216 + b * 65536 + c * 256 + d:Nat):Int),true):=by
 unfold ip4
 rw [if_neg (by simp)]
 rw [ip4Go,ZdU (by omega),if_neg (by simp),if_neg (by simp;omega),if_pos (by simp)]
 rw [ip4Go,ZdU (by omega),if_neg (by simp),if_neg (by simp;omega),if_pos (by simp)]
 rw [ip4Go,ZdU (by omega),if_neg (by simp),if_neg (by simp;omega),if_pos (by simp)]
 rw [ip4Go,ZdU (by omega),if_neg (by simp),if_neg (by simp;omega),if_neg (by simp)]
 rw [ip4Go]
 refine Prod.ext ?_ rfl
 show (0:Int) + (a:Int) * (4294967296 / 256) + (b:Int) * (4294967296 / 256 / 256) + (c:Int) * (4294967296 / 256 / 256 / 256) + (d:Int)=_
 omega
theorem ZuC {x:UInt8} (h:(48≤x.toNat∧x.toNat≤57)∨x.toNat=46):Zid x=false:=by
 have hlt:=x.toNat_lt
 have key:∀ n:Nat,n < 256→((48≤n∧n≤57)∨n=46)→Zid (UInt8.ofNat n)=false:=by decide +kernel
 have:=key x.toNat hlt h
 rwa [UInt8.ofNat_toNat] at this
theorem ZoH {a b c d:Nat} (ha:a≤255) (hb:b≤255) (hc:c≤255) (hd:d≤255):ZR (dots4 a b c d) true=(ZcR (a * 16777216 + b * 65536 + c * 256 + d),0):=by
 have hm:=ZkM ha hb hc hd
 have hs:=Zl8 ha hb hc hd
 have hne:dots4 a b c d≠[]:=fun e=>decD_ne a (List.append_eq_nil_iff.1 e).1
 generalize dots4 a b c d=l at *
 have h1:Zw l=l:=ZiP fun x hx e=>by subst e;exact absurd (hm 37 hx) (by decide)
 have h2:lower l=l:=ZsK fun x hx e=>by have:=hm x hx;omega
 have h3:beyondB l=false:=by
  unfold beyondB
  rw [List.any_eq_false]
  intro x hx
  have:=hm x hx
  simp;omega
 have h4:Zsk [ZbU a,ZbU b,ZbU c,ZbU d]=false:=by
  have key:∀ n:Nat,n≤255→Zcs (ZbU n)=false:=fun n hn=>by
   unfold Zcs
   rw [decide_eq_false (by have:=ZoG hn;omega)]
   rfl
  unfold Zsk
  simp [key a ha,key b hb,key c hc,key d hd]
 have h5:plainDom l=true:=by
  unfold plainDom
  have:l.any Zid=false:=List.any_eq_false.2 fun x hx=>by rw [ZuC (hm x hx)];decide
  rw [this]
  cases l with
  | nil=>exact absurd rfl hne
  | cons x r=>rfl
 have h6:ZdZ [ZbU a,ZbU b,ZbU c,ZbU d]=[ZbU a,ZbU b,ZbU c,ZbU d]:=by
  unfold ZdZ
  exact if_neg fun e=>decD_ne d e.2
 have h7:ZbN [ZbU a,ZbU b,ZbU c,ZbU d]=true:=by
  unfold ZbN
  rw [if_neg (by simp)]
  show ((Zn (ZbU d) 10 4294967295).2 || _)=true
  rw [Znn (by omega) (by decide)]
  rfl
 unfold ZR
 rw [if_neg (ZhJ fun x hx e=>by subst e;exact absurd (hm 91 hx) (by decide)),if_pos rfl]
 unfold ZaA
 rw [h1,h2,hs,h3,h4,if_neg (by decide),if_neg (by rw [h5];decide),h6]
 unfold Zd0
 rw [h7,if_neg (by decide),ZsM ha hb hc hd,if_pos rfl]
 rfl
theorem ZsN {v:Nat} (h:v < 4294967296):ZR (ZcR v) true=(ZcR v,0):=by
 rw [Zc8,ZoH (by omega) (by omega) (by omega) (by omega),← Zc8]
 congr 2
 omega
theorem ZsO:∀ (ps:List (List UInt8)) (room value:Int),ps≠[]→0≤value→value + room≤4294967296→(ip4Go ps room value).2=true→(ip4Go ps room value).1 < 4294967296:=by
 intro ps
 induction ps with
 | nil=>intro _ _ h;exact absurd rfl h
 | cons p r ih=>
  intro room value _ h0 h1 h2
  rw [ip4Go] at h2 ⊢
  have hr:=(Zfb p).1
  split at h2
  ·cases h2
  next e1=>
   rw [if_neg e1]
   split at h2
   ·cases h2
   next e2=>
    rw [if_neg e2]
    have e3:¬ room≤(ZG p).1:=fun e=>e2 (Or.inl e)
    split at h2
    ·next e4=>
     rw [if_pos e4]
     have e5:¬ 255 < (ZG p).1:=fun e=>e2 (Or.inr ⟨e4,e⟩)
     have e6:(ZG p).1 * (room / 256)≤255 * (room / 256):=Int.mul_le_mul_of_nonneg_right (by omega) (by omega)
     have e7:0≤(ZG p).1 * (room / 256):=Int.mul_nonneg hr (by omega)
     exact ih _ _ e4 (by omega) (by omega) h2
    ·next e4=>
     rw [if_neg e4]
     have hnil:r=[]:=Classical.not_not.1 e4
     subst hnil
     rw [ip4Go]
     show value + (ZG p).1 < 4294967296
     omega
theorem ZtW {ps:List (List UInt8)} (h:(ip4 ps).2=true):(ip4 ps).1.toNat < 4294967296:=by
 unfold ip4 at h ⊢
 split at h
 ·cases h
 next h1=>
  rw [if_neg h1]
  have:=ZsO ps 4294967296 0 (fun e=>h1 (Or.inl (by rw [e];rfl))) (Int.le_refl _) (by decide) h
  omega
theorem ZkN {l:List UInt8} {sp:Bool} (h0:(ZR l sp).2=0):ZR (ZR l sp).1 sp=((ZR l sp).1,0):=by
 have hd:ZR l sp=if ((l.getD 0 0).toNat:Int)=91 then Zap l else if sp=true then ZaA l else ZbW l:=rfl
 by_cases hb:((l.getD 0 0).toNat:Int)=91
 ·rw [if_pos hb] at hd
  rw [hd] at h0 ⊢
  exact ZkL sp h0
 ·rw [if_neg hb] at hd
  cases sp
  ·rw [if_neg (by decide)] at hd
   rw [hd] at h0 ⊢
   exact Zqo h0
  ·rw [if_pos rfl] at hd
   rw [hd] at h0 ⊢
   cases he:ZbN (ZdZ (bsplit 46 (lower (Zw l))))
   ·exact ZoF h0 he
   ·unfold ZaA at h0 ⊢
    split at h0
    ·cases h0
    next h1=>
     split at h0
     ·cases h0
     next h2=>
      rw [if_neg h1,if_neg h2]
      unfold Zd0 at h0 ⊢
      rw [he,if_neg (by decide)] at h0 ⊢
      split at h0
      ·next h3=>
       rw [if_pos h3]
       exact ZsN (ZtW h3)
      ·cases h0
def HostT (l:List UInt8):Prop:=
 (∃ t:List UInt8,l=91 :: (t++[93])∧∀ b∈t,b≠35∧b≠47∧b≠63∧b≠64∧b≠91∧b≠92∧b≠93∧b≠32) ∨
 (∀ b∈l,b≠35∧b≠47∧b≠58∧b≠63∧b≠64∧b≠91∧b≠92∧b≠93∧b≠32∧b≠124)
theorem hostT_nil:HostT []:=Or.inr fun b hb=>by cases hb
theorem HostT.mem {l:List UInt8} (h:HostT l):∀ b∈l,b≠35∧b≠47∧b≠63∧b≠64∧b≠92∧b≠32:=by
 intro b hb
 rcases h with ⟨t,rfl,ht⟩ | h
 ·simp only [List.mem_cons,List.mem_append,List.not_mem_nil,or_false] at hb
  rcases hb with rfl | hb | rfl
  ·decide
  ·have:=ht b hb;exact ⟨this.1,this.2.1,this.2.2.1,this.2.2.2.1,this.2.2.2.2.2.1,this.2.2.2.2.2.2.2⟩
  ·decide
 ·have:=h b hb;exact ⟨this.1,this.2.1,this.2.2.2.1,this.2.2.2.2.1,this.2.2.2.2.2.2.1,this.2.2.2.2.2.2.2.2.1⟩
theorem Zqs {d:Nat} (h:d≤15):(Zc3 d≠35∧Zc3 d≠47∧Zc3 d≠63∧Zc3 d≠64∧Zc3 d≠91∧Zc3 d≠92∧Zc3 d≠93∧Zc3 d≠32):=by
 match d,h with
 | 0,_=>decide
 | 1,_=>decide
 | 2,_=>decide
 | 3,_=>decide
 | 4,_=>decide
 | 5,_=>decide
 | 6,_=>decide
 | 7,_=>decide
 | 8,_=>decide
 | 9,_=>decide
 | 10,_=>decide
 | 11,_=>decide
 | 12,_=>decide
 | 13,_=>decide
 | 14,_=>decide
 | 15,_=>decide
def Bk (l:List UInt8):Prop:=∀ b∈l,b≠35∧b≠47∧b≠63∧b≠64∧b≠91∧b≠92∧b≠93∧b≠32
theorem Zqt:Bk []:=fun b hb=>by cases hb
theorem Zqu {a b:List UInt8} (ha:Bk a) (hb:Bk b):Bk (a++b):=fun x hx=>(List.mem_append.1 hx).elim (ha x) (hb x)
theorem ZuD {n:Nat} (h:n≤65535):Bk (ZeX n):=by
 intro b hb
 have key:∀ d,d≤15→b=Zc3 d→b≠35∧b≠47∧b≠63∧b≠64∧b≠91∧b≠92∧b≠93∧b≠32:=fun d hd e=>by subst e;exact Zqs hd
 unfold ZeX at hb
 (repeat' split at hb) <;> simp only [List.mem_cons,List.not_mem_nil,or_false] at hb
 ·exact key _ (by omega) hb
 ·rcases hb with hb | hb <;> exact key _ (by omega) hb
 ·rcases hb with hb | hb | hb <;> exact key _ (by omega) hb
 ·rcases hb with hb | hb | hb | hb <;> exact key _ (by omega) hb
theorem ZvS {ns:List Int} (h:GOk ns) (st ln:Nat):∀ f i,Bk (ZhA ns st ln f i):=by
 intro f
 induction f with
 | zero=>intro i;exact Zqt
 | succ f ih=>
  intro i
  rw [ZhA]
  split
  ·exact Zqt
  split
  ·exact Zqu (fun b hb=>by simp only [List.mem_cons,List.not_mem_nil,or_false] at hb;rcases hb with rfl | rfl <;> decide) (ih _)
  ·refine Zqu (Zqu ?_ (ZuD ?_)) (ih _)
   ·split
    ·exact fun b hb=>by simp only [List.mem_cons,List.not_mem_nil,or_false] at hb;subst hb;decide
    ·exact Zqt
   ·by_cases hi:i < ns.length
    ·have:=h ns[i] (List.getElem_mem hi)
     rw [List.getD_eq_getElem?_getD,List.getElem?_eq_getElem hi]
     simp only [Option.getD_some]
     omega
    ·rw [List.getD_eq_getElem?_getD,List.getElem?_eq_none (by omega)]
     simp
theorem Zqv {b:UInt8} (h:among (b.toNat:Int) ZdQ=false):b≠35∧b≠47∧b≠58∧b≠63∧b≠64∧b≠91∧b≠92∧b≠93∧b≠32∧b≠124:=by
 refine ⟨?_,?_,?_,?_,?_,?_,?_,?_,?_,?_⟩ <;> (rintro rfl;exact absurd h (by decide))
theorem hostL_T {l:List UInt8} {sp:Bool}:HostT (ZR l sp).1:=by
 unfold ZR
 split
 ·unfold Zap
  split
  ·exact hostT_nil
  split
  ·exact Or.inl ⟨_,rfl,ZvS (Znc _) _ _ _ _⟩
  ·exact hostT_nil
 split
 ·unfold ZaA
  split
  ·exact hostT_nil
  split
  ·exact hostT_nil
  next h1 h2=>
   unfold Zd0
   split
   ·right
    intro b hb
    have hp:plainDom (lower (Zw l))=true:=by simpa using h2
    have:=ZgH hp b hb
    unfold Zid at this
    simp only [Bool.or_eq_false_iff] at this
    exact Zqv this.2
   split
   ·right
    intro b hb
    rw [Zc8] at hb
    have:=ZkM (by omega) (by omega) (by omega) (by omega) b hb
    refine ⟨?_,?_,?_,?_,?_,?_,?_,?_,?_,?_⟩ <;> (rintro rfl;exact absurd this (by decide))
   ·exact hostT_nil
 ·unfold ZbW
  split
  ·exact hostT_nil
  next h1=>
   right
   intro b hb
   have hf:(l.any fun b=>among b.toNat ZdQ)=false:=by simpa using h1
   have:=List.any_eq_false.1 (ZkK (set:=tl (ZaG 0)) hf) b hb
   exact Zqv (by simpa using this)
theorem ZgI {n:Int} {a:List UInt8} (h:∀ b∈a,isB n b=false):bcutLast n a=([],a,false):=by
 induction a with
 | nil=>rw [bcutLast]
 | cons c a ih=>
  rw [bcutLast,ih (fun b hb=>h b (by simp [hb])),if_neg (by intro e;cases e),if_neg (by rw [h c (by simp)];decide)]
theorem Zl9 {n:Int} {a r:List UInt8} {c:UInt8} (h:∀ b∈r,isB n b=false) (hc:isB n c=true):bcutLast n (a++c :: r)=(a,r,true):=by
 induction a with
 | nil=>rw [List.nil_append,bcutLast,ZgI h,if_neg (by intro e;cases e),if_pos hc]
 | cons x a ih=>rw [List.cons_append,bcutLast,ih,if_pos rfl]
structure Zqw (sp:Bool) (s:List UInt8):Prop where
 asis:Asis (tl (ZaG 4)) s
 sl:∀ b∈s,slB sp b=false
 dots:countDots s=0
def ZuE (f:Bool) (ps:List (List UInt8)):Prop:=f=true→ZJ (ps.getD 0 [])=true→(ps.getD 0 []).getD 1 0=58
structure ZeY (f sp:Bool) (ps:List (List UInt8)):Prop where
 each:∀ s∈ps,Zqw sp s
 drv:ZuE f ps
theorem Zg9 {c:UInt8} (r:List UInt8) (h:c.toNat < 128):clean (c :: r)=c :: clean r:=by
 have hf:follow (c.toNat:Int)=(1,0,0):=if_pos (by omega)
 have hg:∀ q:List UInt8,Zaf 1 0 0 1 q=1:=fun q=>by
  cases q with
  | nil=>rfl
  | cons a b=>rw [Zaf,if_neg (by rintro ⟨e,-⟩;exact absurd e (by decide))]
 have hm:measure (c :: r)=(1,true):=by
  rw [measure,hf]
  simp only
  rw [hg]
  rfl
 rw [ZcE,hm]
 simp
theorem Zno {c:UInt8} (r:List UInt8) (h:128≤c.toNat):∃ b m,clean (c :: r)=b :: m∧128≤b.toNat:=by
 rw [ZcE]
 split
 ·have:=ZdI c r
  obtain ⟨n,hn⟩:∃ n,(measure (c :: r)).1=n + 1:=⟨(measure (c :: r)).1 - 1,by omega⟩
  rw [hn,List.take_succ_cons]
  exact ⟨c,_,rfl,h⟩
 ·exact ⟨239,_,rfl,by decide⟩
abbrev S4:List UInt8:=tl (ZaG 4)
abbrev en4 (s:List UInt8):List UInt8:=encB S4 (clean s)
theorem ZhM (set:List UInt8) (c:UInt8) (r:List UInt8):encB set (c :: r)=Z6 set c++encB set r:=by simp [encB]
theorem Zfl {c:UInt8} (r:List UInt8) (h1:32≤c.toNat) (h2:c.toNat≤126) (h3:among (c.toNat:Int) S4=false):en4 (c :: r)=c :: en4 r:=by
 show encB S4 (clean (c :: r))=_
 rw [Zg9 r (by omega),ZhM]
 unfold Z6
 rw [if_neg (by rintro (e | e | e);omega;omega;rw [h3] at e;cases e)]
 rfl
theorem ZfN (c:UInt8) (r:List UInt8):(32≤c.toNat∧c.toNat≤126∧among (c.toNat:Int) S4=false∧en4 (c :: r)=c :: en4 r)∨(c≠46∧c≠37∧c≠50∧c≠101∧c≠69∧∃ x y m,en4 (c :: r)=37 :: x :: y :: m∧¬ (x=50∧y=69)∧y≠101):=by
 by_cases h:32≤c.toNat∧c.toNat≤126∧among (c.toNat:Int) S4=false
 ·exact Or.inl ⟨h.1,h.2.1,h.2.2,Zfl r h.1 h.2.1 h.2.2⟩
 ·right
  have hc:c≠46∧c≠37∧c≠50∧c≠101∧c≠69:=by
   refine ⟨?_,?_,?_,?_,?_⟩ <;> (rintro rfl;exact h (by decide))
  refine ⟨hc.1,hc.2.1,hc.2.2.1,hc.2.2.2.1,hc.2.2.2.2,?_⟩
  obtain ⟨b,m,hb,hbe,hb46⟩:∃ b m,clean (c :: r)=b :: m∧((b.toNat:Int) < 32∨126 < (b.toNat:Int)∨among (b.toNat:Int) S4=true)∧b≠46:=by
   by_cases hlo:c.toNat < 128
   ·refine ⟨c,_,Zg9 r hlo,?_,hc.1⟩
    cases ha:among (c.toNat:Int) S4
    ·by_cases h1:(c.toNat:Int) < 32
     ·exact Or.inl h1
     ·exact Or.inr (Or.inl (by have:¬ c.toNat≤126:=fun e=>h ⟨by omega,e,ha⟩
                               omega))
    ·exact Or.inr (Or.inr rfl)
   ·obtain ⟨b,m,hb,hh⟩:=Zno r (by omega:128≤c.toNat)
    exact ⟨b,m,hb,Or.inr (Or.inl (by omega)),by rintro rfl;exact absurd hh (by decide)⟩
  have hbl:=b.toNat_lt
  refine ⟨toB (capital ((b.toNat:Int) / 16)),toB (capital ((b.toNat:Int) % 16)),encB S4 m,?_,?_,?_⟩
  ·show encB S4 (clean (c :: r))=_
   rw [hb,ZhM]
   unfold Z6
   rw [if_pos hbe]
   rfl
  ·have key:∀ n:Nat,n < 256→toB (capital ((n:Int) / 16))=50∧toB (capital ((n:Int) % 16))=69→n=46:=by decide +kernel
   intro e
   exact hb46 (UInt8.toNat_inj.1 (key b.toNat hbl e))
  ·have key:∀ n:Nat,n < 256→toB (capital ((n:Int) % 16))≠101:=by decide +kernel
   exact key b.toNat hbl
theorem Zfm:en4 []=[]:=by show encB S4 (clean [])=[];rw [clean_nil];rfl
theorem Zc9 {l:List UInt8} (h1:¬ ((l.getD 0 0).toNat:Int)=46) (h2:¬ (3≤l.length∧((l.getD 0 0).toNat:Int)=37∧((l.getD 1 0).toNat:Int)=50∧(((l.getD 2 0).toNat:Int)=101∨((l.getD 2 0).toNat:Int)=69))):dotSize l=0:=by
 unfold dotSize;rw [if_neg h1,if_neg h2]
theorem Zbb {b c:UInt8} {n:Nat} (hc:c.toNat=n) (h:(b.toNat:Int)=n):b=c:=UInt8.toNat_inj.1 (by omega)
theorem ZuF (s:List UInt8):dotSize (en4 s)=dotSize s∧(en4 s).drop (dotSize s)=en4 (s.drop (dotSize s)):=by
 cases s with
 | nil=>rw [Zfm];exact ⟨rfl,by simp [Zfm]⟩
 | cons c r=>
  by_cases h46:c=46
  ·subst h46
   have e:=Zfl (c:=46) r (by decide) (by decide) (by decide)
   have d1:∀ q:List UInt8,dotSize (46 :: q)=1:=fun q=>if_pos rfl
   rw [e,d1,d1]
   exact ⟨rfl,rfl⟩
  ·by_cases h37:c=37
   ·subst h37
    have e:=Zfl (c:=37) r (by decide) (by decide) (by decide)
    rw [e]
    have d0:∀ q:List UInt8,dotSize (37 :: q)=if 2≤q.length∧((q.getD 0 0).toNat:Int)=50∧(((q.getD 1 0).toNat:Int)=101∨((q.getD 1 0).toNat:Int)=69) then 3 else 0:=by
     intro q
     unfold dotSize
     rw [if_neg (show ¬ ((((37 :: q:List UInt8)).getD 0 0).toNat:Int)=46 from (by decide:¬ ((37:UInt8).toNat:Int)=46))]
     by_cases hq:2≤q.length∧((q.getD 0 0).toNat:Int)=50∧(((q.getD 1 0).toNat:Int)=101∨((q.getD 1 0).toNat:Int)=69)
     ·rw [if_pos hq,if_pos ⟨by simp only [List.length_cons];omega,rfl,hq.2⟩]
     ·rw [if_neg hq,if_neg (fun h=>hq ⟨by have:=h.1;simp only [List.length_cons] at this;omega,h.2.2⟩)]
    rw [d0,d0]
    by_cases hq:2≤r.length∧((r.getD 0 0).toNat:Int)=50∧(((r.getD 1 0).toNat:Int)=101∨((r.getD 1 0).toNat:Int)=69)
    ·rw [if_pos hq]
     match r,hq with
     | d :: x :: q,hq=>
      have hd:d=50:=Zbb rfl hq.2.1
      subst hd
      have ed:=Zfl (c:=50) (x :: q) (by decide) (by decide) (by decide)
      rcases hq.2.2 with hx | hx
      ·have hx':x=101:=Zbb rfl hx
       subst hx'
       have ex:=Zfl (c:=101) q (by decide) (by decide) (by decide)
       rw [ed,ex,if_pos ⟨by simp,rfl,Or.inl rfl⟩]
       exact ⟨rfl,rfl⟩
      ·have hx':x=69:=Zbb rfl hx
       subst hx'
       have ex:=Zfl (c:=69) q (by decide) (by decide) (by decide)
       rw [ed,ex,if_pos ⟨by simp,rfl,Or.inr rfl⟩]
       exact ⟨rfl,rfl⟩
    ·rw [if_neg hq]
     have hn:¬ (2≤(en4 r).length∧(((en4 r).getD 0 0).toNat:Int)=50∧((((en4 r).getD 1 0).toNat:Int)=101∨(((en4 r).getD 1 0).toNat:Int)=69)):=by
      rintro ⟨n1,n2,n3⟩
      cases r with
      | nil=>rw [Zfm] at n1;simp at n1
      | cons d q=>
       rcases ZfN d q with ⟨-,-,-,hd⟩ | ⟨-,-,-,-,-,x,y,m,hd,-,-⟩
       ·rw [hd] at n1 n2 n3
        have n2':(d.toNat:Int)=50:=n2
        have n3':(((en4 q).getD 0 0).toNat:Int)=101∨(((en4 q).getD 0 0).toNat:Int)=69:=n3
        cases q with
        | nil=>rw [Zfm] at n1;simp at n1
        | cons z q'=>
         rcases ZfN z q' with ⟨-,-,-,hz⟩ | ⟨-,-,-,-,-,x,y,m,hz,-,-⟩
         ·rw [hz] at n3'
          exact hq ⟨by simp,n2',n3'⟩
         ·rw [hz] at n3'
          rcases n3' with n | n
          ·exact absurd n (show ¬ ((37:UInt8).toNat:Int)=101 by decide)
          ·exact absurd n (show ¬ ((37:UInt8).toNat:Int)=69 by decide)
       ·rw [hd] at n2
        exact absurd n2 (show ¬ ((37:UInt8).toNat:Int)=50 by decide)
     rw [if_neg hn]
     refine ⟨rfl,?_⟩
     rw [List.drop_zero,List.drop_zero,e]
   ·have ds:dotSize (c :: r)=0:=by
     refine Zc9 (fun e=>h46 (Zbb rfl e)) ?_
     rintro ⟨-,e,-⟩
     exact h37 (Zbb rfl e)
    rw [ds,List.drop_zero,List.drop_zero]
    refine ⟨?_,rfl⟩
    rcases ZfN c r with ⟨-,-,-,he⟩ | ⟨-,-,-,-,-,x,y,m,he,hxy,hy⟩
    ·rw [he]
     refine Zc9 (fun e=>h46 (Zbb rfl e)) ?_
     rintro ⟨-,e,-⟩
     exact h37 (Zbb rfl e)
    ·rw [he]
     refine Zc9 (fun e=>absurd e (by show ¬ ((37:UInt8).toNat:Int)=46;decide)) ?_
     rintro ⟨-,-,e1,e2⟩
     have hx:x=50:=Zbb rfl e1
     rcases e2 with e2 | e2
     ·exact hy (Zbb rfl e2)
     ·exact hxy ⟨hx,Zbb rfl e2⟩
theorem ZhN (s:List UInt8):en4 s=[]↔s=[]:=by
 constructor
 ·intro h
  exact Classical.byContradiction fun hn=>Zql (ZjA hn) h
 ·rintro rfl;exact Zfm
theorem Zvr:∀ m n s,cdGo m n (en4 s)=cdGo m n s:=by
 intro m
 induction m with
 | zero=>intro n s;rfl
 | succ m ih=>
  intro n s
  have h:=ZuF s
  rw [cdGo,cdGo]
  by_cases hs:s=[]
  ·rw [if_pos hs,if_pos ((ZhN s).2 hs)]
  ·rw [if_neg hs,if_neg (fun e=>hs ((ZhN s).1 e)),h.1]
   split
   ·rfl
   ·rw [h.2,ih]
theorem Znp (s:List UInt8):countDots (en4 s)=countDots s:=Zvr 3 0 s
theorem ZhO {n:Nat} (h:n=37∨(48≤n∧n≤57)∨(65≤n∧n≤70)) (sp:Bool):Zdp sp (n:Int)=false:=by
 unfold Zdp
 have h1:((n:Int) == 47)=false:=beq_eq_false_iff_ne.2 (by omega)
 have h2:((n:Int) == 92)=false:=beq_eq_false_iff_ne.2 (by omega)
 rw [h1,h2];cases sp <;> rfl
theorem Znq {n:Nat} (h:93≤n) (sp:Bool):Zdp sp (n:Int)=false:=by
 unfold Zdp
 have h1:((n:Int) == 47)=false:=beq_eq_false_iff_ne.2 (by omega)
 have h2:((n:Int) == 92)=false:=beq_eq_false_iff_ne.2 (by omega)
 rw [h1,h2];cases sp <;> rfl
theorem Zqx {sp:Bool} {set s:List UInt8} (h:∀ b∈s,slB sp b=false):∀ b∈encB set (clean s),slB sp b=false:=by
 intro b hb
 obtain ⟨c,hcm,hc⟩:=List.mem_flatMap.1 hb
 have hcl:=c.toNat_lt
 unfold Z6 at hc
 split at hc
 ·simp only [List.mem_cons,List.not_mem_nil,or_false] at hc
  rcases hc with rfl | rfl | rfl
  ·exact ZhO (Or.inl rfl) sp
  ·exact ZhO (Or.inr (Zbm (by omega) (by omega))) sp
  ·exact ZhO (Or.inr (Zbm (by omega) (by omega))) sp
 ·rw [List.mem_singleton] at hc
  subst hc
  rcases ZhK _ s (Nat.le_refl _) b hcm with h1 | h1
  ·exact h b h1
  ·exact Znq (by omega) sp
theorem Zqy {sp:Bool} {s:List UInt8} (h:∀ b∈s,slB sp b=false) (hd:countDots s=0):Zqw sp (en4 s):=
 ⟨Zck Zvq _,Zqx h,by rw [Znp];exact hd⟩
theorem Zqz (sp:Bool):Zqw sp []:=⟨fun b hb=>(by cases hb),fun b hb=>(by cases hb),rfl⟩
theorem ZiQ {a:UInt8} (h:alpha a.toNat=true):32≤a.toNat∧a.toNat≤126∧among (a.toNat:Int) S4=false:=by
 have key:∀ n:Nat,n < 256→alpha (n:Int)=true→32≤n∧n≤126∧among (n:Int) S4=false:=by decide +kernel
 exact key a.toNat a.toNat_lt h
theorem Zma {a:UInt8} (h:alpha a.toNat=true) (sp:Bool):slB sp a=false:=by
 have key:∀ n:Nat,n < 256→alpha (n:Int)=true→Zdp sp (n:Int)=false:=by cases sp <;> decide +kernel
 exact key a.toNat a.toNat_lt h
theorem ZqA {a:UInt8} (h:alpha a.toNat=true):¬ ((a.toNat:Int)=46)∧¬ ((a.toNat:Int)=37):=by
 unfold alpha at h
 have:=of_decide_eq_true h
 omega
theorem Zeo {l:List UInt8} (h:ZJ l=true):∃ a b,l=[a,b]∧alpha a.toNat=true∧(b=58∨b=124):=by
 unfold ZJ at h
 split at h
 ·next a b=>
  rw [Bool.and_eq_true,Bool.or_eq_true] at h
  refine ⟨a,b,rfl,h.1,?_⟩
  rcases h.2 with e | e
  ·exact Or.inl (Zbb rfl (by simpa using e))
  ·exact Or.inr (Zbb rfl (by simpa using e))
 ·cases h
theorem Zmb {sp:Bool} {s:List UInt8} (h:ZJ s=true):Zqw sp (s.take 1++[58]):=by
 obtain ⟨a,b,rfl,ha,-⟩:=Zeo h
 have h1:=ZiQ ha
 show Zqw sp [a,58]
 refine ⟨?_,?_,?_⟩
 ·intro x hx
  simp only [List.mem_cons,List.not_mem_nil,or_false] at hx
  rcases hx with rfl | rfl
  ·exact h1
  ·decide
 ·intro x hx
  simp only [List.mem_cons,List.not_mem_nil,or_false] at hx
  rcases hx with rfl | rfl
  ·exact Zma ha sp
  ·cases sp <;> decide
 ·have h2:=ZqA ha
  have:dotSize [a,58]=0:=Zc9 h2.1 (fun e=>h2.2 e.2.1)
  unfold countDots
  rw [cdGo,if_neg (by simp),if_pos this]
theorem ZqB {s:List UInt8} (h:ZJ (en4 s)=true):ZJ s=true:=by
 obtain ⟨a,b,he,ha,hb⟩:=Zeo h
 cases s with
 | nil=>rw [Zfm] at he;cases he
 | cons c r=>
  rcases ZfN c r with ⟨-,-,-,hc⟩ | ⟨-,-,-,-,-,x,y,m,hc,-,-⟩
  ·rw [hc] at he
   cases r with
   | nil=>rw [Zfm] at he;cases he
   | cons d q=>
    rcases ZfN d q with ⟨-,-,-,hd⟩ | ⟨-,-,-,-,-,x,y,m,hd,-,-⟩
    ·rw [hd] at he
     simp only [List.cons.injEq] at he
     obtain ⟨rfl,rfl,hq⟩:=he
     have:=(ZhN q).1 hq
     subst this
     unfold ZJ
     simp only [ha,Bool.true_and]
     rcases hb with rfl | rfl <;> decide
    ·rw [hd] at he
     simp at he
  ·rw [hc] at he
   simp at he
theorem ZqC {f:Bool} {ps:List (List UInt8)} (h:ZuE f ps) (hn:ps≠[]) (t:List (List UInt8)):ZuE f (ps++t):=by
 cases ps with
 | nil=>exact absurd rfl hn
 | cons x r=>exact h
theorem ZuG {f sp:Bool} {ps:List (List UInt8)} {s:List UInt8} (h:ZeY f sp ps) (hs:∀ b∈s,slB sp b=false) (hd:countDots s=0):ZeY f sp (joinL f ps s):=by
 unfold joinL
 constructor
 ·intro x hx
  rcases List.mem_append.1 hx with hx | hx
  ·exact h.each x hx
  ·rw [List.mem_singleton] at hx
   subst hx
   split
   ·next hc=>exact Zmb hc.2.2
   ·exact Zqy hs hd
 ·by_cases hn:ps=[]
  ·subst hn
   intro hf hdr
   show ((if f=true∧[]=[]∧ZJ s=true then s.take 1++[58] else en4 s):List UInt8).getD 1 0=58
   have hdr':ZJ (if f=true∧([]:List (List UInt8))=[]∧ZJ s=true then s.take 1++[58] else en4 s)=true:=hdr
   by_cases hc:ZJ s=true
   ·rw [if_pos ⟨hf,rfl,hc⟩]
    obtain ⟨a,b,rfl,-,-⟩:=Zeo hc
    rfl
   ·rw [if_neg (fun e=>hc e.2.2)] at hdr'
    exact absurd (ZqB hdr') hc
  ·exact ZqC h.drv hn _
theorem ZqD {f sp:Bool} {ps:List (List UInt8)} (h:ZeY f sp ps) (n:Nat):ZeY f sp (ps.take n):=by
 constructor
 ·exact fun s hs=>h.each s (List.mem_of_mem_take hs)
 ·intro hf hd
  cases n with
  | zero=>have hd':ZJ []=true:=hd;cases hd'
  | succ n=>
   cases ps with
   | nil=>have hd':ZJ []=true:=hd;cases hd'
   | cons x r=>exact h.drv hf hd
theorem Znr {f sp:Bool} {ps:List (List UInt8)} (h:ZeY f sp ps):ZeY f sp (Zaz f ps):=by
 unfold Zaz
 split
 ·exact h
 ·exact ZqD h _
theorem ZsP {f sp:Bool} {ps:List (List UInt8)} (h:ZeY f sp ps):ZeY f sp (ps++[[]]):=by
 constructor
 ·intro x hx
  rcases List.mem_append.1 hx with hx | hx
  ·exact h.each x hx
  ·rw [List.mem_singleton] at hx;subst hx;exact Zqz sp
 ·by_cases hn:ps=[]
  ·subst hn;intro _ hd;have hd':ZJ []=true:=hd;cases hd'
  ·exact ZqC h.drv hn _
theorem Zvs {f sp:Bool} {ps:List (List UInt8)} {s:List UInt8} (last:Bool) (h:ZeY f sp ps) (hs:∀ b∈s,slB sp b=false):ZeY f sp (Zdj f ps s last):=by
 have h2:ZeY f sp (if countDots s=2 then Zaz f ps else ps):=by
  split
  ·exact Znr h
  ·exact h
 unfold Zdj
 split
 ·next hd=>exact ZuG h hs hd
 split
 ·exact ZsP h2
 ·exact h2
theorem ZuH {f sp:Bool}:∀ (ss ps:List (List UInt8)),ZeY f sp ps→(∀ s∈ss,∀ b∈s,slB sp b=false)→ZeY f sp (ZbX f ps ss):=by
 intro ss
 induction ss with
 | nil=>intro ps h _;rw [ZbX];exact h
 | cons x r ih=>
  intro ps h hs
  cases r with
  | nil=>rw [ZbX];exact Zvs true h (hs x (by simp))
  | cons y q=>rw [ZbX];exact ih _ (Zvs false h (hs x (by simp))) (fun s hm=>hs s (by simp only [List.mem_cons] at hm ⊢;exact Or.inr hm))
theorem Zmc {p:UInt8→Bool}:∀ (l:List UInt8),∀ s∈ZbC p l,∀ b∈s,p b=false:=by
 intro l
 induction l with
 | nil=>intro s hs b hb;rw [ZbC,List.mem_singleton] at hs;subst hs;cases hb
 | cons c r ih=>
  intro s hs b hb
  rw [ZbC] at hs
  split at hs
  ·simp only [List.mem_cons] at hs
   rcases hs with rfl | hs
   ·cases hb
   ·exact ih s hs b hb
  ·next hc=>
   obtain ⟨x,q,hx⟩:=Zef p r
   rw [hx] at hs ih
   simp only [List.mem_cons] at hs
   rcases hs with rfl | hs
   ·simp only [List.mem_cons] at hb
    rcases hb with rfl | hb
    ·simpa using hc
    ·exact ih x (by simp) b hb
   ·exact ih s (by simp [hs]) b hb
theorem ZqE (f sp:Bool):ZeY f sp []:=⟨fun s hs=>(by cases hs),fun _ hd=>(by have hd':ZJ []=true:=hd;cases hd')⟩
theorem ZhP {f sp:Bool} {ps:List (List UInt8)} (t:List UInt8) (h:ZeY f sp ps):ZeY f sp (ZaP f sp ps t):=ZuH _ _ h (Zmc t)
theorem Zep (t sch:List UInt8):ZeY (sch == Zs) (Zc sch) (ZbG t sch):=ZhP t (ZqE _ _)
theorem ZkO {sch:List UInt8} {b:List (List UInt8)} (t:List UInt8) (h:ZeY (sch == Zs) (Zc sch) b):ZeY (sch == Zs) (Zc sch) (Zct b t sch):=ZhP t (Znr h)
theorem ZsQ {b:List (List UInt8)} (t:List UInt8) (h:ZeY true true b):ZeY true true (ZaB b t):=by
 unfold ZaB
 split
 ·exact Zep t Zs
 ·exact ZhP t (ZqD h 1)
theorem ZbR {a b:List UInt8} (h:∀ c,among c a=among c b) (l:List Int):encoded l a=encoded l b:=by
 unfold encoded
 congr 1
 funext c
 unfold encPt
 rw [h c]
theorem among_iff (c:Int) (t:List UInt8):among c t=true↔∃ b∈t,(b.toNat:Int)=c:=by
 unfold among
 simp
theorem Zdz {a b:List UInt8} (h1:∀ x∈a,x∈b) (h2:∀ x∈b,x∈a) (c:Int):among c a=among c b:=by
 rw [Bool.eq_iff_iff,among_iff,among_iff]
 constructor
 ·rintro ⟨x,hx,e⟩;exact ⟨x,h1 x hx,e⟩
 ·rintro ⟨x,hx,e⟩;exact ⟨x,h2 x hx,e⟩
theorem ZjD (l:List Int) (hl:∀ c∈l,Sc c):en4 (Zb l)=encoded l Zcz:=by
 show encB S4 (clean (Zb l))=_
 rw [Zbl _ l hl]
 exact ZbR (Zdz (by decide) (by decide)) l
theorem Zgf (sch:List UInt8):tl (Zj sch)=if Zg sch then [47,92] else [47]:=by
 unfold Zj
 split <;> rfl
theorem special_eq (sch:List UInt8):Zg sch=Zc sch:=by
 unfold Zg Zdg Zc ZF
 simp only [Zgu,names6,Zed]
 have e1:tl (⟨#[104,116,116,112]⟩:ByteArray)=[104,116,116,112]:=rfl
 have e2:tl (⟨#[104,116,116,112,115]⟩:ByteArray)=[104,116,116,112,115]:=rfl
 have e3:tl (⟨#[119,115]⟩:ByteArray)=[119,115]:=rfl
 have e4:tl (⟨#[119,115,115]⟩:ByteArray)=[119,115,115]:=rfl
 have e5:tl (⟨#[102,116,112]⟩:ByteArray)=[102,116,112]:=rfl
 have e6:tl (⟨#[102,105,108,101]⟩:ByteArray)=[102,105,108,101]:=rfl
 rw [e1,e2,e3,e4,e5,e6]
 by_cases h1:sch=[104,116,116,112]
 ·subst h1;rfl
 by_cases h2:sch=[104,116,116,112,115]
 ·subst h2;rfl
 by_cases h3:sch=[119,115]
 ·subst h3;rfl
 by_cases h4:sch=[119,115,115]
 ·subst h4;rfl
 by_cases h5:sch=[102,116,112]
 ·subst h5;rfl
 by_cases h6:sch=[102,105,108,101]
 ·subst h6;rfl
 rw [if_neg (Ne.symm h1),if_neg (Ne.symm h2),if_neg (Ne.symm h3),if_neg (Ne.symm h4),if_neg (Ne.symm h5),if_neg (Ne.symm h6),if_neg (by rintro (e | e);exact h1 e;exact h3 e),if_neg (by rintro (e | e);exact h2 e;exact h4 e),if_neg h5]
 simp [h6]
theorem Zmf (sch:List UInt8) (l:List Int) (hl:∀ c∈l,Pt c):ZbC (slB (Zc sch)) (Zb l)=(parts l (tl (Zj sch))).map Zb:=by
 have hs:Zr2 (slB (Zc sch)) (tl (Zj sch)):=by rw [Zgf,special_eq];exact ZeK _
 generalize tl (Zj sch)=t at *
 generalize hk:l.length=k
 induction k using Nat.strongRecOn generalizing l with
 | ind k ih=>
  rw [Zf8,Zaj hs l hl,ZfA]
  cases hc:(cut l t).2.2
  ·simp
  ·simp only [if_true]
   have hlen:=(Za7 l t).2 hc
   rw [ih _ (by omega) (cut l t).2.1 (fun c hm=>hl c (ZA (Or.inr hm))) rfl]
   rfl
theorem ZjE {b c:UInt8} (h:ZdG b=c) (hc:c.toNat < 65):b=c:=by
 unfold ZdG at h
 split at h
 ·next hb=>
  have:=congrArg UInt8.toNat h
  rw [UInt8.toNat_add] at this
  have e:(32:UInt8).toNat=32:=rfl
  rw [e] at this
  omega
 ·exact h
theorem Zvt {b:UInt8} (h:ZdG b=101):b=101∨b=69:=by
 unfold ZdG at h
 split at h
 ·next hb=>
  right
  have:=congrArg UInt8.toNat h
  rw [UInt8.toNat_add] at this
  have e:(32:UInt8).toNat=32:=rfl
  have e2:(101:UInt8).toNat=101:=rfl
  rw [e,e2] at this
  exact UInt8.toNat_inj.1 (by have e3:(69:UInt8).toNat=69:=rfl;omega)
 ·exact Or.inl h
theorem lower_cons (c:UInt8) (r:List UInt8):lower (c :: r)=ZdG c :: lower r:=rfl
theorem ZeN {l:List UInt8}:lower l=[]↔l=[]:=by cases l <;> simp [lower]
theorem Znu {l t:List UInt8} (h:lower l=46 :: t):∃ r,l=46 :: r∧lower r=t:=by
 cases l with
 | nil=>cases h
 | cons c r=>
  rw [lower_cons] at h
  obtain ⟨h1,h2⟩:=List.cons.inj h
  exact ⟨r,by rw [ZjE h1 (by decide)],h2⟩
theorem Znv {l t:List UInt8} (h:lower l=37 :: 50 :: 101 :: t):∃ x r,l=37 :: 50 :: x :: r∧(x=101∨x=69)∧lower r=t:=by
 match l,h with
 | [],h=>cases h
 | [a],h=>rw [lower_cons] at h;cases (List.cons.inj h).2
 | [a,b],h=>rw [lower_cons,lower_cons] at h;cases (List.cons.inj (List.cons.inj h).2).2
 | a :: b :: x :: r,h=>
  rw [lower_cons,lower_cons,lower_cons] at h
  obtain ⟨h1,h⟩:=List.cons.inj h
  obtain ⟨h2,h⟩:=List.cons.inj h
  obtain ⟨h3,h4⟩:=List.cons.inj h
  exact ⟨x,r,by rw [ZjE h1 (by decide),ZjE h2 (by decide)],Zvt h3,h4⟩
theorem Znw (l:List UInt8):(dotSize l=1∧∃ r,l=46 :: r)∨(dotSize l=3∧∃ x r,l=37 :: 50 :: x :: r∧(x=101∨x=69))∨(dotSize l=0∧(∀ r,l≠46 :: r)∧∀ x r,l=37 :: 50 :: x :: r→¬ (x=101∨x=69)):=by
 by_cases h1:((l.getD 0 0).toNat:Int)=46
 ·refine Or.inl ⟨by rw [dotSize,if_pos h1],?_⟩
  cases l with
  | nil=>exact absurd h1 (by decide)
  | cons c r=>exact ⟨r,by rw [show c=46 from Zbb (n:=46) rfl h1]⟩
 ·by_cases h2:3≤l.length∧((l.getD 0 0).toNat:Int)=37∧((l.getD 1 0).toNat:Int)=50∧(((l.getD 2 0).toNat:Int)=101∨((l.getD 2 0).toNat:Int)=69)
  ·refine Or.inr (Or.inl ⟨by rw [dotSize,if_neg h1,if_pos h2],?_⟩)
   match l,h2 with
   | a :: b :: x :: r,⟨_,ha,hb,hx⟩=>
    refine ⟨x,r,by rw [show a=37 from Zbb (n:=37) rfl ha,show b=50 from Zbb (n:=50) rfl hb],?_⟩
    rcases hx with hx | hx
    ·exact Or.inl (Zbb (n:=101) rfl hx)
    ·exact Or.inr (Zbb (n:=69) rfl hx)
  ·refine Or.inr (Or.inr ⟨by rw [dotSize,if_neg h1,if_neg h2],?_,?_⟩)
   ·rintro r rfl;exact h1 rfl
   ·rintro x r rfl hx
    refine h2 ⟨by simp,rfl,rfl,?_⟩
    rcases hx with rfl | rfl
    ·exact Or.inl rfl
    ·exact Or.inr rfl
theorem Zvu {x:UInt8} (h:x=101∨x=69):ZdG x=101:=by rcases h with rfl | rfl <;> rfl
theorem Znx (r:List UInt8) (hr:r≠[]):(if lower r=[46] then (2:Int) else if lower r=[37,50,101] then 2 else 0)=((cdGo 2 1 r:Nat):Int):=by
 rw [cdGo,if_neg hr]
 rcases Znw r with ⟨h,q,rfl⟩ | ⟨h,x,q,rfl,hx⟩ | ⟨h,h1,h2⟩
 ·have hr1:(if dotSize (46 :: q)=0 then 0 else cdGo 1 (1 + 1) ((46 :: q).drop (dotSize (46 :: q))))=cdGo 1 2 q:=by rw [h,if_neg (by decide)];rfl
  rw [hr1,cdGo,lower_cons,show ZdG 46=46 from rfl]
  cases q with
  | nil=>rfl
  | cons c q=>
   rw [if_neg (by simp [lower]),if_neg (by simp),if_neg (by simp)]
   split <;> rfl
 ·have hr1:(if dotSize (37 :: 50 :: x :: q)=0 then 0 else cdGo 1 (1 + 1) ((37 :: 50 :: x :: q).drop (dotSize (37 :: 50 :: x :: q))))=cdGo 1 2 q:=by rw [h,if_neg (by decide)];rfl
  rw [hr1,cdGo,lower_cons,lower_cons,lower_cons,Zvu hx,show ZdG 37=37 from rfl,show ZdG 50=50 from rfl]
  cases q with
  | nil=>rfl
  | cons c q=>
   rw [if_neg (by simp),if_neg (by simp [lower]),if_neg (by simp)]
   split <;> rfl
 ·rw [h,if_pos rfl,if_neg (fun e=>by obtain ⟨r',e',-⟩:=Znu e;exact h1 r' e'),if_neg (fun e=>by obtain ⟨x,r',e',hx,-⟩:=Znv e;exact h2 x r' e' hx)]
  rfl
theorem ZuI (e:List UInt8):dots e=(countDots e:Int):=by
 unfold dots countDots
 rw [cdGo]
 by_cases h0:e=[]
 ·subst h0;rfl
 rw [if_neg h0]
 rcases Znw e with ⟨h,r,rfl⟩ | ⟨h,x,r,rfl,hx⟩ | ⟨h,h1,h2⟩
 ·rw [h,if_neg (by decide),lower_cons,show ZdG 46=46 from rfl]
  show ZcP cands (46 :: lower r)=((cdGo 2 1 r:Nat):Int)
  by_cases hr:r=[]
  ·subst hr;rfl
  ·rw [← Znx r hr]
   have hn:lower r≠[]:=fun e=>hr (ZeN.1 e)
   simp [ZcP,cands,hn]
 ·rw [h,if_neg (by decide),lower_cons,lower_cons,lower_cons,Zvu hx,show ZdG 37=37 from rfl,show ZdG 50=50 from rfl]
  show ZcP cands (37 :: 50 :: 101 :: lower r)=((cdGo 2 1 r:Nat):Int)
  by_cases hr:r=[]
  ·subst hr;rfl
  ·rw [← Znx r hr]
   have hn:lower r≠[]:=fun e=>hr (ZeN.1 e)
   simp [ZcP,cands,hn]
 ·rw [h,if_pos rfl]
  have n1:∀ t,lower e≠46 :: t:=fun t e'=>by obtain ⟨r',e'',-⟩:=Znu e';exact h1 r' e''
  have n2:∀ t,lower e≠37 :: 50 :: 101 :: t:=fun t e'=>by obtain ⟨x,r',e'',hx,-⟩:=Znv e';exact h2 x r' e'' hx
  simp [ZcP,cands,n1,n2]
theorem Zny {b:UInt8} {q:List UInt8} (h:128≤b.toNat):ZJ (b :: q)=false:=by
 unfold ZJ
 split
 ·next a c e=>
  obtain ⟨rfl,-⟩:=List.cons.inj e
  rw [Zdx.hi _ h];rfl
 ·rfl
theorem ZqG {a b:UInt8} {q:List UInt8} (h:128≤b.toNat):ZJ (a :: b :: q)=false:=by
 unfold ZJ
 split
 ·next x y e=>
  obtain ⟨rfl,e2⟩:=List.cons.inj e
  obtain ⟨rfl,-⟩:=List.cons.inj e2
  have:((b.toNat:Int) == 58 || (b.toNat:Int) == 124)=false:=by simp;omega
  rw [this,Bool.and_false]
 ·rfl
theorem Znz {c:Int} (h:Pt c):1≤((utf c).map toB).length:=by
 rcases Z9 h with ⟨-,-,e⟩ | ⟨-,e,-⟩
 ·rw [e];simp
 ·cases hx:(utf c).map toB with
  | nil=>exact absurd hx e
  | cons b q=>simp
theorem Zcl (l:List Int) (hl:∀ c∈l,Pt c):ZJ (Zb l)=letter l:=by
 match l,hl with
 | [],_=>rfl
 | [c],hl=>
  rw [bytesOf_cons,bytesOf_nil,List.append_nil]
  rcases Z9 (hl c (by simp)) with ⟨h0,h1,e⟩ | ⟨h0,e1,e⟩
  ·rw [e];rfl
  ·have hd:ZJ ((utf c).map toB)=false:=by
    cases hx:(utf c).map toB with
    | nil=>exact absurd hx e1
    | cons b q=>exact Zny (e b (by rw [hx];simp))
   rw [hd];rfl
 | [c,d],hl=>
  rw [bytesOf_cons,bytesOf_cons,bytesOf_nil,List.append_nil]
  show _=(alpha c && (d == 58 || d == 124))
  rcases Z9 (hl c (by simp)) with ⟨h0,h1,e⟩ | ⟨h0,e1,e⟩
  ·rw [e,List.singleton_append]
   rcases Z9 (hl d (by simp)) with ⟨k0,k1,f⟩ | ⟨k0,f1,f⟩
   ·rw [f]
    show (alpha ((toB c).toNat:Int) && (((toB d).toNat:Int) == 58 || ((toB d).toNat:Int) == 124))=_
    rw [Za2 h0 h1,Za2 k0 k1]
   ·have hd:(d == 58 || d == 124)=false:=by simp;omega
    rw [hd,Bool.and_false]
    cases hx:(utf d).map toB with
    | nil=>exact absurd hx f1
    | cons b q=>exact ZqG (f b (by rw [hx];simp))
  ·rw [Zdx.up c h0]
   cases hx:(utf c).map toB with
   | nil=>exact absurd hx e1
   | cons b q=>exact Zny (e b (by rw [hx];simp))
 | c :: d :: f :: r,hl=>
  have h1:3≤(Zb (c :: d :: f :: r)).length:=by
   rw [bytesOf_cons,bytesOf_cons,bytesOf_cons]
   simp only [List.length_append]
   have k1:=Znz (hl c (by simp))
   have k2:=Znz (hl d (by simp))
   have k3:=Znz (hl f (by simp))
   omega
  show _=false
  cases hd:ZJ (Zb (c :: d :: f :: r))
  ·rfl
  ·have:=ZeI hd;omega
end Go.Proofs.YtchkhibgbnhjpaaGreatDoor
