import Derived.Test.YtchkhibgbnhjpaaGreatDoorK22
import Derived.Test.YtchkhibgbnhjpaaGreatDoorK24
namespace Go.Proofs.YtchkhibgbnhjpaaGreatDoor
open Go.RowKit
theorem ZdA (n base:Int) (_hb:base=8∨base=10∨base=16):ZL n base=if 0≤digit n∧digit n < base then (digit n,true) else (0,false):=by
 unfold ZL digit
 simp only
 by_cases a1:48≤n∧n≤57
 ·rw [if_pos a1,if_pos a1]
  by_cases h:base≤n - 48
  ·rw [if_pos h,if_neg (by omega)]
  ·rw [if_neg h,if_pos (by omega)]
 rw [if_neg a1,if_neg a1]
 by_cases a2:97≤n∧n≤102
 ·rw [if_pos a2,if_pos a2]
  by_cases h:base≤n - 97 + 10
  ·rw [if_pos h,if_neg (by omega)]
  ·rw [if_neg h,if_pos (by omega)]
   congr 1;omega
 rw [if_neg a2,if_neg a2]
 by_cases a3:65≤n∧n≤70
 ·rw [if_pos a3,if_pos a3]
  by_cases h:base≤n - 65 + 10
  ·rw [if_pos h,if_neg (by omega)]
  ·rw [if_neg h,if_pos (by omega)]
   congr 1;omega
 rw [if_neg a3,if_neg a3,if_pos (by omega),if_neg (by omega)]
def ZtY (n v:Int):Prop:=(n≤4294967295∧v=n)∨(4294967295 < n∧4294967295 < v)
theorem ZqL (base:Int) (hb:base=8∨base=10∨base=16) (l:List UInt8):∀ n v:Int,0≤n→ZtY n v→(numGo base 4294967295 n l=none∧vGo base v l=none)∨∃ n' v',numGo base 4294967295 n l=some n'∧vGo base v l=some v'∧ZtY n' v'∧0≤n':=by
 induction l with
 | nil=>intro n v h0 h;exact Or.inr ⟨n,v,rfl,rfl,h,h0⟩
 | cons c r ih=>
  intro n v h0 h
  rw [numGo,vGo,ZdA _ _ hb]
  generalize digit (c.toNat:Int)=d at *
  by_cases hd:0≤d∧d < base
  ·have h9:¬ (d < 0∨base≤d):=by omega
   rw [if_pos hd,if_neg h9]
   simp only [if_true]
   refine ih _ _ ?_ ?_
   ·split
    ·have:=Int.mul_nonneg h0 (show (0:Int)≤base by omega)
     omega
    ·exact h0
   ·rcases h with ⟨h1,rfl⟩ | ⟨h1,h2⟩
    ·rw [if_pos h1]
     unfold Zd2
     have:v * base + d≤1099511627776:=by rcases hb with rfl | rfl | rfl <;> omega
     rw [if_neg (by omega)]
     by_cases h3:v * base + d≤4294967295
     ·exact Or.inl ⟨h3,rfl⟩
     ·exact Or.inr ⟨by omega,by omega⟩
    ·rw [if_neg (by omega)]
     refine Or.inr ⟨h1,?_⟩
     unfold Zd2
     split
     ·omega
     ·rcases hb with rfl | rfl | rfl <;> omega
  ·have h9:d < 0∨base≤d:=by omega
   rw [if_neg hd,if_pos h9]
   exact Or.inl ⟨rfl,rfl⟩
def Zmi (x y:Int × Bool):Prop:=(x.2=false∧y.2=false)∨(x.2=true∧y.2=true∧0≤x.1∧((x.1≤4294967295∧y.1=x.1)∨(x.1=4294967296∧4294967295 < y.1)))
theorem ZeR (base:Int) (hb:base=8∨base=10∨base=16) (l:List UInt8) (hl:l≠[]):Zmi (Zn l base 4294967295) (fin (vGo base 0 l)):=by
 unfold Zn
 rw [if_neg hl]
 rcases ZqL base hb l 0 0 (Int.le_refl _) (Or.inl ⟨by decide,rfl⟩) with ⟨h1,h2⟩ | ⟨n,v,h1,h2,h3,h4⟩
 ·rw [h1,h2];exact Or.inl ⟨rfl,rfl⟩
 ·rw [h1,h2]
  simp only [fin]
  rcases h3 with ⟨h5,rfl⟩ | ⟨h5,h6⟩
  ·rw [if_neg (by omega)];exact Or.inr ⟨rfl,rfl,h4,Or.inl ⟨h5,rfl⟩⟩
  ·rw [if_pos h5];exact Or.inr ⟨rfl,rfl,by decide,Or.inr ⟨by decide,h6⟩⟩
def Low (l:List UInt8):Prop:=∀ b∈l,¬ (65≤b.toNat∧b.toNat≤90)
theorem ZqM (l:List UInt8):Low (lower l):=by
 intro b hb
 obtain ⟨c,-,rfl⟩:=List.mem_map.1 hb
 unfold ZdG
 split
 ·rw [UInt8.toNat_add]
  have:(32:UInt8).toNat=32:=rfl
  omega
 ·assumption
theorem ZqN {b c:UInt8} {n:Int} (hc:(c.toNat:Int)=n):((b.toNat:Int)=n)↔b=c:=by
 constructor
 ·intro h;exact UInt8.toNat_inj.1 (by omega)
 ·intro h;rw [h];exact hc
theorem ZjI (t:List UInt8) (ht:Low t):Zmi (ZG t) (valueStr t):=by
 unfold ZG valueStr
 match t,ht with
 | [],_=>exact Or.inl ⟨rfl,rfl⟩
 | [c],_=>
  rw [if_pos (Or.inl (by simp)),if_neg (by simp),if_neg (by simp),if_neg (by simp)]
  exact ZeR 10 (by omega) _ (by simp)
 | c :: d :: r,ht=>
  rw [if_neg (show ¬ (c :: d :: r:List UInt8)=[] by simp)]
  by_cases hc:c=48
  ·subst hc
   have g1:¬ ((48 :: d :: r:List UInt8).length < 2∨¬ (((48 :: d :: r:List UInt8).getD 0 0).toNat:Int)=48):=by
    rintro (h | h)
    ·simp at h;omega
    ·exact h rfl
   rw [if_neg g1]
   by_cases hd:d=120
   ·subst hd
    have g2:¬ (¬ (((48 :: 120 :: r:List UInt8).getD 1 0).toNat:Int)=120∧¬ (((48 :: 120 :: r:List UInt8).getD 1 0).toNat:Int)=88):=by
     rintro ⟨h,-⟩;exact h rfl
    have g3:1 < (48 :: 120 :: r:List UInt8).length∧(48 :: 120 :: r:List UInt8).take 2=[48,120]:=⟨by simp,rfl⟩
    rw [if_neg g2,if_pos g3]
    cases r with
    | nil=>exact Or.inr ⟨rfl,rfl,by decide,Or.inl ⟨by decide,rfl⟩⟩
    | cons e r=>
     rw [if_neg (by simp)]
     exact ZeR 16 (by omega) _ (by simp)
   ·have hd2:¬ d=88:=fun e=>ht d (by simp) (by rw [e];decide)
    rw [if_pos ⟨fun h=>hd ((ZqN (c:=120) rfl).1 h),fun h=>hd2 ((ZqN (c:=88) rfl).1 h)⟩,if_neg (by rintro ⟨-,h⟩;simp at h;exact hd h),if_pos ⟨by simp,rfl⟩]
    exact ZeR 8 (by omega) _ (by simp)
  ·have g1:(c :: d :: r:List UInt8).length < 2∨¬ (((c :: d :: r:List UInt8).getD 0 0).toNat:Int)=48:=Or.inr (fun h=>hc ((ZqN (c:=48) rfl).1 h))
   rw [if_pos g1,if_neg (by rintro ⟨-,h⟩;simp at h;exact hc h.1),if_neg (by rintro ⟨-,h⟩;simp at h;exact hc h)]
   exact ZeR 10 (by omega) _ (by simp)
theorem Zil (most:Int) (l:List UInt8):∀ n,(numGo 10 most n l).isSome=l.all fun b=>numeral (b.toNat:Int):=by
 induction l with
 | nil=>intro n;rfl
 | cons c r ih=>
  intro n
  rw [numGo,ZdA _ _ (by omega),List.all_cons]
  have hnum:numeral (c.toNat:Int)=decide (0≤digit (c.toNat:Int)∧digit (c.toNat:Int) < 10):=by
   unfold numeral digit
   by_cases a1:48≤(c.toNat:Int)∧(c.toNat:Int)≤57
   ·rw [if_pos a1,decide_eq_true a1,decide_eq_true (by omega)]
   ·rw [if_neg a1,decide_eq_false a1]
    split
    ·rw [decide_eq_false (by omega)]
    ·split
     ·rw [decide_eq_false (by omega)]
     ·rw [decide_eq_false (by omega)]
  rw [hnum]
  by_cases hd:0≤digit (c.toNat:Int)∧digit (c.toNat:Int) < 10
  ·rw [if_pos hd,decide_eq_true hd]
   simp only [if_true,Bool.true_and]
   exact ih _
  ·rw [if_neg hd,decide_eq_false hd]
   simp
theorem ZfQ (most:Int) (l:List UInt8):(Zn l 10 most).2=((l.all fun b=>numeral (b.toNat:Int)) && !l.isEmpty):=by
 unfold Zn
 cases l with
 | nil=>rfl
 | cons c r=>
  rw [if_neg (by simp)]
  have h:=Zil most (c :: r) 0
  cases hn:numGo 10 most 0 (c :: r) with
  | none=>rw [hn] at h;simp only [Option.isSome] at h;rw [← h];rfl
  | some n=>rw [hn] at h;simp only [Option.isSome] at h;rw [← h];simp only;split <;> rfl
theorem ZhZ:Asc (fun b=>numeral (b.toNat:Int)) numeral where
 lo:=Zem (p:=fun b=>numeral (b.toNat:Int)) (P:=numeral) (by decide)
 hi:=fun b hb=>by simp [numeral];omega
 up:=fun c hc=>by simp [numeral];omega
theorem by256 {P:UInt8→Prop} (h:∀ n:Fin 256,P (UInt8.ofNat n.val)) (b:UInt8):P b:=by
 have:=h ⟨b.toNat,b.toNat_lt⟩
 rwa [UInt8.ofNat_toNat] at this
theorem numeral_low (b:UInt8):numeral ((ZdG b).toNat:Int)=numeral (b.toNat:Int):=by256 (P:=fun b=>numeral ((ZdG b).toNat:Int)=numeral (b.toNat:Int)) (by decide +kernel) b
theorem ZkQ (p:List Int) (hp:∀ c∈p,Pt c) (most:Int):(Zn (lower (Zb p)) 10 most).2=ZP p:=by
 rw [ZfQ]
 unfold ZP
 have h1:((lower (Zb p)).all fun b=>numeral (b.toNat:Int))=(Zb p).all fun b=>numeral (b.toNat:Int):=by
  unfold lower
  rw [List.all_map]
  congr 1
  funext b
  exact numeral_low b
 rw [h1,ZhZ.all p hp]
 congr 1
 cases p with
 | nil=>rfl
 | cons c r=>
  have hne:Zb (c :: r)≠[]:=fun e=>by have:=(Zr hp).1 e;cases this
  cases hb:Zb (c :: r) with
  | nil=>exact absurd hb hne
  | cons x y=>rfl
def tb (p:List Int):List UInt8:=lower (Zb p)
theorem ZnF (p:List Int):Zmi (ZG (tb p)) (valueOf p):=ZjI _ (ZqM _)
theorem ZoQ (n:Nat) (hn:n≤4):∀ (ps:List (List Int)) (i:Nat) (s:Int),i + ps.length=n→ip4Go (ps.map tb) (256 ^ (4 - i)) s=fourGo n i s ps:=by
 intro ps
 induction ps with
 | nil=>intro i s h;rfl
 | cons p r ih=>
  intro i s h
  rw [List.length_cons] at h
  rw [List.map_cons,ip4Go,fourGo]
  have hv:=ZnF p
  have hih:=ih (i + 1)
  generalize ZG (tb p)=x at *
  generalize valueOf p=y at *
  have hr:(r.map tb≠[])↔r≠[]:=by cases r <;> simp
  have hr2:(i + 1=n)↔r=[]:=by
   cases r with
   | nil=>simp at h ⊢;omega
   | cons a b=>simp at h ⊢;omega
  rcases hv with ⟨h1,h2⟩ | ⟨h1,h2,h3,h4⟩
  ·rw [if_pos h1,if_pos (Or.inl h2)]
  ·rw [if_neg (by rw [h1];decide)]
   by_cases hr0:r=[]
   ·subst hr0
    have hi:i + 1=n:=hr2.2 rfl
    rw [if_pos hi]
    have hpow:(256:Int) ^ (4 - i)≤4294967296:=by
     have:i=0∨i=1∨i=2∨i=3:=by omega
     rcases this with rfl | rfl | rfl | rfl <;> decide
    by_cases hb:(256:Int) ^ (4 - i)≤x.1
    ·rw [if_pos (Or.inl hb),if_pos (Or.inr (by rcases h4 with ⟨a,b⟩ | ⟨a,b⟩ <;> omega))]
    ·have hx:y.1=x.1:=by rcases h4 with ⟨a,b⟩ | ⟨a,b⟩ <;> omega
     have g1:¬ ((256:Int) ^ (4 - i)≤x.1∨(([]:List (List Int)).map tb≠[]∧255 < x.1)):=by
      rintro (g | ⟨g,-⟩)
      ·exact hb g
      ·exact g rfl
     have g2:¬ (y.2=false∨(256:Int) ^ (4 - i)≤y.1):=by
      rintro (g | g)
      ·rw [h2] at g;cases g
      ·rw [hx] at g;exact hb g
     have g3:¬ (([]:List (List Int)).map tb≠[]):=fun g=>g rfl
     rw [if_neg g1,if_neg g2,if_neg g3,if_pos hi,hx,Int.mul_one]
     rfl
   ·have hi:¬ i + 1=n:=fun e=>hr0 (hr2.1 e)
    have hrn:=hr.2 hr0
    rw [if_neg hi]
    have h256:(255 < x.1)↔(256≤y.1):=by rcases h4 with ⟨a,b⟩ | ⟨a,b⟩ <;> omega
    have hlen:0 < r.length:=by cases r with | nil=>exact absurd rfl hr0 | cons _ _=>simp
    have hroom:(256:Int)≤256 ^ (4 - i)∧(256:Int) ^ (4 - i) / 256=256 ^ (3 - i)∧(3 - i=4 - (i + 1)):=by
     have:i=0∨i=1∨i=2:=by omega
     rcases this with rfl | rfl | rfl <;> decide
    by_cases hb:256≤y.1
    ·rw [if_pos (Or.inr ⟨hrn,h256.2 hb⟩),if_pos (Or.inr hb)]
    ·have hx:y.1=x.1:=by rcases h4 with ⟨a,b⟩ | ⟨a,b⟩ <;> omega
     have g1:¬ ((256:Int) ^ (4 - i)≤x.1∨(r.map tb≠[]∧255 < x.1)):=by
      rintro (g | ⟨-,g⟩)
      ·omega
      ·exact hb (h256.1 g)
     have g2:¬ (y.2=false∨256≤y.1):=by
      rintro (g | g)
      ·rw [h2] at g;cases g
      ·exact hb g
     rw [if_neg g1,if_neg g2,if_pos hrn,if_neg hi,hroom.2.1,hx,hroom.2.2]
     exact hih _ (by omega)
theorem Zgj (ps:List (List Int)) (h:ps≠[]):ip4 (ps.map tb)=fourOf ps:=by
 unfold ip4 fourOf
 rw [List.length_map]
 have h0:¬ ps.length=0:=fun e=>h (List.eq_nil_of_length_eq_zero e)
 by_cases h4:4 < ps.length
 ·rw [if_pos (Or.inr h4),if_pos h4]
 ·rw [if_neg (by omega),if_neg h4]
  exact ZoQ ps.length (by omega) ps 0 0 (by omega)
theorem ZeS (n:Nat) (h:n≤99999):dec n=ZbU n:=by
 unfold ZbU
 by_cases h1:n < 10
 ·rw [if_pos h1,dec,if_neg (by omega)];rfl
 rw [if_neg h1,dec,if_pos (by omega)]
 by_cases h2:n < 100
 ·rw [if_pos h2,dec,if_neg (by omega)];rfl
 rw [if_neg h2,dec,if_pos (by omega),show n / 10 / 10=n / 100 by omega]
 by_cases h3:n < 1000
 ·rw [if_pos h3,dec,if_neg (by omega)];rfl
 rw [if_neg h3,dec,if_pos (by omega),show n / 100 / 10=n / 1000 by omega]
 by_cases h4:n < 10000
 ·rw [if_pos h4,dec,if_neg (by omega)];rfl
 rw [if_neg h4,dec,if_pos (by omega),show n / 1000 / 10=n / 10000 by omega,dec,if_neg (by omega)]
 rfl
theorem ZqO (v:Nat) (h:v < 4294967296):ZaR v=ZcR v:=by
 rw [Zc8]
 unfold ZaR dots4
 rw [ZeS _ (by omega),ZeS _ (by omega),ZeS _ (by omega),ZeS _ (by omega)]
 rw [show v / 256 ^ 3 % 256=v / 16777216 by omega,show v / 256 ^ 2 % 256=v / 65536 % 256 by omega,show v / 256 ^ 1 % 256=v / 256 % 256 by omega,show v / 256 ^ 0 % 256=v % 256 by omega]
 simp
theorem ZgP:∀ (n:Nat) (l:List UInt8),l.length≤n→(∀ b∈clean l,b.toNat < 128)→∀ b∈l,b.toNat < 128:=by
 intro n
 induction n with
 | zero=>intro l h _ b hb;rw [List.eq_nil_of_length_eq_zero (Nat.le_zero.1 h)] at hb;cases hb
 | succ n ih=>
  intro l hn h b hb
  cases l with
  | nil=>cases hb
  | cons c r=>
   by_cases hc:c.toNat < 128
   ·rw [Zg9 r hc] at h
    rcases List.mem_cons.1 hb with rfl | hb
    ·exact hc
    ·exact ih r (by simp at hn;omega) (fun x hx=>h x (List.mem_cons_of_mem _ hx)) b hb
   ·exfalso
    rw [Zdr _ (by simp)] at h
    cases hm:(measure (c :: r)).2
    ·rw [hm] at h
     have:=h 239 (by simp)
     exact absurd this (by decide)
    ·rw [hm] at h
     have h1:1≤(measure (c :: r)).1:=ZkI _ _ _ _ _
     have:=h c (by
      simp only [if_true]
      refine List.mem_append_left _ ?_
      obtain ⟨m,hm⟩:∃ m,(measure (c :: r)).1=m + 1:=⟨(measure (c :: r)).1 - 1,by omega⟩
      rw [hm,List.take_succ_cons]
      exact List.mem_cons_self ..)
     exact hc this
theorem ZkR {d:List Int} (hd:∀ c∈d,Pt c):(∀ b∈Zb d,b.toNat < 128)↔∀ c∈d,c≤127:=by
 induction d with
 | nil=>simp [Zb]
 | cons c r ih=>
  have ih':=ih (fun x hx=>hd x (List.mem_cons_of_mem _ hx))
  rw [bytesOf_cons]
  constructor
  ·intro h x hx
   rcases List.mem_cons.1 hx with rfl | hx
   ·rcases Z9 (hd x (List.mem_cons_self ..)) with ⟨a,b,e⟩ | ⟨a,b,e⟩
    ·omega
    ·exfalso
     cases hq:(utf x).map toB with
     | nil=>exact b hq
     | cons y q=>
      have h1:=h y (by rw [hq];simp)
      have h2:=e y (by rw [hq];simp)
      omega
   ·exact ih'.1 (fun b hb=>h b (List.mem_append_right _ hb)) x hx
  ·intro h b hb
   rcases List.mem_append.1 hb with hb | hb
   ·rcases Z9 (hd c (List.mem_cons_self ..)) with ⟨a,k,e⟩ | ⟨a,k,e⟩
    ·rw [e,List.mem_singleton] at hb
     subst hb
     have:=Za2 a k
     omega
    ·have:=h c (List.mem_cons_self ..);omega
   ·exact ih'.2 (fun x hx=>h x (List.mem_cons_of_mem _ hx)) b hb
theorem isB_low (b:UInt8):isB 46 (ZdG b)=isB 46 b:=by256 (P:=fun b=>isB 46 (ZdG b)=isB 46 b) (by decide +kernel) b
theorem ZkS (l:List UInt8):bsplit 46 (lower l)=(bsplit 46 l).map lower:=by
 induction l with
 | nil=>rfl
 | cons c r ih=>
  rw [lower_cons,bsplit,bsplit,isB_low,ih]
  cases isB 46 c
  ·simp only [Bool.false_eq_true,if_false]
   cases bsplit 46 r with
   | nil=>rfl
   | cons p q=>rfl
  ·simp only [if_true]
   rfl
theorem beyond_lower (l:List UInt8):beyondB (lower l)=beyondB l:=by
 unfold beyondB lower
 rw [List.any_map]
 congr 1
 funext b
 exact by256 (P:=fun b=>decide (127 < ((ZdG b).toNat:Int))=decide (127 < (b.toNat:Int))) (by decide +kernel) b
theorem ZuJ:Asc (fun b=>Zid (ZdG b)) Zfn where
 lo:=Zem (p:=fun b=>Zid (ZdG b)) (P:=Zfn) (by decide +kernel)
 hi:=fun b=>by256 (P:=fun b=>128≤b.toNat→Zid (ZdG b)=false) (by decide +kernel) b
 up:=fun c hc=>by simp [Zfn,among,Zcv];omega
theorem ZtZ {p:List Int} (hp:∀ c∈p,Pt c):tb p=[]↔p=[]:=by
 unfold tb
 rw [ZeN,Zr hp]
theorem ZqP (l:List Int) (t:List UInt8):parts l t≠[]:=by
 rw [ZfA]
 split <;> simp
theorem ZfR (ps:List (List Int)) (h:ps≠[]):(ps.map tb).getD ((ps.map tb).length - 1) []=tb (Zbc ps):=by
 unfold Zbc
 have hl:ps.length - 1 < ps.length:=by cases ps with | nil=>exact absurd rfl h | cons _ _=>simp
 rw [List.length_map,List.getD_eq_getElem?_getD,List.getD_eq_getElem?_getD,List.getElem?_map,List.getElem?_eq_getElem hl]
 rfl
theorem ZiW {ps:List (List Int)} (h:ps≠[]):Zbc ps∈ps:=by
 have hl:ps.length - 1 < ps.length:=by cases ps with | nil=>exact absurd rfl h | cons _ _=>simp
 rw [Zcm hl]
 exact List.getElem_mem _
theorem ZsT (ps:List (List Int)) (h:ps≠[]) (hp:∀ p∈ps,∀ c∈p,Pt c):ZdZ (ps.map tb)=(if 1 < ps.length∧(Zbc ps).length=0 then ps.take (ps.length - 1) else ps).map tb:=by
 unfold ZdZ
 rw [ZfR ps h,List.length_map]
 have e:(tb (Zbc ps)=[])↔(Zbc ps).length=0:=by
  rw [ZtZ (hp _ (ZiW h))]
  exact ⟨fun e=>by rw [e];rfl,List.eq_nil_of_length_eq_zero⟩
 by_cases hc:1 < ps.length∧(Zbc ps).length=0
 ·rw [if_pos hc,if_pos ⟨hc.1,e.2 hc.2⟩,List.map_take]
 ·rw [if_neg hc,if_neg (fun g=>hc ⟨g.1,e.1 g.2⟩)]
theorem ZqQ (d:List Int) (qs:List (List Int)) (h:qs≠[]) (hp:∀ p∈qs,∀ c∈p,Pt c):Zd0 (lower (Zb d)) (qs.map tb)=((domTail d qs).2.1,(domTail d qs).2.2)∧(domTail d qs).1=decide ((domTail d qs).2.2=0):=by
 unfold Zd0 domTail
 have he:ZbN (qs.map tb)=(ZP (Zbc qs) || (valueOf (Zbc qs)).2):=by
  unfold ZbN
  rw [if_neg (by rw [List.length_map];exact fun e=>h (List.eq_nil_of_length_eq_zero e)),ZfR qs h]
  rw [show Zn (tb (Zbc qs)) 10 4294967295=Zn (lower (Zb (Zbc qs))) 10 4294967295 from rfl,ZkQ _ (hp _ (ZiW h))]
  congr 1
  rcases ZnF (Zbc qs) with ⟨a,b⟩ | ⟨a,b,-⟩ <;> rw [a,b]
 rw [he,Zgj qs h]
 by_cases hc:(valueOf (Zbc qs)).2=false∧ZP (Zbc qs)=false
 ·rw [if_pos hc,if_pos (by rw [hc.1,hc.2];rfl)]
  exact ⟨rfl,rfl⟩
 ·have h1:¬ (ZP (Zbc qs) || (valueOf (Zbc qs)).2)=false:=fun g=>by
   rw [Bool.or_eq_false_iff] at g
   exact hc ⟨g.2,g.1⟩
  rw [if_neg hc,if_neg h1]
  by_cases h2:(fourOf qs).2=true
  ·have h3:=ZtW (ps:=qs.map tb) (by rw [Zgj qs h];exact h2)
   rw [Zgj qs h] at h3
   rw [if_pos h2,if_pos h2,ZqO _ h3]
   exact ⟨rfl,rfl⟩
  ·rw [if_neg h2,if_neg h2]
   exact ⟨rfl,rfl⟩
theorem ZqR (l:List Int):ZaA (Zb l)=((domainOf l).2.1,(domainOf l).2.2)∧(domainOf l).1=decide ((domainOf l).2.2=0):=by
 unfold ZaA domainOf
 rw [bdecode_decoded,beyond_lower,ZkS]
 generalize decoded (Zb l)=D
 have hsc:=Zdv D
 have hbp:=ZaZ D
 generalize Zl D=d at *
 have hpt:∀ c∈d,Pt c:=fun c hc=>(hsc c hc).pt
 unfold ZhW
 by_cases hb:beyondB D=true
 ·have hd:(d.any fun c=>decide (127 < c))=true:=by
   rw [List.any_eq_true]
   refine Classical.byContradiction fun hn=>?_
   have h1:∀ c∈d,c≤127:=fun c hc=>by
    rcases Int.lt_or_le 127 c with g | g
    ·exact absurd ⟨c,hc,decide_eq_true g⟩ hn
    ·exact g
   have h2:=(ZkR hpt).2 h1
   rw [hbp] at h2
   have h3:=ZgP D.length D (Nat.le_refl _) h2
   unfold beyondB at hb
   rw [List.any_eq_true] at hb
   obtain ⟨b,hb1,hb2⟩:=hb
   have:=h3 b hb1
   simp at hb2
   omega
  rw [if_pos (by rw [hb];rfl),if_pos (Or.inr hd)]
  exact ⟨rfl,rfl⟩
 ·have hlo:∀ b∈D,b.toNat < 128:=fun b hbm=>by
   rcases Nat.lt_or_ge b.toNat 128 with g | g
   ·exact g
   ·exfalso
    refine hb ?_
    unfold beyondB
    rw [List.any_eq_true]
    exact ⟨b,hbm,decide_eq_true (by omega)⟩
  rw [ZcV hlo] at hbp
  subst hbp
  have hd:(d.any fun c=>decide (127 < c))=false:=by
   rw [List.any_eq_false]
   intro c hc
   have:=(ZkR hpt).1 hlo c hc
   simp
   omega
  have hs:(bsplit 46 (Zb d)).map lower=(parts d [46]).map tb:=by
   rw [Zb7 (n:=46) (t:=46) (by decide) (by decide) rfl d hpt,List.map_map]
   rfl
  have hpp:∀ p∈parts d [46],∀ c∈p,Pt c:=fun p hp c hc=>hpt c (((Zbx d [46]).2 p hp).2 c hc)
  rw [hs]
  have hne:=ZqP d [46]
  generalize parts d [46]=ps at *
  have hx:Zsk (ps.map tb)=ps.any ZnE:=by
   unfold Zsk
   rw [List.any_map]
   rfl
  have hbf:beyondB (Zb d)=false:=by cases h:beyondB (Zb d) with | false=>rfl | true=>exact absurd h hb
  rw [hx,hbf,hd]
  by_cases hxn:ps.any ZnE=true
  ·rw [if_pos (by rw [hxn];rfl),if_pos (Or.inl hxn)]
   exact ⟨rfl,rfl⟩
  ·have hxf:ps.any ZnE=false:=by cases h:ps.any ZnE with | false=>rfl | true=>exact absurd h hxn
   rw [hxf,if_neg (show ¬ (false || false)=true by decide),if_neg (show ¬ (false=true∨false=true) by decide)]
   have hpl:plainDom (lower (Zb d))=!((d.length:Int) == 0 || d.any Zfn):=by
    unfold plainDom
    have h1:(lower (Zb d)).any Zid=d.any Zfn:=by
     rw [← ZuJ.any d hpt]
     unfold lower
     rw [List.any_map]
     rfl
    have h2:(lower (Zb d)).isEmpty=((d.length:Int) == 0):=by
     cases d with
     | nil=>rfl
     | cons c r=>
      have:tb (c :: r)≠[]:=fun e=>by have:=(ZtZ hpt).1 e;cases this
      cases hq:lower (Zb (c :: r)) with
      | nil=>exact absurd hq this
      | cons _ _=>simp;omega
    rw [h1,h2]
    cases ((d.length:Int) == 0) <;> cases d.any Zfn <;> rfl
   rw [hpl]
   by_cases hbad:((d.length:Int) == 0 || d.any Zfn)=true
   ·rw [if_pos (by rw [hbad];rfl),if_pos hbad]
    exact ⟨rfl,rfl⟩
   ·rw [if_neg (show ¬ (!((d.length:Int) == 0 || d.any Zfn))=false by simpa using hbad),if_neg hbad,ZsT ps hne hpp]
    refine ZqQ d _ ?_ ?_
    ·split
     ·next hc=>
      intro e
      have:=congrArg List.length e
      rw [List.length_take,List.length_nil] at this
      omega
     ·exact hne
    ·intro p hp
     split at hp
     ·exact hpp p (List.mem_of_mem_take hp)
     ·exact hpp p hp
theorem ZjJ {c:Int} (h:128≤c):digit c=-1:=by unfold digit;rw [if_neg (by omega),if_neg (by omega),if_neg (by omega)]
theorem ZuK (p:List Int) (hp:∀ c∈p,Pt c):∀ n:Int,0≤n→(n + 1) * 16 ^ p.length≤65536→numGo 16 65535 n (Zb p)=ZbV n p:=by
 induction p with
 | nil=>intro n _ _;rfl
 | cons c r ih=>
  intro n h0 hn
  rw [List.length_cons,Int.pow_succ] at hn
  have ih':=ih (fun x hx=>hp x (List.mem_cons_of_mem _ hx))
  have hpos:(0:Int) < 16 ^ r.length:=Int.pow_pos (by decide)
  rw [bytesOf_cons,ZbV]
  rcases Z9 (hp c (List.mem_cons_self ..)) with ⟨a,b,e⟩ | ⟨a,b,e⟩
  ·rw [e,List.singleton_append,numGo,Za2 a b,ZdA _ _ (by omega)]
   have hr:=Zdo c
   generalize digit c=d at *
   by_cases hd:0≤d∧d < 16
   ·have hn1:n≤65535:=by
     have:(n + 1) * 1≤(n + 1) * (16 ^ r.length * 16):=Int.mul_le_mul_of_nonneg_left (by omega) (by omega)
     omega
    have h9:¬ d < 0:=by omega
    rw [if_pos hd,if_neg h9]
    simp only [if_true]
    rw [if_pos hn1,show n * 16 + d=16 * n + d by omega]
    refine ih' _ (by omega) ?_
    have:(16 * n + d + 1) * 16 ^ r.length≤(16 * (n + 1)) * 16 ^ r.length:=Int.mul_le_mul_of_nonneg_right (by omega) (by omega)
    calc (16 * n + d + 1) * 16 ^ r.length≤(16 * (n + 1)) * 16 ^ r.length:=this
     _=(n + 1) * (16 ^ r.length * 16):=by rw [Int.mul_comm 16 (n + 1),Int.mul_assoc,Int.mul_comm 16 (16 ^ r.length)]
     _≤65536:=hn
   ·have h9:d < 0:=by omega
    rw [if_neg hd,if_pos h9]
    rfl
  ·rw [ZjJ a,if_pos (by decide)]
   cases hx:(utf c).map toB with
   | nil=>exact absurd hx b
   | cons y q=>
    have hy:=e y (by rw [hx];simp)
    have h9:¬ (0≤(-1:Int)∧(-1:Int) < 16):=by decide
    rw [List.cons_append,numGo,ZdA _ _ (by omega),ZjJ (by omega),if_neg h9]
    rfl
theorem ZkT (p:List Int) (hp:∀ c∈p,Pt c):p.length≤(Zb p).length:=by
 induction p with
 | nil=>exact Nat.zero_le _
 | cons c r ih=>
  rw [bytesOf_cons,List.length_append,List.length_cons]
  have h1:=Znz (hp c (List.mem_cons_self ..))
  have h2:=ih (fun x hx=>hp x (List.mem_cons_of_mem _ hx))
  omega
theorem ZfS (p:List Int) (hp:∀ c∈p,0≤c∧c < 128):Zb p=p.map toB:=by
 induction p with
 | nil=>rfl
 | cons c r ih=>
  rw [bytesOf_cons,ih (fun x hx=>hp x (List.mem_cons_of_mem _ hx)),Zm5 (hp c (List.mem_cons_self ..)).2]
  rfl
theorem ZqS (p:List Int) (hp:∀ c∈p,Pt c):∀ n v,ZbV n p=some v→∀ c∈p,0≤c∧c < 128:=by
 induction p with
 | nil=>intro n v _ c hc;cases hc
 | cons x r ih=>
  intro n v h c hc
  rw [ZbV] at h
  by_cases hd:digit x < 0
  ·rw [if_pos hd] at h;cases h
  ·rw [if_neg hd] at h
   rcases List.mem_cons.1 hc with rfl | hc
   ·refine ⟨(hp c (List.mem_cons_self ..)).1,?_⟩
    rcases Int.lt_or_le c 128 with g | g
    ·exact g
    ·rw [ZjJ g] at hd;omega
   ·exact ih (fun y hy=>hp y (List.mem_cons_of_mem _ hy)) _ v h c hc
theorem ZsU (p:List Int) (hp:∀ c∈p,Pt c) (g:List Int × Nat):(Za3 p=none∧(Za8 g (Zb p)).2=false)∨∃ v,Za3 p=some v∧Za8 g (Zb p)=Zfd g v:=by
 unfold Za3 Za8
 by_cases hl:p.length < 1∨4 < p.length
 ·rw [if_pos hl]
  refine Or.inl ⟨rfl,?_⟩
  rcases hl with h | h
  ·rw [List.eq_nil_of_length_eq_zero (by omega:p.length=0)]
   rw [if_pos (Or.inl (by rfl))]
  ·have:=ZkT p hp
   rw [if_pos (Or.inr (by omega))]
 ·rw [if_neg hl]
  have hle:p.length≤4:=by omega
  have hnum:=ZuK p hp 0 (Int.le_refl _) (by
   have:p.length=1∨p.length=2∨p.length=3∨p.length=4:=by omega
   rcases this with h | h | h | h <;> rw [h] <;> decide)
  have hne:Zb p≠[]:=fun e=>by have:=(Zr hp).1 e;rw [this] at hl;exact hl (Or.inl (by decide))
  cases hx:ZbV 0 p with
  | none=>
   rw [hx] at hnum
   have:Zn (Zb p) 16 65535=(0,false):=by unfold Zn;rw [if_neg hne,hnum]
   rw [this,if_pos (Or.inl rfl)]
   exact Or.inl ⟨rfl,rfl⟩
  | some v=>
   rw [hx] at hnum
   have hv:=ZgO (p:=p) (x:=v) (by unfold Za3;rw [if_neg hl];exact hx)
   have hb:(Zb p).length=p.length:=by rw [ZfS p (ZqS p hp 0 v hx),List.length_map]
   have:Zn (Zb p) 16 65535=(v,true):=by unfold Zn;rw [if_neg hne,hnum];simp only;rw [if_neg (by omega)]
   rw [this,if_neg (by rintro (g | g);cases g;omega)]
   exact Or.inr ⟨v,rfl,rfl⟩
theorem ZuL (p:List Int) (hp:∀ c∈p,Pt c) (ha:p.all numeral=true):∀ n v:Int,0≤n→((n≤255∧v=n)∨(255 < n∧255 < v))→∃ m,numGo 10 255 n (Zb p)=some m∧0≤m∧((m≤255∧p.foldl dgo v=m)∨(255 < m∧255 < p.foldl dgo v)):=by
 induction p with
 | nil=>intro n v h0 h;exact ⟨n,rfl,h0,h⟩
 | cons c r ih=>
  intro n v h0 h
  rw [List.all_cons,Bool.and_eq_true] at ha
  have hc:48≤c∧c≤57:=by have:=ha.1;unfold numeral at this;exact of_decide_eq_true this
  have hd:digit c=c - 48:=by unfold digit;rw [if_pos hc]
  rw [bytesOf_cons,Zm5 (by omega),List.foldl_cons]
  show ∃ m,numGo 10 255 n (toB c :: Zb r)=some m∧_
  have h9:0≤c - 48∧c - 48 < 10:=by omega
  rw [numGo,Za2 (by omega) (by omega),ZdA _ _ (by omega),hd,if_pos h9]
  simp only [if_true]
  refine ih (fun x hx=>hp x (List.mem_cons_of_mem _ hx)) ha.2 _ _ ?_ ?_
  ·split <;> omega
  ·unfold dgo
   rcases h with ⟨h1,rfl⟩ | ⟨h1,h2⟩
   ·rw [if_pos h1]
    by_cases h3:10 * v + c - 48≤255
    ·exact Or.inl ⟨by omega,by omega⟩
    ·exact Or.inr ⟨by omega,by omega⟩
   ·rw [if_neg (by omega)]
    exact Or.inr ⟨h1,by omega⟩
theorem ZsV (p:List Int) (ha:p.all numeral=true):∀ v:Int,0≤v→v≤p.foldl dgo v:=by
 induction p with
 | nil=>intro v _;exact Int.le_refl _
 | cons c r ih=>
  intro v hv
  rw [List.all_cons,Bool.and_eq_true] at ha
  have hc:48≤c∧c≤57:=by have:=ha.1;unfold numeral at this;exact of_decide_eq_true this
  rw [List.foldl_cons]
  have h1:v≤dgo v c:=by unfold dgo;omega
  have:=ih ha.2 (dgo v c) (by omega)
  omega
theorem Zgk {c:Int} (h:numeral c=true):48≤c∧c≤57:=by unfold numeral at h;exact of_decide_eq_true h
theorem ZsW {p:List Int} (ha:p.all numeral=true) (hl:3 < p.length) (h0:p.headD 0≠48):255 < p.foldl dgo 0:=by
 match p,ha,hl,h0 with
 | a :: b :: c :: d :: r,ha,_,h0=>
  simp only [List.all_cons,Bool.and_eq_true] at ha
  obtain ⟨a1,b1,c1,d1,r1⟩:=ha
  have a2:=Zgk a1
  have b2:=Zgk b1
  have c2:=Zgk c1
  have d2:=Zgk d1
  have h0':a≠48:=h0
  rw [List.foldl_cons,List.foldl_cons,List.foldl_cons,List.foldl_cons]
  have hv:1000≤dgo (dgo (dgo (dgo 0 a) b) c) d:=by unfold dgo;omega
  have:=ZsV r r1 (dgo (dgo (dgo (dgo 0 a) b) c) d) (by omega)
  omega
theorem ZfT (p:List Int) (hp:∀ c∈p,Pt c) (most:Int):(Zn (Zb p) 10 most).2=ZP p:=by
 rw [ZfQ,ZhZ.all p hp]
 unfold ZP
 congr 1
 cases p with
 | nil=>rfl
 | cons c r=>
  have hne:Zb (c :: r)≠[]:=fun e=>by have:=(Zr hp).1 e;cases this
  cases hb:Zb (c :: r) with
  | nil=>exact absurd hb hne
  | cons x y=>rfl
theorem ZqT (p:List Int) (hp:∀ c∈p,Pt c):Zf5 (Zb p)=match Zeq p with | none=>(0,false) | some v=>(v,true):=by
 unfold Zf5 Zeq
 have hn:=ZfT p hp 255
 cases ha:ZP p
 ·rw [ha] at hn
  rw [if_pos (Or.inl hn),if_pos (by unfold byteBad;rw [ha];rfl)]
 ·rw [ha] at hn
  have ha':p.all numeral=true∧p≠[]:=by
   unfold ZP at ha
   rw [Bool.and_eq_true] at ha
   exact ⟨ha.1,fun e=>by rw [e] at ha;exact absurd ha.2 (by decide)⟩
  have hasc:∀ c∈p,0≤c∧c < 128:=fun c hc=>by have:=Zgk (List.all_eq_true.1 ha'.1 c hc);omega
  have hb:=ZfS p hasc
  have hlen:(Zb p).length=p.length:=by rw [hb,List.length_map]
  have hhead:(((Zb p).getD 0 0).toNat:Int)=48↔p.headD 0=48:=by
   rw [hb]
   cases p with
   | nil=>exact absurd rfl ha'.2
   | cons c r=>
    show ((toB c).toNat:Int)=48↔c=48
    rw [Za2 (hasc c (List.mem_cons_self ..)).1 (hasc c (List.mem_cons_self ..)).2]
  obtain ⟨m,hm,hm0,hr⟩:=ZuL p hp ha'.1 0 0 (Int.le_refl _) (Or.inl ⟨by decide,rfl⟩)
  have hne:Zb p≠[]:=fun e=>ha'.2 ((Zr hp).1 e)
  have hnum:Zn (Zb p) 10 255=if 255 < m then (256,true) else (m,true):=by unfold Zn;rw [if_neg hne,hm];rfl
  by_cases hz:1 < p.length∧p.headD 0=48
  ·rw [if_pos (Or.inr (Or.inr ⟨by rw [hlen];exact hz.1,hhead.2 hz.2⟩)),if_pos (ZgJ hz.1 hz.2)]
  ·by_cases h3:3 < p.length
   ·have hbig:=ZsW ha'.1 h3 (fun e=>hz ⟨by omega,e⟩)
    have hm2:255 < m:=by rcases hr with ⟨a,b⟩ | ⟨a,b⟩ <;> omega
    rw [hnum,if_pos hm2,if_pos (Or.inr (Or.inl (by decide))),if_pos (by unfold byteBad;rw [decide_eq_true h3];simp)]
   ·rw [ZiR ha h3 hz]
    by_cases hm2:255 < m
    ·have:255 < p.foldl dgo 0:=by rcases hr with ⟨a,b⟩ | ⟨a,b⟩ <;> omega
     rw [hnum,if_pos hm2,if_pos (Or.inr (Or.inl (by decide))),if_neg (by decide),if_pos this]
    ·have:p.foldl dgo 0=m:=by rcases hr with ⟨a,b⟩ | ⟨a,b⟩ <;> omega
     rw [hnum,if_neg hm2,if_neg (by
      rintro (g | g | ⟨g1,g2⟩)
      ·cases g
      ·exact hm2 g
      ·exact hz ⟨by rw [← hlen];exact g1,hhead.1 g2⟩),if_neg (by decide),this,if_neg hm2]
theorem ZuM:∀ (ps:List (List Int)),(∀ p∈ps,∀ c∈p,Pt c)→∀ v:Int,d4Go v (ps.map Zb)=(Z3 ps).map fun q=>q.foldl (fun a b=>a * 256 + b) v:=by
 intro ps
 induction ps with
 | nil=>intro _ v;rfl
 | cons p r ih=>
  intro hp v
  rw [List.map_cons,d4Go,Z3,ZqT p (hp p (List.mem_cons_self ..))]
  cases Zeq p with
  | none=>rfl
  | some b=>
   simp only [if_true]
   rw [ih (fun q hq=>hp q (List.mem_cons_of_mem _ hq))]
   cases Z3 r <;> rfl
theorem ZsX (p:List Int) (hp:∀ c∈p,Pt c) (g:List Int × Nat):((dotted p).2=false∧(Za9 g (Zb p)).2=false)∨∃ x y,dotted p=([x,y],true)∧Za9 g (Zb p)=if (Zfd g x).2=false then ((Zfd g x).1,false) else Zfd (Zfd g x).1 y:=by
 unfold Za9 dotted
 have hs:=Zb7 (n:=46) (t:=46) (by decide) (by decide) rfl p hp
 have hpp:∀ q∈parts p [46],∀ c∈q,Pt c:=fun q hq c hc=>hp c (((Zbx p [46]).2 q hq).2 c hc)
 rw [hs,List.length_map,ZuM _ hpp]
 generalize parts p [46]=ps at *
 cases hd:Z3 ps with
 | none=>
  left
  refine ⟨rfl,?_⟩
  split <;> rfl
 | some q=>
  have hl:=ZhT hd
  have hr:=ZhY ps q hd
  rw [hl]
  match q,hr with
  | [],_=>left;exact ⟨rfl,rfl⟩
  | [a],_=>left;exact ⟨rfl,rfl⟩
  | [a,b],_=>left;exact ⟨rfl,rfl⟩
  | [a,b,c],_=>left;exact ⟨rfl,rfl⟩
  | [a,b,c,d],hr=>
   right
   have ha:=hr a (by simp)
   have hb:=hr b (by simp)
   have hc:=hr c (by simp)
   have hdd:=hr d (by simp)
   refine ⟨256 * a + b,256 * c + d,rfl,?_⟩
   rw [if_neg (by simp)]
   simp only [Option.map,List.foldl_cons,List.foldl_nil]
   have e1:((((0 * 256 + a) * 256 + b) * 256 + c) * 256 + d) / 65536=256 * a + b:=by omega
   have e2:((((0 * 256 + a) * 256 + b) * 256 + c) * 256 + d) % 65536=256 * c + d:=by omega
   rw [e1,e2]
  | a :: b :: c :: d :: e :: r,_=>
   left
   refine ⟨rfl,?_⟩
   rw [if_pos (by simp)]
theorem ZqU (n:Int) (t:UInt8) (_ht:(t.toNat:Int)=n) (l:List UInt8):among n l=(bcut (isB n) l).2.2:=by
 induction l with
 | nil=>rfl
 | cons c r ih=>
  rw [bcut]
  unfold among at ih ⊢
  rw [List.any_cons,ih]
  show (isB n c || _)=_
  cases isB n c
  ·simp
  ·simp
theorem ZqV (p:List Int) (hp:∀ c∈p,Pt c):among 46 (Zb p)=(cut p [46]).2.2:=by
 rw [ZqU 46 46 rfl,Zaj (ZdP 46 (by decide) (by decide) 46 rfl) p hp]
theorem ZsY (en:Bool):∀ (ps:List (List Int)),(∀ p∈ps,∀ c∈p,Pt c)→∀ (zs:List Int) (n:Nat),n≤8→grpGo en (zs,n) (ps.map Zb)=match grpGoR en ps with | none=>none | some q=>if n + q.length≤8 then some (putGo zs n q,n + q.length) else none:=by
 intro ps
 induction ps with
 | nil=>intro _ zs n hn;rw [List.map_nil,grpGo,grpGoR];simp only;rw [if_pos (by simpa using hn)];rfl
 | cons p r ih=>
  intro hp zs n hn
  have hpp:=hp p (List.mem_cons_self ..)
  rw [List.map_cons,grpGo,grpGoR,ZqV p hpp]
  have hr:(r.map Zb=[])↔r=[]:=by cases r <;> simp
  by_cases hc:(cut p [46]).2.2=true∧en=true∧r=[]
  ·obtain ⟨h1,h2,h3⟩:=hc
   subst h3
   have c1:en=true∧([]:List (List Int)).map Zb=[]∧(cut p [46]).2.2=true:=⟨h2,rfl,h1⟩
   have c2:(cut p [46]).2.2=true∧en=true∧([]:List (List Int))=[]:=⟨h1,h2,rfl⟩
   rw [if_pos c1,if_pos c2]
   rcases ZsX p hpp (zs,n) with ⟨a,b⟩ | ⟨x,y,a,b⟩
   ·rw [b,a]
    rfl
   ·rw [b,a]
    simp only [if_true]
    unfold Zfd
    simp only
    by_cases h8:n < 8
    ·rw [if_pos h8]
     simp only
     by_cases h7:n + 1 < 8
     ·rw [if_pos h7]
      simp only [Bool.true_eq_false,if_true,if_false,List.map_nil,grpGo,List.length_cons,List.length_nil]
      rw [if_pos (by omega)]
      rfl
     ·rw [if_neg h7]
      simp only [Bool.true_eq_false,Bool.false_eq_true,if_false,List.length_cons,List.length_nil]
      rw [if_neg (by omega)]
    ·rw [if_neg h8]
     simp only [Bool.false_eq_true,if_true,if_false,List.length_cons,List.length_nil]
     rw [if_neg (by omega)]
  ·rw [if_neg (fun g=>hc ⟨g.2.2,g.1,hr.1 g.2.1⟩),if_neg hc]
   rcases ZsU p hpp (zs,n) with ⟨a,b⟩ | ⟨v,a,b⟩
   ·rw [b,a]
    rfl
   ·rw [b,a]
    simp only
    unfold Zfd
    simp only
    by_cases h8:n < 8
    ·rw [if_pos h8]
     simp only [if_true]
     rw [ih (fun q hq=>hp q (List.mem_cons_of_mem _ hq)) _ _ (by omega)]
     cases grpGoR en r with
     | none=>rfl
     | some q=>
      simp only [Option.map,List.length_cons]
      by_cases hq:n + 1 + q.length≤8
      ·rw [if_pos hq,if_pos (by omega),putGo]
       rw [show n + (q.length + 1)=n + 1 + q.length by omega]
      ·rw [if_neg hq,if_neg (by omega)]
    ·rw [if_neg h8]
     simp only [Bool.false_eq_true,if_false]
     cases grpGoR en r with
     | none=>rfl
     | some q=>simp only [Option.map,List.length_cons];rw [if_neg (by omega)]
theorem Zer (l:List Int) (hl:∀ c∈l,Pt c) (en:Bool):(Zx (Zb l) en).2=((groups l en).2 && decide ((groups l en).1.length≤8))∧((Zx (Zb l) en).2=true→(Zx (Zb l) en).1=(putGo zeros8 0 (groups l en).1,(groups l en).1.length)):=by
 unfold Zx groups
 by_cases h0:l=[]
 ·subst h0
  exact ⟨rfl,fun _=>rfl⟩
 ·rw [if_neg (fun e=>h0 ((Zr hl).1 e)),if_neg h0]
  have hpp:∀ q∈parts l [58],∀ c∈q,Pt c:=fun q hq c hc=>hl c (((Zbx l [58]).2 q hq).2 c hc)
  rw [Zb7 (n:=58) (t:=58) (by decide) (by decide) rfl l hl]
  unfold zeroG
  rw [ZsY en _ hpp zeros8 0 (by decide)]
  cases grpGoR en (parts l [58]) with
  | none=>exact ⟨rfl,fun h=>by cases h⟩
  | some q=>
   simp only [Nat.zero_add]
   by_cases h8:q.length≤8
   ·rw [if_pos h8]
    exact ⟨by rw [decide_eq_true h8];rfl,fun _=>rfl⟩
   ·rw [if_neg h8]
    exact ⟨by rw [decide_eq_false h8];rfl,fun h=>by cases h⟩
def ZsZ:List Int→Option Nat
 | []=>none
 | [_]=>none
 | c :: d :: r=>if c=58∧d=58 then some 0 else (ZsZ (d :: r)).map (· + 1)
def Zt0 (l:List Int):List Int × Bool:=((groups l true).1,(groups l true).2 && (groups l true).1.length == 8)
theorem ZkU (l:List Int):∀ (n i:Nat),l.length - i≤n→Zbn l i=match ZsZ (l.drop i) with | some k=>ZgM l (i + k) | none=>Zt0 l:=by
 intro n
 induction n with
 | zero=>
  intro i h
  rw [Zbn,if_neg (by omega),List.drop_of_length_le (by omega)]
  rfl
 | succ n ih=>
  intro i h
  rw [Zbn]
  by_cases h1:i + 1 < l.length
  ·have e:l.drop i=l[i] :: l[i + 1] :: l.drop (i + 2):=by rw [List.drop_eq_getElem_cons (by omega:i < l.length),List.drop_eq_getElem_cons h1]
   rw [if_pos h1,e,ZsZ,ZcA (by omega),ZcA h1]
   by_cases h2:l[i]=58∧l[i + 1]=58
   ·rw [if_pos h2,if_pos h2];rfl
   ·rw [if_neg h2,if_neg h2,ih (i + 1) (by omega),show l.drop (i + 1)=l[i + 1] :: l.drop (i + 2) from List.drop_eq_getElem_cons h1]
    cases ZsZ (l[i + 1] :: l.drop (i + 2)) with
    | none=>rfl
    | some k=>simp only [Option.map];rw [show i + 1 + k=i + (k + 1) by omega]
  ·rw [if_neg h1]
   have:ZsZ (l.drop i)=none:=by
    have hl:(l.drop i).length≤1:=by rw [List.length_drop];omega
    match l.drop i,hl with
    | [],_=>rfl
    | [_],_=>rfl
   rw [this]
   rfl
theorem Zh0 (b:UInt8) (l:List UInt8) (h:b≠58∨∀ x t,l=x :: t→x≠58):cutGap (b :: l)=if (cutGap l).2.2=true then (b :: (cutGap l).1,(cutGap l).2.1,true) else ([],[],false):=by
 cases l with
 | nil=>rfl
 | cons x t=>
  rw [cutGap,if_neg]
  rintro ⟨h1,h2⟩
  rcases h with h | h
  ·exact h h1
  ·exact h x t rfl h2
theorem ZkV (q l:List UInt8) (h:∀ b∈q,b≠58):cutGap (q++l)=if (cutGap l).2.2=true then (q++(cutGap l).1,(cutGap l).2.1,true) else ([],[],false):=by
 induction q with
 | nil=>
  rw [List.nil_append]
  by_cases hc:(cutGap l).2.2=true
  ·rw [if_pos hc]
   show cutGap l=((cutGap l).1,(cutGap l).2.1,true)
   rw [← hc]
  ·rw [if_neg hc]
   exact Zgz (by simpa using hc)
 | cons b q ih=>
  rw [List.cons_append,Zh0 b _ (Or.inl (h b (List.mem_cons_self ..))),ih (fun x hx=>h x (List.mem_cons_of_mem _ hx))]
  by_cases hc:(cutGap l).2.2=true
  ·rw [if_pos hc];simp only [if_true,List.cons_append];rw [if_pos hc]
  ·rw [if_neg hc];simp only [Bool.false_eq_true,if_false];rw [if_neg hc]
theorem Zvw {c:Int} (h0:0≤c) (h1:c < 128):toB c=58↔c=58:=by
 have:=Za2 h0 h1
 constructor
 ·intro h;rw [h] at this;exact this.symm
 ·intro h;subst h;rfl
theorem ZuN {d:Int} (hd:Pt d) (r:List UInt8):∃ x t,(utf d).map toB++r=x :: t∧(x=58↔d=58):=by
 rcases Z9 hd with ⟨a,b,e⟩ | ⟨a,b,e⟩
 ·exact ⟨toB d,r,by rw [e];rfl,Zvw a b⟩
 ·cases hx:(utf d).map toB with
  | nil=>exact absurd hx b
  | cons y q=>
   have hy:=e y (by rw [hx];simp)
   refine ⟨y,q++r,rfl,?_⟩
   constructor
   ·intro h;rw [h] at hy;exact absurd hy (by decide)
   ·intro h;omega
theorem ZkW (l:List Int) (hl:∀ c∈l,Pt c):cutGap (Zb l)=match ZsZ l with | some k=>(Zb (l.take k),Zb (l.drop (k + 2)),true) | none=>([],[],false):=by
 induction l with
 | nil=>rfl
 | cons c r ih=>
  have ih':=ih (fun x hx=>hl x (List.mem_cons_of_mem _ hx))
  have hskip:(c≠58∨∀ d t,r=d :: t→d≠58)→cutGap (Zb (c :: r))=if (cutGap (Zb r)).2.2=true then ((utf c).map toB++(cutGap (Zb r)).1,(cutGap (Zb r)).2.1,true) else ([],[],false):=by
   intro h
   rw [bytesOf_cons]
   rcases Z9 (hl c (List.mem_cons_self ..)) with ⟨a,b,e⟩ | ⟨a,b,e⟩
   ·rw [e,List.singleton_append,Zh0]
    ·rfl
    ·rcases h with h | h
     ·exact Or.inl (fun g=>h ((Zvw a b).1 g))
     ·right
      intro x t hx
      cases r with
      | nil=>cases hx
      | cons d t'=>
       obtain ⟨x',t'',h1,h2⟩:=ZuN (hl d (by simp)) (Zb t')
       rw [bytesOf_cons,h1] at hx
       obtain ⟨rfl,-⟩:=List.cons.inj hx
       exact fun g=>h d t' rfl (h2.1 g)
   ·exact ZkV _ _ (fun x hx g=>by have:=e x hx;rw [g] at this;exact absurd this (by decide))
  cases r with
  | nil=>
   rw [hskip (Or.inr (fun d t h=>by cases h))]
   rfl
  | cons d t=>
   rw [ZsZ]
   by_cases h:c=58∧d=58
   ·obtain ⟨rfl,rfl⟩:=h
    rw [if_pos ⟨rfl,rfl⟩]
    show cutGap (58 :: 58 :: Zb t)=_
    rw [cutGap,if_pos ⟨rfl,rfl⟩]
    rfl
   ·rw [if_neg h,hskip (by
     by_cases h1:c=58
     ·right;intro d' t' e;obtain ⟨rfl,-⟩:=List.cons.inj e;exact fun g=>h ⟨h1,g⟩
     ·exact Or.inl h1),ih']
    cases ZsZ (d :: t) with
    | none=>rfl
    | some k=>
     simp only [Option.map,if_true]
     rw [List.take_succ_cons,bytesOf_cons]
     rfl
theorem zeros_eq:zeros8=List.replicate 8 0:=rfl
theorem Zgl (q:List Int) (h:q.length≤8):putGo zeros8 0 q=q++List.replicate (8 - q.length) 0:=by
 rw [ZeL q zeros8 0 (by rw [zeros_eq,List.length_replicate];omega),List.take_zero,List.nil_append,Nat.zero_add,zeros_eq,List.drop_replicate]
theorem Zs0 (l:List Int) (hl:∀ c∈l,Pt c):(ip6 (Zb l)).2=(address l).2∧((address l).2=true→(ip6 (Zb l)).1=(address l).1):=by
 unfold ip6 address
 rw [ZkU l l.length 0 (by omega),ZkW l hl,List.drop_zero]
 cases ZsZ l with
 | none=>
  simp only [if_true]
  unfold ZgA Zt0
  obtain ⟨h1,h2⟩:=Zer l hl true
  generalize Zx (Zb l) true=x at *
  generalize groups l true=y at *
  obtain ⟨yl,yb⟩:=y
  simp only at *
  cases hx:x.2
  ·rw [hx] at h1
   rw [if_pos (Or.inl rfl)]
   have:(yb && yl.length == 8)=false:=by
    cases yb
    ·rfl
    ·rw [Bool.true_and] at h1 ⊢
     have:=of_decide_eq_false h1.symm
     exact beq_eq_false_iff_ne.2 (by omega)
   rw [this]
   exact ⟨rfl,fun h=>by cases h⟩
  ·rw [hx] at h1
   have e:=h2 hx
   have hb:yb=true∧yl.length≤8:=by
    have:=h1.symm
    rw [Bool.and_eq_true] at this
    exact ⟨this.1,of_decide_eq_true this.2⟩
   rw [e]
   simp only
   by_cases h8:yl.length=8
   ·rw [if_neg (by rintro (g | g);cases g;exact g h8)]
    refine ⟨by rw [hb.1,h8];rfl,fun _=>?_⟩
    rw [Zgl _ hb.2,h8]
    simp
   ·rw [if_pos (Or.inr h8)]
    have:(yb && yl.length == 8)=false:=by rw [beq_eq_false_iff_ne.2 h8,Bool.and_false]
    rw [this]
    exact ⟨rfl,fun h=>by cases h⟩
 | some k=>
  simp only [Bool.true_eq_false,if_false,Nat.zero_add]
  unfold ZgM
  obtain ⟨h1,h2⟩:=Zer (l.take k) (fun c hc=>hl c (List.mem_of_mem_take hc)) false
  obtain ⟨h3,h4⟩:=Zer (l.drop (k + 2)) (fun c hc=>hl c (List.mem_of_mem_drop hc)) true
  generalize Zx (Zb (l.take k)) false=x at *
  generalize Zx (Zb (l.drop (k + 2))) true=y at *
  generalize groups (l.take k) false=a at *
  generalize groups (l.drop (k + 2)) true=b at *
  obtain ⟨al,ab⟩:=a
  obtain ⟨bl,bb⟩:=b
  simp only at *
  by_cases hbad:ab=false∨bb=false∨7 < al.length + bl.length
  ·rw [if_pos hbad]
   have:x.2=false∨y.2=false∨7 < x.1.2 + y.1.2:=by
    rcases hbad with g | g | g
    ·left;rw [h1,g];rfl
    ·right;left;rw [h3,g];rfl
    ·cases hx:x.2
     ·exact Or.inl rfl
     ·cases hy:y.2
      ·exact Or.inr (Or.inl rfl)
      ·rw [h2 hx,h4 hy];exact Or.inr (Or.inr g)
   rw [if_pos this]
   exact ⟨rfl,fun h=>by cases h⟩
  ·have hab:ab=true∧bb=true∧al.length + bl.length≤7:=by
    refine ⟨?_,?_,?_⟩
    ·cases ab;exact absurd (Or.inl rfl) hbad;rfl
    ·cases bb;exact absurd (Or.inr (Or.inl rfl)) hbad;rfl
    ·omega
   rw [hab.1,decide_eq_true (by omega:al.length≤8)] at h1
   rw [hab.2.1,decide_eq_true (by omega:bl.length≤8)] at h3
   have e1:=h2 h1
   have e2:=h4 h3
   rw [if_neg hbad,h1,h3,e1,e2]
   simp only
   rw [if_neg (by rintro (g | g | g);cases g;cases g;omega)]
   refine ⟨rfl,fun _=>?_⟩
   simp only
   rw [Zgl bl (by omega),Zgl al (by omega),List.take_left' rfl]
   rw [ZeL bl _ _ (by rw [List.length_append,List.length_replicate];omega)]
   rw [List.take_append,List.drop_of_length_le (by rw [List.length_append,List.length_replicate];omega),List.append_nil,List.take_of_length_le (by omega),List.take_replicate]
   congr 3
   omega
end Go.Proofs.YtchkhibgbnhjpaaGreatDoor
