import Derived.Test.YtchkhibgbnhjpaaGreatDoorK26
import Derived.Test.YtchkhibgbnhjpaaGreatDoorK30
namespace Go.Proofs.YtchkhibgbnhjpaaGreatDoor
open Go.RowKit
theorem Zmj:∀ d:Fin 16,ZfC d.val=Zc3 d.val:=by decide
theorem ZkX {d:Nat} (h:d < 16):ZfC d=Zc3 d:=Zmj ⟨d,h⟩
theorem ZqW (n:Nat) (h:n≤65535):hexa n=ZeX n:=by
 induction n using Nat.strongRecOn with
 | ind n ih=>
  rw [hexa]
  by_cases h1:n < 16
  ·rw [if_pos h1,ZiD h1,ZkX h1]
  ·rw [if_neg h1,Zko (by omega) h,ih (n / 16) (by omega) (by omega),ZkX (by omega)]
theorem Zh1 (l:List Int) (h:GOk l):listed l=ZgY (l.map hx):=by
 cases l with
 | nil=>rfl
 | cons x r=>
  have hx0:=h x (List.mem_cons_self ..)
  rw [listed,ZqW _ (by omega),List.map_cons,ZgY]
  congr 1
  have hr:∀ y∈r,0≤y∧y≤65535:=fun y hy=>h y (List.mem_cons_of_mem _ hy)
  clear h hx0
  induction r with
  | nil=>rfl
  | cons y t ih=>
   have hy:=hr y (List.mem_cons_self ..)
   rw [List.flatMap_cons,List.map_cons,tailC_cons,ih (fun z hz=>hr z (List.mem_cons_of_mem _ hz)),ZqW _ (by omega)]
   rfl
def sGo (v:List Int):Nat→Nat→Nat→Option (Nat × Nat)
 | 0,_,_=>none
 | f + 1,n,i=>if n≤1 then none else if i + n≤8 then (if noughts v i n then some (i,n) else sGo v f n (i + 1)) else sGo v f (n - 1) 0
theorem ZqX (v:List Int):∀ (f n i:Nat),n≤8→i≤9→n * 10 + (9 - i) < f→briefFrom v n i=match sGo v f n i with | none=>listed v | some (i,n)=>listed (v.take i)++58 :: 58 :: listed (v.drop (i + n)):=by
 intro f
 induction f with
 | zero=>intro n i _ _ h;omega
 | succ f ih=>
  intro n i hn hi h
  rw [briefFrom,sGo]
  by_cases h1:n≤1
  ·rw [if_pos h1,if_pos h1]
  ·rw [if_neg h1,if_neg h1]
   by_cases h2:i + n≤8
   ·rw [if_pos h2,if_pos h2]
    cases hz:noughts v i n
    ·simp only [Bool.false_eq_true,if_false]
     exact ih n (i + 1) hn (by omega) (by omega)
    ·simp only [if_true]
   ·rw [if_neg h2,if_neg h2]
    exact ih (n - 1) 0 (by omega) (by omega) (by omega)
def zz (x:Int):Int:=if x=0 then 0 else 1
theorem Zmk (x:Int):zz x=0↔x=0:=by unfold zz;split <;> simp_all
theorem ZoR (v:List Int) (i n:Nat):noughts (v.map zz) i n=noughts v i n:=by
 unfold noughts
 rw [← List.map_drop,← List.map_take,List.all_map]
 congr 1
 funext x
 show (zz x == 0)=(x == 0)
 rw [Bool.eq_iff_iff,beq_iff_eq,beq_iff_eq,Zmk]
theorem Zvx (v:List Int):∀ (f n i:Nat),sGo (v.map zz) f n i=sGo v f n i:=by
 intro f
 induction f with
 | zero=>intro n i;rfl
 | succ f ih=>
  intro n i
  rw [sGo,sGo,ZoR,ih,ih]
theorem ZuO (v:List Int):∀ (i st ln run:Nat),lrGo i st ln run (v.map zz)=lrGo i st ln run v:=by
 induction v with
 | nil=>intro i st ln run;rfl
 | cons x r ih=>
  intro i st ln run
  rw [List.map_cons,lrGo,lrGo]
  have:(if zz x=0 then run + 1 else 0)=(if x=0 then run + 1 else 0):=by
   by_cases h:x=0
   ·rw [if_pos h,if_pos ((Zmk x).2 h)]
   ·rw [if_neg h,if_neg (fun g=>h ((Zmk x).1 g))]
  rw [this,ih,ih]
def bz (b:Bool):Int:=if b then 0 else 1
def ZqY (v:List Int):Bool:=sGo v 100 8 0 == (if (ZW v).1=8 then none else some ((ZW v).1,(ZW v).2))
theorem Zs1:∀ a b c d e f g h:Bool,ZqY [bz a,bz b,bz c,bz d,bz e,bz f,bz g,bz h]=true:=by decide +kernel
theorem ZkY (x:Int):zz x=bz (decide (x=0)):=by
 unfold zz bz
 by_cases h:x=0
 ·rw [if_pos h,decide_eq_true h];rfl
 ·rw [if_neg h,decide_eq_false h];rfl
theorem Zs2 (v:List Int) (hl:v.length=8):sGo v 100 8 0=if (ZW v).1=8 then none else some ((ZW v).1,(ZW v).2):=by
 match v,hl with
 | [a,b,c,d,e,f,g,h],_=>
  have hb:=Zs1 (decide (a=0)) (decide (b=0)) (decide (c=0)) (decide (d=0)) (decide (e=0)) (decide (f=0)) (decide (g=0)) (decide (h=0))
  rw [← ZkY,← ZkY,← ZkY,← ZkY,← ZkY,← ZkY,← ZkY,← ZkY] at hb
  unfold ZqY at hb
  have e1:=Zvx [a,b,c,d,e,f,g,h] 100 8 0
  have e2:ZW [zz a,zz b,zz c,zz d,zz e,zz f,zz g,zz h]=ZW [a,b,c,d,e,f,g,h]:=ZuO [a,b,c,d,e,f,g,h] 0 8 1 0
  simp only [List.map_cons,List.map_nil] at e1
  rw [e1,e2] at hb
  exact eq_of_beq hb
theorem ZqZ (v:List Int) (hl:v.length=8) (h:GOk v):brief v=ZfG v:=by
 unfold brief ZfG
 rw [ZqX v 100 8 0 (by decide) (by decide) (by decide),Zs2 v hl]
 have hok:=ZiM v hl
 generalize (ZW v).1=st at *
 generalize (ZW v).2=ln at *
 by_cases h8:st=8
 ·rw [if_pos h8,ZtQ v hl st ln (by omega) 8 0 (by decide)]
  exact Zh1 v h
 ·rw [if_neg h8]
  rcases hok with ⟨g,-⟩ | ⟨g1,g2,-⟩
  ·exact absurd g h8
  ·rw [Znh v hl st ln (by omega) g2 8 0 (by omega) (by decide),if_pos rfl,List.drop_zero]
   simp only
   rw [Zh1 _ (fun x hx=>h x (List.mem_of_mem_take hx)),Zh1 _ (fun x hx=>h x (List.mem_of_mem_drop hx))]
   rfl
theorem ZoS (n:Int) (t:UInt8) (h0:0 < n) (h1:n < 128) (ht:(t.toNat:Int)=n) (l:List Int) (hl:∀ c∈l,Pt c):(((Zb l).getD 0 0).toNat:Int)=n↔l.getD 0 0=n:=by
 cases l with
 | nil=>show ((0:Int)=n)↔((0:Int)=n);exact Iff.rfl
 | cons c r=>
  rw [bytesOf_cons]
  rcases Z9 (hl c (List.mem_cons_self ..)) with ⟨a,b,e⟩ | ⟨a,b,e⟩
  ·rw [e]
   show ((toB c).toNat:Int)=n↔c=n
   rw [Za2 a b]
  ·cases hx:(utf c).map toB with
   | nil=>exact absurd hx b
   | cons y q=>
    have hy:=e y (by rw [hx];simp)
    show ((y.toNat:Int)=n)↔c=n
    omega
theorem ZkZ {α:Type} (a:List α) (x d:α):(a++[x]).getD ((a++[x]).length - 1) d=x:=by
 rw [List.getD_eq_getElem?_getD,List.length_append]
 simp
theorem Zq0 (a:List Int) (z:Int) (hz:Pt z) (pre:List UInt8):(((pre++(Zb a++(utf z).map toB)).getD ((pre++(Zb a++(utf z).map toB)).length - 1) 0).toNat:Int)=93↔z=93:=by
 rcases List.eq_nil_or_concat ((utf z).map toB) with hx | ⟨q,y,hx⟩
 ·exfalso
  rcases Z9 hz with ⟨-,-,e⟩ | ⟨-,e,-⟩
  ·rw [e] at hx;cases hx
  ·exact e hx
 ·rw [List.concat_eq_append] at hx
  rw [hx,← List.append_assoc,← List.append_assoc,ZkZ]
  rcases Z9 hz with ⟨h0,h1,e⟩ | ⟨h0,h1,e⟩
  ·rw [e] at hx
   have:y=toB z:=by
    have h:=congrArg List.getLast? hx
    simpa using h.symm
   rw [this,Za2 h0 h1]
  ·have hy:=e y (by rw [hx];simp)
   omega
theorem Zs3:Asc (fun b=>among (b.toNat:Int) ZdQ) (fun c=>among c Zcv) where
 lo:=Zem (p:=fun b=>among (b.toNat:Int) ZdQ) (P:=fun c=>among c Zcv) (by decide +kernel)
 hi:=fun b=>by256 (P:=fun b=>128≤b.toNat→among (b.toNat:Int) ZdQ=false) (by decide +kernel) b
 up:=fun c hc=>by simp [among,Zcv];omega
theorem Zml (l:List Int) (hl:∀ c∈l,Sc c) (sp:Bool):ZR (Zb l) sp=((hostOf l sp).2.1,(hostOf l sp).2.2)∧(hostOf l sp).1=decide ((hostOf l sp).2.2=0):=by
 have hpt:∀ c∈l,Pt c:=fun c hc=>(hl c hc).pt
 unfold ZR hostOf
 have hf:=ZoS 91 91 (by decide) (by decide) rfl l hpt
 by_cases h91:l.getD 0 0=91
 ·rw [if_pos (hf.2 h91),if_pos h91]
  unfold Zap
  cases l with
  | nil=>cases h91
  | cons c r=>
   have hc:c=91:=h91
   subst hc
   rcases List.eq_nil_or_concat r with rfl | ⟨m,z,rfl⟩
   ·exact ⟨rfl,rfl⟩
   ·rw [List.concat_eq_append] at *
    have hz:=hpt z (by simp)
    have hm:∀ c∈m,Pt c:=fun c hc=>hpt c (by simp [hc])
    have e1:Zb (91 :: (m++[z]))=[91]++(Zb m++(utf z).map toB):=by rw [bytesOf_cons,bytesOf_snoc];rfl
    have hlast:=Zq0 m z hz [91]
    have e2:(91 :: (m++[z])).getD ((91 :: (m++[z])).length - 1) 0=z:=ZkZ (91 :: m) z 0
    have e3:((91 :: (m++[z])).take ((91 :: (m++[z])).length - 1)).drop 1=m:=by
     rw [List.length_cons,List.length_append]
     simp
    rw [e1,e2,e3]
    by_cases h93:z=93
    ·subst h93
     have e4:(([91]++(Zb m++(utf 93).map toB)).take (([91]++(Zb m++(utf 93).map toB)).length - 1)).drop 1=Zb m:=by
      rw [show (utf 93).map toB=[93] from rfl]
      simp
     have g1:¬ (([91]++(Zb m++(utf 93).map toB)).length < 2∨¬ ((([91]++(Zb m++(utf 93).map toB)).getD (([91]++(Zb m++(utf 93).map toB)).length - 1) 0).toNat:Int)=93):=by
      rintro (g | g)
      ·rw [show (utf 93).map toB=[93] from rfl] at g;simp at g;omega
      ·exact g (hlast.2 rfl)
     have g2:¬ ((93:Int)≠93):=fun g=>g rfl
     rw [if_neg g1,if_neg g2,e4]
     obtain ⟨i1,i2⟩:=Zs0 m hm
     rw [i1]
     by_cases ha:(address m).2=true
     ·have hok:=ZiV ha
      rw [if_pos ha,if_pos ha,i2 ha,ZqZ _ hok.1 hok.2]
      exact ⟨rfl,rfl⟩
     ·rw [if_neg ha,if_neg ha]
      exact ⟨rfl,rfl⟩
    ·have g2:z≠93:=h93
     rw [if_pos (Or.inr (fun g=>h93 (hlast.1 g))),if_pos g2]
     exact ⟨rfl,rfl⟩
 ·rw [if_neg (fun g=>h91 (hf.1 g)),if_neg h91]
  cases sp
  ·rw [if_neg (by decide),if_neg (by decide)]
   unfold ZbW
   rw [Zs3.any l hpt]
   by_cases hb:(l.any fun c=>among c Zcv)=true
   ·rw [if_pos hb,if_pos hb]
    exact ⟨rfl,rfl⟩
   ·rw [if_neg hb,if_neg hb,show encB (tl (ZaG 0)) (clean (Zb l))=encoded l [] from Zbl _ l hl]
    exact ⟨rfl,rfl⟩
  ·rw [if_pos rfl,if_pos rfl]
   exact ZqR l
theorem Zgo {s:List UInt8} (h:ZJ s=true):∀ b∈s,b.toNat < 128:=by
 obtain ⟨a,b,rfl,ha,hb⟩:=Zeo h
 intro x hx
 have h1:alpha (a.toNat:Int)=true:=ha
 simp only [List.mem_cons,List.not_mem_nil,or_false] at hx
 rcases hx with rfl | rfl
 ·rcases Nat.lt_or_ge x.toNat 128 with g | g
  ·exact g
  ·rw [Zdx.hi x g] at ha;cases ha
 ·rcases hb with rfl | rfl <;> decide
theorem Zmo (s:List UInt8):ZJ (clean s)=ZJ s:=by
 by_cases h:∀ b∈s,b.toNat < 128
 ·rw [ZcV h]
 ·have h1:ZJ s=false:=by
   cases hd:ZJ s with
   | false=>rfl
   | true=>exact absurd (Zgo hd) h
  have h2:ZJ (clean s)=false:=by
   cases hd:ZJ (clean s) with
   | false=>rfl
   | true=>exact absurd (ZgP s.length s (Nat.le_refl _) (Zgo hd)) h
  rw [h1,h2]
theorem ZnL (s:List UInt8):drive s=Zam s:=by
 unfold drive Zam
 have hpt:∀ c∈Zl s,Pt c:=fun c hc=>(Zdv s c hc).pt
 have hl:=Zcl (Zl s) hpt
 rw [ZaZ,Zmo] at hl
 rw [← hl]
 cases hd:ZJ s
 ·rfl
 ·rw [hd] at hl
  have hb:=ZaZ s
  rw [ZcV (Zgo hd)] at hb
  match hp:Zl s,hl,hpt with
  | [x,y],hl,hpt=>
   rw [hp] at hb
   have hl':(alpha x && (y == 58 || y == 124))=true:=hl.symm
   rw [Bool.and_eq_true] at hl'
   have hx:x < 128:=by
    rcases Int.lt_or_le x 128 with g | g
    ·exact g
    ·rw [Zdx.up x g] at hl';exact absurd hl'.1 (by decide)
   have hy:y=58∨y=124:=by simpa using hl'.2
   have hy1:y < 128:=by omega
   have hs:s=[toB x,toB y]:=by
    rw [← hb,bytesOf_cons,bytesOf_cons,Zm5 hx,Zm5 hy1]
    rfl
   rw [hs]
   show (true && y == 58)=(true && (((toB y).toNat:Int) == 58))
   rw [Za2 (by omega) hy1]
theorem Zgp (sch:List UInt8) (p:List (List UInt8)):ZaE sch p=Zaz (sch == Zs) p:=by
 unfold ZaE Zaz
 have e:p.headD []=p.getD 0 []:=by cases p <;> rfl
 rw [ZnL,e]
 by_cases h:p.length=1∧sch=ZD∧Zam (p.getD 0 [])=true
 ·rw [if_pos h,if_pos ⟨by rw [h.2.1];rfl,h.1,h.2.2⟩]
 ·rw [if_neg h,if_neg (fun g=>h ⟨g.2.1,eq_of_beq g.1,g.2.2⟩),List.dropLast_eq_take]
theorem Zq5 (s:List Int) (hs:∀ c∈s,Sc c) (h:letter s=true):(encoded s Zcz).take 1=(Zb s).take 1:=by
 have hd:=Zcl s (fun c hc=>(hs c hc).pt)
 rw [h] at hd
 rw [← ZjD s hs]
 obtain ⟨a,b,e,ha,-⟩:=Zeo hd
 have:=ZiQ ha
 rw [e,Zfl _ this.1 this.2.1 this.2.2]
 rfl
theorem ZoW (sch:List UInt8) (p:List (List UInt8)) (s:List Int) (last:Bool) (hs:∀ c∈s,Sc c):Zas sch p s last=Zdj (sch == Zs) p (Zb s) last:=by
 unfold Zas Zdj
 have hd:dots (encoded s Zcz)=(countDots (Zb s):Int):=by rw [ZuI,← ZjD s hs,Znp]
 rw [hd]
 by_cases h0:countDots (Zb s)=0
 ·rw [if_pos (by omega),if_pos h0]
  unfold joinL
  have hl:=Zcl s (fun c hc=>(hs c hc).pt)
  by_cases hc:letter s=true∧sch=ZD∧p=[]
  ·rw [if_pos hc,if_pos ⟨by rw [hc.2.1];rfl,hc.2.2,by rw [hl];exact hc.1⟩,Zq5 s hs hc.1]
  ·rw [if_neg hc,if_neg (fun g=>hc ⟨by rw [← hl];exact g.2.2,eq_of_beq g.1,g.2.1⟩)]
   rw [show encB (tl (ZaG 4)) (clean (Zb s))=encoded s Zcz from ZjD s hs]
 ·rw [if_neg (by omega),if_neg h0,Zgp]
  by_cases h2:countDots (Zb s)=2
  ·rw [if_pos (by omega),if_pos h2]
  ·rw [if_neg (by omega),if_neg h2]
theorem Zq6 (sch:List UInt8):∀ (ss:List (List Int)) (p:List (List UInt8)),(∀ s∈ss,∀ c∈s,Sc c)→Ze0 sch p ss=ZbX (sch == Zs) p (ss.map Zb):=by
 intro ss
 induction ss with
 | nil=>intro p _;rfl
 | cons s r ih=>
  intro p hs
  rw [Ze0,ZoW sch p s _ (hs s (List.mem_cons_self ..)),ih _ (fun x hx=>hs x (List.mem_cons_of_mem _ hx))]
  cases r with
  | nil=>rfl
  | cons x y=>rfl
theorem Zet (sch:List UInt8) (p:List (List UInt8)) (l:List Int) (hl:∀ c∈l,Sc c):walked sch p l=ZaP (sch == Zs) (Zc sch) p (Zb l):=by
 unfold walked ZaP
 rw [Zmf sch l (fun c hc=>(hl c hc).pt),Zq6 sch _ p (fun s hs c hc=>hl c (((Zbx l _).2 s hs).2 c hc))]
theorem Zbf (sch:List UInt8) (l:List Int) (hl:∀ c∈l,Sc c):walked sch [] l=ZbG (Zb l) sch:=Zet sch [] l hl
theorem Zt2 {p:UInt8→Bool} {t:List UInt8} (h:Zr2 p t):Asc p (fun c=>among c t):=⟨h.low,h.high,h.none⟩
def slP (sp:Bool) (c:Int):Bool:=among c (if sp then [47,92] else [47])
theorem Zq7 (sp:Bool):Asc (slB sp) (slP sp):=Zt2 (ZeK sp)
theorem ZuQ {sp:Bool} {c:Int} (h:slP sp c=true):0≤c∧c < 128:=by
 unfold slP at h
 cases sp <;> simp [among] at h <;> omega
theorem slP_of (sch:List UInt8) (c:Int):among c (tl (Zj sch))=slP (Zc sch) c:=by rw [Zgf,special_eq];rfl
theorem Zat (sp:Bool) (l:List Int) (hl:∀ c∈l,Pt c):countSl sp (Zb l)=(l.takeWhile (slP sp)).length:=by
 induction l with
 | nil=>rfl
 | cons c r ih=>
  have ih':=ih (fun x hx=>hl x (List.mem_cons_of_mem _ hx))
  rw [bytesOf_cons,List.takeWhile_cons]
  rcases Z9 (hl c (List.mem_cons_self ..)) with ⟨a,b,e⟩ | ⟨a,b,e⟩
  ·rw [e,List.singleton_append,countSl,(Zq7 sp).lo c a b]
   split
   ·rw [ih'];rfl
   ·rfl
  ·rw [(Zq7 sp).up c a]
   cases hx:(utf c).map toB with
   | nil=>exact absurd hx b
   | cons y q=>
    rw [List.cons_append,countSl,(Zq7 sp).hi y (e y (by rw [hx];simp))]
    rfl
theorem ZcH (sp:Bool) (l:List Int):∀ k,k≤(l.takeWhile (slP sp)).length→(Zb l).drop k=Zb (l.drop k):=by
 induction l with
 | nil=>intro k _;rw [List.drop_nil];rw [bytesOf_nil,List.drop_nil]
 | cons c r ih=>
  intro k hk
  cases k with
  | zero=>rfl
  | succ k=>
   rw [List.takeWhile_cons] at hk
   cases hc:slP sp c
   ·rw [hc] at hk;simp at hk
   ·rw [hc] at hk
    simp only [if_true,List.length_cons] at hk
    rw [bytesOf_cons,Zm5 (ZuQ hc).2]
    show (toB c :: Zb r).drop (k + 1)=_
    rw [List.drop_succ_cons,List.drop_succ_cons]
    exact ih k (by omega)
theorem Zmp (sp:Bool) (l:List Int) (hl:∀ c∈l,Pt c):(Zb l).drop (countSl sp (Zb l))=Zb (l.dropWhile (slP sp)):=by
 rw [Zat sp l hl,ZcH sp l _ (Nat.le_refl _)]
 congr 1
 induction l with
 | nil=>rfl
 | cons c r ih=>
  rw [List.takeWhile_cons,List.dropWhile_cons]
  split
  ·rw [List.length_cons,List.drop_succ_cons]
   exact ih (fun x hx=>hl x (List.mem_cons_of_mem _ hx))
  ·rfl
theorem ZnM (sch:List UInt8) (l:List Int) (hl:∀ c∈l,Pt c):Zm l 0 sch=decide (1≤countSl (Zc sch) (Zb l)):=by
 rw [Zat _ l hl]
 unfold Zm
 cases l with
 | nil=>rfl
 | cons c r=>
  show among c (tl (Zj sch))=_
  rw [slP_of,List.takeWhile_cons]
  cases slP (Zc sch) c <;> simp
theorem Zk9 (sch:List UInt8) (l:List Int) (hl:∀ c∈l,Pt c):(Zm l 0 sch && Zm l 1 sch)=decide (1 < countSl (Zc sch) (Zb l)):=by
 rw [Zat _ l hl]
 unfold Zm
 match l with
 | []=>rfl
 | [c]=>
  show (among c (tl (Zj sch)) && false)=_
  rw [List.takeWhile_cons]
  cases slP (Zc sch) c <;> simp
 | c :: d :: r=>
  show (among c (tl (Zj sch)) && among d (tl (Zj sch)))=_
  rw [slP_of,slP_of,List.takeWhile_cons,List.takeWhile_cons]
  cases slP (Zc sch) c <;> cases slP (Zc sch) d <;> simp
theorem ZjO (sch:List UInt8) (l:List Int) (hl:∀ c∈l,Pt c):Zb (ZcB sch l)=if Zc sch=true then (Zb l).drop (countSl true (Zb l)) else Zb l:=by
 unfold ZcB
 rw [special_eq]
 by_cases h:Zc sch=true
 ·rw [if_pos h,if_pos h,Zmp true l hl]
  congr 2
  funext c
  rw [slP_of,h]
 ·rw [if_neg h,if_neg h]
theorem ZuR (l:List Int) (hl:∀ c∈l,Pt c):Zhb l=decide (2≤countSl false (Zb l)):=by
 rw [Zat _ l hl]
 have h47:∀ c:Int,slP false c=(c == 47):=fun c=>by
  unfold slP among
  simp only [Bool.false_eq_true,if_false,List.any_cons,List.any_nil,Bool.or_false]
  rw [Bool.eq_iff_iff,beq_iff_eq,beq_iff_eq]
  have:((47:UInt8).toNat:Int)=47:=rfl
  omega
 match l with
 | []=>rfl
 | [c]=>rw [List.takeWhile_cons,h47];cases c == 47 <;> simp [Zhb]
 | c :: d :: r=>
  rw [List.takeWhile_cons,List.takeWhile_cons,h47,h47]
  show (decide (1 < (c :: d :: r).length) && c == 47 && d == 47)=_
  rw [decide_eq_true (by simp)]
  cases c == 47 <;> cases d == 47 <;> simp
theorem ZuS (l:List Int) (hl:∀ c∈l,Pt c):ZuP l=decide (1≤countSl false (Zb l)):=by
 rw [Zat _ l hl]
 have h47:∀ c:Int,slP false c=(c == 47):=fun c=>by
  unfold slP among
  simp only [Bool.false_eq_true,if_false,List.any_cons,List.any_nil,Bool.or_false]
  rw [Bool.eq_iff_iff,beq_iff_eq,beq_iff_eq]
  have:((47:UInt8).toNat:Int)=47:=rfl
  omega
 match l with
 | []=>rfl
 | c :: r=>
  rw [List.takeWhile_cons,h47]
  show (decide (0 < (c :: r).length) && c == 47)=_
  rw [decide_eq_true (by simp)]
  cases c == 47 <;> simp
theorem ZjP (l:List Int):∀ (inb:Bool) (i:Nat),ZO inb i l=if ZO inb 0 l=-1 then -1 else ZO inb 0 l + i:=by
 induction l with
 | nil=>intro inb i;rfl
 | cons c r ih=>
  intro inb i
  rw [ZO,ZO]
  have hge:∀ b,-1≤ZO b 0 r:=fun b=>by
   rcases Zfo r b 0 with h | h
   ·omega
   ·omega
  by_cases h1:c=91
  ·rw [if_pos h1,if_pos h1,ih true (i + 1),ih true (0 + 1)]
   have:=hge true
   by_cases h:ZO true 0 r=-1
   ·rw [if_pos h,if_pos h];rfl
   ·rw [if_neg h,if_neg h,if_neg (by omega)];omega
  ·rw [if_neg h1,if_neg h1]
   by_cases h2:c=93
   ·rw [if_pos h2,if_pos h2,ih false (i + 1),ih false (0 + 1)]
    have:=hge false
    by_cases h:ZO false 0 r=-1
    ·rw [if_pos h,if_pos h];rfl
    ·rw [if_neg h,if_neg h,if_neg (by omega)];omega
   ·rw [if_neg h2,if_neg h2]
    by_cases h3:c=58∧inb=false
    ·rw [if_pos h3,if_pos h3];simp
    ·rw [if_neg h3,if_neg h3,ih inb (i + 1),ih inb (0 + 1)]
     have:=hge inb
     by_cases h:ZO inb 0 r=-1
     ·rw [if_pos h,if_pos h];rfl
     ·rw [if_neg h,if_neg h,if_neg (by omega)];omega
theorem Zin (q l:List UInt8) (h:∀ b∈q,128≤b.toNat) (inb:Bool):cutPortGo inb (q++l)=(cutPortGo inb l).map fun x=>(q++x.1,x.2):=by
 induction q with
 | nil=>cases hc:cutPortGo inb l <;> simp [hc]
 | cons b q ih=>
  have hb:=h b (List.mem_cons_self ..)
  rw [List.cons_append,cutPortGo,if_neg (by omega),if_neg (by omega),if_neg (by omega),ih (fun x hx=>h x (List.mem_cons_of_mem _ hx))]
  cases cutPortGo inb l <;> rfl
theorem Zh4 (l:List Int) (hl:∀ c∈l,Pt c):∀ inb:Bool,cutPortGo inb (Zb l)=if ZO inb 0 l=-1 then none else some (Zb (l.take (ZO inb 0 l).toNat),Zb (l.drop ((ZO inb 0 l).toNat + 1))):=by
 induction l with
 | nil=>intro inb;rfl
 | cons c r ih=>
  intro inb
  have ih':=ih (fun x hx=>hl x (List.mem_cons_of_mem _ hx))
  have hge:∀ b,-1≤ZO b 0 r:=fun b=>by
   rcases Zfo r b 0 with h | h
   ·omega
   ·omega
  have key:∀ (b':Bool) (pre:List UInt8),pre=(utf c).map toB→(cutPortGo b' (Zb r)).map (fun x=>(pre++x.1,x.2))=if ZO b' (0 + 1) r=-1 then none else some (Zb ((c :: r).take (ZO b' (0 + 1) r).toNat),Zb ((c :: r).drop ((ZO b' (0 + 1) r).toNat + 1))):=by
   intro b' pre hpre
   rw [ih' b',ZjP r b' (0 + 1)]
   have:=hge b'
   by_cases h:ZO b' 0 r=-1
   ·rw [if_pos h,if_pos h];rfl
   ·rw [if_neg h,if_neg h]
    have e:(ZO b' 0 r + ((0 + 1:Nat):Int)).toNat=(ZO b' 0 r).toNat + 1:=by omega
    rw [if_neg (by omega),e,List.take_succ_cons,List.drop_succ_cons,bytesOf_cons,hpre]
    rfl
  rw [ZO,bytesOf_cons]
  rcases Z9 (hl c (List.mem_cons_self ..)) with ⟨a,b,e⟩ | ⟨a,b,e⟩
  ·rw [e,List.singleton_append,cutPortGo,Za2 a b]
   by_cases h1:c=91
   ·rw [if_pos h1,if_pos h1]
    exact key true [toB c] e.symm
   ·rw [if_neg h1,if_neg h1]
    by_cases h2:c=93
    ·rw [if_pos h2,if_pos h2]
     exact key false [toB c] e.symm
    ·rw [if_neg h2,if_neg h2]
     by_cases h3:c=58∧inb=false
     ·rw [if_pos h3,if_pos h3]
      rfl
     ·rw [if_neg h3,if_neg h3]
      exact key inb [toB c] e.symm
  ·have n1:¬ c=91:=by omega
   have n2:¬ c=93:=by omega
   have n3:¬ (c=58∧inb=false):=by omega
   rw [if_neg n1,if_neg n2,if_neg n3,Zin _ _ e]
   exact key inb _ rfl
theorem ZjQ (l:List Int) (hl:∀ c∈l,Pt c):Zz (Zb l)=if colon l=-1 then (Zb l,[],false) else (Zb (l.take (colon l).toNat),Zb (l.drop ((colon l).toNat + 1)),true):=by
 unfold Zz colon
 rw [Zh4 l hl false]
 by_cases h:ZO false 0 l=-1
 ·rw [if_pos h,if_pos h]
 ·rw [if_neg h,if_neg h]
theorem Zs9 (p:List Int) (ha:p.all numeral=true):∀ n v:Int,0≤n→((n≤65535∧v=n)∨(65535 < n∧v=65536))→∃ m,numGo 10 65535 n (Zb p)=some m∧0≤m∧((m≤65535∧p.foldl Zbs v=m)∨(65535 < m∧p.foldl Zbs v=65536)):=by
 induction p with
 | nil=>intro n v h0 h;exact ⟨n,rfl,h0,h⟩
 | cons c r ih=>
  intro n v h0 h
  rw [List.all_cons,Bool.and_eq_true] at ha
  have hc:=Zgk ha.1
  have hd:digit c=c - 48:=by unfold digit;rw [if_pos hc]
  rw [bytesOf_cons,Zm5 (by omega),List.foldl_cons]
  show ∃ m,numGo 10 65535 n (toB c :: Zb r)=some m∧_
  have h9:0≤c - 48∧c - 48 < 10:=by omega
  rw [numGo,Za2 (by omega) (by omega),ZdA _ _ (by omega),hd,if_pos h9]
  simp only [if_true]
  refine ih ha.2 _ _ ?_ ?_
  ·split <;> omega
  ·unfold Zbs
   rcases h with ⟨h1,rfl⟩ | ⟨h1,rfl⟩
   ·rw [if_pos h1]
    by_cases h3:65535 < 10 * v + c - 48
    ·rw [if_pos h3];exact Or.inr ⟨by omega,rfl⟩
    ·rw [if_neg h3];exact Or.inl ⟨by omega,by omega⟩
   ·rw [if_neg (by omega),if_pos (by omega)]
    exact Or.inr ⟨h1,rfl⟩
theorem Zq8 (p:List Int) (hp:∀ c∈p,Pt c):ZaK (Zb p)=if ZP p=false∨65535 < value p then (0,false) else (value p,true):=by
 unfold ZaK
 have hn:=ZfT p hp 65535
 cases ha:ZP p
 ·rw [ha] at hn
  rw [if_pos (Or.inl hn),if_pos (Or.inl rfl)]
 ·rw [ha] at hn
  have ha':p.all numeral=true∧p≠[]:=by
   unfold ZP at ha
   rw [Bool.and_eq_true] at ha
   exact ⟨ha.1,fun e=>by rw [e] at ha;exact absurd ha.2 (by decide)⟩
  obtain ⟨m,hm,hm0,hr⟩:=Zs9 p ha'.1 0 0 (Int.le_refl _) (Or.inl ⟨by decide,rfl⟩)
  have hne:Zb p≠[]:=fun e=>ha'.2 ((Zr hp).1 e)
  have hnum:Zn (Zb p) 10 65535=if 65535 < m then (65536,true) else (m,true):=by unfold Zn;rw [if_neg hne,hm];rfl
  rw [show p.foldl Zbs 0=value p from rfl] at hr
  rw [hnum]
  by_cases hm2:65535 < m
  ·have:65535 < value p:=by rcases hr with ⟨a,b⟩ | ⟨a,b⟩ <;> omega
   rw [if_pos hm2,if_pos (Or.inr (by decide)),if_pos (Or.inr this)]
  ·have:value p=m:=by rcases hr with ⟨a,b⟩ | ⟨a,b⟩ <;> omega
   rw [if_neg hm2,if_neg (by rintro (g | g);cases g;exact hm2 g),this,if_neg (by rintro (g | g);cases g;exact hm2 g)]
theorem Zta (p:List Int) (h:ZP p=true):0≤value p:=(Zkb p (by unfold ZP at h;rw [Bool.and_eq_true] at h;exact h.1)).1
theorem Zvy (sch:List UInt8) (n:Int) (h0:0≤n):Zt1 sch n=if (ZF sch).2=true∧n=(ZF sch).1 then -1 else n:=by
 unfold Zt1 Zdg ZF
 simp only [Zgu,names6,Zed]
 have e1:tl (⟨#[104,116,116,112]⟩:ByteArray)=[104,116,116,112]:=rfl
 have e2:tl (⟨#[104,116,116,112,115]⟩:ByteArray)=[104,116,116,112,115]:=rfl
 have e3:tl (⟨#[119,115]⟩:ByteArray)=[119,115]:=rfl
 have e4:tl (⟨#[119,115,115]⟩:ByteArray)=[119,115,115]:=rfl
 have e5:tl (⟨#[102,116,112]⟩:ByteArray)=[102,116,112]:=rfl
 have e6:tl (⟨#[102,105,108,101]⟩:ByteArray)=[102,105,108,101]:=rfl
 rw [e1,e2,e3,e4,e5,e6]
 by_cases h1:sch=[104,116,116,112]
 ·subst h1;simp
 by_cases h2:sch=[104,116,116,112,115]
 ·subst h2;simp
 by_cases h3:sch=[119,115]
 ·subst h3;simp
 by_cases h4:sch=[119,115,115]
 ·subst h4;simp
 by_cases h5:sch=[102,116,112]
 ·subst h5;simp
 rw [if_neg (Ne.symm h1),if_neg (Ne.symm h2),if_neg (Ne.symm h3),if_neg (Ne.symm h4),if_neg (Ne.symm h5),if_neg (show ¬ (sch=[104,116,116,112]∨sch=[119,115]) by rintro (e | e);exact h1 e;exact h3 e),if_neg (show ¬ (sch=[104,116,116,112,115]∨sch=[119,115,115]) by rintro (e | e);exact h2 e;exact h4 e),if_neg h5]
 by_cases h6:sch=[102,105,108,101]
 ·have n1:¬ n=((-1:Int),true).1:=by show ¬ n=-1;omega
  have n2:¬ (((0:Int),false).2=true∧n=((0:Int),false).1):=fun g=>by cases g.1
  rw [if_pos h6.symm,if_neg n1,if_neg n2]
 ·have n1:¬ n=((-1:Int),false).1:=by show ¬ n=-1;omega
  have n2:¬ (((0:Int),false).2=true∧n=((0:Int),false).1):=fun g=>by cases g.1
  rw [if_neg (Ne.symm h6),if_neg n1,if_neg n2]
structure Rl (b:Bool) (Q S:List UInt8) (u:U) (m:RU):Prop where
 sch:m.sch=u.sch
 own:u.sch=S
 user:m.user=u.nam
 pass:m.pass=u.pw
 his:m.his=u.hh
 htx:m.htx=u.host
 port:m.port=if u.hp=true then (u.port:Int) else -1
 path:m.path=u.segs
 op:m.op=u.op
 bl:m.bl=u.opath
 hq:m.hq=u.hq
 q:(if b=true then Q else m.q)=u.q
 hf:m.hf=u.hf
 fr:m.fr=[]
 zfr:u.fr=[]
def Ztb (b:Bool) (Q S:List UInt8) (x:U × Int) (y:RU × Int):Prop:=x.2=y.2∧(x.2=0→Rl b Q S x.1 y.1)
theorem Zla {b:Bool} {Q S:List UInt8} {u:U} {m:RU} (h:Rl b Q S u m) (l:List Int) (hl:∀ c∈l,Sc c):Ztb b Q S (ZZ u (Zb l)) (ZaF m l):=by
 have hpt:∀ c∈l,Pt c:=fun c hc=>(hl c hc).pt
 unfold ZZ ZaF Zfp
 rw [ZjQ l hpt,h.sch,special_eq]
 rcases Zk2 l with hc | ⟨k,hc,hk⟩
 ·rw [if_pos hc,if_pos hc]
  simp only [Bool.false_eq_true,or_false]
  have hE:=Zr hpt
  by_cases h0:l=[]∧Zc u.sch=true
  ·have h0':Zb l=[]∧Zc u.sch=true:=⟨hE.2 h0.1,h0.2⟩
   rw [if_pos h0',if_pos h0]
   exact ⟨rfl,fun g=>by cases g⟩
  ·have h0':¬ (Zb l=[]∧Zc u.sch=true):=fun g=>h0 ⟨hE.1 g.1,g.2⟩
   rw [if_neg h0',if_neg h0]
   obtain ⟨e1,e2⟩:=Zml l hl (Zc u.sch)
   rw [e1]
   by_cases h2:(hostOf l (Zc u.sch)).2.2≠0
   ·rw [if_pos h2,if_pos h2]
    exact ⟨rfl,fun g=>absurd g h2⟩
   ·have h2':(hostOf l (Zc u.sch)).2.2=0:=Classical.not_not.1 h2
    rw [if_neg h2,if_neg h2,if_pos trivial]
    exact ⟨rfl,fun _=>{ h with sch:=rfl,his:=by rw [e2,decide_eq_true h2'],htx:=rfl }⟩
 ·have hcn:¬ colon l=-1:=by omega
  have hkn:(colon l).toNat=k:=by omega
  rw [if_neg hcn,if_neg hcn,hkn]
  simp only [or_true,and_true]
  have htp:∀ c∈l.take k,Pt c:=fun c g=>hpt c (List.mem_of_mem_take g)
  have hdp:∀ c∈l.drop (k + 1),Pt c:=fun c g=>hpt c (List.mem_of_mem_drop g)
  have hE:=Zr htp
  have hF:=Zr hdp
  by_cases h0:l.take k=[]
  ·rw [if_pos (hE.2 h0),if_pos h0]
   exact ⟨rfl,fun g=>by cases g⟩
  ·have h0':¬ Zb (l.take k)=[]:=fun g=>h0 (hE.1 g)
   rw [if_neg h0',if_neg h0]
   obtain ⟨e1,e2⟩:=Zml (l.take k) (fun c g=>hl c (List.mem_of_mem_take g)) (Zc u.sch)
   rw [e1]
   by_cases h2:(hostOf (l.take k) (Zc u.sch)).2.2≠0
   ·rw [if_pos h2,if_pos h2]
    exact ⟨rfl,fun g=>absurd g h2⟩
   ·have h2':(hostOf (l.take k) (Zc u.sch)).2.2=0:=Classical.not_not.1 h2
    rw [if_neg h2,if_neg h2]
    by_cases h3:l.drop (k + 1)=[]
    ·rw [if_pos (hF.2 h3),if_pos h3]
     exact ⟨rfl,fun _=>{ h with sch:=rfl,his:=by rw [e2,decide_eq_true h2'],htx:=rfl }⟩
    ·have h3':¬ Zb (l.drop (k + 1))=[]:=fun g=>h3 (hF.1 g)
     rw [if_neg h3',if_neg h3]
     unfold ZfK
     rw [Zq8 _ hdp]
     by_cases h4:ZP (l.drop (k + 1))=false∨65535 < value (l.drop (k + 1))
     ·rw [if_pos h4,if_pos h4]
      exact ⟨rfl,fun g=>by cases g⟩
     ·have hnn:0≤value (l.drop (k + 1)):=Zta _ (by cases hx:ZP (l.drop (k + 1)) with | true=>rfl | false=>exact absurd (Or.inl hx) h4)
      rw [if_neg h4,if_neg h4,if_neg (by intro g;cases g)]
      refine ⟨rfl,fun _=>?_⟩
      unfold Zba
      simp only
      rw [Zvy u.sch _ hnn]
      by_cases h5:(ZF u.sch).2=true∧value (l.drop (k + 1))=(ZF u.sch).1
      ·rw [if_pos h5,if_pos h5]
       exact { h with sch:=rfl,his:=by rw [e2,decide_eq_true h2'],htx:=rfl,port:=rfl }
      ·rw [if_neg h5,if_neg h5]
       exact { h with sch:=rfl,his:=by rw [e2,decide_eq_true h2'],htx:=rfl,port:=by show value (l.drop (k + 1))=((value (l.drop (k + 1))).toNat:Int);omega }
structure Wf (u:U):Prop where
 nh:u.hh=false→u.nam=[]∧u.pw=[]∧u.host=[]∧u.hp=false
 nq:u.hq=false→u.q=[]
 nf:u.hf=false→u.fr=[]
theorem Zdl:Wf zeroU:=⟨fun _=>⟨rfl,rfl,rfl,rfl⟩,fun _=>rfl,fun _=>rfl⟩
theorem Zeu (p:UInt8→Bool) (l:List UInt8):(bcut p l).2.2=false→(bcut p l).2.1=[]:=by
 induction l with
 | nil=>intro _;rfl
 | cons c r ih=>
  unfold bcut
  split
  ·intro h;cases h
  ·exact ih
theorem ZaS (set:List UInt8):encB set (clean [])=[]:=by rw [clean_nil];rfl
theorem Wf.segs {u:U} (h:Wf u) (s:List (List UInt8)):Wf { u with segs:=s }:=⟨h.nh,h.nq,h.nf⟩
theorem Wf.pathed {u:U} (h:Wf u) (b:Bool) (s:List UInt8):Wf { u with op:=b,opath:=s }:=⟨h.nh,h.nq,h.nf⟩
theorem Wf.hosted {u:U} (h:Wf u):Wf { u with hh:=true }:=⟨fun h0=>(by cases h0),h.nq,h.nf⟩
theorem Wf.hosts {u:U} (h:Wf u) (x:List UInt8):Wf { u with hh:=true,host:=x }:=⟨fun h0=>(by cases h0),h.nq,h.nf⟩
theorem ZjR (sch q:List UInt8) (hq:Bool) (h:hq=false→q=[]):Wf (Zci sch hq q):=
 ⟨fun _=>⟨rfl,rfl,rfl,rfl⟩,fun h0=>by show encB _ (clean q)=[];rw [h h0,ZaS],fun _=>rfl⟩
theorem Zlb {u base:U} (left:List UInt8) (h:Wf u) (hb:Wf base):Wf (Z7 u left base):=by
 unfold Z7
 split
 ·refine ⟨h.nh,?_,h.nf⟩
  intro h0
  have h1:(u.hq || base.hq)=false:=h0
  rw [Bool.or_eq_false_iff] at h1
  show (if u.hq=true then u.q else base.q)=[]
  rw [if_neg (by rw [h1.1];decide)]
  exact hb.nq h1.2
 ·exact h.segs _
theorem Zmr {u:U} (t:List UInt8) (h:Wf u) (h1:u.hh=true):Wf (Z2 u t).1:=by
 unfold Z2
 split
 ·exact h.segs _
 split
 ·exact Zdl
 ·exact ⟨fun h0=>absurd (h1.symm.trans h0) (by decide),h.nq,h.nf⟩
theorem Zra {u base:U} (left:List UInt8) (h:Wf u) (hb:Wf base):Wf (Zdk u left base).1:=by
 unfold Zdk
 split
 ·exact Zmr _ h.hosted rfl
 split
 ·exact h.hosted.segs _
 split
 ·exact (h.hosts _).segs _
 split
 ·exact (h.hosts _).segs _
 ·exact Zlb left (h.hosts _) hb
structure Wq (u:U):Prop where
 nq:u.hq=false→u.q=[]
 nf:u.hf=false→u.fr=[]
theorem Wf.wq {u:U} (h:Wf u):Wq u:=⟨h.nq,h.nf⟩
theorem ZuT {u:U} (p:List UInt8) (h:Wq u) (h1:u.hh=true):Wf (ZfK u p).1:=by
 unfold ZfK
 split
 ·exact Zdl
 show Wf (Zba u _)
 unfold Zba
 split
 ·exact ⟨fun h0=>absurd (h1.symm.trans h0) (by decide),h.nq,h.nf⟩
 ·exact ⟨fun h0=>absurd (h1.symm.trans h0) (by decide),h.nq,h.nf⟩
theorem Ztc {u:U} (p:List UInt8) (h:Wq u):Wf (ZZ u p).1:=by
 unfold ZZ
 split
 ·exact Zdl
 split
 ·exact Zdl
 split
 ·exact ⟨fun h0=>(by cases h0),h.nq,h.nf⟩
 ·exact ZuT _ ⟨h.nq,h.nf⟩ rfl
theorem Zdb {u:U} (t:List UInt8) (h:Wq u):Wf (Zv u t).1:=by
 unfold Zv
 split
 ·exact Zdl
 ·unfold ZcT
  split
  ·exact Zdl
  have hw:=Ztc (u:={ u with nam:=Zfs (bcut (isB 58) (bcutLast 64 (bcut (slB (Zc u.sch)) t).1).1).1,pw:=Zfs (bcut (isB 58) (bcutLast 64 (bcut (slB (Zc u.sch)) t).1).1).2.1 }) (bcutLast 64 (bcut (slB (Zc u.sch)) t).1).2.1 ⟨h.nq,h.nf⟩
  split
  ·exact hw.segs _
  ·exact hw
theorem Wf.keep {u base:U} (h:Wf u) (hb:Wf base):Wf (kept u base):=⟨hb.nh,h.nq,h.nf⟩
theorem ZiY {u base:U} (left:List UInt8) (h:Wf u) (hb:Wf base):Wf (ZT u left base).1:=by
 unfold ZT
 split
 ·exact Zra left h hb
 split
 ·exact Zdb _ h.wq
 split
 ·exact (h.keep hb).segs _
 ·exact Zlb left (h.keep hb) hb
theorem ZoX {u base:U} (left:List UInt8) (h:Wf u) (hb:Wf base):Wf (ZaQ u left base).1:=by
 unfold ZaQ
 split
 ·exact ZiY left h hb
 ·exact Zdb _ h.wq
theorem ZoY {u base:U} (left:List UInt8) (h:Wf u) (hb:Wf base):Wf (ZU u left base).1:=by
 unfold ZU
 split
 ·exact Zra left h hb
 split
 ·exact ZoX left h hb
 split
 ·exact h.pathed _ _
 split
 ·exact h.segs _
 ·exact Zdb _ h.wq
theorem Zrb (sch rest:List UInt8) (found:Bool) {base:U} (hb:Wf base):Wf (Zcy sch rest found base).1:=by
 unfold Zcy
 split
 ·exact Zdl
 split
 ·exact ZoY _ (ZjR _ _ _ (Zeu _ _)) hb
 ·exact ZiY _ (ZjR _ _ _ (Zeu _ _)) hb
theorem Ztd (l:List UInt8) (hf:Bool) {base:U} (hb:Wf base):Wf (Zbv l hf base).1:=by
 unfold Zbv
 split
 ·exact Zrb _ _ _ hb
 split
 ·unfold Zcu
  split
  ·exact hb
  ·exact Zdl
 ·exact Zrb _ _ _ hb
theorem ZoZ (l:List UInt8) {base:U} (hb:Wf base):Wf (Z8 l base).1:=by
 unfold Z8 Zgb
 split
 ·exact Zdl
 ·have h:=Ztd (bcut (isB 35) (wholeText l)).1 (bcut (isB 35) (wholeText l)).2.2 hb
  refine ⟨h.nh,h.nq,fun h0=>?_⟩
  show encB _ (clean (bcut (isB 35) (wholeText l)).2.1)=[]
  rw [Zeu _ _ h0,ZaS]
theorem Zms (l:List Int):∀ n,(ZdB l n=-1∧∀ j,j < n→l[j]?≠some 64)∨∃ k:Nat,ZdB l n=(k:Int)∧k < n∧l[k]?=some 64∧∀ j,k < j→j < n→l[j]?≠some 64:=by
 intro n
 induction n with
 | zero=>exact Or.inl ⟨rfl,fun j h=>by omega⟩
 | succ n ih=>
  rw [ZdB]
  by_cases h:l[n]?=some 64
  ·rw [if_pos h]
   exact Or.inr ⟨n,rfl,by omega,h,fun j h1 h2=>by omega⟩
  ·rw [if_neg h]
   rcases ih with ⟨h1,h2⟩ | ⟨k,h1,h2,h3,h4⟩
   ·refine Or.inl ⟨h1,fun j hj=>?_⟩
    by_cases e:j=n
    ·subst e;exact h
    ·exact h2 j (by omega)
   ·refine Or.inr ⟨k,h1,by omega,h3,fun j hj1 hj2=>?_⟩
    by_cases e:j=n
    ·subst e;exact h
    ·exact h4 j hj1 (by omega)
theorem Zvz:Asc (isB 64) (fun c=>among c [64]):=Zt2 (ZdP 64 (by decide) (by decide) 64 rfl)
theorem ZvA {l:List Int} (hl:∀ c∈l,Pt c) (h:∀ c∈l,c≠64):∀ b∈Zb l,isB 64 b=false:=by
 have h1:=Zvz.any l hl
 have h2:(l.any fun c=>among c [64])=false:=by
  rw [List.any_eq_false]
  intro c hc
  have:=h c hc
  simp [among]
  omega
 rw [h2] at h1
 intro b hb
 have:=List.any_eq_false.1 h1 b hb
 simpa using this
theorem ZuU (who:List Int) (hl:∀ c∈who,Pt c):bcutLast 64 (Zb who)=if ZbH who=-1 then ([],Zb who,false) else (Zb (who.take (ZbH who).toNat),Zb (who.drop ((ZbH who).toNat + 1)),true):=by
 unfold ZbH
 rcases Zms who who.length with ⟨h1,h2⟩ | ⟨k,h1,h2,h3,h4⟩
 ·rw [if_pos h1]
  refine ZgI (ZvA hl fun c hc e=>?_)
  obtain ⟨j,hj,rfl⟩:=List.getElem_of_mem hc
  exact h2 j hj (by rw [List.getElem?_eq_getElem hj,e])
 ·rw [if_neg (by omega),h1,Int.toNat_natCast]
  have e:who=who.take k++64 :: who.drop (k + 1):=by
   have h5:who[k]=64:=by rw [List.getElem?_eq_getElem h2] at h3;exact Option.some.inj h3
   rw [← h5,← List.drop_eq_getElem_cons h2,List.take_append_drop]
  have hb:Zb who=Zb (who.take k)++64 :: Zb (who.drop (k + 1)):=by
   conv=>lhs;rw [e]
   rw [Zl4,bytesOf_cons]
   rfl
  rw [hb]
  refine Zl9 (ZvA (fun c hc=>hl c (List.mem_of_mem_drop hc)) fun c hc e=>?_) (by decide)
  obtain ⟨j,hj,rfl⟩:=List.getElem_of_mem hc
  rw [List.length_drop] at hj
  rw [List.getElem_drop] at e
  exact h4 (k + 1 + j) (by omega) (by omega) (by rw [List.getElem?_eq_getElem (by omega),e])
theorem ZnO (l:List Int) (hl:∀ c∈l,Sc c):Zfs (Zb l)=encoded l ZgZ:=by
 unfold Zfs
 rw [Zbl _ l hl]
 exact ZbR (Zdz (by decide) (by decide)) l
theorem ZnP {b:Bool} {Q S:List UInt8} {x:U × Int} {y:RU × Int} (h:Ztb b Q S x y) (sch:List UInt8) (rest:List Int) (hr:∀ c∈rest,Sc c) (f:Bool):Ztb b Q S (ZcT x sch (Zb rest) f) (Zha y sch rest f):=by
 unfold ZcT Zha
 rw [← h.1]
 by_cases h0:x.2≠0
 ·rw [if_pos h0,if_pos h0]
  exact ⟨h.1,fun g=>absurd g h0⟩
 ·rw [if_neg h0,if_neg h0]
  have hr1:=h.2 (Classical.not_not.1 h0)
  cases f
  ·rw [if_neg (by decide),if_neg (by decide)]
   exact ⟨rfl,fun _=>hr1⟩
  ·rw [if_pos rfl,if_pos rfl]
   exact ⟨rfl,fun _=>{ hr1 with path:=Zbf sch rest hr }⟩
theorem ZjS {b:Bool} {Q S:List UInt8} {u:U} {m:RU} (h:Rl b Q S u m) (hn:u.nam=[]) (hw:u.pw=[]) (l:List Int) (hl:∀ c∈l,Sc c) (t:List UInt8) (ht:t=Zb (ZcB u.sch l)):Ztb b Q S (Zv u t) (Zan m l):=by
 subst ht
 unfold Zv Zan
 rw [h.sch]
 have hl2:∀ c∈ZcB u.sch l,Sc c:=fun c hc=>hl c (Zk5 hc)
 generalize ZcB u.sch l=l2 at *
 have hpt:∀ c∈l2,Pt c:=fun c hc=>(hl2 c hc).pt
 have hs:Zr2 (slB (Zc u.sch)) (tl (Zj u.sch)):=by rw [Zgf,special_eq];exact ZeK _
 rw [Zaj hs l2 hpt]
 have hc1:∀ c∈(cut l2 (tl (Zj u.sch))).1,Sc c:=fun c hc=>hl2 c (ZA (Or.inl hc))
 have hc2:∀ c∈(cut l2 (tl (Zj u.sch))).2.1,Sc c:=fun c hc=>hl2 c (ZA (Or.inr hc))
 generalize cut l2 (tl (Zj u.sch))=cc at *
 obtain ⟨who,rest,found⟩:=cc
 simp only at *
 rw [ZuU who (fun c hc=>(hc1 c hc).pt),special_eq,Bool.or_comm found]
 unfold Zbd Zpv
 by_cases ha:ZbH who=-1
 ·rw [if_pos ha]
  simp only [Bool.false_eq_true,false_and,if_false]
  have g1:¬ (ZbH who≠-1∧(if ZbH who=-1 then who else who.drop ((ZbH who).toNat + 1))=[]):=fun g=>g.1 ha
  rw [if_neg g1,if_pos ha,if_pos ha]
  refine ZnP (Zla ?_ who hc1) u.sch rest hc2 _
  have e:Zfs (bcut (isB 58) []).1=[]∧Zfs (bcut (isB 58) []).2.1=[]:=⟨by unfold Zfs;exact ZaS _,by unfold Zfs;exact ZaS _⟩
  exact { h with user:=by show m.user=Zfs (bcut (isB 58) []).1;rw [e.1,h.user,hn],pass:=by show m.pass=Zfs (bcut (isB 58) []).2.1;rw [e.2,h.pass,hw] }
 ·have hdp:∀ c∈who.drop ((ZbH who).toNat + 1),Sc c:=fun c hc=>hc1 c (List.mem_of_mem_drop hc)
  have htp:∀ c∈who.take (ZbH who).toNat,Sc c:=fun c hc=>hc1 c (List.mem_of_mem_take hc)
  rw [if_neg ha,if_neg ha,if_neg ha]
  simp only [true_and]
  have hE:=Zr (l:=who.drop ((ZbH who).toNat + 1)) (fun c hc=>(hdp c hc).pt)
  by_cases h0:who.drop ((ZbH who).toNat + 1)=[]
  ·rw [if_pos (hE.2 h0),if_pos ⟨ha,h0⟩]
   exact ⟨rfl,fun g=>by cases g⟩
  ·have h0':¬ Zb (who.drop ((ZbH who).toNat + 1))=[]:=fun g=>h0 (hE.1 g)
   rw [if_neg h0',if_neg (fun g=>h0 g.2)]
   refine ZnP (Zla ?_ _ hdp) u.sch rest hc2 _
   have hcol:=Zaj ZiL (who.take (ZbH who).toNat) (fun c hc=>(htp c hc).pt)
   refine { h with user:=?_,pass:=?_ }
   ·show encoded _ ZgZ=Zfs (bcut (isB 58) (Zb (who.take (ZbH who).toNat))).1
    rw [hcol,ZnO _ (fun c hc=>htp c (ZA (Or.inl hc)))]
   ·show encoded _ ZgZ=Zfs (bcut (isB 58) (Zb (who.take (ZbH who).toNat))).2.1
    rw [hcol,ZnO _ (fun c hc=>htp c (ZA (Or.inr hc)))]
theorem ZnQ:Zr2 (slB true) [47,92]:=ZeK true
theorem ZuV (l:List Int):letter (cut l [47,92]).1=driven l:=by
 unfold driven
 match l with
 | []=>rfl
 | [c]=>
  rw [if_pos (by simp),cut]
  split
  ·rfl
  ·rfl
 | c :: d :: r=>
  rw [if_neg (by simp)]
  show _=(letter [c,d] && (decide ((c :: d :: r).length=2) || Zm (c :: d :: r) 2 ZD))
  cases hl:letter [c,d]
  ·rw [Bool.false_and]
   rw [cut]
   split
   ·rfl
   ·rw [cut]
    split
    ·rfl
    ·cases r with
     | nil=>exact hl
     | cons e t=>
      rw [cut]
      split
      ·exact hl
      ·rfl
  ·have hl':(alpha c && (d == 58 || d == 124))=true:=hl
   rw [Bool.and_eq_true] at hl'
   have hc:c < 128∧65≤c∧c≠92:=by
    have:=hl'.1
    simp [alpha] at this
    omega
   have hd:d=58∨d=124:=by simpa using hl'.2
   have n1:among c [47,92]=false:=by simp [among];omega
   have n2:among d [47,92]=false:=by rcases hd with rfl | rfl <;> rfl
   rw [Bool.true_and,cut,n1,cut,n2]
   simp only [Bool.false_eq_true,if_false]
   cases r with
   | nil=>exact hl
   | cons e t=>
    have hs:Zm (c :: d :: e :: t) 2 ZD=among e [47,92]:=rfl
    rw [hs,cut,decide_eq_false (by simp)]
    cases he:among e [47,92]
    ·simp only [Bool.false_eq_true,if_false,Bool.or_self]
     rfl
    ·simp only [if_true,Bool.or_true]
     exact hl
theorem Zh5 (l:List Int) (hl:∀ c∈l,Pt c):Zae (Zb l)=driven l:=by
 unfold Zae
 rw [Zaj ZnQ l hl]
 show ZJ (Zb (cut l [47,92]).1)=_
 rw [Zcl _ (fun c hc=>hl c (ZA (Or.inl hc))),ZuV]
theorem Zmt {b:Bool} {Q S:List UInt8} {u:U} {m:RU} (h:Rl b Q S u m) (hh:u.hh=true) (l:List Int) (hl:∀ c∈l,Sc c):(ZM (Zb l)).2=(Zay m l).2∧((Zay m l).2=0→Rl b Q S { u with host:=(ZM (Zb l)).1 } (Zay m l).1):=by
 unfold ZM Zay
 have hE:=Zr (l:=l) (fun c hc=>(hl c hc).pt)
 obtain ⟨e1,e2⟩:=Zml l hl true
 by_cases h0:l=[]
 ·rw [if_pos (hE.2 h0),if_pos h0]
  exact ⟨rfl,fun _=>{ h with his:=hh.symm,htx:=rfl }⟩
 ·have h0':¬ Zb l=[]:=fun g=>h0 (hE.1 g)
  rw [if_neg h0',if_neg h0,e1]
  by_cases h1:(hostOf l true).2.2≠0
  ·rw [if_pos h1,if_pos h1]
   exact ⟨rfl,fun g=>absurd g h1⟩
  ·have h1':=Classical.not_not.1 h1
   rw [if_neg h1,if_neg h1]
   by_cases h2:(hostOf l true).2.1=ZnG
   ·have h2':(hostOf l true).2.1=Zej:=h2
    rw [if_pos h2',if_pos h2]
    exact ⟨rfl,fun _=>{ h with his:=hh.symm,htx:=rfl }⟩
   ·have h2':¬ (hostOf l true).2.1=Zej:=h2
    rw [if_neg h2',if_neg h2]
    exact ⟨rfl,fun _=>{ h with his:=by show (hostOf l true).1=u.hh;rw [e2,decide_eq_true h1',hh],htx:=rfl }⟩
theorem Zlc {b:Bool} {Q S:List UInt8} {u:U} {m:RU} (h:Rl b Q S u m) (hh:u.hh=true) (l:List Int) (hl:∀ c∈l,Sc c):Ztb b Q S (Z2 u (Zb l)) (ZcX m l):=by
 have hpt:∀ c∈l,Pt c:=fun c hc=>(hl c hc).pt
 unfold Z2 ZcX
 rw [Zaj ZnQ l hpt]
 simp only
 rw [Zcl _ (fun c hc=>hpt c (ZA (Or.inl hc)))]
 by_cases h0:letter (cut l [47,92]).1=true
 ·rw [if_pos h0,if_pos h0]
  exact ⟨rfl,fun _=>{ h with path:=by show walked m.sch [] l=_;rw [h.sch];exact Zbf u.sch l hl }⟩
 ·rw [if_neg h0,if_neg h0]
  obtain ⟨g1,g2⟩:=Zmt h hh (cut l [47,92]).1 (fun c hc=>hl c (ZA (Or.inl hc)))
  rw [g1]
  by_cases h1:(Zay m (cut l [47,92]).1).2≠0
  ·rw [if_pos h1,if_pos h1]
   exact ⟨rfl,fun g=>absurd g h1⟩
  ·rw [if_neg h1,if_neg h1]
   exact ⟨rfl,fun _=>{ g2 (Classical.not_not.1 h1) with path:=by show walked m.sch [] _=_;rw [h.sch];exact Zbf u.sch _ (fun c hc=>hl c (ZA (Or.inr hc))) }⟩
end Go.Proofs.YtchkhibgbnhjpaaGreatDoor
