import Derived.Test.YtchkhibgbnhjpaaGreatDoorK02
import Derived.Shelf.LaysM
import Derived.Shelf.Strconv.Itoa3
import Derived.Shelf.Strconv.Itoa4
namespace Go.Proofs.YtchkhibgbnhjpaaGreatDoor
open Go.RowKit
open Go.RowKit Go.Shelf
def ZaG (n:Int):ByteArray:=
 if n=1 then ⟨#[32,34,60,62,96]⟩ else if n=2 then ⟨#[32,34,35,60,62]⟩ else if n=3 then ⟨#[32,34,35,60,62,39]⟩
 else if n=4 then ⟨#[32,34,35,60,62,63,94,123,125,96]⟩ else if n=5 then ⟨#[32,34,35,60,62,63,94,123,125,96,47,58,59,61,64,91,92,93,124]⟩
 else if n=6 then ⟨#[32,34,35,60,62,63,94,123,125,96,47,58,59,61,64,91,92,93,124,36,37,38,43,44]⟩
 else if n=7 then ⟨#[32,34,35,60,62,63,94,123,125,96,47,58,59,61,64,91,92,93,124,36,37,38,43,44,33,39,40,41,126]⟩ else ⟨#[]⟩
theorem ZpC (n:Int):(ZaG n).size≤40:=by unfold ZaG;repeat (first | decide | split)
set_option maxHeartbeats 800000 in
theorem ZlA (n:Int) (w:World):
  Calls Tryz.prog 116 #[.int .i64 n] w fun e w'=>e=.returned (.string (ZaG n))∧w=w':=by
 by_cases h1:n=1
 ·subst h1
  go_enter Tryz.func116,Tryz.ntmps116
  go_wp2
  go_ret
  exact ⟨rfl,rfl⟩
 by_cases h2:n=2
 ·subst h2
  go_enter Tryz.func116,Tryz.ntmps116
  go_wp2
  go_ret
  exact ⟨rfl,rfl⟩
 by_cases h3:n=3
 ·subst h3
  go_enter Tryz.func116,Tryz.ntmps116
  go_wp2
  go_ret
  exact ⟨rfl,rfl⟩
 by_cases h4:n=4
 ·subst h4
  go_enter Tryz.func116,Tryz.ntmps116
  go_wp2
  go_ret
  exact ⟨rfl,rfl⟩
 by_cases h5:n=5
 ·subst h5
  go_enter Tryz.func116,Tryz.ntmps116
  go_wp2
  go_ret
  exact ⟨rfl,rfl⟩
 by_cases h6:n=6
 ·subst h6
  go_enter Tryz.func116,Tryz.ntmps116
  go_wp2
  go_ret
  exact ⟨rfl,rfl⟩
 by_cases h7:n=7
 ·subst h7
  go_enter Tryz.func116,Tryz.ntmps116
  go_wp2
  go_ret
  exact ⟨rfl,rfl⟩
 ·have HE:=Za (show ZaG n=⟨#[]⟩ by simp [ZaG,h1,h2,h3,h4,h5,h6,h7])
  have b1:(n == 1)=false:=by simp [h1]
  have b2:(n == 2)=false:=by simp [h2]
  have b3:(n == 3)=false:=by simp [h3]
  have b4:(n == 4)=false:=by simp [h4]
  have b5:(n == 5)=false:=by simp [h5]
  have b6:(n == 6)=false:=by simp [h6]
  have b7:(n == 7)=false:=by simp [h7]
  clear h1 h2 h3 h4 h5 h6 h7
  go_enter Tryz.func116,Tryz.ntmps116
  go_wp2
  go_ret
  exact ⟨Zlw HE.out.symm,rfl⟩
theorem Zea (l:List UInt8):(clean l).length≤3 * l.length:=by
 generalize hn:l.length=n
 induction n using Nat.strongRecOn generalizing l with
 | ind n ih=>
  cases l with
  | nil=>rw [clean_nil];simp
  | cons c r=>
   obtain ⟨h1,h2⟩:=ZfZ (l:=c :: r) (by simp)
   rw [Zdr (c :: r) (by simp)]
   have h3:=ih ((c :: r).drop (measure (c :: r)).1).length (by rw [List.length_drop];omega) _ rfl
   rw [List.length_drop] at h3
   rw [List.length_append]
   split
   ·rw [List.length_take];omega
   ·simp only [List.length_cons,List.length_nil];omega
def Z6 (set:List UInt8) (b:UInt8):List UInt8:=
 if (b.toNat:Int) < 32∨126 < (b.toNat:Int)∨among (b.toNat:Int) set=true then [37,toB (capital ((b.toNat:Int) / 16)),toB (capital ((b.toNat:Int) % 16))] else [b]
def encB (set l:List UInt8):List UInt8:=l.flatMap (Z6 set)
theorem Zj7 (set l:List UInt8) (b:UInt8):encB set (l++[b])=encB set l++Z6 set b:=by simp [encB]
theorem Zjh (set l:List UInt8):(encB set l).length≤3 * l.length:=by
 induction l with
 | nil=>simp [encB]
 | cons c r ih=>
  have h:(Z6 set c).length≤3:=by unfold Z6;split <;> simp
  simp only [encB,List.flatMap_cons,List.length_append,List.length_cons] at *
  omega
theorem ZpD {n:Int} (h0:0≤n) (h1:n < 16):0≤capital n∧capital n≤255:=by unfold capital;split <;> omega
theorem Zhl {ops:Array Oper} {rest:List Oper} {o:Oper} {a:Act} {Q:Exit→Act→World→Prop} (w:World) (y1 y2:Int) (h10:0≤y1) (h11:y1≤255) (h20:0≤y2) (h21:y2≤255)
  (hgd:o.guard=none) (s x:Operand) (ho:o.op=.call { callee:=.builtin .append,args:=#[s,x],argTypes:=#[109,109] })
  (base:Nat) (v:Value) (l:List UInt8) (hs:a.eval s=v) (hown:Ze4 w base v l) (hx:a.eval x=.slice (some ⟨w.heap.size,0,none⟩) 3 3)
  (hn:l.length < 1000000000000) (hbase:base≤w.heap.size)
  (h:∀ v' w',Ze4 w' base v' (l++[37,toB y1,toB y2])→Below base w w'→Kp 5 w w'→wpList Tryz.prog ops Q rest (a.put o.dst v') w'):
  wpList Tryz.prog ops Q (o :: rest) a (w.alloc (.cells #[.int .u8 37,.int .u8 y1,.int .u8 y2] 5)):=by
 refine ZcL _ _ _ (.int .u8 0) 1 Tryz.underlying109 ZmO rfl hgd s x ho base v l.length _ hs (World.ownsRow.alloc hown _) ⟨w.heap.size,0,none⟩ 3 3 [.int .u8 37,.int .u8 y1,.int .u8 y2] hx rfl (Zhe (by simp) (by simp) (by simp)) (by simp [Value.oneCell']) (by omega) (by decide) (by simp;omega) ?_
 intro v' w' q1 q2 q3
 refine h v' w' ?_ (((Below.refl base w).alloc hbase _).trans q2) ((Kp.rfl.alloc _).then q3)
 have e2:Lib.byteCells [37,toB y1,toB y2]=[.int .u8 37,.int .u8 y1,.int .u8 y2]:=by simp only [Lib.byteCells,List.map_cons,List.map_nil,Zfw h10 h11,Zfw h20 h21];rfl
 unfold Ze4
 rw [List.length_append,Lib.byteCells_append,e2]
 exact q1
set_option maxHeartbeats 2000000 in
theorem ZaW (s:ByteArray) (n:Int) (w:World) (hs:s.size≤1000000):
  Calls Tryz.prog 87 #[.string s,.int .i64 n] w fun e w'=>∃ r:ByteArray,e=.returned (.string r)∧tl r=encB (tl (ZaG n)) (clean (tl s))∧Nx w w':=by
 have hset:=ZpC n
 generalize hS:ZaG n=set at *
 have HS:=Za hS
 clear hS
 go_enter Tryz.func87,Tryz.ntmps87
 go_wp2_with fail
 refine (Zj6 _ _ hs).mono ?_
 rintro e w1 ⟨c,rfl,hc,hn1⟩
 have hcs:c.size≤3000000:=by have h:=Zea (tl s);rw [← hc,tl_length,tl_length] at h;omega
 have HCL:=Za hc
 clear hc
 go_wp2_with (go_at_call 116;refine (ZlA _ _).mono ?_;rintro e w' ⟨rfl,rfl⟩;rw [HS.out])
 go_loopw [7,8] (fun o i wr=>∃ k:Nat,k≤c.size∧i=.int .i64 k∧Ze4 wr w1.heap.size o (encB (tl set) ((tl c).take k))∧Nx w1 wr) (fun _ i _=>c.size - (intOf i).toNat)
 case atStart=>exact ⟨0,Nat.zero_le _,rfl,Zd9 w1,Nx.rfl.alloc _⟩
 case round=>
  obtain ⟨k,hk,rfl,hown,hnx⟩:=hrel
  by_cases hlt:k < c.size
  ·have hb:=bb c[k]
   have HTK:=Za ((congrArg (encB (tl set)) (ZE c k hlt)).trans (Zj7 _ _ _))
   have hz:=hnx.size
   have hsz:(encB (tl set) ((tl c).take k)).length < 1000000000000:=by have h:=Zjh (tl set) ((tl c).take k);have:=List.length_take_le k (tl c);omega
   have HO:=Za hown
   have HN:=Za hnx
   clear hown hnx
   by_cases hit:(c[k].toNat:Int) < 32∨126 < (c[k].toNat:Int)∨among (c[k].toNat:Int) (tl set)=true
   ·have HB:=Za (show Z6 (tl set) c[k]=[37,toB (capital ((c[k].toNat:Int) / 16)),toB (capital ((c[k].toNat:Int) % 16))] by unfold Z6;rw [if_pos hit])
    obtain ⟨hc1,hc2⟩:=ZpD (n:=(c[k].toNat:Int) / 16) (by omega) (by omega)
    obtain ⟨hc3,hc4⟩:=ZpD (n:=(c[k].toNat:Int) % 16) (by omega) (by omega)
    by_cases h32:(c[k].toNat:Int) < 32
    ·clear hit
     go_wp2_with (first | (go_at_call 117;refine (Zau _ _ _ (Zd (by omega))).mono ?_;rintro e w' ⟨rfl,rfl⟩) | (go_at_call 118;refine (Ze7 _ _ (by omega) (by omega)).mono ?_;rintro e w' ⟨rfl,rfl⟩) | (at_builtin;go_must (refine Zhl wr (capital ((c[k].toNat:Int) / 16)) (capital ((c[k].toNat:Int) % 16)) hc1 hc2 hc3 hc4 rfl _ _ rfl w1.heap.size _ _ rfl HO.out rfl hsz hz ?_;intro v' w2 ho1 hb1 hk1;have HO1:=Za ho1;clear ho1)))
     go_roundw
     case rel=>exact ⟨k + 1,by omega,by go_num,by rw [HTK.out,HB.out];exact HO1.out,HN.out.trans hb1⟩
     case measure=>simp [intOf];omega
    by_cases h126:126 < (c[k].toNat:Int)
    ·clear hit
     go_wp2_with (first | (go_at_call 117;refine (Zau _ _ _ (Zd (by omega))).mono ?_;rintro e w' ⟨rfl,rfl⟩) | (go_at_call 118;refine (Ze7 _ _ (by omega) (by omega)).mono ?_;rintro e w' ⟨rfl,rfl⟩) | (at_builtin;go_must (refine Zhl wr (capital ((c[k].toNat:Int) / 16)) (capital ((c[k].toNat:Int) % 16)) hc1 hc2 hc3 hc4 rfl _ _ rfl w1.heap.size _ _ rfl HO.out rfl hsz hz ?_;intro v' w2 ho1 hb1 hk1;have HO1:=Za ho1;clear ho1)))
     go_roundw
     case rel=>exact ⟨k + 1,by omega,by go_num,by rw [HTK.out,HB.out];exact HO1.out,HN.out.trans hb1⟩
     case measure=>simp [intOf];omega
    ·have hin:among (c[k].toNat:Int) (tl set)=true:=by
      rcases hit with h | h | h
      ·exact absurd h h32
      ·exact absurd h h126
      ·exact h
     clear hit
     go_wp2_with (first | (go_at_call 117;refine (Zau _ _ _ (Zd (by omega))).mono ?_;rintro e w' ⟨rfl,rfl⟩) | (go_at_call 118;refine (Ze7 _ _ (by omega) (by omega)).mono ?_;rintro e w' ⟨rfl,rfl⟩) | (at_builtin;go_must (refine Zhl wr (capital ((c[k].toNat:Int) / 16)) (capital ((c[k].toNat:Int) % 16)) hc1 hc2 hc3 hc4 rfl _ _ rfl w1.heap.size _ _ rfl HO.out rfl hsz hz ?_;intro v' w2 ho1 hb1 hk1;have HO1:=Za ho1;clear ho1)))
     go_roundw
     case rel=>exact ⟨k + 1,by omega,by go_num,by rw [HTK.out,HB.out];exact HO1.out,HN.out.trans hb1⟩
     case measure=>simp [intOf];omega
   ·have HB:=Za (show Z6 (tl set) c[k]=[c[k]] by unfold Z6;rw [if_neg hit])
    have h32:¬ (c[k].toNat:Int) < 32:=fun h=>hit (Or.inl h)
    have h126:¬ 126 < (c[k].toNat:Int):=fun h=>hit (Or.inr (Or.inl h))
    have hin:among (c[k].toNat:Int) (tl set)=false:=by cases h:among (c[k].toNat:Int) (tl set);rfl;exact absurd (Or.inr (Or.inr h)) hit
    have HT2:=Za (Zfy c[k])
    clear hit
    go_wp2_with (first | (go_at_call 117;refine (Zau _ _ _ (Zd (by omega))).mono ?_;rintro e w' ⟨rfl,rfl⟩) | (at_builtin;go_must (refine ZbJ wr (c[k].toNat:Int) rfl _ _ rfl w1.heap.size _ _ rfl HO.out rfl (by omega) (by omega) (Nat.lt_of_lt_of_le hsz (by decide)) hz ?_;intro v' w2 ho1 hb1 hk1;have HO1:=Za ho1;clear ho1)))
    go_roundw
    case rel=>exact ⟨k + 1,by omega,by go_num,by rw [HTK.out,HB.out];have h:=HO1.out;rw [HT2.out] at h;exact h,HN.out.trans hb1⟩
    case measure=>simp [intOf];omega
  ·rw [Zao c k (by omega)] at hown
   have hcv:=ZdH hown
   clear hown
   go_wp2
   go_ret
   exact ⟨_,rfl,by rw [tl_mk,HCL.out],hn1.then hnx⟩
def ZcO (l:List UInt8):Int × Bool:=
 match l with
 | c :: x :: y :: _=>if c=37∧(ZL x.toNat 16).2=true∧(ZL y.toNat 16).2=true then ((ZL x.toNat 16).1 * (16:Int) + (ZL y.toNat 16).1,true) else (0,false)
 | _=>(0,false)
theorem ZpE (l:List UInt8):0≤(ZcO l).1∧(ZcO l).1≤255:=by
 unfold ZcO
 split
 ·split
  ·rename_i x y r h
   have h1:=Zbi (x.toNat:Int) 16
   have h2:=Zbi (y.toNat:Int) 16
   have h3:=h1.2 h.2.1
   have h4:=h2.2 h.2.2
   simp only
   omega
  ·exact ⟨by decide,by decide⟩
 ·exact ⟨by decide,by decide⟩
theorem ZdJ (l:List UInt8) (h:l.length < 3):ZcO l=(0,false):=by
 match l,h with
 | [],_=>rfl
 | [_],_=>rfl
 | [_,_],_=>rfl
theorem ZlB (s:ByteArray) (h:2 < s.size):ZcO (tl s)=if s[0]=37∧(ZL (s[1].toNat:Int) 16).2=true∧(ZL (s[2].toNat:Int) 16).2=true then ((ZL (s[1].toNat:Int) 16).1 * (16:Int) + (ZL (s[2].toNat:Int) 16).1,true) else (0,false):=by
 have e0:=ZK s 0 (by omega)
 rw [List.drop_zero,ZK s 1 (by omega),ZK s 2 (by omega)] at e0
 rw [e0]
 rfl
theorem Zv6 {b:UInt8} (h:¬ b=37):((b.toNat:Int) != 37)=true:=by
 simp only [bne_iff_ne,ne_eq]
 intro h2
 exact h (UInt8.toNat_inj.1 (by show b.toNat=37;omega))
set_option maxRecDepth 100000 in
set_option maxHeartbeats 1000000 in
theorem Zji (s:ByteArray) (w:World) (hs:s.size≤1000000):
  Calls Tryz.prog 229 #[.string s] w fun e w'=>e=.returned (.tuple #[.int .u8 (ZcO (tl s)).1,.bool (ZcO (tl s)).2])∧w=w':=by
 by_cases h3:s.size < 3
 ·have HE:=Za (ZdJ (tl s) (by rw [tl_length];exact h3))
  go_enter Tryz.func229,Tryz.ntmps229
  go_wp2
  go_ret2
  exact ⟨by rw [HE.out];rfl,rfl⟩
 have h3':2 < s.size:=by omega
 have HC:=Za (ZlB s h3')
 have hb1:=bb s[1]
 have hb2:=bb s[2]
 by_cases hp:s[0]=37
 ·have hp':((s[0].toNat:Int) != 37)=false:=by rw [hp];rfl
  obtain ⟨q1,hq1⟩:∃ q,ZL (s[1].toNat:Int) 16=q:=⟨_,rfl⟩
  obtain ⟨q2,hq2⟩:∃ q,ZL (s[2].toNat:Int) 16=q:=⟨_,rfl⟩
  have r1:=Zbi (s[1].toNat:Int) 16
  have r2:=Zbi (s[2].toNat:Int) 16
  rw [hq1] at r1 HC
  rw [hq2] at r2 HC
  have HQ1:=Za hq1
  have HQ2:=Za hq2
  clear hq1 hq2
  obtain ⟨d1,k1⟩:=q1
  obtain ⟨d2,k2⟩:=q2
  simp only at r1 r2 HC
  cases k1
  ·have HE:=Za (show ZcO (tl s)=(0,false) by rw [HC.out,if_neg (by simp)])
   clear hp
   go_enter Tryz.func229,Tryz.ntmps229
   go_wp2_with fail
   refine (Zab _ _ _ (by omega) (by omega)).mono ?_
   rintro e w' ⟨rfl,rfl⟩
   rw [HQ1.out]
   go_wp2_with fail
   refine (Zab _ _ _ (by omega) (by omega)).mono ?_
   rintro e w' ⟨rfl,rfl⟩
   rw [HQ2.out]
   go_wp2
   go_ret2
   exact ⟨by rw [HE.out];rfl,rfl⟩
  cases k2
  ·have HE:=Za (show ZcO (tl s)=(0,false) by rw [HC.out,if_neg (by simp)])
   clear hp
   go_enter Tryz.func229,Tryz.ntmps229
   go_wp2_with fail
   refine (Zab _ _ _ (by omega) (by omega)).mono ?_
   rintro e w' ⟨rfl,rfl⟩
   rw [HQ1.out]
   go_wp2_with fail
   refine (Zab _ _ _ (by omega) (by omega)).mono ?_
   rintro e w' ⟨rfl,rfl⟩
   rw [HQ2.out]
   go_wp2
   go_ret2
   exact ⟨by rw [HE.out];rfl,rfl⟩
  ·have HE:=Za (show ZcO (tl s)=(d1 * 16 + d2,true) by rw [HC.out,if_pos ⟨hp,rfl,rfl⟩])
   obtain ⟨r10,r11⟩:=r1
   obtain ⟨r20,r21⟩:=r2
   have r12:=r11 rfl
   have r22:=r21 rfl
   clear hp r11 r21
   go_enter Tryz.func229,Tryz.ntmps229
   go_wp2_with fail
   refine (Zab _ _ _ (by omega) (by omega)).mono ?_
   rintro e w' ⟨rfl,rfl⟩
   rw [HQ1.out]
   go_wp2_with fail
   refine (Zab _ _ _ (by omega) (by omega)).mono ?_
   rintro e w' ⟨rfl,rfl⟩
   rw [HQ2.out]
   go_wp2
   go_ret2
   exact ⟨by rw [HE.out];rfl,rfl⟩
 ·have HE:=Za (show ZcO (tl s)=(0,false) by rw [HC.out,if_neg (fun h=>hp h.1)])
  have hp':=Zv6 hp
  clear hp
  go_enter Tryz.func229,Tryz.ntmps229
  go_wp2
  go_ret2
  exact ⟨by rw [HE.out];rfl,rfl⟩
def Zw (l:List UInt8):List UInt8:=
 match l with
 | []=>[]
 | c :: r=>if (ZcO (c :: r)).2 then toB (ZcO (c :: r)).1 :: Zw (r.drop 2) else c :: Zw r
 termination_by l.length
 decreasing_by all_goals simp_wf <;> omega
theorem Zeb (c:UInt8) (r:List UInt8):Zw (c :: r)=if (ZcO (c :: r)).2 then toB (ZcO (c :: r)).1 :: Zw (r.drop 2) else c :: Zw r:=by
 conv=>lhs;unfold Zw
theorem ZdK:Zw []=[]:=by unfold Zw;rfl
theorem ZpF {l:List UInt8} (h:(ZcO l).2=true):3≤l.length:=by
 by_cases hl:l.length < 3
 ·rw [ZdJ l hl] at h;cases h
 ·omega
set_option maxHeartbeats 1000000 in
theorem Zob (s:ByteArray) (w:World) (hs:s.size≤1000000):
  Calls Tryz.prog 202 #[.string s] w fun e w'=>∃ r:ByteArray,e=.returned (.string r)∧tl r=Zw (tl s)∧Nx w w':=by
 go_enter Tryz.func202,Tryz.ntmps202
 go_wp2
 go_loopw [3,4] (fun o i wr=>∃ (k:Nat) (P:List UInt8),k≤s.size∧i=.int .i64 k∧Zw (tl s)=P++Zw ((tl s).drop k)∧Ze4 wr w.heap.size o P∧P.length≤k∧Nx w wr) (fun _ i _=>s.size - (intOf i).toNat)
 case atStart=>exact ⟨0,[],Nat.zero_le _,rfl,by simp,Zd9 w,by simp,Nx.rfl.alloc _⟩
 case round=>
  obtain ⟨k,P,hk,rfl,hE,hown,hP,hnx⟩:=hrel
  by_cases hlt:k < s.size
  ·have HO:=Za hown
   have HN:=Za hnx
   have hz:=hnx.size
   have hPl:P.length < 1099511627776:=by omega
   have hb:=bb s[k]
   have HST:=Za (Zeb s[k] ((tl s).drop (k + 1)))
   rw [← ZK s k hlt] at HST
   have HX:=Za (tl_from s k)
   have HE:=Za hE
   have HCL:=Za (ZpF (l:=(tl s).drop k))
   obtain ⟨hr0,hr1⟩:=ZpE ((tl s).drop k)
   clear hE hown hnx
   go_wp2_with fail
   refine (Zji _ _ (by simp;omega)).mono ?_
   rintro e w' ⟨rfl,rfl⟩
   rw [HX.out]
   generalize hq:ZcO ((tl s).drop k)=q at *
   clear hq
   obtain ⟨y,ok⟩:=q
   simp only at hr0 hr1 HST HCL
   cases ok
   ·have HT2:=Za (Zfy s[k])
    go_wp2_with (at_builtin;go_must (refine ZbJ wr (s[k].toNat:Int) rfl _ _ rfl w.heap.size u3 P rfl HO.out rfl (by omega) (by omega) hPl hz ?_;intro v' w2 ho2 hb2 _;have HO2:=Za ho2;clear ho2))
    go_roundw
    case rel=>exact ⟨k + 1,P++[s[k]],by omega,by go_num,by rw [HE.out,HST.out,if_neg (by simp),List.append_assoc];rfl,by have h:=HO2.out;rw [HT2.out] at h;exact h,by simp;omega,HN.out.trans hb2⟩
    case measure=>simp [intOf];omega
   ·have h3:=HCL.out rfl
    rw [List.length_drop,tl_length] at h3
    go_wp2_with (at_builtin;go_must (refine ZbJ wr y rfl _ _ rfl w.heap.size u3 P rfl HO.out rfl (by omega) (by omega) hPl hz ?_;intro v' w2 ho2 hb2 _;have HO2:=Za ho2;clear ho2))
    go_roundw
    case rel=>exact ⟨k + 3,P++[toB y],by omega,by go_num,by rw [HE.out,HST.out,if_pos trivial,List.append_assoc,List.drop_drop];rfl,HO2.out,by simp;omega,HN.out.trans hb2⟩
    case measure=>simp [intOf];omega
  ·rw [Zy s k (by omega)] at hE
   have hcv:=ZdH hown
   clear hown
   go_wp2
   go_ret
   exact ⟨_,rfl,by rw [hE,tl_mk,ZdK,List.append_nil],hnx⟩
def bsplit (n:Int) (l:List UInt8):List (List UInt8):=
 match l with
 | []=>[[]]
 | c :: r=>if isB n c then [] :: bsplit n r else
  match bsplit n r with
  | []=>[[c]]
  | p :: q=>(c :: p) :: q
theorem Zfz (n:Int) (l:List UInt8):∃ p q,bsplit n l=p :: q:=by
 cases l with
 | nil=>exact ⟨[],[],rfl⟩
 | cons c r=>
  rw [bsplit]
  split
  ·exact ⟨_,_,rfl⟩
  ·split <;> exact ⟨_,_,rfl⟩
theorem Zix (n:Int) (l:List UInt8):bsplit n l=if (bcut (isB n) l).2.2 then (bcut (isB n) l).1 :: bsplit n (bcut (isB n) l).2.1 else [(bcut (isB n) l).1]:=by
 induction l with
 | nil=>simp [bsplit,bcut]
 | cons c r ih=>
  cases h:isB n c
  ·have hc:bcut (isB n) (c :: r)=(c :: (bcut (isB n) r).1,(bcut (isB n) r).2):=by simp [bcut,h]
   rw [bsplit,if_neg (by simp [h]),hc,ih]
   cases h2:(bcut (isB n) r).2.2 <;> simp
  ·have hc:bcut (isB n) (c :: r)=([],r,true):=by simp [bcut,h]
   rw [bsplit,if_pos h,hc]
   simp
theorem Zar (p:UInt8→Bool) (l:List UInt8):(bcut p l).1.length + (bcut p l).2.1.length≤l.length∧((bcut p l).2.2=true→(bcut p l).2.1.length < l.length):=by
 induction l with
 | nil=>simp [bcut]
 | cons c r ih=>
  cases h:p c
  ·have hc:bcut p (c :: r)=(c :: (bcut p r).1,(bcut p r).2):=by simp [bcut,h]
   rw [hc]
   simp only [List.length_cons]
   exact ⟨by omega,fun hh=>by have:=ih.2 hh;omega⟩
  ·have hc:bcut p (c :: r)=([],r,true):=by simp [bcut,h]
   rw [hc]
   simp
abbrev Zc2 (w:World) (base:Nat) (v:Value) (l:List ByteArray):Prop:=w.ownsRow base 9 1 v l.length (l.map Value.string)
theorem Zcd {ops:Array Oper} {rest:List Oper} {o:Oper} {a:Act} {Q:Exit→Act→World→Prop} (w:World) (y:ByteArray)
  (hgd:o.guard=none) (s x:Operand) (ho:o.op=.call { callee:=.builtin .append,args:=#[s,x],argTypes:=#[52,52] })
  (base:Nat) (v:Value) (l:List ByteArray) (hs:a.eval s=v) (hown:Zc2 w base v l) (hx:a.eval x=.slice (some ⟨w.heap.size,0,none⟩) 1 1)
  (hn:l.length < 1099511627776) (hbase:base≤w.heap.size)
  (h:∀ v' w',Zc2 w' base v' (l++[y])→Below base w w'→Kp 9 w w'→wpList Tryz.prog ops Q rest (a.put o.dst v') w'):
  wpList Tryz.prog ops Q (o :: rest) a (w.alloc (.cells #[.string y] 9)):=by
 refine ZcL _ _ _ (.string ByteArray.empty) 16 Tryz.underlying52 Ze3 rfl hgd s x ho base v l.length _ hs (World.ownsRow.alloc hown _) ⟨w.heap.size,0,none⟩ 1 1 [.string y] hx rfl (Zft (by simp)) (by simp [Value.oneCell']) (by omega) (by decide) (by simp;omega) ?_
 intro v' w' h1 h2 h3
 refine h v' w' ?_ (((Below.refl base w).alloc hbase _).trans h2) ((Kp.rfl.alloc _).then h3)
 unfold Zc2
 rw [List.length_append,List.map_append]
 exact h1
theorem Zoc (w:World):Zc2 (w.alloc (.cells #[] 9)) w.heap.size (.slice (some ⟨w.heap.size,0,none⟩) 0 0) []:=
 World.ownsRow_made w #[] 0 (Nat.le_refl _) (Nat.zero_le _) rfl
def ZmR:Value→Nat | .string s=>s.size | _=>0
def ZmS:Value→Bool | .bool b=>b | _=>false
set_option maxHeartbeats 1000000 in
theorem Zhm (s:ByteArray) (n:Int) (w:World) (hs:s.size≤1000000):
  Calls Tryz.prog 162 #[.string s,.int .u8 n] w fun e w'=>∃ v bs,e=.returned v∧Zcb w' v bs∧bs.map tl=bsplit n (tl s)∧Nx w w':=by
 go_enter Tryz.func162,Tryz.ntmps162
 go_wp2
 go_loopw [5,6,7] (fun o x m wr=>∃ (bs:List ByteArray) (q:ByteArray) (more:Bool),x=.string q∧m=.bool more∧Zc2 wr w.heap.size o bs∧bs.length + q.size≤s.size + 1∧bsplit n (tl s)=bs.map tl++(if more then bsplit n (tl q) else [])∧(more=true→bs.length + q.size≤s.size)∧Nx w wr)
  (fun _ x m _=>if ZmS m then ZmR x + 1 else 0)
 case atStart=>exact ⟨[],s,true,rfl,rfl,Zoc w,by simp,by simp,fun _=>by simp,Nx.rfl.alloc _⟩
 case round=>
  obtain ⟨bs,q,more,rfl,rfl,hown,hl,hE,hm,hnx⟩:=hrel
  cases more
  ·simp only [Bool.false_eq_true,if_false,List.append_nil] at hE
   go_wp2
   go_ret
   exact ⟨_,_,rfl,Zt hown,hE.symm,hnx⟩
  ·have hl2:=hm rfl
   simp only [if_true] at hE
   have HE:=Za hE
   have HO:=Za hown
   have HN:=Za hnx
   clear hE hown hnx hm
   have HC:=Za (Zix n (tl q))
   have HL:=Za (Zar (isB n) (tl q))
   go_wp2_with fail
   refine (ZeB _ _ _ (Zd (by omega))).mono ?_
   rintro e w1 ⟨⟨a,b,rfl,ha,hb⟩,hn1⟩
   have HA:=Za ha
   have HB:=Za hb
   have hla:a.size=(bcut (isB n) (tl q)).1.length:=by rw [← ha,tl_length]
   have hlb:b.size=(bcut (isB n) (tl q)).2.1.length:=by rw [← hb,tl_length]
   have HLA:=Za hla
   have HLB:=Za hlb
   clear ha hb hla hlb
   generalize bcut (isB n) (tl q)=c at *
   obtain ⟨c1,c2,found⟩:=c
   simp only at *
   have HO1:=Za (Zbq HO.out hn1)
   have HN1:=Za (HN.out.then hn1)
   have hz:=HN1.out.size
   clear hn1
   have hbl:bs.length < 1099511627776:=by omega
   go_wp2_with (at_builtin;go_must (refine Zcd w1 a rfl _ _ rfl w.heap.size u5 bs rfl HO1.out rfl hbl hz ?_;intro v' w2 ho2 hb2 _;have HO2:=Za ho2;clear ho2))
   go_roundw
   case rel=>
    refine ⟨bs++[a],b,found,rfl,rfl,HO2.out,?_,?_,?_,HN1.out.trans hb2⟩
    ·have h:=HL.out.1;have h1:=HLA.out;have h2:=HLB.out;rw [tl_length] at h;simp only [List.length_append,List.length_cons,List.length_nil];omega
    ·rw [HE.out,HC.out,List.map_append,List.append_assoc,List.map_cons,List.map_nil,HA.out,HB.out]
     cases found <;> rfl
    ·intro hf
     have h:=HL.out.2 hf
     have h2:=HLB.out
     rw [tl_length] at h
     simp only [List.length_append,List.length_cons,List.length_nil]
     omega
   case measure=>
    have h:=HL.out
    have h2:=HLB.out
    rw [tl_length] at h
    simp only [ZmS,ZmR]
    cases found
    ·simp
    ·have:=h.2 rfl
     simp;omega
theorem any_snoc {α:Type} (p:α→Bool) (l:List α) (b:α):(l++[b]).any p=(l.any p || p b):=by simp
theorem Zjj (p:UInt8→Bool) (s:ByteArray) (k:Nat) (h:k < s.size) (he:p s[k]=true):(tl s).any p=true:=
 List.any_eq_true.2 ⟨s[k],by rw [← ZdY s k h];exact List.getElem_mem _,he⟩
theorem Zai (s:ByteArray) (k:Nat):(s.extract k s.size).size=s.size - k:=by rw [ByteArray.size_extract];omega
theorem Zuc (s:ByteArray) (k:Nat):(s.extract 0 k).size≤s.size:=by rw [ByteArray.size_extract];omega
theorem Zg2 (s:ByteArray) (a b:Nat):(s.extract a b).size≤s.size:=by rw [ByteArray.size_extract];omega
theorem ZdL (s:ByteArray) (k:Nat) (h:k < s.size):(tl s).getD k 0=s[k]:=by
 rw [List.getD_eq_getElem?_getD,List.getElem?_eq_getElem (by rw [tl_length];exact h),ZdY s k h];rfl
theorem Zhn {a b:Int × Bool} (h:a=b):Ending.returned (.tuple #[.int .i64 a.1,.bool a.2])=.returned (.tuple #[.int .i64 b.1,.bool b.2]):=by rw [h]
theorem Zdf {s:ByteArray} (h:¬ s.size=0):¬ tl s=[]:=by intro e;have:=tl_length s;rw [e] at this;simp at this;omega
theorem Zr1 {x y:Int} (h:(x == y)=true):(x != y)=false:=by simp only [bne,h];rfl
theorem Zg3 {x y:Int} (h:(x == y)=false):(x != y)=true:=by simp only [bne,h];rfl
def Zj8:Go.Shelf.Ren:=⟨fun | 171=>59 | 243=>89 | 246=>119 | 283=>158 | 284=>159 | 285=>160 | 286=>161 | 129=>197 | 317=>196 | 318=>198 | 319=>199 | 320=>200 | 337=>227 | 338=>228 | n=>n,fun | 3=>3 | 9=>9 | 2=>2 | 4=>4 | 171=>147 | 0=>0 | 53=>148 | 37=>109 | 5=>5 | 173=>151 | 212=>174 | 51=>175 | 20=>20 | 213=>176 | 46=>118 | 232=>198 | 233=>199 | n=>n,fun | 17=>0 | 18=>1 | 19=>2 | n=>n⟩
theorem Zsb:Go.Proofs.LaysM.n171 Tryz.prog Zj8:={
 mixed:=by kernel_rfl
 f129:=Tryz.func197.trans (congrArg some (by kernel_rfl))
 f171:=Tryz.func59.trans (congrArg some (by kernel_rfl))
 f243:=Tryz.func89.trans (congrArg some (by kernel_rfl))
 f246:=Tryz.func119.trans (congrArg some (by kernel_rfl))
 f283:=Tryz.func158.trans (congrArg some (by kernel_rfl))
 f284:=Tryz.func159.trans (congrArg some (by kernel_rfl))
 f285:=Tryz.func160.trans (congrArg some (by kernel_rfl))
 f286:=Tryz.func161.trans (congrArg some (by kernel_rfl))
 f317:=Tryz.func196.trans (congrArg some (by kernel_rfl))
 f318:=Tryz.func198.trans (congrArg some (by kernel_rfl))
 f319:=Tryz.func199.trans (congrArg some (by kernel_rfl))
 f320:=Tryz.func200.trans (congrArg some (by kernel_rfl))
 f337:=Tryz.func227.trans (congrArg some (by kernel_rfl))
 f338:=Tryz.func228.trans (congrArg some (by kernel_rfl))
 t0:=Tryz.underlying0
 a0:=Tryz.isAgg0
 z0:=Tryz.sizeOf0
 v0:=Tryz.zeroValue0
 t2:=Tryz.underlying2
 a2:=Tryz.isAgg2
 z2:=Tryz.sizeOf2
 v2:=Tryz.zeroValue2
 t3:=Tryz.underlying3
 a3:=Tryz.isAgg3
 z3:=Tryz.sizeOf3
 v3:=Tryz.zeroValue3
 t4:=Tryz.underlying4
 a4:=Tryz.isAgg4
 z4:=Tryz.sizeOf4
 v4:=Tryz.zeroValue4
 t5:=Tryz.underlying5
 a5:=Tryz.isAgg5
 z5:=Tryz.sizeOf5
 v5:=Tryz.zeroValue5
 t9:=Tryz.underlying9
 a9:=Tryz.isAgg9
 z9:=Tryz.sizeOf9
 v9:=Tryz.zeroValue9
 t20:=Tryz.underlying20
 a20:=Tryz.isAgg20
 z20:=Tryz.sizeOf20
 v20:=Tryz.zeroValue20
 t37:=Tryz.underlying109
 a37:=Tryz.isAgg109
 z37:=Tryz.sizeOf109
 v37:=Tryz.zeroValue109
 t46:=Tryz.underlying118
 a46:=Tryz.isAgg118
 z46:=Tryz.sizeOf118
 v46:=Tryz.zeroValue118
 t51:=Tryz.underlying175
 a51:=Tryz.isAgg175
 z51:=Tryz.sizeOf175
 v51:=Tryz.zeroValue175
 t53:=Tryz.underlying148
 a53:=Tryz.isAgg148
 z53:=Tryz.sizeOf148
 v53:=Tryz.zeroValue148
 t171:=Tryz.underlying147
 a171:=Tryz.isAgg147
 z171:=Tryz.sizeOf147
 v171:=Tryz.zeroValue147
 t173:=Tryz.underlying151
 a173:=Tryz.isAgg151
 z173:=Tryz.sizeOf151
 v173:=Tryz.zeroValue151
 t212:=Tryz.underlying174
 a212:=Tryz.isAgg174
 z212:=Tryz.sizeOf174
 v212:=Tryz.zeroValue174
 t213:=Tryz.underlying176
 a213:=Tryz.isAgg176
 z213:=Tryz.sizeOf176
 t232:=Tryz.underlying198
 a232:=Tryz.isAgg198
 z232:=Tryz.sizeOf198
 v232:=Tryz.zeroValue198
 t233:=Tryz.underlying199
 a233:=Tryz.isAgg199
 z233:=Tryz.sizeOf199
 v233:=Tryz.zeroValue199
 g17:=by kernel_rfl
 g18:=by kernel_rfl
 g19:=by kernel_rfl
 i0:=by kernel_rfl
 i2:=by kernel_rfl
 i3:=by kernel_rfl
 i4:=by kernel_rfl
 i5:=by kernel_rfl
 i9:=by kernel_rfl
 i20:=by kernel_rfl
 i37:=by kernel_rfl
 i46:=by kernel_rfl
 i51:=by kernel_rfl
 i53:=by kernel_rfl
 i171:=by kernel_rfl
 i173:=by kernel_rfl
 i212:=by kernel_rfl
 i232:=by kernel_rfl
 i233:=by kernel_rfl
 m17:=by kernel_rfl
 m18:=by kernel_rfl
 m19:=by kernel_rfl }
def Zj9:Go.Shelf.Ren:=⟨fun | 173=>254 | 246=>119 | 283=>158 | 284=>159 | 285=>160 | 286=>161 | 129=>197 | 317=>196 | 318=>198 | 319=>199 | 320=>200 | 337=>227 | 338=>228 | n=>n,fun | 2=>2 | 3=>3 | 9=>9 | 4=>4 | 171=>147 | 0=>0 | 53=>148 | 37=>109 | 5=>5 | 173=>151 | 212=>174 | 51=>175 | 20=>20 | 213=>176 | 46=>118 | 232=>198 | 233=>199 | n=>n,fun | 17=>0 | 18=>1 | 19=>2 | n=>n⟩
theorem Zsc:Go.Proofs.LaysM.n173 Tryz.prog Zj9:={
 mixed:=by kernel_rfl
 f129:=Tryz.func197.trans (congrArg some (by kernel_rfl))
 f173:=Tryz.func254.trans (congrArg some (by kernel_rfl))
 f246:=Tryz.func119.trans (congrArg some (by kernel_rfl))
 f283:=Tryz.func158.trans (congrArg some (by kernel_rfl))
 f284:=Tryz.func159.trans (congrArg some (by kernel_rfl))
 f285:=Tryz.func160.trans (congrArg some (by kernel_rfl))
 f286:=Tryz.func161.trans (congrArg some (by kernel_rfl))
 f317:=Tryz.func196.trans (congrArg some (by kernel_rfl))
 f318:=Tryz.func198.trans (congrArg some (by kernel_rfl))
 f319:=Tryz.func199.trans (congrArg some (by kernel_rfl))
 f320:=Tryz.func200.trans (congrArg some (by kernel_rfl))
 f337:=Tryz.func227.trans (congrArg some (by kernel_rfl))
 f338:=Tryz.func228.trans (congrArg some (by kernel_rfl))
 t0:=Tryz.underlying0
 a0:=Tryz.isAgg0
 z0:=Tryz.sizeOf0
 v0:=Tryz.zeroValue0
 t2:=Tryz.underlying2
 a2:=Tryz.isAgg2
 z2:=Tryz.sizeOf2
 v2:=Tryz.zeroValue2
 t3:=Tryz.underlying3
 a3:=Tryz.isAgg3
 z3:=Tryz.sizeOf3
 v3:=Tryz.zeroValue3
 t4:=Tryz.underlying4
 a4:=Tryz.isAgg4
 z4:=Tryz.sizeOf4
 v4:=Tryz.zeroValue4
 t5:=Tryz.underlying5
 a5:=Tryz.isAgg5
 z5:=Tryz.sizeOf5
 v5:=Tryz.zeroValue5
 t9:=Tryz.underlying9
 a9:=Tryz.isAgg9
 z9:=Tryz.sizeOf9
 v9:=Tryz.zeroValue9
 t20:=Tryz.underlying20
 a20:=Tryz.isAgg20
 z20:=Tryz.sizeOf20
 v20:=Tryz.zeroValue20
 t37:=Tryz.underlying109
 a37:=Tryz.isAgg109
 z37:=Tryz.sizeOf109
 v37:=Tryz.zeroValue109
 t46:=Tryz.underlying118
 a46:=Tryz.isAgg118
 z46:=Tryz.sizeOf118
 v46:=Tryz.zeroValue118
 t51:=Tryz.underlying175
 a51:=Tryz.isAgg175
 z51:=Tryz.sizeOf175
 v51:=Tryz.zeroValue175
 t53:=Tryz.underlying148
 a53:=Tryz.isAgg148
 z53:=Tryz.sizeOf148
 v53:=Tryz.zeroValue148
 t171:=Tryz.underlying147
 a171:=Tryz.isAgg147
 z171:=Tryz.sizeOf147
 v171:=Tryz.zeroValue147
 t173:=Tryz.underlying151
 a173:=Tryz.isAgg151
 z173:=Tryz.sizeOf151
 v173:=Tryz.zeroValue151
 t212:=Tryz.underlying174
 a212:=Tryz.isAgg174
 z212:=Tryz.sizeOf174
 v212:=Tryz.zeroValue174
 t213:=Tryz.underlying176
 a213:=Tryz.isAgg176
 z213:=Tryz.sizeOf176
 t232:=Tryz.underlying198
 a232:=Tryz.isAgg198
 z232:=Tryz.sizeOf198
 v232:=Tryz.zeroValue198
 t233:=Tryz.underlying199
 a233:=Tryz.isAgg199
 z233:=Tryz.sizeOf199
 v233:=Tryz.zeroValue199
 g17:=by kernel_rfl
 g18:=by kernel_rfl
 g19:=by kernel_rfl
 i0:=by kernel_rfl
 i2:=by kernel_rfl
 i3:=by kernel_rfl
 i4:=by kernel_rfl
 i5:=by kernel_rfl
 i9:=by kernel_rfl
 i20:=by kernel_rfl
 i37:=by kernel_rfl
 i46:=by kernel_rfl
 i51:=by kernel_rfl
 i53:=by kernel_rfl
 i171:=by kernel_rfl
 i173:=by kernel_rfl
 i212:=by kernel_rfl
 i232:=by kernel_rfl
 i233:=by kernel_rfl
 m17:=by kernel_rfl
 m18:=by kernel_rfl
 m19:=by kernel_rfl }
def Tb (w:World):Prop:=Lib.TabIs Tryz.prog w "internal/strconv.uint64pow10" .u64 Lib.pow10Tab∧w.cell? ⟨2,15,none⟩=some (.int .u8 4)
theorem Zv7:Tryz.prog.globalNamed "internal/strconv.uint64pow10"=some 0:=by kernel_rfl
theorem Zva {w w':World} {name:String} {k:IntKind} {zs:List Int} (h:Lib.TabIs Tryz.prog w name k zs) (hb:Nx w w'):Lib.TabIs Tryz.prog w' name k zs:=by
 unfold Lib.TabIs World.var? at *
 cases hg:Tryz.prog.globalNamed name with
 | none=>rw [hg] at h;cases h
 | some g=>
  rw [hg] at h
  simp only [Option.bind_some] at h ⊢
  cases hw:w.heap[g]? with
  | none=>rw [hw] at h;cases h
  | some o=>rw [hb.block g (Array.getElem?_eq_some_iff.1 hw).1];exact h
theorem Tb.on {w w':World} (h:Tb w) (hb:Nx w w'):Tb w':=
 ⟨Zva h.1 hb,(hb.cell (World.block_lt_of_cell? w _ h.2)).trans h.2⟩
theorem ZmT (n:Nat):Lib.itoa (n:Int)=Lib.decDigits n:=by
 unfold Lib.itoa
 simp
theorem grow_nx {w:World} {k:Nat} {os:Array Obj}:Nx w (Sort.grow (w.drewN k) os):=by
 refine ⟨rfl,rfl,rfl,?_,fun i hi=>?_⟩
 ·show w.heap.size≤(w.heap++os).size
  simp
 ·show (w.heap++os)[i]?=w.heap[i]?
  rw [Array.getElem?_append_left hi]
theorem ZpG (n:Nat) (hn:n≤4294967295) (w:World) (h:Tb w):
  Calls Tryz.prog 254 #[.int .i64 n,.int .i64 10] w fun e w'=>∃ r:ByteArray,e=.returned (.string r)∧tl r=Lib.decDigits n∧Nx w w':=by
 refine (Any.strconv_FormatInt_10 Zsc (n:Int) (by omega) (by omega) w h.1).mono ?_
 rintro e w' ⟨rfl,k,os,rfl⟩
 exact ⟨_,rfl,by rw [tl_mk,ZmT],grow_nx⟩
theorem Zsd (n:Nat) (hn:n≤4294967295) (w:World) (h:Tb w):
  Calls Tryz.prog 59 #[.int .i64 n] w fun e w'=>∃ r:ByteArray,e=.returned (.string r)∧tl r=Lib.decDigits n∧Nx w w':=by
 refine (Any.strconv_Itoa Zsb (n:Int) (by omega) (by omega) w h.1).mono ?_
 rintro e w' ⟨rfl,k,os,rfl⟩
 exact ⟨_,rfl,by rw [tl_mk,ZmT],grow_nx⟩
def beyondB (l:List UInt8):Bool:=l.any fun b=>decide (127 < (b.toNat:Int))
set_option maxHeartbeats 400000 in
theorem ZeG (s:ByteArray) (w:World) (hs:s.size≤maxLen):
  Calls Tryz.prog 242 #[.string s] w fun e w'=>e=.returned (.bool (beyondB (tl s)))∧w=w':=by
 unfold maxLen at hs
 go_enter Tryz.func242,Tryz.ntmps242
 go_wp2
 go_loop [3] (fun i=>∃ k:Nat,k≤s.size∧i=.int .i64 k∧beyondB ((tl s).take k)=false) (fun i=>s.size - (intOf i).toNat)
 case atStart=>exact ⟨0,Nat.zero_le _,rfl,rfl⟩
 case round=>
  obtain ⟨k,hk,rfl,ha⟩:=hrel
  have HA:=Za ha
  clear ha
  by_cases hlt:k < s.size
  ·have hb:=bb s[k]
   by_cases hc:127 < (s[k].toNat:Int)
   ·go_wp2
    go_ret
    exact ⟨Zk (Zjj (fun b=>decide (127 < (b.toNat:Int))) s k hlt (decide_eq_true hc)).symm,rfl⟩
   ·go_wp2
    go_round
    case rel=>exact ⟨k + 1,by omega,by go_num,by rw [ZE s k hlt];unfold beyondB;rw [any_snoc];rw [show ((tl s).take k).any (fun b=>decide (127 < (b.toNat:Int)))=false from HA.out,Bool.false_or];exact decide_eq_false hc⟩
    case measure=>simp [intOf];omega
  ·go_wp2
   go_ret
   exact ⟨Zk (by rw [← HA.out,Zao _ _ (by omega)]),rfl⟩
def Zcs (l:List UInt8):Bool:=decide (4≤l.length) && (l.take 4 == [120,110,45,45])
def Zsk (ps:List (List UInt8)):Bool:=ps.any Zcs
set_option maxHeartbeats 800000 in
theorem Zg5 (v:Value) (bs:List ByteArray) (w:World) (hv:Zcb w v bs) (hl:∀ b∈bs,b.size≤1000000):
  Calls Tryz.prog 243 #[v] w fun e w'=>e=.returned (.bool (Zsk (bs.map tl)))∧w=w':=by
 obtain ⟨ao,cap,rfl,hlc,hcap,hnone,hsome⟩:=hv
 have HL:=Za hl
 clear hl
 unfold maxLen at hcap
 go_enter Tryz.func243,Tryz.ntmps243
 go_wp2
 go_loop [3] (fun i=>∃ k:Nat,k≤bs.length∧i=.int .i64 k∧((bs.take k).map tl).any Zcs=false) (fun i=>bs.length - (intOf i).toNat)
 case atStart=>exact ⟨0,Nat.zero_le _,rfl,rfl⟩
 case round=>
  obtain ⟨k,hk,rfl,ha⟩:=hrel
  have HA:=Za ha
  clear ha
  by_cases hlt:k < bs.length
  ·obtain ⟨a,ha⟩:=ZN hlt hnone
   subst ha
   obtain ⟨b,off,rfl,hr⟩:=hsome a rfl
   have hck:=hr.cell hlt
   clear hnone hsome hr
   have hz:=HL.out bs[k] (List.getElem_mem hlt)
   have HS:=Za (show ((bs.take (k + 1)).map tl).any Zcs=Zcs (tl bs[k]) by
    rw [List.take_succ_eq_append_getElem hlt,List.map_append,List.map_cons,List.map_nil,any_snoc,HA.out,Bool.false_or])
   have HX:=Za (show Zcs (tl bs[k])=true→Zsk (bs.map tl)=true from fun h=>List.any_eq_true.2 ⟨tl bs[k],List.mem_map.2 ⟨_,List.getElem_mem hlt,rfl⟩,h⟩)
   generalize bs[k]=p at *
   by_cases h4:4≤p.size
   ·by_cases hx:tl (p.extract 0 4)=[120,110,45,45]
    ·have HH:=Za (HX.out (by unfold Zcs;rw [tl_length,← tl_to p 4,hx];simp [h4]))
     have hx':=eqB hx
     clear hx
     go_wp2
     go_ret
     exact ⟨Zk HH.out.symm,rfl⟩
    ·have HN:=Za (show Zcs (tl p)=false by
      unfold Zcs
      rw [← tl_to p 4]
      simp [hx])
     have hx':=neB hx
     clear hx
     go_wp2
     go_round
     case rel=>exact ⟨k + 1,by omega,by go_num,by rw [HS.out];exact HN.out⟩
     case measure=>simp [intOf];omega
   ·have HN:=Za (show Zcs (tl p)=false by
      unfold Zcs
      rw [tl_length]
      simp [h4])
    go_wp2
    go_round
    case rel=>exact ⟨k + 1,by omega,by go_num,by rw [HS.out];exact HN.out⟩
    case measure=>simp [intOf];omega
  ·go_wp2
   go_ret
   exact ⟨Zk (by rw [← HA.out,List.take_of_length_le (by omega)];rfl),rfl⟩
def ZdQ:List UInt8:=[0,9,10,13,32,35,47,58,60,62,63,64,91,92,93,94,124]
def Zid (b:UInt8):Bool:=decide ((b.toNat:Int) < 32) || (b.toNat:Int) == 37 || (b.toNat:Int) == 127 || among b.toNat ZdQ
def plainDom (l:List UInt8):Bool:=!(l.any Zid) && !l.isEmpty
set_option maxHeartbeats 800000 in
theorem Zgy (s:ByteArray) (w:World) (hs:s.size≤maxLen):
  Calls Tryz.prog 244 #[.string s] w fun e w'=>e=.returned (.bool (plainDom (tl s)))∧w=w':=by
 unfold maxLen at hs
 go_enter Tryz.func244,Tryz.ntmps244
 go_wp2
 go_loop [3] (fun i=>∃ k:Nat,k≤s.size∧i=.int .i64 k∧((tl s).take k).any Zid=false) (fun i=>s.size - (intOf i).toNat)
 case atStart=>exact ⟨0,Nat.zero_le _,rfl,rfl⟩
 case round=>
  obtain ⟨k,hk,rfl,ha⟩:=hrel
  have HA:=Za ha
  clear ha
  by_cases hlt:k < s.size
  ·have hb:=bb s[k]
   have HY:=Za (show Zid s[k]=true→plainDom (tl s)=false from fun h=>by unfold plainDom;rw [Zjj Zid s k hlt h];rfl)
   have HN:=Za (show Zid s[k]=false→((tl s).take (k + 1)).any Zid=false from fun h=>by rw [ZE s k hlt,any_snoc,HA.out,h];rfl)
   have HD:=Za (show Zid s[k]=(decide ((s[k].toNat:Int) < 32) || (s[k].toNat:Int) == 37 || (s[k].toNat:Int) == 127 || among s[k].toNat ZdQ) from rfl)
   by_cases h32:(s[k].toNat:Int) < 32
   ·have HH:=Za (HY.out (by rw [HD.out];simp [h32]))
    go_wp2
    go_ret
    exact ⟨Zk HH.out.symm,rfl⟩
   cases h37:((s[k].toNat:Int) == 37)
   ·cases h127:((s[k].toNat:Int) == 127)
    ·cases hA:among (s[k].toNat:Int) ZdQ
     ·have HH:=Za (HN.out (by rw [HD.out,h37,h127,hA];simp [h32]))
      have HA2:=Za hA
      clear hA
      go_wp2_with (go_at_call 117;refine (Zau _ _ _ (Zd (by decide))).mono ?_;rintro e w' ⟨rfl,rfl⟩;rw [show among (s[k].toNat:Int) (tl ⟨#[0,9,10,13,32,35,47,58,60,62,63,64,91,92,93,94,124]⟩)=false from HA2.out])
      go_round
      case rel=>exact ⟨k + 1,by omega,by go_num,HH.out⟩
      case measure=>simp [intOf];omega
     ·have HH:=Za (HY.out (by rw [HD.out,hA];simp))
      have HA2:=Za hA
      clear hA
      go_wp2_with (go_at_call 117;refine (Zau _ _ _ (Zd (by decide))).mono ?_;rintro e w' ⟨rfl,rfl⟩;rw [show among (s[k].toNat:Int) (tl ⟨#[0,9,10,13,32,35,47,58,60,62,63,64,91,92,93,94,124]⟩)=true from HA2.out])
      go_ret
      exact ⟨Zk HH.out.symm,rfl⟩
    ·have HH:=Za (HY.out (by rw [HD.out,h127];simp))
     go_wp2
     go_ret
     exact ⟨Zk HH.out.symm,rfl⟩
   ·have HH:=Za (HY.out (by rw [HD.out,h37];simp))
    go_wp2
    go_ret
    exact ⟨Zk HH.out.symm,rfl⟩
  ·have HF:=Za (show plainDom (tl s)=!(tl s).isEmpty by
    have h:=HA.out
    rw [Zao _ _ (by omega)] at h
    unfold plainDom
    rw [h];rfl)
   by_cases h0:s.size=0
   ·have h0':=Zo h0
    have HT:=Za (ZB h0)
    clear h0
    go_wp2
    go_ret
    exact ⟨Zk (by rw [HF.out,HT.out];rfl),rfl⟩
   ·have h0':=Zi h0
    have HT:=Za (show (tl s).isEmpty=false by rw [← h0',ByteArray.toList_eq];rfl)
    clear h0
    go_wp2
    go_ret
    exact ⟨Zk (by rw [HF.out,HT.out];rfl),rfl⟩
end Go.Proofs.YtchkhibgbnhjpaaGreatDoor
