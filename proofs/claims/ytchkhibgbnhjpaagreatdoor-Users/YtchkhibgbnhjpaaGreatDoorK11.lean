import Derived.Test.YtchkhibgbnhjpaaGreatDoorK10
import Derived.Deep.OwnRows
import Derived.Laws.OwnMore
import Derived.Laws.Bits64b
namespace Go.Proofs.YtchkhibgbnhjpaaGreatDoor
open Go.RowKit
def ZJ (l:List UInt8):Bool:=match l with | [a,b]=>alpha a.toNat && ((b.toNat:Int) == 58 || (b.toNat:Int) == 124) | _=>false
theorem ZeI {l:List UInt8} (h:ZJ l=true):l.length=2:=by
 unfold ZJ at h
 split at h
 ·rfl
 ·cases h
theorem Zvi {s:ByteArray} (h:s.size=2):tl s=[s[0],s[1]]:=by
 have h0:=ZK s 0 (by omega)
 have h1:=ZK s 1 (by omega)
 rw [Zy s 2 (by omega)] at h1
 rw [h1] at h0
 simpa using h0
set_option maxHeartbeats 800000 in
theorem ZcQ (s:ByteArray) (w:World):
  Calls Tryz.prog 223 #[.string s] w fun e w'=>e=.returned (.bool (ZJ (tl s)))∧w=w':=by
 by_cases h2:s.size=2
 ·have hg:1 < s.size:=by omega
  have hg0:0 < s.size:=by omega
  have HT:Hid (ZJ (tl s)=(alpha (s[0]'hg0).toNat && (((s[1]'hg).toNat:Int) == 58 || ((s[1]'hg).toNat:Int) == 124))):=Za (by rw [Zvi h2];rfl)
  have hl:((s.size:Int) == 2)=true:=by rw [h2];rfl
  have hb0:=bb (s[0]'hg0)
  have hb1:=bb (s[1]'hg)
  clear h2
  cases hA:alpha (s[0].toNat:Int)
  ·have HA:=Za hA
   clear hA
   go_enter Tryz.func223,Tryz.ntmps223
   go_wp2_with (go_at_call 184;refine (Zbh _ _).mono ?_;rintro e w' ⟨rfl,rfl⟩;rw [HA.out])
   all_goals go_ret
   all_goals exact ⟨Zk (by rw [HT.out,HA.out];rfl),rfl⟩
  ·have HA:=Za hA
   clear hA
   cases h58:((s[1].toNat:Int) == 58)
   ·go_enter Tryz.func223,Tryz.ntmps223
    go_wp2_with (go_at_call 184;refine (Zbh _ _).mono ?_;rintro e w' ⟨rfl,rfl⟩;rw [HA.out])
    all_goals go_ret
    all_goals exact ⟨Zk (by rw [HT.out,HA.out,h58];simp),rfl⟩
   ·go_enter Tryz.func223,Tryz.ntmps223
    go_wp2_with (go_at_call 184;refine (Zbh _ _).mono ?_;rintro e w' ⟨rfl,rfl⟩;rw [HA.out])
    all_goals go_ret
    all_goals exact ⟨Zk (by rw [HT.out,HA.out,h58];rfl),rfl⟩
 ·have HT:=Za (show ZJ (tl s)=false by
   cases h:ZJ (tl s)
   ·rfl
   ·have:=ZeI h
    rw [tl_length] at this
    exact absurd this h2)
  have hl:((s.size:Int) == 2)=false:=by simp;omega
  clear h2
  go_enter Tryz.func223,Tryz.ntmps223
  go_wp2
  all_goals go_ret
  all_goals exact ⟨Zk HT.out.symm,rfl⟩
def Zam (l:List UInt8):Bool:=ZJ l && ((l.getD 1 0).toNat:Int) == 58
set_option maxHeartbeats 800000 in
theorem Zcg (s:ByteArray) (w:World):
  Calls Tryz.prog 224 #[.string s] w fun e w'=>e=.returned (.bool (Zam (tl s)))∧w=w':=by
 cases hd:ZJ (tl s)
 ·have HE:=Za (show Zam (tl s)=false by unfold Zam;rw [hd];rfl)
  have HD:=Za hd
  clear hd
  go_enter Tryz.func224,Tryz.ntmps224
  go_wp2_with (go_at_call 223;refine (ZcQ _ _).mono ?_;rintro e w' ⟨rfl,rfl⟩;rw [HD.out])
  all_goals go_ret
  all_goals exact ⟨Zk HE.out.symm,rfl⟩
 ·have h2:=ZeI hd
  rw [tl_length] at h2
  have hg:1 < s.size:=by omega
  have hb1:=bb s[1]
  have HE:=Za (show Zam (tl s)=((s[1].toNat:Int) == 58) by unfold Zam;rw [hd,ZdL s 1 hg,Bool.true_and])
  have HD:=Za hd
  clear hd h2
  go_enter Tryz.func224,Tryz.ntmps224
  go_wp2_with (go_at_call 223;refine (ZcQ _ _).mono ?_;rintro e w' ⟨rfl,rfl⟩;rw [HD.out])
  all_goals go_ret
  all_goals exact ⟨Zk HE.out.symm,rfl⟩
def Zae (l:List UInt8):Bool:=ZJ (bcut (slB true) l).1
set_option maxHeartbeats 800000 in
theorem Zdi (s:ByteArray) (w:World) (hs:s.size≤maxLen):
  Calls Tryz.prog 187 #[.string s] w fun e w'=>e=.returned (.bool (Zae (tl s)))∧Nx w w':=by
 go_enter Tryz.func187,Tryz.ntmps187
 go_wp2_with fail
 refine (Zc5 _ _ _ hs).mono ?_
 rintro e w1 ⟨⟨a,b,rfl,ha,hb⟩,hn1⟩
 have HA:=Za (show Zae (tl s)=ZJ (tl a) by unfold Zae;rw [ha])
 clear ha hb
 go_wp2_with (go_at_call 223;refine (ZcQ _ _).mono ?_;rintro e w' ⟨rfl,rfl⟩)
 go_ret
 exact ⟨Zk HA.out.symm,hn1⟩
def dotSize (l:List UInt8):Nat:=
 if ((l.getD 0 0).toNat:Int)=46 then 1
 else if 3≤l.length∧((l.getD 0 0).toNat:Int)=37∧((l.getD 1 0).toNat:Int)=50∧(((l.getD 2 0).toNat:Int)=101∨((l.getD 2 0).toNat:Int)=69) then 3 else 0
theorem Zoq (l:List UInt8):dotSize l=if ((l.getD 0 0).toNat:Int)=46 then 1
 else if 3≤l.length∧((l.getD 0 0).toNat:Int)=37∧((l.getD 1 0).toNat:Int)=50∧(((l.getD 2 0).toNat:Int)=101∨((l.getD 2 0).toNat:Int)=69) then 3 else 0:=rfl
theorem Zor (l:List UInt8):dotSize l≤l.length:=by
 unfold dotSize
 split
 ·rename_i h
  cases l with
  | nil=>simp at h
  | cons=>simp
 ·split
  ·omega
  ·omega
set_option maxHeartbeats 2000000 in
theorem Zhx (s:ByteArray) (w:World) (hs:s.size≤maxLen):
  Calls Tryz.prog 249 #[.string s] w fun e w'=>e=.returned (.int .i64 (dotSize (tl s):Nat))∧w=w':=by
 unfold maxLen at hs
 by_cases h0:s.size=0
 ·have HE:=Za (show dotSize (tl s)=0 by rw [ZB h0];rfl)
  have h0':=Zo h0
  have h3:s.size < 3:=by omega
  clear h0
  go_enter Tryz.func249,Tryz.ntmps249
  go_wp2
  go_ret
  exact ⟨Zah (by rw [HE.out];rfl),rfl⟩
 have h0':=Zi h0
 have hb0:=bb s[0]
 have HD:=Za (Zoq (tl s))
 rw [tl_length,ZdL s 0 (by omega)] at HD
 cases h46:((s[0].toNat:Int) == 46)
 ·have HD2:=Za (HD.out.trans (if_neg (by simpa using h46)))
  clear HD
  by_cases h3:3≤s.size
  ·rw [ZdL s 1 (by omega),ZdL s 2 (by omega)] at HD2
   have hb1:=bb s[1]
   have hb2:=bb s[2]
   by_cases hy:(s[0].toNat:Int)=37∧(s[1].toNat:Int)=50∧((s[2].toNat:Int)=101∨(s[2].toNat:Int)=69)
   ·have HE:=Za (HD2.out.trans (if_pos ⟨h3,hy⟩))
    clear HD2
    obtain ⟨y0,y1,y2⟩:=hy
    have z0:((s[0].toNat:Int) == 37)=true:=by simpa using y0
    have z1:((s[1].toNat:Int) == 50)=true:=by simpa using y1
    cases z2:((s[2].toNat:Int) == 101)
    ·have z3:((s[2].toNat:Int) == 69)=true:=by
      rcases y2 with h | h
      ·rw [h] at z2;cases z2
      ·simpa using h
     clear y0 y1 y2
     go_enter Tryz.func249,Tryz.ntmps249
     go_wp2
     go_ret
     exact ⟨Zah (by rw [HE.out];rfl),rfl⟩
    ·clear y0 y1 y2
     go_enter Tryz.func249,Tryz.ntmps249
     go_wp2
     go_ret
     exact ⟨Zah (by rw [HE.out];rfl),rfl⟩
   ·have HE:=Za (HD2.out.trans (if_neg (fun h=>hy h.2)))
    clear HD2
    cases z0:((s[0].toNat:Int) == 37)
    ·clear hy
     go_enter Tryz.func249,Tryz.ntmps249
     go_wp2
     go_ret
     exact ⟨Zah (by rw [HE.out];rfl),rfl⟩
    ·cases z1:((s[1].toNat:Int) == 50)
     ·clear hy
      go_enter Tryz.func249,Tryz.ntmps249
      go_wp2
      go_ret
      exact ⟨Zah (by rw [HE.out];rfl),rfl⟩
     ·have z2:((s[2].toNat:Int) == 101)=false:=by
       cases h:((s[2].toNat:Int) == 101)
       ·rfl
       ·exact absurd ⟨by simpa using z0,by simpa using z1,Or.inl (by simpa using h)⟩ hy
      have z3:((s[2].toNat:Int) == 69)=false:=by
       cases h:((s[2].toNat:Int) == 69)
       ·rfl
       ·exact absurd ⟨by simpa using z0,by simpa using z1,Or.inr (by simpa using h)⟩ hy
      clear hy
      go_enter Tryz.func249,Tryz.ntmps249
      go_wp2
      go_ret
      exact ⟨Zah (by rw [HE.out];rfl),rfl⟩
  ·have HE:=Za (HD2.out.trans (if_neg (fun h=>h3 h.1)))
   clear HD2
   have h3':s.size < 3:=by omega
   go_enter Tryz.func249,Tryz.ntmps249
   go_wp2
   go_ret
   exact ⟨Zah (by rw [HE.out];rfl),rfl⟩
 ·have HE:=Za (HD.out.trans (if_pos (by simpa using h46)))
  clear HD
  go_enter Tryz.func249,Tryz.ntmps249
  go_wp2
  go_ret
  exact ⟨Zah (by rw [HE.out];rfl),rfl⟩
def cdGo:Nat→Nat→List UInt8→Nat
 | 0,_,_=>0
 | m + 1,n,l=>if l=[] then n else if dotSize l=0 then 0 else cdGo m (n + 1) (l.drop (dotSize l))
def countDots (l:List UInt8):Nat:=cdGo 3 0 l
theorem Zul (m:Nat):∀ n l,m + n=3→cdGo m n l≤2:=by
 induction m with
 | zero=>intro n l h;simp [cdGo]
 | succ m ih=>
  intro n l h
  rw [cdGo]
  split
  ·omega
  ·split
   ·omega
   ·exact ih _ _ (by omega)
set_option maxHeartbeats 2000000 in
theorem ZbO (s:ByteArray) (w:World) (hs:s.size≤1000000):
  Calls Tryz.prog 237 #[.string s] w fun e w'=>e=.returned (.int .i64 (countDots (tl s):Nat))∧w=w':=by
 go_enter Tryz.func237,Tryz.ntmps237
 go_wp2
 go_loop [3,4] (fun r i=>∃ (m n:Nat) (q:ByteArray),m + n=3∧r=.string q∧i=.int .i64 n∧q.size≤s.size∧countDots (tl s)=cdGo m n (tl q)) (fun _ i=>3 - (intOf i).toNat)
 case atStart=>exact ⟨3,0,s,rfl,rfl,rfl,Nat.le_refl _,rfl⟩
 case round=>
  obtain ⟨m,n,q,hmn,rfl,rfl,hq,hE⟩:=hrel
  cases m with
  | zero=>
   have:n=3:=by omega
   subst this
   have HE:=Za hE
   clear hE hmn
   go_wp2
   go_ret
   exact ⟨Zah (by rw [HE.out];rfl),rfl⟩
  | succ m=>
   rw [cdGo] at hE
   have hn3:n < 3:=by omega
   by_cases h0:q.size=0
   ·have HE:=Za (hE.trans (if_pos (ZB h0)))
    have h0':=Zo h0
    clear hE h0
    have HM:=Za hmn
    clear hmn
    go_wp2
    go_ret
    exact ⟨Zah (by rw [HE.out]),rfl⟩
   ·have h0':=Zi h0
    have hE2:=hE.trans (if_neg (Zdf h0))
    have hle:=Zor (tl q)
    rw [tl_length] at hle
    have HM:=Za hmn
    clear hE hmn
    generalize hd:dotSize (tl q)=d at *
    have HD:=Za hd
    clear hd
    by_cases hd0:d=0
    ·have HE:=Za (hE2.trans (if_pos hd0))
     subst hd0
     clear hE2
     go_wp2_with (go_at_call 249;refine (Zhx _ _ (Zd (by omega))).mono ?_;rintro e w' ⟨rfl,rfl⟩;rw [HD.out])
     go_ret
     exact ⟨Zah (by rw [HE.out];rfl),rfl⟩
    ·have HE:=Za (hE2.trans (if_neg hd0))
     have hd1:((d:Int) == 0)=false:=by simp;omega
     clear hE2
     go_wp2_with (go_at_call 249;refine (Zhx _ _ (Zd (by omega))).mono ?_;rintro e w' ⟨rfl,rfl⟩;rw [HD.out])
     go_round
     case rel=>exact ⟨m,n + 1,_,by have:=HM.out;omega,rfl,by go_num,by rw [Zai];omega,by rw [HE.out,tl_from]⟩
     case measure=>simp [intOf];omega
def RowS (w:World) (nb:Nat) (ns:List ByteArray):Prop:=w.heap[nb]?=some (Obj.cells (ns.map Value.string).toArray 9 (0,0))
theorem RowS.cell {w:World} {nb:Nat} {ns:List ByteArray} (h:RowS w nb ns) {i:Nat} (hi:i < ns.length):w.cell? ⟨nb,i,none⟩=some (.string ns[i]):=by
 unfold RowS at h
 simp [World.cell?,h,List.getElem?_eq_getElem hi]
theorem RowS.free {w:World} {nb:Nat} {ns:List ByteArray} (h:RowS w nb ns) (i:Nat):w.frozen? ⟨nb,i,none⟩=false:=by
 unfold RowS at h
 simp [World.frozen?,h]
theorem RowS.set {w:World} {nb:Nat} {ns:List ByteArray} (h:RowS w nb ns) (i:Nat) (x:ByteArray):RowS (w.setCell ⟨nb,i,none⟩ (.string x)) nb (ns.set i x):=by
 unfold RowS at *
 simp only [World.setCell,Array.getElem?_modify,if_pos,h]
 simp [List.map_set]
theorem Zos (w:World) (n:Nat):RowS (w.alloc (.cells (madeCells #[Value.string ByteArray.empty] n) 9)) w.heap.size (List.replicate n ByteArray.empty):=by
 unfold RowS
 rw [heap_alloc_new]
 congr 2
 apply Array.toList_inj.1
 rw [toList_madeCells_one]
 simp
theorem RowS.own {w:World} {nb base:Nat} {ns:List ByteArray} (h:RowS w nb ns) (hb:base≤nb) (hl:ns.length≤maxLen):Zc2 w base (.slice (some ⟨nb,0,none⟩) ns.length ns.length) ns:=
 ⟨by simp,.inr ⟨nb,ns.length,_,rfl,hb,h,Nat.le_refl _,hl,by simp,by rw [Nat.mul_one];exact List.take_of_length_le (by simp)⟩⟩
theorem Zp6 (bs:List ByteArray) (k:Nat) (h:k < bs.length):(bs.take k++List.replicate (bs.length - k) ByteArray.empty).set k bs[k]=bs.take (k + 1)++List.replicate (bs.length - (k + 1)) ByteArray.empty:=by
 rw [List.set_append_right k _ (by rw [List.length_take];omega),List.length_take,show k - min k bs.length=0 by omega,show bs.length - k=(bs.length - (k + 1)) + 1 by omega,List.replicate_succ,List.set_cons_zero,List.take_succ_eq_append_getElem h,List.append_assoc]
 rfl
theorem Zsp (bs:List ByteArray) (k:Nat) (h:bs.length≤k):bs.take k++List.replicate (bs.length - k) ByteArray.empty=bs:=by
 rw [List.take_of_length_le h,show bs.length - k=0 by omega]
 simp
set_option maxHeartbeats 2000000 in
theorem Zna (v:Value) (bs:List ByteArray) (w:World) (hv:Zcb w v bs) (hl:bs.length≤1000000):
  Calls Tryz.prog 195 #[v] w fun e w'=>∃ v',e=.returned v'∧Zc2 w' w.heap.size v' bs∧Nx w w':=by
 obtain ⟨ao,cap,rfl,hlc,hcap,hnone,hsome⟩:=hv
 unfold maxLen at hcap
 have hmk:=run_make_row' (P:=Tryz.prog) 52 9 (.string ByteArray.empty) 16 Tryz.underlying52 Ze3 rfl .i64 .i64 bs.length (by omega) (by omega)
 go_enter Tryz.func195,Tryz.ntmps195
 go_wp2
 clear hmk
 go_loopw [4] (fun i wr=>∃ k:Nat,k≤bs.length∧i=.int .i64 k∧RowS wr w.heap.size (bs.take k++List.replicate (bs.length - k) ByteArray.empty)∧Nx w wr) (fun i _=>bs.length - (intOf i).toNat)
 case atStart=>exact ⟨0,Nat.zero_le _,rfl,by simpa using Zos w bs.length,Nx.rfl.alloc _⟩
 case round=>
  obtain ⟨k,hk,rfl,hrow,hnx⟩:=hrel
  by_cases hlt:k < bs.length
  ·obtain ⟨a,ha⟩:=ZN hlt hnone
   subst ha
   obtain ⟨b,off,rfl,hr⟩:=hsome a rfl
   have hck:=(hr.on hnx).cell hlt
   have hc2:=hrow.cell (i:=k) (by rw [List.length_append,List.length_take,List.length_replicate];omega)
   have hf2:=hrow.free k
   have HR:=Za (hrow.set k bs[k])
   rw [Zp6 bs k hlt] at HR
   have HN:=Za (show Nx w (wr.setCell ⟨w.heap.size,k,none⟩ (.string bs[k])) from Below.setCell hnx (Nat.le_refl _) _)
   clear hnone hsome hr hrow hnx
   go_wp2
   go_roundw
   case rel=>exact ⟨k + 1,by omega,by go_num,HR.out,HN.out⟩
   case measure=>simp [intOf];omega
  ·rw [Zsp bs k (by omega)] at hrow
   have HO:=Za (hrow.own (Nat.le_refl _) (Zd hl))
   have HN:=Za hnx
   clear hrow hnx
   go_wp2
   go_ret
   exact ⟨_,rfl,HO.out,HN.out⟩
def PthAt (w:World) (pb:Nat) (f s:Bool) (v:Value):Prop:=w.heap[pb]?=some (Obj.cells #[.bool f,.bool s,v] 168 (0,0))
theorem PthAt.on {w w':World} {pb:Nat} {f s:Bool} {v:Value} (h:PthAt w pb f s v) (hb:Nx w w'):PthAt w' pb f s v:=
 (hb.block pb (Array.getElem?_eq_some_iff.1 h).1).trans h
theorem PthAt.kp {w w':World} {pb:Nat} {f s:Bool} {v:Value} (h:PthAt w pb f s v) (hb:Kp 9 w w'):PthAt w' pb f s v:=hb pb _ _ _ h (by decide)
theorem PthAt.facts {w:World} {pb:Nat} {f s:Bool} {v:Value} (h:PthAt w pb f s v):w.cell? ⟨pb,0,none⟩=some (.bool f)∧w.cell? ⟨pb,1,none⟩=some (.bool s)∧w.cell? ⟨pb,2,none⟩=some v∧w.frozen? ⟨pb,2,none⟩=false:=by
 unfold PthAt at h
 refine ⟨?_,?_,?_,?_⟩ <;> simp [World.cell?,World.frozen?,h]
theorem PthAt.set {w:World} {pb:Nat} {f s:Bool} {v:Value} (h:PthAt w pb f s v) (u:Value):PthAt (w.setCell ⟨pb,2,none⟩ u) pb f s u:=by
 unfold PthAt at *
 simp only [World.setCell,Array.getElem?_modify,if_pos,h]
 rfl
theorem PthAt.own {w:World} {pb base:Nat} {f s:Bool} {v x:Value} {bs:List ByteArray} (h:PthAt w pb f s v) (ho:Zc2 w base x bs) (u:Value):Zc2 (w.setCell ⟨pb,2,none⟩ u) base x bs:=by
 obtain ⟨h1,⟨rfl,h3⟩ | ⟨g,cap,cur,rfl,h4,h5,h6⟩⟩:=ho
 ·exact ⟨h1,.inl ⟨rfl,h3⟩⟩
 ·refine ⟨h1,.inr ⟨g,cap,cur,rfl,h4,?_,h6⟩⟩
  have hne:pb≠g:=by
   intro e
   subst e
   unfold PthAt at h
   rw [h] at h5
   simp only [Option.some.injEq,Obj.cells.injEq] at h5
   exact absurd h5.2.1 (by decide)
  simp only [World.setCell,Array.getElem?_modify,if_neg hne]
  exact h5
theorem Zp7 {w:World} {base g n cap:Nat} {bs:List ByteArray} (h:Zc2 w base (.slice (some ⟨g,0,none⟩) n cap) bs) (k:Nat) (hk:k≤bs.length):Zc2 w base (.slice (some ⟨g,0,none⟩) k cap) (bs.take k):=by
 obtain ⟨h1,⟨h2,h3⟩ | ⟨g',cap',cur,h2,h4,h5,h6,h7,h8,h9⟩⟩:=h
 ·cases h2
 ·simp only [Value.slice.injEq,Option.some.injEq,Addr.mk.injEq] at h2
  obtain ⟨⟨rfl,-⟩,rfl,rfl⟩:=h2
  have hl:(bs.take k).length=k:=by rw [List.length_take];omega
  refine ⟨by simp,.inr ⟨g,cap,cur,by rw [hl],h4,h5,by omega,h7,h8,?_⟩⟩
  rw [hl,List.map_take,← h9,List.take_take]
  congr 1
  omega
theorem Zhy {w:World} {base:Nat} {v:Value} {bs:List ByteArray} (h:Zc2 w base v bs) (h0:0 < bs.length):∃ g cap,v=.slice (some ⟨g,0,none⟩) bs.length cap∧bs.length≤cap∧cap≤maxLen:=by
 obtain ⟨h1,⟨h2,h3⟩ | ⟨g',cap',cur,h2,h4,h5,h6,h7,h8,h9⟩⟩:=h
 ·omega
 ·exact ⟨g',cap',h2,h6,h7⟩
theorem ZiC {w:World} {base:Nat} {v:Value} (h:Zc2 w base v []):∃ ao cap,v=.slice ao 0 cap:=by
 obtain ⟨h1,⟨h2,h3⟩ | ⟨g',cap',cur,h2,h4,h5,h6,h7,h8,h9⟩⟩:=h
 ·exact ⟨_,_,h2⟩
 ·exact ⟨_,_,h2⟩
def Zaz (f:Bool) (ps:List (List UInt8)):List (List UInt8):=if f=true∧ps.length=1∧Zam (ps.getD 0 [])=true then ps else ps.take (ps.length - 1)
theorem Zot (f:Bool) (ps:List (List UInt8)):(Zaz f ps).length≤ps.length:=by
 unfold Zaz
 split
 ·omega
 ·rw [List.length_take];omega
theorem Zjq (bs:List ByteArray) (h:0 < bs.length):(bs.map tl).getD 0 []=tl bs[0]:=by
 rw [List.getD_eq_getElem?_getD,List.getElem?_map,List.getElem?_eq_getElem h];rfl
set_option maxHeartbeats 2000000 in
theorem Zfg (pb base:Nat) (f s:Bool) (v:Value) (bs:List ByteArray) (w:World) (hp:PthAt w pb f s v) (ho:Zc2 w base v bs) (hb:base≤pb) (hl:bs.length≤1000000):
  Calls Tryz.prog 226 #[.pointer (some ⟨pb,0,none⟩)] w fun e w'=>∃ x v' bs',e=.returned x∧PthAt w' pb f s v'∧Zc2 w' base v' bs'∧bs'.map tl=Zaz f (bs.map tl)∧Below base w w':=by
 obtain ⟨hc0,hc1,hc2,hf2⟩:=hp.facts
 have HP:=Za hp
 have HO:=Za ho
 have HB:=Za hb
 clear hp ho hb
 rcases Nat.eq_zero_or_pos bs.length with h0 | hpos
 ·have e0:bs=[]:=List.eq_nil_of_length_eq_zero h0
  subst e0
  obtain ⟨ao,cap,rfl⟩:=ZiC HO.out
  clear h0
  go_enter Tryz.func226,Tryz.ntmps226
  go_wp2
  exact bodyPost_ret (v:=.tuple #[]) (by simp [results,Tryz.results226,go_sem]) rfl ⟨_,_,_,rfl,HP.out,HO.out,by cases f <;> rfl,Below.refl _ _⟩
 ·obtain ⟨g,cap,rfl,hlc,hcm⟩:=Zhy HO.out hpos
  have hrow:=(Zt HO.out).open_ (k:=0) hpos
  obtain ⟨b,off,cap2,he,-,-,hr⟩:=hrow
  simp only [Value.slice.injEq,Option.some.injEq,Addr.mk.injEq] at he
  obtain ⟨⟨rfl,rfl,-⟩,-,rfl⟩:=he
  have hck:=hr.cell (i:=0) hpos
  rw [Nat.add_zero] at hck
  have hn0:((bs.length:Int) == 0)=false:=beq_eq_false_iff_ne.2 (by omega)
  unfold maxLen at hcm
  have HT:=Za (Zp7 HO.out (bs.length - 1) (by omega))
  have HM:=Za (Zjq bs hpos)
  by_cases hstop:f=true∧bs.length=1∧Zam (tl bs[0])=true
  ·obtain ⟨rfl,hl1,hw⟩:=hstop
   have hl1':((bs.length:Int) == 1)=true:=by rw [hl1];rfl
   have HE:=Za (show Zaz true (bs.map tl)=bs.map tl by unfold Zaz;rw [if_pos ⟨rfl,by rw [List.length_map];exact hl1,by rw [HM.out];exact hw⟩])
   have HW:=Za hw
   clear hw hl1 hr
   go_enter Tryz.func226,Tryz.ntmps226
   go_wp2_with (go_at_call 224;refine (Zcg _ _).mono ?_;rintro e w' ⟨rfl,rfl⟩;rw [HW.out])
   exact bodyPost_ret (v:=.tuple #[]) (by simp [results,Tryz.results226,go_sem]) rfl ⟨_,_,_,rfl,HP.out,HO.out,HE.out.symm,Below.refl _ _⟩
  ·have HE:=Za (show Zaz f (bs.map tl)=(bs.take (bs.length - 1)).map tl by
    unfold Zaz
    rw [if_neg (by rw [List.length_map,HM.out];exact hstop),List.length_map,List.map_take])
   have HR:=Za (show ∀ u,PthAt (w.setCell ⟨pb,2,none⟩ u) pb f s u from fun u=>HP.out.set u)
   have HS:=Za (show ∀ u,Zc2 (w.setCell ⟨pb,2,none⟩ u) base (.slice (some ⟨g,0,none⟩) (bs.length - 1) cap) (bs.take (bs.length - 1)) from fun u=>HP.out.own HT.out u)
   have HX:=Za (show ∀ u,Below base w (w.setCell ⟨pb,2,none⟩ u) from fun u=>(Below.refl base w).setCell HB.out u)
   cases f
   ·clear hstop hr
    go_enter Tryz.func226,Tryz.ntmps226
    go_wp2
    exact bodyPost_end (v:=.tuple #[]) (by simp [results,Tryz.results226,go_sem]) rfl ⟨_,_,_,rfl,HR.out _,HS.out _,HE.out.symm,HX.out _⟩
   ·by_cases hl1:bs.length=1
    ·have hw:Zam (tl bs[0])=false:=by
      cases h:Zam (tl bs[0])
      ·rfl
      ·exact absurd ⟨rfl,hl1,h⟩ hstop
     have hl1':((bs.length:Int) == 1)=true:=by rw [hl1];rfl
     have HW:=Za hw
     clear hw hl1 hstop hr
     go_enter Tryz.func226,Tryz.ntmps226
     go_wp2_with (go_at_call 224;refine (Zcg _ _).mono ?_;rintro e w' ⟨rfl,rfl⟩;rw [HW.out])
     exact bodyPost_end (v:=.tuple #[]) (by simp [results,Tryz.results226,go_sem]) rfl ⟨_,_,_,rfl,HR.out _,HS.out _,HE.out.symm,HX.out _⟩
    ·have hl1':((bs.length:Int) == 1)=false:=beq_eq_false_iff_ne.2 (by omega)
     clear hstop hl1 hr
     go_enter Tryz.func226,Tryz.ntmps226
     go_wp2
     exact bodyPost_end (v:=.tuple #[]) (by simp [results,Tryz.results226,go_sem]) rfl ⟨_,_,_,rfl,HR.out _,HS.out _,HE.out.symm,HX.out _⟩
theorem ZcG {w:World} {base:Nat} {v:Value} {bs:List ByteArray} (h:Zc2 w base v bs) (h0:0 < bs.length):∃ g n cap,v=.slice (some ⟨g,0,none⟩) n cap:=by
 obtain ⟨g,cap,h,-,-⟩:=Zhy h h0
 exact ⟨g,_,cap,h⟩
theorem Ze (a b:ByteArray):tl (a++b)=tl a++tl b:=by simp [tl]
theorem Zh (a b:ByteArray):(a++b).size=a.size + b.size:=by simp
def joinL (f:Bool) (ps:List (List UInt8)) (seg:List UInt8):List (List UInt8):=
 ps++[if f=true∧ps=[]∧ZJ seg=true then seg.take 1++[58] else encB (tl (ZaG 4)) (clean seg)]
theorem ZlQ {ps:List (List UInt8)} {seg:List UInt8} (h:ps=[]) (hd:ZJ seg=true):joinL true ps seg=ps++[seg.take 1++[58]]:=by unfold joinL;rw [if_pos ⟨rfl,h,hd⟩]
theorem Zjr {f:Bool} {ps:List (List UInt8)} {seg:List UInt8} (h:¬ (f=true∧ps=[]∧ZJ seg=true)):joinL f ps seg=ps++[encB (tl (ZaG 4)) (clean seg)]:=by unfold joinL;rw [if_neg h]
set_option maxHeartbeats 2000000 in
theorem Zsq (pb base:Nat) (f s:Bool) (v:Value) (bs:List ByteArray) (q:ByteArray) (w:World) (hp:PthAt w pb f s v) (ho:Zc2 w base v bs) (hb:base≤pb) (hbw:base≤w.heap.size) (hl:bs.length≤1000000) (hq:q.size≤1000000):
  Calls Tryz.prog 238 #[.pointer (some ⟨pb,0,none⟩),.string q] w fun e w'=>∃ x v' bs',e=.returned x∧PthAt w' pb f s v'∧Zc2 w' base v' bs'∧bs'.map tl=joinL f (bs.map tl) (tl q)∧bs'.length≤bs.length + 1∧Below base w w':=by
 have HP:=Za hp
 have HO:=Za ho
 have HB:=Za hb
 clear hp ho hb
 go_enter Tryz.func238,Tryz.ntmps238
 go_wp2_with fail
 refine (ZaW _ _ _ hq).mono ?_
 rintro e w1 ⟨r1,rfl,hr1,hn1⟩
 have HP1:=Za (HP.out.on hn1)
 have HO1:=Za (Zbq HO.out hn1)
 have HR1:=Za hr1
 have hz:base≤w1.heap.size:=Nat.le_trans hbw hn1.size
 have HN1:=Za (show Below base w w1 from hn1.mono hbw)
 clear hr1 hn1 HP HO
 obtain ⟨hc0,hc1,hc2,hf2⟩:=HP1.out.facts
 have hbl:bs.length < 1099511627776:=by omega
 have key:∀ (y:ByteArray) (w2:World) (v':Value),Zc2 w2 base v' (bs++[y])→Below base w1 w2→Kp 9 w1 w2→PthAt w2 pb f s v∧(∀ u,PthAt (w2.setCell ⟨pb,2,none⟩ u) pb f s u)∧(∀ u,Zc2 (w2.setCell ⟨pb,2,none⟩ u) base v' (bs++[y]))∧(∀ u,Below base w (w2.setCell ⟨pb,2,none⟩ u)):=by
  intro y w2 v' h1 h2 h3
  have h4:=HP1.out.kp h3
  exact ⟨h4,fun u=>h4.set u,fun u=>h4.own h1 u,fun u=>(HN1.out.trans h2).setCell HB.out u⟩
 have KEY:=Za key
 clear key
 cases f
 ·have HE:=Za (show joinL false (bs.map tl) (tl q)=(bs++[r1]).map tl by rw [Zjr (by rintro ⟨h,-⟩;cases h),List.map_append,List.map_cons,List.map_nil,HR1.out])
  go_wp2_with (at_builtin;go_must (refine Zcd w1 r1 rfl _ _ rfl base v bs rfl HO1.out rfl hbl hz ?_;intro v' w2 ho2 hb2 hk2;obtain ⟨g2,n2,c2,rfl⟩:=ZcG ho2 (by simp);obtain ⟨hp4,hps,hos,hbs⟩:=KEY.out r1 w2 _ ho2 hb2 hk2;obtain ⟨-,-,hd2,hg2⟩:=hp4.facts;have HPS:=Za hps;have HOS:=Za hos;have HBS:=Za hbs;clear ho2 hb2 hk2 hp4 hps hos hbs))
  exact bodyPost_end (results_none rfl _ _ _) rfl ⟨_,_,_,rfl,HPS.out _,HOS.out _,HE.out.symm,by simp,HBS.out _⟩
 ·rcases Nat.eq_zero_or_pos bs.length with h0 | hpos
  ·have e0:bs=[]:=List.eq_nil_of_length_eq_zero h0
   subst e0
   obtain ⟨ao,cap,rfl⟩:=ZiC HO1.out
   clear h0
   cases hd:ZJ (tl q)
   ·have HD:=Za hd
    have HE:=Za (show joinL true ([].map tl) (tl q)=([]++[r1]:List ByteArray).map tl by rw [Zjr (by rintro ⟨-,-,h⟩;rw [hd] at h;cases h),List.nil_append,List.map_nil,List.nil_append,List.map_cons,List.map_nil,HR1.out])
    clear hd
    go_wp2_with (first | (go_at_call 223;refine (ZcQ _ _).mono ?_;rintro e w' ⟨rfl,rfl⟩;rw [HD.out]) | (at_builtin;go_must (refine Zcd w1 r1 rfl _ _ rfl base _ [] rfl HO1.out rfl hbl hz ?_;intro v' w2 ho2 hb2 hk2;obtain ⟨g2,n2,c2,rfl⟩:=ZcG ho2 (by simp);obtain ⟨hp4,hps,hos,hbs⟩:=KEY.out r1 w2 _ ho2 hb2 hk2;obtain ⟨-,-,hd2,hg2⟩:=hp4.facts;have HPS:=Za hps;have HOS:=Za hos;have HBS:=Za hbs;clear ho2 hb2 hk2 hp4 hps hos hbs)))
    exact bodyPost_end (results_none rfl _ _ _) rfl ⟨_,_,_,rfl,HPS.out _,HOS.out _,HE.out.symm,by simp,HBS.out _⟩
   ·have hq2:=ZeI hd
    rw [tl_length] at hq2
    have hq1:1≤q.size:=by omega
    have HD:=Za hd
    have HE:=Za (show joinL true ([].map tl) (tl q)=([]++[q.extract 0 1++(⟨#[58]⟩:ByteArray)]:List ByteArray).map tl by rw [List.map_nil,ZlQ rfl hd,List.nil_append,List.nil_append,List.map_cons,List.map_nil,Ze,tl_to];rfl)
    have hsz:(q.extract 0 1).size≤1000000:=Nat.le_trans (Zuc q 1) hq
    clear hd hq2
    go_wp2_with (first | (go_at_call 223;refine (ZcQ _ _).mono ?_;rintro e w' ⟨rfl,rfl⟩;rw [HD.out]) | (at_builtin;go_must (refine Zcd w1 (q.extract 0 1++(⟨#[58]⟩:ByteArray)) rfl _ _ rfl base _ [] rfl HO1.out rfl hbl hz ?_;intro v' w2 ho2 hb2 hk2;obtain ⟨g2,n2,c2,rfl⟩:=ZcG ho2 (by simp);obtain ⟨hp4,hps,hos,hbs⟩:=KEY.out (q.extract 0 1++(⟨#[58]⟩:ByteArray)) w2 _ ho2 hb2 hk2;obtain ⟨-,-,hd2,hg2⟩:=hp4.facts;have HPS:=Za hps;have HOS:=Za hos;have HBS:=Za hbs;clear ho2 hb2 hk2 hp4 hps hos hbs)))
    exact bodyPost_end (results_none rfl _ _ _) rfl ⟨_,_,_,rfl,HPS.out _,HOS.out _,HE.out.symm,by simp,HBS.out _⟩
  ·obtain ⟨g,cap,rfl,hlc,hcm⟩:=Zhy HO1.out hpos
   unfold maxLen at hcm
   have hn0:((bs.length:Int) == 0)=false:=beq_eq_false_iff_ne.2 (by omega)
   have HE:=Za (show joinL true (bs.map tl) (tl q)=(bs++[r1]).map tl by
    rw [Zjr (by rintro ⟨-,h,-⟩;have:=congrArg List.length h;rw [List.length_map] at this;simp at this;subst this;simp at hpos),List.map_append,List.map_cons,List.map_nil,HR1.out])
   go_wp2_with (at_builtin;go_must (refine Zcd w1 r1 rfl _ _ rfl base _ bs rfl HO1.out rfl hbl hz ?_;intro v' w2 ho2 hb2 hk2;obtain ⟨g2,n2,c2,rfl⟩:=ZcG ho2 (by simp);obtain ⟨hp4,hps,hos,hbs⟩:=KEY.out r1 w2 _ ho2 hb2 hk2;obtain ⟨-,-,hd2,hg2⟩:=hp4.facts;have HPS:=Za hps;have HOS:=Za hos;have HBS:=Za hbs;clear ho2 hb2 hk2 hp4 hps hos hbs))
   exact bodyPost_end (results_none rfl _ _ _) rfl ⟨_,_,_,rfl,HPS.out _,HOS.out _,HE.out.symm,by simp,HBS.out _⟩
theorem Zum (w:World):Calls Tryz.prog 199 #[.int .i64 16] w fun e w'=>e=.returned (.bool true)∧w=w':=by
 go_enter Tryz.func199,Tryz.ntmps199
 go_wp2
 go_ret
 exact ⟨rfl,rfl⟩
theorem Zun (w:World) (h:w.cell? ⟨2,15,none⟩=some (.int .u8 4)):Calls Tryz.prog 228 #[.int .u64 16] w fun e w'=>e=.returned (.int .i64 4)∧w=w':=by
 have e1:IntKind.u64.wrap (bits BinOp.and IntKind.u64 16 (IntKind.u64.wrap (-16)) * 285870213051353865) / 288230376151711744=15:=by decide
 go_enter Tryz.func228,Tryz.ntmps228
 go_wp2
 go_ret
 exact ⟨rfl,rfl⟩
theorem ZvN (w:World) (h:w.cell? ⟨2,15,none⟩=some (.int .u8 4)):Calls Tryz.prog 200 #[.int .u64 16] w fun e w'=>e=.returned (.int .i64 4)∧w=w':=by
 go_enter Tryz.func200,Tryz.ntmps200
 go_wp2_with (go_at_call 228;refine (Zun _ h).mono ?_;rintro e w' ⟨rfl,rfl⟩)
 go_ret
 exact ⟨rfl,rfl⟩
def Zc3 (d:Nat):UInt8:=if d < 10 then UInt8.ofNat (48 + d) else UInt8.ofNat (87 + d)
def ZeX (n:Nat):List UInt8:=if n < 16 then [Zc3 n] else if n < 256 then [Zc3 (n / 16),Zc3 (n % 16)] else if n < 4096 then [Zc3 (n / 256),Zc3 (n / 16 % 16),Zc3 (n % 16)] else [Zc3 (n / 4096),Zc3 (n / 256 % 16),Zc3 (n / 16 % 16),Zc3 (n % 16)]
theorem ZiD {n:Nat} (h:n < 16):ZeX n=[Zc3 n]:=by unfold ZeX;rw [if_pos h]
theorem Zko {n:Nat} (h:16≤n) (h2:n≤65535):ZeX n=ZeX (n / 16)++[Zc3 (n % 16)]:=by
 unfold ZeX
 by_cases h1:n < 256
 ·rw [if_neg (by omega),if_pos h1,if_pos (by omega)];rfl
 ·by_cases h3:n < 4096
  ·rw [if_neg (by omega),if_neg h1,if_pos h3,if_neg (by omega),if_pos (by omega),show n / 16 / 16=n / 256 by omega];rfl
  ·rw [if_neg (by omega),if_neg h1,if_neg h3,if_neg (by omega),if_neg (by omega),if_pos (by omega),show n / 16 / 256=n / 4096 by omega,show n / 16 / 16=n / 256 by omega];rfl
theorem ZfF (n:Nat):1≤(ZeX n).length∧(ZeX n).length≤4:=by
 unfold ZeX
 split
 ·simp
 ·split
  ·simp
  ·split <;> simp
def BufAt (w:World) (ab:Nat) (cs:List UInt8):Prop:=w.heap[ab]?=some (Obj.cells (cs.map fun b=>Value.int .u8 (b.toNat:Int)).toArray 176 (0,0))∧cs.length=65
theorem BufAt.cell {w:World} {ab:Nat} {cs:List UInt8} (h:BufAt w ab cs) {i:Nat} (hi:i < cs.length):w.cell? ⟨ab,i,none⟩=some (.int .u8 (cs[i].toNat:Int)):=by
 have h1:=h.1
 simp [World.cell?,h1,List.getElem?_eq_getElem hi]
theorem BufAt.free {w:World} {ab:Nat} {cs:List UInt8} (h:BufAt w ab cs) (i:Nat):w.frozen? ⟨ab,i,none⟩=false:=by
 have h1:=h.1
 simp [World.frozen?,h1]
theorem BufAt.set {w:World} {ab:Nat} {cs:List UInt8} (h:BufAt w ab cs) (i:Nat) (x:UInt8) (y:Int) (hy:y=(x.toNat:Int)):BufAt (w.setCell ⟨ab,i,none⟩ (.int .u8 y)) ab (cs.set i x):=by
 subst hy
 obtain ⟨h1,h2⟩:=h
 refine ⟨?_,by rw [List.length_set];exact h2⟩
 simp only [World.setCell,Array.getElem?_modify,if_pos,h1]
 simp [List.map_set]
theorem Zuo (w:World):BufAt (w.alloc (Obj.cells Tryz.zeroCells176 176)) w.heap.size (List.replicate 65 0):=⟨(heap_alloc_new w _).trans (by kernel_rfl),rfl⟩
def ZeJ:ByteArray:=⟨#[48,49,50,51,52,53,54,55,56,57,97,98,99,100,101,102,103,104,105,106,107,108,109,110,111,112,113,114,115,116,117,118,119,120,121,122]⟩
theorem Znb (d:Nat) (h:d < 16) (hh:d < ZeJ.size):ZeJ[d]'hh=Zc3 d:=by
 match d,h with
 | 0,_=>rfl
 | 1,_=>rfl
 | 2,_=>rfl
 | 3,_=>rfl
 | 4,_=>rfl
 | 5,_=>rfl
 | 6,_=>rfl
 | 7,_=>rfl
 | 8,_=>rfl
 | 9,_=>rfl
 | 10,_=>rfl
 | 11,_=>rfl
 | 12,_=>rfl
 | 13,_=>rfl
 | 14,_=>rfl
 | 15,_=>rfl
 | k + 16,h=>exact absurd h (by omega)
theorem drop_set (cs:List UInt8) (j:Nat) (d:UInt8) (h:j < cs.length):(cs.set j d).drop j=d :: cs.drop (j + 1):=by
 rw [List.drop_eq_getElem_cons (by rw [List.length_set];exact h),List.getElem_set_self,List.drop_set_of_lt (by omega)]
theorem Zou (m:Nat) (hh:m % 16 < ZeJ.size):(((ZeJ[m % 16]'hh).toNat:Nat):Int)=((Zc3 (m % 16)).toNat:Int):=by rw [Znb (m % 16) (by omega) hh]
theorem ZlR (m:Nat) (h:m < 16) (hh:m < ZeJ.size):(((ZeJ[m]'hh).toNat:Nat):Int)=((Zc3 m).toNat:Int):=by rw [Znb m h hh]
theorem ZvO (m:Nat) (h:m≤65535):bits BinOp.and IntKind.u64 (m:Int) 15=((m % 16:Nat):Int):=by
 have:=bits_and_u64_nat m 15 (by omega) (by decide)
 rw [show ((15:Nat):Int)=15 from rfl] at this
 rw [this,show (15:Nat)=2 ^ 4 - 1 from rfl,Nat.and_two_pow_sub_one_eq_mod]
set_option maxHeartbeats 2000000 in
set_option maxRecDepth 100000 in
theorem Zp8 (n:Nat) (hn:n≤65535) (w:World) (h:w.cell? ⟨2,15,none⟩=some (.int .u8 4)):
  Calls Tryz.prog 161 #[.slice none 0 0,.int .u64 n,.int .i64 16,.bool false,.bool false] w fun e w'=>∃ r:ByteArray,e=.returned (.tuple #[.slice none 0 0,.string r])∧tl r=ZeX n∧Nx w w':=by
 go_enter Tryz.func161,Tryz.ntmps161
 have h':∀ o,(w.alloc o).cell? ⟨2,15,none⟩=some (.int .u8 4):=fun o=>((Nx.rfl.alloc o).cell (World.block_lt_of_cell? w _ h)).trans h
 go_wp2_with (first | (go_at_call 199;refine (Zum _).mono ?_;rintro e w' ⟨rfl,rfl⟩) | (go_at_call 200;refine (ZvN _ (h' _)).mono ?_;rintro e w' ⟨rfl,rfl⟩))
 clear h'
 go_loopw [1,13] (fun u i wr=>∃ (m j:Nat) (cs:List UInt8),u=.int .u64 m∧i=.int .i64 ((j:Int) + 1)∧m≤65535∧j≤64∧BufAt wr w.heap.size cs∧ZeX n=ZeX m++cs.drop (j + 1)∧(ZeX m).length + (64 - j)≤4∧Nx w wr) (fun u _ _=>(intOf u).toNat)
 case atStart=>exact ⟨n,64,_,rfl,rfl,hn,by omega,Zuo w,by rw [List.drop_of_length_le (by simp),List.append_nil],by have:=ZfF n;omega,Nx.rfl.alloc _⟩
 case round=>
  obtain ⟨m,j,cs,rfl,rfl,hm,hj,hbuf,hE,hL,hnx⟩:=hrel
  have hl:=ZfF m
  have hjl:j < cs.length:=by have:=hbuf.2;omega
  have hcj:=hbuf.cell hjl
  have hfj:=hbuf.free j
  have hand:=ZvO m hm
  have HB:=Za hbuf
  have HE:=Za hE
  have HL:=Za hL
  have HN:=Za hnx
  clear hbuf hE hL hnx
  generalize cs[j]=old at *
  by_cases h16:16≤m
  ·have hst:=Zko h16 hm
   have HST:=Za hst
   have hl2:=congrArg List.length hst
   rw [List.length_append,List.length_singleton] at hl2
   have hl3:=ZfF (m / 16)
   have HL2:=Za hl2
   have hj1:1≤j:=by have:=HL.out;omega
   clear hst hl2
   go_wp2
   refine ⟨⟨m / 16,j - 1,cs.set j (Zc3 (m % 16)),by simp,by rw [show ((j - 1:Nat):Int) + 1=(j:Int) by omega],by omega,by omega,HB.out.set j (Zc3 (m % 16)) _ (Zou m _),?_,by have:=HL.out;have:=HL2.out;omega,HN.out.setCell (Nat.le_refl _) _⟩,by simp [intOf];omega⟩
   rw [HE.out,HST.out,show j - 1 + 1=j by omega,drop_set cs j _ hjl,List.append_assoc]
   rfl
  ·have HST:=Za (ZiD (n:=m) (by omega))
   have h16':m < 16:=by omega
   have HB2:=Za (HB.out.set j (Zc3 m) _ rfl)
   have HE2:=Za (show ZeX n=(cs.set j (Zc3 m)).drop j by rw [HE.out,HST.out,drop_set cs j _ hjl];rfl)
   have hdg:∀ hh,((((⟨#[48,49,50,51,52,53,54,55,56,57,97,98,99,100,101,102,103,104,105,106,107,108,109,110,111,112,113,114,115,116,117,118,119,120,121,122]⟩:ByteArray)[m]'hh).toNat:Nat):Int)=((Zc3 m).toNat:Int):=fun hh=>ZlR m h16' hh
   have hcv:(convert 109 9 (.slice (some ⟨w.heap.size,j,none⟩) (65 - j) (65 - j))).run Tryz.prog (wr.setCell ⟨w.heap.size,j,none⟩ (.int .u8 ((Zc3 m).toNat:Int)))=.ok (.string ⟨(ZeX n).toArray⟩) (wr.setCell ⟨w.heap.size,j,none⟩ (.int .u8 ((Zc3 m).toNat:Int))):=by
    have hlen:((cs.set j (Zc3 m)).drop j).length=65 - j:=by rw [List.length_drop,HB2.out.2]
    have:=run_convert_bytes_back (P:=Tryz.prog) (wr.setCell ⟨w.heap.size,j,none⟩ (.int .u8 ((Zc3 m).toNat:Int))) 109 9 5 ⟨w.heap.size,j,none⟩ (65 - j) ((cs.set j (Zc3 m)).drop j) Tryz.underlying109 Tryz.underlying5 Tryz.underlying9 (fun i hi=>by
     rw [List.length_drop] at hi
     rw [Addr.add_lit,HB2.out.cell (i:=j + i) (by omega),List.getElem_drop])
    rw [hlen] at this
    rw [this,HE2.out]
   have hsl:∀ W,(Instr.sliceAt 176 (.pointer (some ⟨w.heap.size,0,none⟩)) (some (.int .i64 (j:Int))) none none).run Tryz.prog W=.ok (.slice (some ⟨w.heap.size,j,none⟩) (65 - j) (65 - j)) W:=fun W=>by
    rw [run_sliceAt_array_l W 176 ⟨w.heap.size,0,none⟩ (by simp [Program.arrayLen,Program.elem,Tryz.underlying176]) .i64 (j:Int) (by omega) (by rw [show Tryz.prog.arrayLen 176=65 by kernel_rfl];omega)]
    rw [show Tryz.prog.arrayLen 176=65 by kernel_rfl,show Tryz.prog.elem 176=5 by kernel_rfl]
    rw [Tryz.sizeOf5]
    simp [slicedAt,Result.andThen,Addr.add_lit]
    omega
   go_wp2
   go_ret2
   exact ⟨_,rfl,tl_mk _,HN.out.setCell (Nat.le_refl _) _⟩
theorem Zsr (n:Nat) (hn:n≤65535) (w:World) (h:w.cell? ⟨2,15,none⟩=some (.int .u8 4)):
  Calls Tryz.prog 119 #[.int .i64 n,.int .i64 16] w fun e w'=>∃ r:ByteArray,e=.returned (.string r)∧tl r=ZeX n∧Nx w w':=by
 go_enter Tryz.func119,Tryz.ntmps119
 go_wp2_with (go_at_call 161;refine (Zp8 n hn _ h).mono ?_;rintro e w1 ⟨r,rfl,hr,hn1⟩;have HR:=Za hr;have HN:=Za hn1;clear hr hn1)
 go_ret
 exact ⟨_,rfl,HR.out,HN.out⟩
theorem Zhz (n:Nat) (hn:n≤65535) (w:World) (h:w.cell? ⟨2,15,none⟩=some (.int .u8 4)):
  Calls Tryz.prog 254 #[.int .i64 n,.int .i64 16] w fun e w'=>∃ r:ByteArray,e=.returned (.string r)∧tl r=ZeX n∧Nx w w':=by
 go_enter Tryz.func254,Tryz.ntmps254
 go_wp2_with (go_at_call 119;refine (Zsr n hn _ h).mono ?_;rintro e w1 ⟨r,rfl,hr,hn1⟩;have HR:=Za hr;have HN:=Za hn1;clear hr hn1)
 go_ret
 exact ⟨_,rfl,HR.out,HN.out⟩
end Go.Proofs.YtchkhibgbnhjpaaGreatDoor
