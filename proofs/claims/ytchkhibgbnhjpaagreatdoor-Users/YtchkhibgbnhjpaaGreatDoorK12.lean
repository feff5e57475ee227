import Derived.Test.YtchkhibgbnhjpaaGreatDoorK11
namespace Go.Proofs.YtchkhibgbnhjpaaGreatDoor
open Go.RowKit
def lrGo:Nat→Nat→Nat→Nat→List Int→Nat × Nat
 | _,st,ln,_,[]=>(st,ln)
 | i,st,ln,run,x :: r=>
  if ln < (if x=0 then run + 1 else 0) then lrGo (i + 1) (i + 1 - (if x=0 then run + 1 else 0)) (if x=0 then run + 1 else 0) (if x=0 then run + 1 else 0) r
  else lrGo (i + 1) st ln (if x=0 then run + 1 else 0) r
def ZW (ns:List Int):Nat × Nat:=lrGo 0 8 1 0 ns
theorem Zss (ns:List Int):∀ i st ln run,st≤8→1≤ln→ln≤8→run≤i→i + ns.length≤8→(lrGo i st ln run ns).1≤8∧1≤(lrGo i st ln run ns).2∧(lrGo i st ln run ns).2≤8:=by
 induction ns with
 | nil=>intro i st ln run h1 h2 h3 h4 h5;rw [lrGo];exact ⟨h1,h2,h3⟩
 | cons x r ih=>
  intro i st ln run h1 h2 h3 h4 h5
  rw [List.length_cons] at h5
  have hr:(if x=0 then run + 1 else 0)≤i + 1:=by split <;> omega
  rw [lrGo]
  generalize (if x=0 then run + 1 else 0)=run' at *
  split
  ·exact ih _ _ _ _ (by omega) (by omega) (by omega) hr (by omega)
  ·exact ih _ _ _ _ h1 h2 h3 hr (by omega)
theorem Zup (ns:List Int) (k:Nat) (h:k < ns.length) (st ln run:Nat):lrGo k st ln run (ns.drop k) =
  if ln < (if ns[k]=0 then run + 1 else 0) then lrGo (k + 1) (k + 1 - (if ns[k]=0 then run + 1 else 0)) (if ns[k]=0 then run + 1 else 0) (if ns[k]=0 then run + 1 else 0) (ns.drop (k + 1))
  else lrGo (k + 1) st ln (if ns[k]=0 then run + 1 else 0) (ns.drop (k + 1)):=by
 rw [List.drop_eq_getElem_cons h,lrGo]
set_option maxHeartbeats 4000000 in
theorem ZlS (a0 a1 a2 a3 a4 a5 a6 a7:Int) (w:World):
  Calls Tryz.prog 253 #[.agg #[.int .i64 a0,.int .i64 a1,.int .i64 a2,.int .i64 a3,.int .i64 a4,.int .i64 a5,.int .i64 a6,.int .i64 a7]] w fun e w'=>e=.returned (.tuple #[.int .i64 ((ZW [a0,a1,a2,a3,a4,a5,a6,a7]).1:Nat),.int .i64 ((ZW [a0,a1,a2,a3,a4,a5,a6,a7]).2:Nat)])∧Nx w w':=by
 have HA:=Za (Zhw w a0 a1 a2 a3 a4 a5 a6 a7)
 have HN:=Za (show Nx w (w.alloc (Obj.cells #[.int .i64 a0,.int .i64 a1,.int .i64 a2,.int .i64 a3,.int .i64 a4,.int .i64 a5,.int .i64 a6,.int .i64 a7] 201)) from Nx.rfl.alloc _)
 have HD:=Za (show ZW [a0,a1,a2,a3,a4,a5,a6,a7]=lrGo 0 8 1 0 ([a0,a1,a2,a3,a4,a5,a6,a7].drop 0) from rfl)
 have h8:[a0,a1,a2,a3,a4,a5,a6,a7].length=8:=rfl
 generalize [a0,a1,a2,a3,a4,a5,a6,a7]=ns at *
 go_enter Tryz.func253,Tryz.ntmps253
 go_wp2
 generalize (w.alloc (Obj.cells #[.int .i64 a0,.int .i64 a1,.int .i64 a2,.int .i64 a3,.int .i64 a4,.int .i64 a5,.int .i64 a6,.int .i64 a7] 201))=w1 at *
 have H8:=Za h8
 clear h8
 go_loop [4,5,6,7] (fun s l r i=>∃ (k st ln run:Nat),k≤8∧s=.int .i64 st∧l=.int .i64 ln∧r=.int .i64 run∧i=.int .i64 k∧st≤8∧ln≤8∧run≤k∧ZW ns=lrGo k st ln run (ns.drop k)) (fun _ _ _ i=>8 - (intOf i).toNat)
 case atStart=>exact ⟨0,8,1,0,by omega,rfl,rfl,rfl,rfl,by omega,by omega,by omega,HD.out⟩
 case round=>
  obtain ⟨k,st,ln,run,hk,rfl,rfl,rfl,rfl,h1,h2,h3,hE⟩:=hrel
  by_cases hlt:k < 8
  ·have hkl:k < ns.length:=by have:=H8.out;omega
   have hck:=HA.out.cell hkl
   rw [Zup ns k hkl] at hE
   have HE:=Za hE
   clear hE
   generalize ns[k]=x at *
   cases hx:(x == 0)
   ·have hx0:¬ x=0:=by simpa using hx
    rw [if_neg hx0] at HE
    have HE2:=Za (HE.out.trans (if_neg (by omega)))
    clear HE hx0
    go_wp2
    go_round
    case rel=>exact ⟨k + 1,st,ln,0,by omega,rfl,rfl,rfl,by go_num,h1,h2,by omega,HE2.out⟩
    case measure=>simp [intOf];omega
   ·have hx0:x=0:=by simpa using hx
    rw [if_pos hx0] at HE
    subst hx0
    by_cases hb:ln < run + 1
    ·have HE2:=Za (HE.out.trans (if_pos hb))
     have hbi:(ln:Int) < (run:Int) + 1:=by omega
     clear HE
     go_wp2
     go_round
     case rel=>exact ⟨k + 1,k + 1 - (run + 1),run + 1,run + 1,by omega,by rw [show ((k + 1 - (run + 1):Nat):Int)=(k:Int) - ((run:Int) + 1) + 1 by omega],by go_num,by go_num,by go_num,by omega,by omega,by omega,HE2.out⟩
     case measure=>simp [intOf];omega
    ·have HE2:=Za (HE.out.trans (if_neg hb))
     have hbi:(run:Int) + 1≤(ln:Int):=by omega
     clear HE
     go_wp2
     go_round
     case rel=>exact ⟨k + 1,st,ln,run + 1,by omega,rfl,rfl,by go_num,by go_num,h1,h2,by omega,HE2.out⟩
     case measure=>simp [intOf];omega
  ·have HE2:=Za (show ZW ns=(st,ln) by rw [hE,List.drop_of_length_le (by have:=H8.out;omega),lrGo])
   clear hE
   go_wp2
   go_ret2
   exact ⟨by rw [HE2.out];rfl,HN.out⟩
def ZhA (ns:List Int) (st ln:Nat):Nat→Nat→List UInt8
 | 0,_=>[]
 | f + 1,i=>if 8≤i then [] else if i=st then [58,58]++ZhA ns st ln f (i + ln) else (if 0 < i∧i≠st + ln then [58] else [])++ZeX (ns.getD i 0).toNat++ZhA ns st ln f (i + 1)
def ZfG (ns:List Int):List UInt8:=ZhA ns (ZW ns).1 (ZW ns).2 8 0
theorem Zvj (ns:List Int) (st ln f i:Nat) (h:8≤i):ZhA ns st ln f i=[]:=by
 cases f with
 | zero=>rfl
 | succ f=>rw [ZhA,if_pos h]
theorem ZvP {ns:List Int} {k:Nat} (h:k < ns.length):ns.getD k 0=ns[k]:=by rw [List.getD_eq_getElem?_getD,List.getElem?_eq_getElem h];rfl
set_option maxHeartbeats 4000000 in
theorem Zp9 (a0 a1 a2 a3 a4 a5 a6 a7:Int) (w:World) (ht:Tb w) (hp:∀ x∈[a0,a1,a2,a3,a4,a5,a6,a7],0≤x∧x≤65535):
  Calls Tryz.prog 241 #[.agg #[.int .i64 a0,.int .i64 a1,.int .i64 a2,.int .i64 a3,.int .i64 a4,.int .i64 a5,.int .i64 a6,.int .i64 a7]] w fun e w'=>∃ r:ByteArray,e=.returned (.string r)∧tl r=ZfG [a0,a1,a2,a3,a4,a5,a6,a7]∧Nx w w':=by
 have HA:=Za (Zhw w a0 a1 a2 a3 a4 a5 a6 a7)
 have HN:=Za (show Nx w (w.alloc (Obj.cells #[.int .i64 a0,.int .i64 a1,.int .i64 a2,.int .i64 a3,.int .i64 a4,.int .i64 a5,.int .i64 a6,.int .i64 a7] 201)) from Nx.rfl.alloc _)
 have HLR:=Za (ZlS a0 a1 a2 a3 a4 a5 a6 a7)
 have h8:[a0,a1,a2,a3,a4,a5,a6,a7].length=8:=rfl
 have HP:=Za hp
 have HTB:=Za ht
 clear hp ht
 generalize [a0,a1,a2,a3,a4,a5,a6,a7]=ns at *
 have hrg:=Zss ns 0 8 1 0 (by omega) (by omega) (by omega) (by omega) (by omega)
 change (ZW ns).1≤8∧1≤(ZW ns).2∧(ZW ns).2≤8 at hrg
 have HD:=Za (show ZfG ns=ZhA ns (ZW ns).1 (ZW ns).2 8 0 from rfl)
 have H8:=Za h8
 clear h8
 go_enter Tryz.func241,Tryz.ntmps241
 go_wp2_with fail
 refine (HLR.out _).mono ?_
 rintro e w2 ⟨rfl,hn2⟩
 have HA2:=Za (HA.out.on hn2)
 have HN2:=Za (HN.out.then hn2)
 clear hn2 HA HN HLR
 generalize ZW ns=q at *
 obtain ⟨st,ln⟩:=q
 simp only at *
 obtain ⟨hst,hln1,hln8⟩:=hrg
 go_wp2
 go_loopw [5,6] (fun t i wr=>∃ (f k:Nat) (txt:ByteArray),t=.string txt∧i=.int .i64 k∧8≤k + f∧k≤16∧f≤8∧txt.size + 5 * f≤40∧ZfG ns=tl txt++ZhA ns st ln f k∧Nx w2 wr) (fun _ i _=>8 - (intOf i).toNat)
 case atStart=>exact ⟨8,0,⟨#[]⟩,rfl,rfl,by omega,by omega,by omega,by decide,by rw [HD.out];rfl,Nx.rfl⟩
 case round=>
  obtain ⟨f,k,txt,rfl,rfl,hf,hk,hf8,hsz,hE,hnx⟩:=hrel
  have HN3:=Za (HN2.out.then hnx)
  have HNX:=Za hnx
  have HA3:=Za (HA2.out.on hnx)
  clear hnx
  by_cases hlt:k < 8
  ·cases f with
   | zero=>omega
   | succ f=>
    rw [ZhA,if_neg (by omega)] at hE
    by_cases hks:k=st
    ·have HE:=Za (hE.trans (by rw [if_pos hks]))
     have hks':((k:Int) == (st:Int))=true:=by rw [hks];simp
     clear hE hks
     go_wp2
     go_roundw
     case rel=>exact ⟨f,k + ln,_,rfl,by go_num,by omega,by omega,by omega,by rw [Zh];show txt.size + 2 + _≤_;omega,by rw [HE.out,Ze,List.append_assoc];rfl,HNX.out⟩
     case measure=>simp [intOf];omega
    ·rw [if_neg hks] at hE
     have hks':((k:Int) == (st:Int))=false:=beq_eq_false_iff_ne.2 (by omega)
     have hkl:k < ns.length:=by have:=H8.out;omega
     have hck:=HA3.out.cell hkl
     have hrx:=HP.out _ (List.getElem_mem hkl)
     rw [ZvP hkl] at hE
     have HE:=Za hE
     clear hE hks
     generalize ns[k]=x at *
     obtain ⟨xn,rfl⟩:∃ xn:Nat,x=(xn:Int):=⟨x.toNat,by omega⟩
     have hxl:xn≤65535:=by omega
     rw [Int.toNat_natCast] at HE
     have HTB3:=Za (HTB.out.on HN3.out)
     have hx4:=ZfF xn
     by_cases hc:0 < k∧k≠st + ln
     ·have HE2:=Za (HE.out.trans (by rw [if_pos hc]))
      obtain ⟨hc1,hc2⟩:=hc
      have hc2':((k:Int) != (st:Int) + (ln:Int))=true:=Zg3 (beq_eq_false_iff_ne.2 (by omega))
      clear HE
      go_wp2_with fail
      refine (Zhz xn hxl _ HTB3.out.2).mono ?_
      rintro e w4 ⟨r,rfl,hr,hn4⟩
      have hrs:r.size≤4:=by rw [← tl_length,hr];omega
      have HR:=Za hr
      have HN4:=Za (HNX.out.then hn4)
      clear hr hn4
      go_wp2
      go_roundw
      case rel=>exact ⟨f,k + 1,_,rfl,by go_num,by omega,by omega,by omega,by rw [Zh,Zh];show txt.size + 1 + _ + _≤_;omega,by rw [HE2.out,Ze,Ze,HR.out,List.append_assoc,List.append_assoc,List.append_assoc];rfl,HN4.out⟩
      case measure=>simp [intOf];omega
     ·have HE2:=Za (HE.out.trans (by rw [if_neg hc,List.nil_append]))
      clear HE
      by_cases hk0:0 < k
      ·have hc2:k=st + ln:=by
        rcases Nat.decEq k (st + ln) with h | h
        ·exact absurd ⟨hk0,h⟩ hc
        ·exact h
       have hc2':((k:Int) != (st:Int) + (ln:Int))=false:=Zr1 (by rw [beq_iff_eq];omega)
       clear hc hc2
       go_wp2_with fail
       refine (Zhz xn hxl _ HTB3.out.2).mono ?_
       rintro e w4 ⟨r,rfl,hr,hn4⟩
       have hrs:r.size≤4:=by rw [← tl_length,hr];omega
       have HR:=Za hr
       have HN4:=Za (HNX.out.then hn4)
       clear hr hn4
       go_wp2
       go_roundw
       case rel=>exact ⟨f,k + 1,_,rfl,by go_num,by omega,by omega,by omega,by rw [Zh];omega,by rw [HE2.out,Ze,HR.out,List.append_assoc],HN4.out⟩
       case measure=>simp [intOf];omega
      ·have hk00:k≤0:=by omega
       clear hc
       go_wp2_with fail
       refine (Zhz xn hxl _ HTB3.out.2).mono ?_
       rintro e w4 ⟨r,rfl,hr,hn4⟩
       have hrs:r.size≤4:=by rw [← tl_length,hr];omega
       have HR:=Za hr
       have HN4:=Za (HNX.out.then hn4)
       clear hr hn4
       go_wp2
       go_roundw
       case rel=>exact ⟨f,k + 1,_,rfl,by go_num,by omega,by omega,by omega,by rw [Zh];omega,by rw [HE2.out,Ze,HR.out,List.append_assoc],HN4.out⟩
       case measure=>simp [intOf];omega
  ·have HE:=Za (show tl txt=ZfG ns by rw [hE,Zvj _ _ _ _ _ (by omega),List.append_nil])
   clear hE
   go_wp2
   go_ret
   exact ⟨_,rfl,HE.out,HN3.out⟩
def GOk (ns:List Int):Prop:=∀ x∈ns,0≤x∧x≤65535
theorem GOk.set {ns:List Int} (h:GOk ns) (i:Nat) {x:Int} (h0:0≤x) (h1:x≤65535):GOk (ns.set i x):=by
 intro y hy
 rcases List.mem_or_eq_of_mem_set hy with h2 | h2
 ·exact h y h2
 ·subst h2;exact ⟨h0,h1⟩
theorem ZlT {g:List Int × Nat} (h:GOk g.1) {x:Int} (h0:0≤x) (h1:x≤65535):GOk (Zfd g x).1.1:=by
 unfold Zfd
 split
 ·exact h.set _ h0 h1
 ·exact h
theorem Zuq (most:Int) (l:List UInt8):∀ n q,0≤n→numGo 16 most n l=some q→0≤q∧q + 1≤(n + 1) * 16 ^ l.length:=by
 induction l with
 | nil=>intro n q h e;rw [numGo] at e;cases e;exact ⟨h,by simp⟩
 | cons c r ih=>
  intro n q h e
  rw [numGo] at e
  split at e
  ·rename_i hd
   have hr:=Zbi (c.toNat:Int) 16
   have h15:=hr.2 hd
   have hn':0≤(if n≤most then n * 16 + (ZL (c.toNat:Int) 16).1 else n)∧(if n≤most then n * 16 + (ZL (c.toNat:Int) 16).1 else n) + 1≤(n + 1) * 16:=by
    split <;> omega
   obtain ⟨h1,h2⟩:=ih _ q hn'.1 e
   refine ⟨h1,Int.le_trans h2 ?_⟩
   rw [List.length_cons,Int.pow_succ,show (n + 1) * ((16:Int) ^ r.length * 16)=((n + 1) * 16) * 16 ^ r.length by rw [Int.mul_comm ((16:Int) ^ r.length),Int.mul_assoc]]
   exact Int.mul_le_mul_of_nonneg_right hn'.2 (Int.pow_nonneg (by decide))
  ·cases e
theorem Zig {l:List UInt8} (h4:l.length≤4):0≤(Zn l 16 65535).1∧(Zn l 16 65535).1≤65535:=by
 unfold Zn
 split
 ·exact ⟨by decide,by decide⟩
 ·split
  ·exact ⟨by decide,by decide⟩
  ·rename_i n e
   obtain ⟨h1,h2⟩:=Zuq 65535 l 0 n (by decide) e
   have h3:(16:Int) ^ l.length≤65536:=by
    rcases (show l.length=0∨l.length=1∨l.length=2∨l.length=3∨l.length=4 by omega) with h | h | h | h | h <;> rw [h] <;> decide
   have h5:n≤65535:=by omega
   rw [if_neg (by omega)]
   exact ⟨h1,h5⟩
theorem Zqa {g:List Int × Nat} (h:GOk g.1) (l:List UInt8):GOk (Za8 g l).1.1:=by
 unfold Za8
 split
 ·exact h
 ·rename_i hh
  obtain ⟨h0,h1⟩:=Zig (l:=l) (by omega)
  exact ZlT h h0 h1
theorem Zst (ps:List (List UInt8)):∀ v q,0≤v→d4Go v ps=some q→0≤q∧q + 1≤(v + 1) * 256 ^ ps.length:=by
 induction ps with
 | nil=>intro n q h e;rw [d4Go] at e;cases e;exact ⟨h,by simp⟩
 | cons c r ih=>
  intro n q h e
  rw [d4Go] at e
  split at e
  ·have hr:=Zkl c
   obtain ⟨h1,h2⟩:=ih _ q (by omega) e
   refine ⟨h1,Int.le_trans h2 ?_⟩
   rw [List.length_cons,Int.pow_succ,show (n + 1) * ((256:Int) ^ r.length * 256)=((n + 1) * 256) * 256 ^ r.length by rw [Int.mul_comm ((256:Int) ^ r.length),Int.mul_assoc]]
   exact Int.mul_le_mul_of_nonneg_right (by omega) (Int.pow_nonneg (by decide))
  ·cases e
theorem Zqb {g:List Int × Nat} (h:GOk g.1) (l:List UInt8):GOk (Za9 g l).1.1:=by
 unfold Za9
 split
 ·exact h
 ·rename_i h4
  split
  ·exact h
  ·rename_i v e
   obtain ⟨h1,h2⟩:=Zst _ 0 v (by decide) e
   have h4':(bsplit 46 l).length=4:=by omega
   rw [h4'] at h2
   have h3:v≤4294967295:=by have:(256:Int) ^ 4=4294967296:=by decide
                            omega
   have hA:=ZlT h (x:=v / 65536) (by omega) (by omega)
   split
   ·exact hA
   ·exact ZlT hA (by omega) (by omega)
theorem grpGo_ok (en:Bool) (ps:List (List UInt8)):∀ g q,GOk g.1→grpGo en g ps=some q→GOk q.1:=by
 induction ps with
 | nil=>intro g q h e;rw [grpGo] at e;cases e;exact h
 | cons p r ih=>
  intro g q h e
  rw [grpGo] at e
  split at e
  ·split at e
   ·exact ih _ _ (Zqb h p) e
   ·cases e
  ·split at e
   ·exact ih _ _ (Zqa h p) e
   ·cases e
theorem zero_ok:GOk zeros8:=by intro x hx;simp [zeros8] at hx;omega
theorem Zf7 (l:List UInt8) (en:Bool):GOk (Zx l en).1.1:=by
 unfold Zx
 split
 ·exact zero_ok
 ·split
  ·exact zero_ok
  ·rename_i g e
   exact grpGo_ok en _ _ _ zero_ok e
theorem putGo_ok (r:List Int):∀ ns i,GOk ns→GOk r→GOk (putGo ns i r):=by
 induction r with
 | nil=>intro ns i h _;exact h
 | cons x r ih=>
  intro ns i h hr
  rw [putGo]
  have hx:=hr x (List.mem_cons_self ..)
  exact ih _ _ (h.set i hx.1 hx.2) (fun y hy=>hr y (List.mem_cons_of_mem _ hy))
theorem Znc (l:List UInt8):GOk (ip6 l).1:=by
 unfold ip6 ZgA
 split
 ·split
  ·exact zero_ok
  ·exact Zf7 l true
 ·split
  ·exact zero_ok
  ·exact putGo_ok _ _ _ (Zf7 _ _) (fun x hx=>Zf7 _ _ x (List.mem_of_mem_take hx))
def Zap (l:List UInt8):List UInt8 × Int:=
 if l.length < 2∨¬ ((l.getD (l.length - 1) 0).toNat:Int)=93 then ([],2)
 else if (ip6 ((l.take (l.length - 1)).drop 1)).2=true then ([91]++ZfG (ip6 ((l.take (l.length - 1)).drop 1)).1++[93],0) else ([],2)
theorem ZtP (ns:List Int) (st ln:Nat):∀ f i,(ZhA ns st ln f i).length≤5 * f:=by
 intro f
 induction f with
 | zero=>intro i;simp [ZhA]
 | succ f ih=>
  intro i
  rw [ZhA]
  split
  ·simp
  ·split
   ·have:=ih (i + ln)
    simp only [List.length_append,List.length_cons,List.length_nil]
    omega
   ·have:=ih (i + 1)
    have h4:=ZfF (ns.getD i 0).toNat
    have h1:(if 0 < i∧i≠st + ln then [(58:UInt8)] else []).length≤1:=by split <;> simp
    simp only [List.length_append]
    omega
set_option maxHeartbeats 4000000 in
theorem Zkp (s:ByteArray) (w:World) (hs:s.size≤1000000) (ht:Tb w):
  Calls Tryz.prog 230 #[.string s] w fun e w'=>∃ r:ByteArray,e=.returned (.tuple #[.string r,.int .i64 (Zap (tl s)).2])∧tl r=(Zap (tl s)).1∧Nx w w':=by
 have HD:=Za (show Zap (tl s)=if s.size < 2∨¬ (((tl s).getD (s.size - 1) 0).toNat:Int)=93 then ([],2)
  else if (ip6 (((tl s).take (s.size - 1)).drop 1)).2=true then ([91]++ZfG (ip6 (((tl s).take (s.size - 1)).drop 1)).1++[93],0) else ([],2) by rw [← tl_length];rfl)
 have HTB:=Za ht
 clear ht
 by_cases h2:s.size < 2
 ·have HE:=Za (HD.out.trans (if_pos (Or.inl h2)))
  clear HD
  go_enter Tryz.func230,Tryz.ntmps230
  go_wp2
  go_ret2
  exact ⟨⟨#[]⟩,by rw [HE.out];rfl,by rw [HE.out];rfl,Nx.rfl⟩
 ·have hz:s.size - 1 < s.size:=by omega
  have hb:=bb (s[s.size - 1]'hz)
  rw [ZdL s (s.size - 1) hz] at HD
  cases h93:(((s[s.size - 1]'hz).toNat:Int) == 93)
  ·have HE:=Za (HD.out.trans (if_pos (Or.inr (by simpa using h93))))
   have h93':=Zg3 h93
   clear HD
   go_enter Tryz.func230,Tryz.ntmps230
   go_wp2
   go_ret2
   exact ⟨⟨#[]⟩,by rw [HE.out];rfl,by rw [HE.out];rfl,Nx.rfl⟩
  ·have HE:=Za (HD.out.trans (if_neg (by rintro (h | h);exact h2 h;exact h (by simpa using h93))))
   have h93':=Zr1 h93
   rw [← tl_extract s 1 (s.size - 1)] at HE
   have HOK:=Za (Znc (tl (s.extract 1 (s.size - 1))))
   clear HD
   go_enter Tryz.func230,Tryz.ntmps230
   go_wp2_with fail
   refine (Zuk (s.extract 1 (s.size - 1)) _ (Nat.le_trans (Zg2 s _ _) hs)).mono ?_
   rintro e w1 ⟨a0,a1,a2,a3,a4,a5,a6,a7,ok,rfl,hq,hn⟩
   rw [hq] at HE HOK
   simp only at HE HOK
   have HN:=Za hn
   have HTB1:=Za (HTB.out.on hn)
   clear hq hn
   cases ok
   ·have HE2:=Za (HE.out.trans (if_neg (by decide)))
    clear HE
    go_wp2
    go_ret2
    exact ⟨⟨#[]⟩,by rw [HE2.out];rfl,by rw [HE2.out];rfl,HN.out.alloc _⟩
   ·have HE2:=Za (HE.out.trans (if_pos rfl))
    clear HE
    go_wp2_with fail
    refine (Zp9 a0 a1 a2 a3 a4 a5 a6 a7 _ (HTB1.out.on (Nx.rfl.alloc _)) HOK.out).mono ?_
    rintro e w2 ⟨r,rfl,hr,hn2⟩
    have hrs:r.size≤1000:=by
     have:=ZtP [a0,a1,a2,a3,a4,a5,a6,a7] (ZW [a0,a1,a2,a3,a4,a5,a6,a7]).1 (ZW [a0,a1,a2,a3,a4,a5,a6,a7]).2 8 0
     rw [← tl_length,hr]
     unfold ZfG
     omega
    have HR:=Za hr
    have HN2:=Za ((HN.out.alloc _).then hn2)
    clear hr hn2
    go_wp2
    go_ret2
    exact ⟨(⟨#[91]⟩:ByteArray)++r++(⟨#[93]⟩:ByteArray),by rw [HE2.out];rfl,by rw [HE2.out,Ze,Ze,HR.out];rfl,HN2.out⟩
def ZgV (d:Nat):UInt8:=UInt8.ofNat (48 + d)
def ZbU (n:Nat):List UInt8:=
 if n < 10 then [ZgV n] else if n < 100 then [ZgV (n / 10),ZgV (n % 10)] else if n < 1000 then [ZgV (n / 100),ZgV (n / 10 % 10),ZgV (n % 10)]
 else if n < 10000 then [ZgV (n / 1000),ZgV (n / 100 % 10),ZgV (n / 10 % 10),ZgV (n % 10)] else [ZgV (n / 10000),ZgV (n / 1000 % 10),ZgV (n / 100 % 10),ZgV (n / 10 % 10),ZgV (n % 10)]
theorem Zg7 {n:Nat} (h:¬ n < 10):Lib.decDigits n=Lib.decDigits (n / 10)++[ZgV (n % 10)]:=by rw [Lib.decDigits,dif_neg h];rfl
theorem ZfH {n:Nat} (h:n < 10):Lib.decDigits n=[ZgV n]:=by rw [Lib.decDigits,dif_pos h];rfl
theorem Zqc (n:Nat) (h:n≤99999):Lib.decDigits n=ZbU n:=by
 unfold ZbU
 by_cases h1:n < 10
 ·rw [if_pos h1,ZfH h1]
 rw [if_neg h1,Zg7 h1]
 by_cases h2:n < 100
 ·rw [if_pos h2,ZfH (by omega)];rfl
 rw [if_neg h2,Zg7 (by omega),show n / 10 / 10=n / 100 by omega]
 by_cases h3:n < 1000
 ·rw [if_pos h3,ZfH (by omega)];rfl
 rw [if_neg h3,Zg7 (by omega),show n / 100 / 10=n / 1000 by omega]
 by_cases h4:n < 10000
 ·rw [if_pos h4,ZfH (by omega)];rfl
 rw [if_neg h4,Zg7 (by omega),show n / 1000 / 10=n / 10000 by omega,ZfH (by omega)]
 rfl
theorem Zg8 (n:Nat):(ZbU n).length≤5:=by
 unfold ZbU
 split
 ·simp
 ·split
  ·simp
  ·split
   ·simp
   ·split <;> simp
theorem Znd (n:Nat) (hn:n≤65535) (w:World) (h:Tb w):
  Calls Tryz.prog 254 #[.int .i64 n,.int .i64 10] w fun e w'=>∃ r:ByteArray,e=.returned (.string r)∧tl r=ZbU n∧Nx w w':=by
 refine (ZpG n (by omega) w h).mono ?_
 rintro e w' ⟨r,rfl,hr,hn1⟩
 exact ⟨r,rfl,by rw [hr,Zqc n (by omega)],hn1⟩
theorem Zqd (n:Nat) (hn:n≤65535) (w:World) (h:Tb w):
  Calls Tryz.prog 59 #[.int .i64 n] w fun e w'=>∃ r:ByteArray,e=.returned (.string r)∧tl r=ZbU n∧Nx w w':=by
 refine (Zsd n (by omega) w h).mono ?_
 rintro e w' ⟨r,rfl,hr,hn1⟩
 exact ⟨r,rfl,by rw [hr,Zqc n (by omega)],hn1⟩
def ZlU (v:Nat):Nat→List UInt8
 | 0=>[]
 | k + 1=>ZbU (v / 256 ^ k % 256)++(if 0 < k then [46]++ZlU v k else ZlU v k)
def ZcR (v:Nat):List UInt8:=ZlU v 4
theorem Zne (v:Nat):∀ k,(ZlU v k).length≤6 * k:=by
 intro k
 induction k with
 | zero=>simp [ZlU]
 | succ k ih=>
  rw [ZlU,List.length_append]
  have:=Zg8 (v / 256 ^ k % 256)
  split
  ·simp only [List.length_append,List.length_cons,List.length_nil];omega
  ·omega
set_option maxHeartbeats 2000000 in
theorem ZlV (v:Nat) (hv:v≤1099511627776) (w:World) (ht:Tb w):
  Calls Tryz.prog 248 #[.int .i64 v] w fun e w'=>∃ r:ByteArray,e=.returned (.string r)∧tl r=ZcR v∧Nx w w':=by
 have HTB:=Za ht
 clear ht
 go_enter Tryz.func248,Tryz.ntmps248
 go_wp2
 go_loopw [3,4,5] (fun t r i wr=>∃ (k:Nat) (txt:ByteArray) (rest:Nat),k≤4∧t=.string txt∧r=.int .i64 rest∧i=.int .i64 k∧rest=v / 256 ^ k∧tl txt=ZlU v k∧Nx w wr) (fun _ _ i _=>4 - (intOf i).toNat)
 case atStart=>exact ⟨0,⟨#[]⟩,v,by omega,rfl,rfl,rfl,by simp,rfl,Nx.rfl⟩
 case round=>
  obtain ⟨k,txt,rest,hk,rfl,rfl,rfl,hrest,hE,hnx⟩:=hrel
  have hrl:rest≤1099511627776:=by rw [hrest];exact Nat.le_trans (Nat.div_le_self _ _) hv
  have hsz:txt.size≤100:=by have:=Zne v k;rw [← hE,tl_length] at this;omega
  have HR:=Za hrest
  have HE:=Za hE
  have HN:=Za hnx
  clear hrest hE hnx
  by_cases hlt:k < 4
  ·have HDV:=Za (show Int.tdiv (rest:Int) 256=((rest / 256:Nat):Int) by rw [Int.tdiv_eq_ediv_of_nonneg (by omega)];omega)
   have HNR:=Za (show rest / 256=v / 256 ^ (k + 1) by rw [HR.out,Nat.div_div_eq_div_mul,Nat.pow_succ])
   have HS:=Za (show ZlU v (k + 1)=ZbU (rest % 256)++(if 0 < k then [46]++ZlU v k else ZlU v k) by rw [ZlU,HR.out])
   by_cases hk0:0 < k
   ·have HS2:=Za (HS.out.trans (by rw [if_pos hk0]))
    clear HS
    go_wp2_with fail
    refine (Znd (rest % 256) (by omega) _ (HTB.out.on HN.out)).mono ?_
    rintro e w1 ⟨r,rfl,hr,hn1⟩
    have hrs:r.size≤5:=by rw [← tl_length,hr];exact Zg8 _
    have HRR:=Za hr
    have HN1:=Za (HN.out.then hn1)
    clear hr hn1
    go_wp2
    go_roundw
    case rel=>exact ⟨k + 1,_,rest / 256,by omega,rfl,by simp,by go_num,HNR.out,by rw [HS2.out,Ze,Ze,HRR.out,HE.out];rfl,HN1.out⟩
    case measure=>simp [intOf];omega
   ·have HS2:=Za (HS.out.trans (by rw [if_neg hk0]))
    clear HS
    go_wp2_with fail
    refine (Znd (rest % 256) (by omega) _ (HTB.out.on HN.out)).mono ?_
    rintro e w1 ⟨r,rfl,hr,hn1⟩
    have hrs:r.size≤5:=by rw [← tl_length,hr];exact Zg8 _
    have HRR:=Za hr
    have HN1:=Za (HN.out.then hn1)
    clear hr hn1
    go_wp2
    go_roundw
    case rel=>exact ⟨k + 1,_,rest / 256,by omega,rfl,by simp,by go_num,HNR.out,by rw [HS2.out,Ze,HRR.out,HE.out],HN1.out⟩
    case measure=>simp [intOf];omega
  ·have HE2:=Za (show tl txt=ZcR v by rw [HE.out,show k=4 by omega];rfl)
   go_wp2
   go_ret
   exact ⟨_,rfl,HE2.out,HN.out⟩
theorem Znf (l:List UInt8):(Zw l).length≤l.length:=by
 generalize hn:l.length=n
 induction n using Nat.strongRecOn generalizing l with
 | ind n ih=>
  cases l with
  | nil=>rw [Zw];simp
  | cons c r=>
   rw [List.length_cons] at hn
   have key:Zw (c :: r)=if (ZcO (c :: r)).2 then toB (ZcO (c :: r)).1 :: Zw (r.drop 2) else c :: Zw r:=by rw [Zw]
   rw [key]
   split
   ·have:=ih (r.drop 2).length (by rw [List.length_drop];omega) _ rfl
    rw [List.length_drop] at this
    rw [List.length_cons]
    omega
   ·have:=ih r.length (by omega) _ rfl
    rw [List.length_cons]
    omega
theorem ZlW (l:List UInt8):(lower l).length=l.length:=by simp [lower]
def ZbW (l:List UInt8):List UInt8 × Int:=if (l.any fun b=>among b.toNat ZdQ)=true then ([],2) else (encB (tl (ZaG 0)) (clean l),0)
set_option maxHeartbeats 2000000 in
theorem Zkq (s:ByteArray) (w:World) (hs:s.size≤1000000):
  Calls Tryz.prog 232 #[.string s] w fun e w'=>∃ r:ByteArray,e=.returned (.tuple #[.string r,.int .i64 (ZbW (tl s)).2])∧tl r=(ZbW (tl s)).1∧Nx w w':=by
 have HD:=Za (show ZbW (tl s)=if ((tl s).any fun b=>among b.toNat ZdQ)=true then ([],2) else (encB (tl (ZaG 0)) (clean (tl s)),0) from rfl)
 go_enter Tryz.func232,Tryz.ntmps232
 go_wp2
 go_loop [4] (fun i=>∃ k:Nat,k≤s.size∧i=.int .i64 k∧(((tl s).take k).any fun b=>among b.toNat ZdQ)=false) (fun i=>s.size - (intOf i).toNat)
 case atStart=>exact ⟨0,Nat.zero_le _,rfl,rfl⟩
 case round=>
  obtain ⟨k,hk,rfl,ha⟩:=hrel
  have HA:=Za ha
  clear ha
  by_cases hlt:k < s.size
  ·have hb:=bb s[k]
   cases hA:among (s[k].toNat:Int) ZdQ
   ·have HH:=Za (show (((tl s).take (k + 1)).any fun b=>among b.toNat ZdQ)=false by rw [ZE s k hlt,any_snoc,HA.out,hA];rfl)
    have HA2:=Za hA
    clear hA
    go_wp2_with (go_at_call 117;refine (Zau _ _ _ (Zd (by decide))).mono ?_;rintro e w' ⟨rfl,rfl⟩;rw [show among (s[k].toNat:Int) (tl ⟨#[0,9,10,13,32,35,47,58,60,62,63,64,91,92,93,94,124]⟩)=false from HA2.out])
    go_round
    case rel=>exact ⟨k + 1,by omega,by go_num,HH.out⟩
    case measure=>simp [intOf];omega
   ·have HE:=Za (HD.out.trans (if_pos (Zjj (fun b=>among b.toNat ZdQ) s k hlt hA)))
    have HA2:=Za hA
    clear hA
    go_wp2_with (go_at_call 117;refine (Zau _ _ _ (Zd (by decide))).mono ?_;rintro e w' ⟨rfl,rfl⟩;rw [show among (s[k].toNat:Int) (tl ⟨#[0,9,10,13,32,35,47,58,60,62,63,64,91,92,93,94,124]⟩)=true from HA2.out])
    go_ret2
    exact ⟨⟨#[]⟩,by rw [HE.out];rfl,by rw [HE.out];rfl,Nx.rfl⟩
  ·have HE:=Za (HD.out.trans (if_neg (by have h:=HA.out;rw [Zao _ _ (by omega)] at h;rw [h];decide)))
   go_wp2_with fail
   refine (ZaW s 0 _ hs).mono ?_
   rintro e w1 ⟨r,rfl,hr,hn⟩
   have HR:=Za hr
   have HN:=Za hn
   clear hr hn
   go_wp2
   go_ret2
   exact ⟨r,by rw [HE.out];rfl,by rw [HE.out];exact HR.out,HN.out⟩
def Zd0 (d:List UInt8) (qs:List (List UInt8)):List UInt8 × Int:=
 if ZbN qs=false then (d,0) else if (ip4 qs).2=true then (ZcR (ip4 qs).1.toNat,0) else ([],2)
def ZaA (l:List UInt8):List UInt8 × Int:=
 if (beyondB (lower (Zw l)) || Zsk (bsplit 46 (lower (Zw l))))=true then ([],3)
 else if plainDom (lower (Zw l))=false then ([],2)
 else Zd0 (lower (Zw l)) (ZdZ (bsplit 46 (lower (Zw l))))
theorem Zqe (ps:List (List UInt8)):∀ room value,0≤room→room≤4294967296→0≤value→0≤(ip4Go ps room value).1∧(ip4Go ps room value).1≤value + ps.length * 4294967296:=by
 induction ps with
 | nil=>intro room value h0 h1 h2;rw [ip4Go];exact ⟨h2,by simp⟩
 | cons p r ih=>
  intro room value h0 h1 h2
  rw [ip4Go,List.length_cons]
  split
  ·exact ⟨by decide,by show (0:Int)≤_;omega⟩
  ·split
   ·exact ⟨by decide,by show (0:Int)≤_;omega⟩
   ·rename_i hb
    have hr:=Zfb p
    have hlt:(ZG p).1 < room:=Int.not_le.1 (fun h=>hb (Or.inl h))
    split
    ·rename_i hne
     have h255:¬ 255 < (ZG p).1:=fun h=>hb (Or.inr ⟨hne,h⟩)
     have hd0:0≤room / 256:=by omega
     have hd1:room / 256≤16777216:=by omega
     have hm0:0≤(ZG p).1 * (room / 256):=Int.mul_nonneg hr.1 hd0
     have hm1:(ZG p).1 * (room / 256)≤255 * 16777216:=Int.mul_le_mul (by omega) hd1 hd0 (by decide)
     have:=ih (room / 256) (value + (ZG p).1 * (room / 256)) hd0 (by omega) (by omega)
     exact ⟨this.1,by omega⟩
    ·have:=ih room (value + (ZG p).1) h0 h1 (by omega)
     exact ⟨this.1,by omega⟩
theorem Zur (ps:List (List UInt8)):0≤(ip4 ps).1∧(ip4 ps).1≤17179869184:=by
 unfold ip4
 split
 ·exact ⟨by decide,by decide⟩
 ·have:=Zqe ps 4294967296 0 (by decide) (by decide) (by decide)
  exact ⟨this.1,by omega⟩
set_option maxHeartbeats 4000000 in
theorem ZiE (s:ByteArray) (w:World) (hs:s.size≤1000000) (ht:Tb w):
  Calls Tryz.prog 231 #[.string s] w fun e w'=>∃ r:ByteArray,e=.returned (.tuple #[.string r,.int .i64 (ZaA (tl s)).2])∧tl r=(ZaA (tl s)).1∧Nx w w':=by
 have HTB:=Za ht
 clear ht
 go_enter Tryz.func231,Tryz.ntmps231
 go_wp2_with fail
 refine (Zob s _ hs).mono ?_
 rintro e w1 ⟨dec,rfl,hdec,hn1⟩
 have hds:dec.size≤1000000:=by have:=Znf (tl s);rw [← hdec,tl_length,tl_length] at this;omega
 go_wp2_with fail
 refine (Ziw dec _ hds).mono ?_
 rintro e w2 ⟨d,rfl,hd,hn2⟩
 have hdd:d.size≤1000000:=by have:=ZlW (tl dec);rw [← hd,tl_length,tl_length] at this;omega
 have HD:=Za (show ZaA (tl s)=if (beyondB (tl d) || Zsk (bsplit 46 (tl d)))=true then ([],3) else if plainDom (tl d)=false then ([],2) else Zd0 (tl d) (ZdZ (bsplit 46 (tl d))) by
  unfold ZaA;rw [hd,hdec])
 have HN2:=Za (hn1.then hn2)
 clear hdec hn1 hd hn2
 go_wp2_with fail
 refine (Zhm d 46 _ hdd).mono ?_
 rintro e w3 ⟨v,bs,rfl,hv,hbs,hn3⟩
 rw [← hbs] at HD
 have HSZ:=Za (show ∀ b∈bs,b.size≤1000000 from fun b hb=>Nat.le_trans (Zfe hbs b hb) hdd)
 have HN3:=Za (HN2.out.then hn3)
 have HV:=Za hv
 clear hbs hn3 hv HN2
 cases hbe:beyondB (tl d)
 ·cases hpu:Zsk (bs.map tl)
  ·have HD2:=Za (HD.out.trans (if_neg (by rw [hbe,hpu];decide)))
   have HBE:=Za hbe
   have HPU:=Za hpu
   clear HD hbe hpu
   cases hpl:plainDom (tl d)
   ·have HE:=Za (HD2.out.trans (if_pos hpl))
    have HPL:=Za hpl
    clear HD2 hpl
    go_wp2_with (first | (go_at_call 242;refine (ZeG _ _ (Zd hdd)).mono ?_;rintro e w' ⟨rfl,rfl⟩;rw [HBE.out]) | (go_at_call 243;refine (Zg5 _ bs _ HV.out HSZ.out).mono ?_;rintro e w' ⟨rfl,rfl⟩;rw [HPU.out]) | (go_at_call 244;refine (Zgy _ _ (Zd hdd)).mono ?_;rintro e w' ⟨rfl,rfl⟩;rw [HPL.out]))
    go_ret2
    exact ⟨⟨#[]⟩,by rw [HE.out];rfl,by rw [HE.out];rfl,HN3.out⟩
   ·have HE:=Za (HD2.out.trans (if_neg (by rw [hpl];decide)))
    have HPL:=Za hpl
    rw [← ZpX] at HE
    clear HD2 hpl
    go_wp2_with (first | (go_at_call 242;refine (ZeG _ _ (Zd hdd)).mono ?_;rintro e w' ⟨rfl,rfl⟩;rw [HBE.out]) | (go_at_call 243;refine (Zg5 _ bs _ HV.out HSZ.out).mono ?_;rintro e w' ⟨rfl,rfl⟩;rw [HPU.out]) | (go_at_call 244;refine (Zgy _ _ (Zd hdd)).mono ?_;rintro e w' ⟨rfl,rfl⟩;rw [HPL.out]))
    refine (ZpZ _ bs _ HV.out).mono ?_
    rintro e w' ⟨v2,rfl,hv2,rfl⟩
    have HV2:=Za hv2
    have HSZ2:=Za (show ∀ b∈Zf4 bs,b.size≤1000000 from fun b hb=>HSZ.out b (ZpY hb))
    clear hv2
    generalize Zf4 bs=qs at *
    have HDE:=Za (show Zd0 (tl d) (qs.map tl)=if ZbN (qs.map tl)=false then (tl d,0) else if (ip4 (qs.map tl)).2=true then (ZcR (ip4 (qs.map tl)).1.toNat,0) else ([],2) from rfl)
    cases hen:ZbN (qs.map tl)
    ·have HE2:=Za (HE.out.trans (HDE.out.trans (if_pos hen)))
     have HEN:=Za hen
     clear hen HE HDE
     go_wp2_with (go_at_call 246;refine (Zfc _ qs _ HV2.out HSZ2.out).mono ?_;rintro e w' ⟨rfl,rfl⟩;rw [HEN.out])
     go_ret2
     exact ⟨d,by rw [HE2.out];rfl,by rw [HE2.out],HN3.out⟩
    ·have HE2:=Za (HE.out.trans (HDE.out.trans (if_neg (by rw [hen];decide))))
     have HEN:=Za hen
     have hrg:=Zur (qs.map tl)
     clear hen HE HDE
     generalize hq:ip4 (qs.map tl)=q at *
     have HQ:=Za hq
     clear hq
     obtain ⟨val,ok⟩:=q
     simp only at HE2 hrg
     obtain ⟨vn,rfl⟩:∃ vn:Nat,val=(vn:Int):=⟨val.toNat,by omega⟩
     rw [Int.toNat_natCast] at HE2
     have hvn:vn≤1099511627776:=by omega
     clear hrg
     cases ok
     ·have HE3:=Za (HE2.out.trans (if_neg (by decide)))
      clear HE2
      go_wp2_with (first | (go_at_call 246;refine (Zfc _ qs _ HV2.out HSZ2.out).mono ?_;rintro e w' ⟨rfl,rfl⟩;rw [HEN.out]) | (go_at_call 247;refine (Zp0 _ qs _ HV2.out HSZ2.out).mono ?_;rintro e w' ⟨rfl,rfl⟩;rw [HQ.out]))
      go_ret2
      exact ⟨⟨#[]⟩,by rw [HE3.out];rfl,by rw [HE3.out];rfl,HN3.out⟩
     ·have HE3:=Za (HE2.out.trans (if_pos rfl))
      clear HE2
      go_wp2_with (first | (go_at_call 246;refine (Zfc _ qs _ HV2.out HSZ2.out).mono ?_;rintro e w' ⟨rfl,rfl⟩;rw [HEN.out]) | (go_at_call 247;refine (Zp0 _ qs _ HV2.out HSZ2.out).mono ?_;rintro e w' ⟨rfl,rfl⟩;rw [HQ.out]) | (go_at_call 248;refine (ZlV vn hvn _ (HTB.out.on HN3.out)).mono ?_;rintro e w4 ⟨r,rfl,hr,hn4⟩;have HR:=Za hr;have HN4:=Za (HN3.out.then hn4);clear hr hn4))
      go_ret2
      exact ⟨r,by rw [HE3.out];rfl,by rw [HE3.out];exact HR.out,HN4.out⟩
  ·have HE:=Za (HD.out.trans (if_pos (by rw [hpu];simp)))
   have HBE:=Za hbe
   have HPU:=Za hpu
   clear HD hbe hpu
   go_wp2_with (first | (go_at_call 242;refine (ZeG _ _ (Zd hdd)).mono ?_;rintro e w' ⟨rfl,rfl⟩;rw [HBE.out]) | (go_at_call 243;refine (Zg5 _ bs _ HV.out HSZ.out).mono ?_;rintro e w' ⟨rfl,rfl⟩;rw [HPU.out]))
   go_ret2
   exact ⟨⟨#[]⟩,by rw [HE.out];rfl,by rw [HE.out];rfl,HN3.out⟩
 ·have HE:=Za (HD.out.trans (if_pos (by rw [hbe];simp)))
  have HBE:=Za hbe
  clear HD hbe
  go_wp2_with (first | (go_at_call 242;refine (ZeG _ _ (Zd hdd)).mono ?_;rintro e w' ⟨rfl,rfl⟩;rw [HBE.out]) | (go_at_call 243;refine (Zg5 _ bs _ HV.out HSZ.out).mono ?_;rintro e w' ⟨rfl,rfl⟩))
  go_ret2
  exact ⟨⟨#[]⟩,by rw [HE.out];rfl,by rw [HE.out];rfl,HN3.out⟩
def ZR (l:List UInt8) (sp:Bool):List UInt8 × Int:=if ((l.getD 0 0).toNat:Int)=91 then Zap l else if sp=true then ZaA l else ZbW l
set_option maxHeartbeats 2000000 in
theorem Zkr (s:ByteArray) (sp:Bool) (w:World) (hs:s.size≤1000000) (ht:Tb w):
  Calls Tryz.prog 207 #[.string s,.bool sp] w fun e w'=>∃ r:ByteArray,e=.returned (.tuple #[.string r,.int .i64 (ZR (tl s) sp).2])∧tl r=(ZR (tl s) sp).1∧Nx w w':=by
 have HD:=Za (show ZR (tl s) sp=if (((tl s).getD 0 0).toNat:Int)=91 then Zap (tl s) else if sp=true then ZaA (tl s) else ZbW (tl s) from rfl)
 by_cases h0:s.size=0
 ·have HE:=Za (HD.out.trans (if_neg (by rw [ZB h0];decide)))
  have h0':=Zo h0
  clear HD h0
  cases sp
  ·have HE2:Hid (ZR (tl s) false=ZbW (tl s)):=Za (HE.out.trans (if_neg (by decide)))
   clear HE
   go_enter Tryz.func207,Tryz.ntmps207
   go_wp2_with (go_at_call 232;refine (Zkq s _ hs).mono ?_;rintro e w1 ⟨r,rfl,hr,hn⟩;have HR:=Za hr;have HN:=Za hn;clear hr hn)
   go_ret2
   exact ⟨r,by rw [HE2.out];rfl,by rw [HE2.out];exact HR.out,HN.out⟩
  ·have HE2:Hid (ZR (tl s) true=ZaA (tl s)):=Za (HE.out.trans (if_pos rfl))
   clear HE
   go_enter Tryz.func207,Tryz.ntmps207
   go_wp2_with (go_at_call 231;refine (ZiE s _ hs ht).mono ?_;rintro e w1 ⟨r,rfl,hr,hn⟩;have HR:=Za hr;have HN:=Za hn;clear hr hn)
   go_ret2
   exact ⟨r,by rw [HE2.out];rfl,by rw [HE2.out];exact HR.out,HN.out⟩
 ·have hpos:0 < s.size:=by omega
  have h0':=Zi h0
  rw [ZdL s 0 hpos] at HD
  have hb:=bb (s[0]'hpos)
  clear h0
  cases h91:(((s[0]'hpos).toNat:Int) == 91)
  ·have HE:=Za (HD.out.trans (if_neg (by simpa using h91)))
   clear HD
   cases sp
   ·have HE2:Hid (ZR (tl s) false=ZbW (tl s)):=Za (HE.out.trans (if_neg (by decide)))
    clear HE
    go_enter Tryz.func207,Tryz.ntmps207
    go_wp2_with (go_at_call 232;refine (Zkq s _ hs).mono ?_;rintro e w1 ⟨r,rfl,hr,hn⟩;have HR:=Za hr;have HN:=Za hn;clear hr hn)
    go_ret2
    exact ⟨r,by rw [HE2.out];rfl,by rw [HE2.out];exact HR.out,HN.out⟩
   ·have HE2:Hid (ZR (tl s) true=ZaA (tl s)):=Za (HE.out.trans (if_pos rfl))
    clear HE
    go_enter Tryz.func207,Tryz.ntmps207
    go_wp2_with (go_at_call 231;refine (ZiE s _ hs ht).mono ?_;rintro e w1 ⟨r,rfl,hr,hn⟩;have HR:=Za hr;have HN:=Za hn;clear hr hn)
    go_ret2
    exact ⟨r,by rw [HE2.out];rfl,by rw [HE2.out];exact HR.out,HN.out⟩
  ·have HE:=Za (HD.out.trans (if_pos (by simpa using h91)))
   clear HD
   go_enter Tryz.func207,Tryz.ntmps207
   go_wp2_with (go_at_call 230;refine (Zkp s _ hs ht).mono ?_;rintro e w1 ⟨r,rfl,hr,hn⟩;have HR:=Za hr;have HN:=Za hn;clear hr hn)
   go_ret2
   exact ⟨r,by rw [HE.out];rfl,by rw [HE.out];exact HR.out,HN.out⟩
theorem Zjs {w:World} {base base':Nat} {e:TypeId} {size:Nat} {v:Value} {n:Nat} {xs:List Value} (h:w.ownsRow base e size v n xs) (hb:base'≤base):w.ownsRow base' e size v n xs:=by
 obtain ⟨h1,h2 | ⟨g,cap,cur,h2,h3,h4⟩⟩:=h
 ·exact ⟨h1,.inl h2⟩
 ·exact ⟨h1,.inr ⟨g,cap,cur,h2,Nat.le_trans hb h3,h4⟩⟩
theorem PthAt.facts6 {w:World} {pb:Nat} {f s:Bool} {v:Value} (h:PthAt w pb f s v):w.cell? ⟨pb,0,none⟩=some (.bool f)∧w.cell? ⟨pb,1,none⟩=some (.bool s)∧w.cell? ⟨pb,2,none⟩=some v∧w.frozen? ⟨pb,0,none⟩=false∧w.frozen? ⟨pb,1,none⟩=false∧w.frozen? ⟨pb,2,none⟩=false:=by
 unfold PthAt at h
 refine ⟨?_,?_,?_,?_,?_,?_⟩ <;> simp [World.cell?,World.frozen?,h]
def TyB (w:World) (pb:Nat) (t:TypeId):Prop:=∃ (cs:Array Value) (fz:Nat × Nat),w.heap[pb]?=some (Obj.cells cs t fz)
theorem TyB.set {w:World} {pb:Nat} {t:TypeId} (h:TyB w pb t) (q i:Nat) (u:Value):TyB (w.setCell ⟨q,i,none⟩ u) pb t:=by
 obtain ⟨cs,fz,h⟩:=h
 by_cases hq:q=pb
 ·subst hq
  simp only [TyB,World.setCell,Array.getElem?_modify,if_pos,h]
  exact ⟨_,_,rfl⟩
 ·simp only [TyB,World.setCell,Array.getElem?_modify,if_neg hq]
  exact ⟨cs,fz,h⟩
theorem TyB.own {w:World} {pb base:Nat} {t:TypeId} (h:TyB w pb t) (ht:t≠9) {v:Value} {bs:List ByteArray} (ho:Zc2 w base v bs) (i:Nat) (u:Value):Zc2 (w.setCell ⟨pb,i,none⟩ u) base v bs:=by
 obtain ⟨cs,fz,h⟩:=h
 obtain ⟨h1,⟨rfl,h3⟩ | ⟨g,cap,cur,rfl,h4,h5,h6⟩⟩:=ho
 ·exact ⟨h1,.inl ⟨rfl,h3⟩⟩
 ·refine ⟨h1,.inr ⟨g,cap,cur,rfl,h4,?_,h6⟩⟩
  have hne:pb≠g:=by
   intro e
   subst e
   rw [h] at h5
   simp only [Option.some.injEq,Obj.cells.injEq] at h5
   exact ht h5.2.1
  simp only [World.setCell,Array.getElem?_modify,if_neg hne]
  exact h5
theorem PthAt.ty {w:World} {pb:Nat} {f s:Bool} {v:Value} (h:PthAt w pb f s v):TyB w pb 168:=⟨_,_,h⟩
theorem PthAt.far {w:World} {pb q:Nat} {f s:Bool} {v:Value} (h:PthAt w pb f s v) (hq:q≠pb) (i:Nat) (u:Value):PthAt (w.setCell ⟨q,i,none⟩ u) pb f s v:=by
 unfold PthAt at *
 simp only [World.setCell,Array.getElem?_modify,if_neg hq]
 exact h
theorem PthAt.all {w:World} {pb:Nat} {f s:Bool} {v:Value} (h:PthAt w pb f s v) (f' s':Bool) (v':Value):PthAt (((w.setCell ⟨pb,0,none⟩ (.bool f')).setCell ⟨pb,1,none⟩ (.bool s')).setCell ⟨pb,2,none⟩ v') pb f' s' v':=by
 unfold PthAt at *
 simp [World.setCell,Array.getElem?_modify,h]
def Zs:List UInt8:=[102,105,108,101]
set_option maxHeartbeats 2000000 in
theorem ZhB (v:Value) (bs:List ByteArray) (sch:ByteArray) (w:World) (hv:Zcb w v bs) (hl:bs.length≤1000000):
  Calls Tryz.prog 189 #[v,.string sch] w fun e w'=>∃ v',e=.returned (.agg #[.bool (tl sch == Zs),.bool (Zc (tl sch)),v'])∧Zc2 w' w.heap.size v' bs∧Nx w w':=by
 have HV:=Za hv
 clear hv
 go_enter Tryz.func189,Tryz.ntmps189
 have HX:=Za (show (sch.toList == [102,105,108,101])=(tl sch == Zs) by rw [ByteArray.toList_eq];rfl)
 go_wp2_with (go_at_call 112;refine (Zac _ _).mono ?_;rintro e w' ⟨rfl,rfl⟩)
 rw [HX.out]
 refine (Zna v bs _ ?_ hl).mono ?_
 ·exact HV.out.on ((Nx.rfl.alloc _).alloc _)
 rintro e w2 ⟨v2,rfl,ho,hn⟩
 have HP2:=Za (PthAt.on (show PthAt ((w.alloc (Obj.cells #[Value.bool false,Value.bool false,Value.slice none 0 0] 168)).alloc (Obj.cells #[Value.bool (tl sch == Zs),Value.bool (Zc (tl sch)),Value.slice none 0 0] 168)) (w.heap.size + 1) _ _ _ from by unfold PthAt;rw [show w.heap.size + 1=(w.alloc (Obj.cells #[Value.bool false,Value.bool false,Value.slice none 0 0] 168)).heap.size by simp];exact heap_alloc_new _ _) hn)
 have HR2:=Za (PthAt.on (show PthAt ((w.alloc (Obj.cells #[Value.bool false,Value.bool false,Value.slice none 0 0] 168)).alloc (Obj.cells #[Value.bool (tl sch == Zs),Value.bool (Zc (tl sch)),Value.slice none 0 0] 168)) w.heap.size _ _ _ from PthAt.on (heap_alloc_new w _) (Nx.rfl.alloc _)) hn)
 have HN2:=Za (show Nx w w2 from ((Nx.rfl.alloc _).alloc _).then hn)
 have HO2:=Za (show Zc2 w2 w.heap.size v2 bs from Zjs ho (by simp;omega))
 obtain ⟨ao,cap,hv2⟩:∃ ao cap,v2=.slice ao bs.length cap:=by
  obtain ⟨h1,⟨h2,h3⟩ | ⟨g',cap',cur,h2,h4⟩⟩:=HO2.out
  ·exact ⟨none,0,by rw [h2,h3]⟩
  ·exact ⟨_,_,h2⟩
 subst hv2
 clear ho hn
 obtain ⟨hc0,hc1,hc2,hf2⟩:=HP2.out.facts
 obtain ⟨hd0,hd1,hd2,hg0,hg1,hg2⟩:=HR2.out.facts6
 have HTP:=Za (HP2.out.ty)
 have HTR:=Za (HR2.out.ty)
 have HR3:=Za ((HR2.out.far (q:=w.heap.size + 1) (by omega) 2 (.slice ao bs.length cap)).all (tl sch == Zs) (Zc (tl sch)) (.slice ao bs.length cap))
 obtain ⟨hs0,hs1,hs2,-,-,-⟩:=HR3.out.facts6
 go_wp2
 exact bodyPost_ret (v:=.agg #[.bool (tl sch == Zs),.bool (Zc (tl sch)),.slice ao bs.length cap]) (by simp [results,Tryz.results189,go_sem,hs0,hs1,hs2]) rfl ⟨_,rfl,
  ((HTR.out.set _ _ _).set _ _ _ |>.set _ _ _).own (by decide) (((HTR.out.set _ _ _).set _ _ _).own (by decide) ((HTR.out.set _ _ _).own (by decide) (HTP.out.own (by decide) HO2.out _ _) _ _) _ _) _ _,
  (((HN2.out.setCell (by simp) _).setCell (Nat.le_refl _) _).setCell (Nat.le_refl _) _).setCell (Nat.le_refl _) _⟩
end Go.Proofs.YtchkhibgbnhjpaaGreatDoor
