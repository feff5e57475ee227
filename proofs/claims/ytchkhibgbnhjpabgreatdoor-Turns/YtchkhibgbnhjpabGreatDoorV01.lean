import Derived.Test.YtchkhibgbnhjpabGreatDoorV00
open List renaming append_assoc→Xb,cons_append→Xd,length_cons→Xe,nil_append→Xf,drop_drop→Xh
open Nat renaming zero_le→Xa,le_refl→Xc,le_of_not_lt→Xg
namespace Go.Proofs.YtchkhibgbnhjpabGreatDoor
open Go.RowKit
set_option maxHeartbeats 800000
set_option maxRecDepth 100000
theorem Zam(s:BA)(n:Int)(w:World)(hs:s.size≤maxLen):Calls Tryz.prog 194 #[.string s,.int .u8 n] w fun e w'=>e=.returned (.bool (Zx n (tl s)))∧w=w':=by
 unfold maxLen at hs
 go_enter Tryz.func194,Tryz.ntmps194
 go_wp2
 go_loop [5] (fun i=>∃k:Nat,k≤s.size∧i=.int .i64 k∧Zx n ((tl s).take k)=false) (fun i=>s.size-(intOf i).toNat)
 case atStart=>exact⟨0,Xa _,rfl,rfl⟩
 case round=>
  obtain⟨k,hk,rfl,ha⟩:=hrel;have HA:=Za ha;clear ha
  by_cases hlt:k<s.size
  ·have hb:=bb s[k]
   go_wp2
   ·go_ret
    exact⟨Zi (Znb n s k hlt (by assumption)).symm,rfl⟩
   ·go_round
    case rel=>exact⟨k+1,by omega,by go_num,by rw[ZG s k hlt,among_snoc,HA.out];assumption⟩
    case measure=>simp[intOf];omega
  ·go_wp2
   go_ret
   exact⟨Zi (by rw[←HA.out,Zah _ _ (by omega)]),rfl⟩
def bcut(p:UInt8→Bool):List UInt8→List UInt8×List UInt8×Bool
 | []=>([],[],false)
 | c::r=>if p c then([],r,true)else(c::(bcut p r).1,(bcut p r).2)
def Zc8(p:UInt8→Bool)(l:List UInt8)(k:Nat):Prop:=bcut p l=(l.take k++(bcut p (l.drop k)).1,(bcut p (l.drop k)).2)
theorem Zfv(p:UInt8→Bool)(l:LB):Zc8 p l 0:=by simp[Zc8]
theorem Zfw{p:UInt8→Bool}{s:BA}{k:Nat}(hk:k<s.size)(h:Zc8 p (tl s) k)(ha:p s[k]=false):Zc8 p (tl s) (k+1):=by unfold Zc8 at *;rw[h,ZU s k hk,ZG s k hk,Xb];simp only[bcut,ha,Bool.false_eq_true,if_false,Xd,Xf]
theorem ZgE{p:UInt8→Bool}{s:BA}{k:Nat}(hk:k<s.size)(h:Zc8 p (tl s) k)(ha:p s[k]=true):bcut p (tl s)=((tl s).take k,(tl s).drop (k+1),true):=by
 unfold Zc8 at h;rw[h,ZU s k hk]
 simp[bcut,ha]
theorem ZgF{p:UInt8→Bool}{s:BA}{k:Nat}(hk:s.size≤k)(h:Zc8 p (tl s) k):bcut p (tl s)=(tl s,[],false):=by
 unfold Zc8 at h;rw[h,Zy s k hk,Zah s k hk]
 simp[bcut]
def ZlB(q:List UInt8×List UInt8×Bool)(e:Ending):Prop:=∃a b:ByteArray,e=.returned (.tuple #[.string a,.string b,.bool q.2.2])∧tl a=q.1∧tl b=q.2.1
def isB(n:Int)(b:UInt8):Bool:=(b.toNat:Int)==n
theorem ZcN(s:BA)(n:Int)(w:World)(hs:s.size≤maxLen):Calls Tryz.prog 141 #[.string s,.int .u8 n] w fun e w'=>ZlB (bcut (isB n) (tl s)) e∧Nx w w':=by
 unfold maxLen at hs
 go_enter Tryz.func141,Tryz.ntmps141
 go_wp2
 go_loop [7] (fun i=>∃k:Nat,k≤s.size∧i=.int .i64 k∧Zc8 (isB n) (tl s) k) (fun i=>s.size-(intOf i).toNat)
 case atStart=>exact⟨0,Xa _,rfl,Zfv _ _⟩
 case round=>
  obtain⟨k,hk,rfl,ha⟩:=hrel;have HA:=Za ha;clear ha
  by_cases hlt:k<s.size
  ·have hb:=bb s[k]
   go_wp2
   ·have HR:=Za (ZgE hlt HA.out (by assumption))
    go_region
    all_goals go_wp2
    all_goals go_ret3
    all_goals exact⟨⟨_,_,by rw[HR.out];rfl,by rw[HR.out,Zih],by rw[HR.out,ZaE]⟩,Nx.rfl.drew⟩
   ·go_round
    case rel=>exact⟨k+1,by omega,by go_num,Zfw hlt HA.out (by assumption)⟩
    case measure=>simp[intOf];omega
  ·have HR:=Za (ZgF (Xg hlt) HA.out)
   go_wp2
   go_ret3
   exact⟨⟨_,_,by rw[HR.out];rfl,by rw[HR.out],by rw[HR.out];rfl⟩,Nx.rfl⟩
def bcutLast(n:Int)(l:List UInt8):List UInt8×List UInt8×Bool:=
 match l with
 | []=>([],[],false)
 | c::r=>if(bcutLast n r).2.2 then(c::(bcutLast n r).1,(bcutLast n r).2)else if isB n c then([],r,true)else([],c::r,false)
theorem Zeb(n:Int)(l:LB)(h:Zx n l=false):bcutLast n l=([],l,false):=by
 induction l with
 | nil=>rfl
 | cons c r ih=>
  simp only[Zx,List.any_cons,Bool.or_eq_false_iff]at h
  rw[bcutLast,ih (by simpa [Zx]using h.2)]
  simp[isB,h.1]
theorem Zii(n:Int)(a r:LB)(c:UInt8)(hc:isB n c=true)(h:Zx n r=false):bcutLast n (a++c::r)=(a,r,true):=by
 induction a with
 | nil=>rw[Xf,bcutLast,Zeb n r h];simp[hc]
 | cons x a ih=>rw[Xd,bcutLast,ih];simp
theorem Zfx(s:BA)(n:Int)(k:Nat)(h:k<s.size):Zx n ((tl s).drop k)=(((s[k].toNat:Int)==n)||Zx n ((tl s).drop (k+1))):=by rw[ZU s k h];simp[Zx]
theorem Zij(s:BA)(n:Int)(w:World)(hs:s.size≤maxLen):Calls Tryz.prog 261 #[.string s,.int .u8 n] w fun e w'=>ZlB (bcutLast n (tl s)) e∧Nx w w':=by
 unfold maxLen at hs
 go_enter Tryz.func261,Tryz.ntmps261
 go_wp2
 go_loop [7] (fun i=>∃k:Nat,k≤s.size∧i=.int .i64 ((k:Int)-1)∧Zx n ((tl s).drop k)=false) (fun i=>(intOf i+1).toNat)
 case atStart=>exact⟨s.size,Xc _,by go_num,by rw[Zy s _ (Xc _)];rfl⟩
 case round=>
  obtain⟨k,hk,rfl,ha⟩:=hrel;have HA:=Za ha;clear ha
  cases k with
  | zero=>
   have HR:=Za (Zeb n (tl s) HA.out);go_wp2
   go_ret3
   exact⟨⟨_,_,by rw[HR.out];rfl,by rw[HR.out];rfl,by rw[HR.out]⟩,Nx.rfl⟩
  | succ k=>
   have hlt:k<s.size:=by omega
   have hb:=bb s[k]
   have ek:((k+1:Nat):Int)-1=(k:Int):=by omega
   rw[ek];clear ek
   by_cases hc:((s[k].toNat:Int)==n)=true
   ·have HR:=Za (show bcutLast n (tl s)=((tl s).take k,(tl s).drop (k+1),true)by
     conv=>lhs;rw[←List.take_append_drop k (tl s),ZU s k hlt]
     exact Zii n _ _ _ hc HA.out)
    go_wp2
    go_region
    all_goals go_wp2
    all_goals go_ret3
    all_goals exact⟨⟨_,_,by rw[HR.out];rfl,by rw[HR.out,Zih],by rw[HR.out,ZaE]⟩,Nx.rfl.drew⟩
   ·simp only[Bool.not_eq_true]at hc
    have HD:=Za (Zfx s n k hlt);go_wp2
    go_round
    case rel=>exact⟨k,by omega,by go_num,by rw[HD.out,hc,Bool.false_or];exact HA.out⟩
    case measure=>simp[intOf]
theorem ZaZ(n:Int)(w:World):Calls Tryz.prog 253 #[.int .u8 n] w fun e w'=>e=.returned (.bool (Zbv n))∧w=w':=by
 go_enter Tryz.func253,Tryz.ntmps253
 go_wp2
 all_goals go_ret
 all_goals exact⟨Zi (by rw[Bool.eq_iff_iff];simp[Zbv];omega),rfl⟩
def Zc1(special:Bool)(n:Int):Bool:=n==47||(special&&n==92)
theorem Zfy(n:Int)(sp:Bool)(w:World):Calls Tryz.prog 257 #[.int .u8 n,.bool sp] w fun e w'=>e=.returned (.bool (Zc1 sp n))∧w=w':=by
 by_cases h:n=47
 ·subst h
  go_enter Tryz.func257,Tryz.ntmps257
  go_wp2
  all_goals go_ret
  all_goals exact⟨Zi (by simp[Zc1]),rfl⟩
 ·have h':(n==47)=false:=by simp[h]
  have HE:=Za (show Zc1 sp n=(sp&&n==92)by simp[Zc1,h])
  clear h
  cases sp
  ·go_enter Tryz.func257,Tryz.ntmps257
   go_wp2
   all_goals go_ret
   all_goals exact⟨Zi (by rw[HE.out];rfl),rfl⟩
  ·go_enter Tryz.func257,Tryz.ntmps257
   go_wp2
   all_goals go_ret
   all_goals exact⟨Zi (by rw[HE.out];rfl),rfl⟩
def slB(sp:Bool)(b:UInt8):Bool:=Zc1 sp (b.toNat:Int)
theorem Zci(s:BA)(sp:Bool)(w:World)(hs:s.size≤maxLen):Calls Tryz.prog 260 #[.string s,.bool sp] w fun e w'=>ZlB (bcut (slB sp) (tl s)) e∧Nx w w':=by
 unfold maxLen at hs
 go_enter Tryz.func260,Tryz.ntmps260
 go_wp2
 go_loop [7] (fun i=>∃k:Nat,k≤s.size∧i=.int .i64 k∧Zc8 (slB sp) (tl s) k) (fun i=>s.size-(intOf i).toNat)
 case atStart=>exact⟨0,Xa _,rfl,Zfv _ _⟩
 case round=>
  obtain⟨k,hk,rfl,ha⟩:=hrel;have HA:=Za ha;clear ha
  by_cases hlt:k<s.size
  ·have hb:=bb s[k]
   go_wp2_with (go_at_call 257;refine(Zfy _ _ _).mono ?_;rintro e w' ⟨rfl,rfl⟩)
   ·have HR:=Za (ZgE hlt HA.out (by assumption))
    go_region
    all_goals go_wp2
    all_goals go_ret3
    all_goals exact⟨⟨_,_,by rw[HR.out];rfl,by rw[HR.out,Zih],by rw[HR.out,ZaE]⟩,Nx.rfl.drew⟩
   ·go_round
    case rel=>exact⟨k+1,by omega,by go_num,Zfw hlt HA.out (by assumption)⟩
    case measure=>simp[intOf];omega
  ·have HR:=Za (ZgF (Xg hlt) HA.out)
   go_wp2
   go_ret3
   exact⟨⟨_,_,by rw[HR.out];rfl,by rw[HR.out],by rw[HR.out];rfl⟩,Nx.rfl⟩
def countSl(sp:Bool):List UInt8→Nat
 | []=>0
 | c::r=>if slB sp c then countSl sp r+1 else 0
theorem Zdz(sp:Bool)(l:LB):countSl sp l≤l.length:=by
 induction l with
 | nil=>simp[countSl]
 | cons c r ih=>rw[countSl];split<;>simp;omega
theorem Zp(s:BA)(sp:Bool)(w:World)(hs:s.size≤maxLen):Calls Tryz.prog 226 #[.string s,.bool sp] w fun e w'=>e=.returned (.int .i64 (countSl sp (tl s)))∧w=w':=by
 unfold maxLen at hs
 go_enter Tryz.func226,Tryz.ntmps226
 go_wp2
 go_loop [5] (fun i=>∃k:Nat,k≤s.size∧i=.int .i64 k∧countSl sp (tl s)=k+countSl sp ((tl s).drop k)) (fun i=>s.size-(intOf i).toNat)
 case atStart=>exact⟨0,Xa _,rfl,by simp⟩
 case round=>
  obtain⟨k,hk,rfl,ha⟩:=hrel;have HA:=Za ha;clear ha
  by_cases hlt:k<s.size
  ·have hb:=bb s[k]
   cases hsl:Zc1 sp (s[k].toNat:Int)
   ·have HR:=Za (show countSl sp (tl s)=k by rw[HA.out,ZU s k hlt,countSl,if_neg (by simp[slB,hsl])];rfl)
    go_wp2_with (go_at_call 257;refine(Zfy _ _ _).mono ?_;rintro e w' ⟨rfl,rfl⟩)
    go_ret
    exact⟨Zai (by rw[HR.out]),rfl⟩
   ·have HR:=Za (show countSl sp (tl s)=(k+1)+countSl sp ((tl s).drop (k+1))by rw[HA.out,ZU s k hlt,countSl,if_pos (by simp[slB,hsl])];omega)
    go_wp2_with (go_at_call 257;refine(Zfy _ _ _).mono ?_;rintro e w' ⟨rfl,rfl⟩)
    go_round
    case rel=>exact⟨k+1,by omega,by go_num,HR.out⟩
    case measure=>simp[intOf];omega
  ·have HR:=Za (show countSl sp (tl s)=k by rw[HA.out,Zy s k (by omega)];rfl)
   go_wp2;go_ret
   exact⟨Zai (by rw[HR.out]),rfl⟩
theorem ZdA(b:UInt8):UInt8.ofNat ((b.toNat:Int)).toNat=b:=by rw[Int.toNat_natCast];exact UInt8.ofNat_toNat
theorem ZrO{b:UInt8}(h0:65≤b.toNat)(h1:b.toNat≤90):UInt8.ofNat ((b.toNat:Int)+32).toNat=Zik b:=by
 apply UInt8.toNat_inj.1
 have:=ZkN h0 h1
 rw[UInt8.toNat_ofNat_of_lt' (by show((b.toNat:Int)+32).toNat<256;omega)]
 omega
theorem ZcB(w:World):Zhq (w.alloc (.cells #[] 5)) w.heap.size (.slice (some ⟨w.heap.size,0,none⟩) 0 0) []:=
 World.ownsRow_made w #[] 0 (Xc _) (Xa _) rfl
theorem ZlC(l:LB)(b:UInt8):Zae (l++[b])=Zae l++[Zik b]:=by simp[Zae]
theorem ZgG(s:BA)(w:World)(hs:s.size≤1000000):Calls Tryz.prog 222 #[.string s] w fun e w'=>∃r:BA,e=.returned (.string r)∧tl r=Zae (tl s)∧Nx w w':=by
 go_enter Tryz.func222,Tryz.ntmps222
 go_wp2
 go_loopw [3,4] (fun o i wr=>∃k:Nat,k≤s.size∧i=.int .i64 k∧Zhq wr w.heap.size o (Zae ((tl s).take k))∧Nx w wr) (fun _ i _=>s.size-(intOf i).toNat)
 case atStart=>exact⟨0,Xa _,rfl,ZcB w,Nx.rfl.alloc _⟩
 case round=>
  obtain⟨k,hk,rfl,hown,hnx⟩:=hrel
  by_cases hlt:k<s.size
  ·have hb:=bb s[k]
   have HTK:=Za ((congrArg Zae (ZG s k hlt)).trans (ZlC _ _));have hz:=hnx.size
   have hsz:(Zae ((tl s).take k)).length<1099511627776:=by simp only[Zae,List.length_map,List.length_take];omega
   have HO:=Za hown;have HN:=Za hnx;clear hown hnx
   by_cases hit:65≤s[k].toNat∧s[k].toNat≤90
   ·obtain⟨hi0,hi1⟩:=hit
    have HT:=Za (ZrO hi0 hi1)
    go_wp2_with (at_builtin;go_must (refine Zbn wr ((s[k].toNat:Int)+32) rfl _ _ rfl w.heap.size _ _ rfl HO.out rfl (by omega) (by omega) hsz hz ?_;intro v' w1 ho1 hb1 hk1;have HO1:=Za ho1;clear ho1))
    go_roundw
    case rel=>exact⟨k+1,by omega,by go_num,by rw[HTK.out,←HT.out];exact HO1.out,HN.out.trans hb1⟩
    case measure=>simp[intOf];omega
   ·have HT:=Za (Zc9 hit)
    have HT2:=Za (ZdA s[k])
    by_cases hi0:65≤s[k].toNat
    ·have hi1:90<s[k].toNat:=by omega
     clear hit
     go_wp2_with (at_builtin;go_must (refine Zbn wr (s[k].toNat:Int) rfl _ _ rfl w.heap.size _ _ rfl HO.out rfl (by omega) (by omega) hsz hz ?_;intro v' w1 ho1 hb1 hk1;have HO1:=Za ho1;clear ho1))
     go_roundw
     case rel=>exact⟨k+1,by omega,by go_num,by rw[HTK.out,HT.out];have h:=HO1.out;rw[HT2.out]at h;exact h,HN.out.trans hb1⟩
     case measure=>simp[intOf];omega
    ·clear hit
     go_wp2_with (at_builtin;go_must (refine Zbn wr (s[k].toNat:Int) rfl _ _ rfl w.heap.size _ _ rfl HO.out rfl (by omega) (by omega) hsz hz ?_;intro v' w1 ho1 hb1 hk1;have HO1:=Za ho1;clear ho1))
     go_roundw
     case rel=>exact⟨k+1,by omega,by go_num,by rw[HTK.out,HT.out];have h:=HO1.out;rw[HT2.out]at h;exact h,HN.out.trans hb1⟩
     case measure=>simp[intOf];omega
  ·rw[Zah s k (by omega)]at hown
   have hcv:=Zdy hown;clear hown;go_wp2;go_ret;exact⟨_,rfl,tl_mk _,hnx⟩
def ZL(n base:Int):Int×Bool:=
 let d:=if 48≤n∧n≤57 then n-48 else if 97≤n∧n≤102 then n-97+10 else if 65≤n∧n≤70 then n-65+10 else base
 if base≤d then(0,false)else(d,true)
theorem Z5(n base:Int)(w:World)(h0:0≤n)(h1:n≤255):Calls Tryz.prog 297 #[.int .u8 n,.int .i64 base] w fun e w'=>e=.returned (.tuple #[.int .i64 (ZL n base).1,.bool (ZL n base).2])∧w=w':=by
 by_cases c1:48≤n∧n≤57
 ·obtain⟨c1,c2⟩:=c1
  by_cases c3:base≤n-48
  ·have HE:=Za (show ZL n base=(0,false)by simp[ZL,c1,c2,c3])
   go_enter Tryz.func297,Tryz.ntmps297
   go_wp2;go_ret2
   exact⟨by rw[HE.out];rfl,rfl⟩
  ·have HE:=Za (show ZL n base=(n-48,true)by simp[ZL,c1,c2,c3])
   go_enter Tryz.func297,Tryz.ntmps297
   go_wp2;go_ret2
   exact⟨by rw[HE.out];rfl,rfl⟩
 by_cases d1:97≤n∧n≤102
 ·obtain⟨d1,d2⟩:=d1
  have e1:¬n≤57:=by omega
  by_cases c3:base≤n-97+10
  ·have HE:=Za (show ZL n base=(0,false)by simp[ZL,d1,d2,c3,e1])
   clear c1
   go_enter Tryz.func297,Tryz.ntmps297
   go_wp2;go_ret2
   exact⟨by rw[HE.out];rfl,rfl⟩
  ·have HE:=Za (show ZL n base=(n-97+10,true)by simp[ZL,d1,d2,c3,e1])
   clear c1
   go_enter Tryz.func297,Tryz.ntmps297
   go_wp2;go_ret2
   exact⟨by rw[HE.out];rfl,rfl⟩
 by_cases f1:65≤n∧n≤70
 ·obtain⟨f1,f2⟩:=f1
  have e1:¬n≤57:=by omega
  have e2:¬97≤n:=by omega
  by_cases c3:base≤n-65+10
  ·have HE:=Za (show ZL n base=(0,false)by simp[ZL,f1,f2,c3,e1,e2])
   clear c1 d1
   go_enter Tryz.func297,Tryz.ntmps297
   go_wp2;go_ret2
   exact⟨by rw[HE.out];rfl,rfl⟩
  ·have HE:=Za (show ZL n base=(n-65+10,true)by simp[ZL,f1,f2,c3,e1,e2])
   clear c1 d1
   go_enter Tryz.func297,Tryz.ntmps297
   go_wp2;go_ret2
   exact⟨by rw[HE.out];rfl,rfl⟩
 ·have HE:=Za (show ZL n base=(0,false)by simp[ZL,c1,d1,f1])
  by_cases g1:n<48
  ·clear c1 d1 f1
   go_enter Tryz.func297,Tryz.ntmps297
   go_wp2;go_ret2
   exact⟨by rw[HE.out];rfl,rfl⟩
  by_cases g2:n<65
  ·have g3:57<n:=by omega
   clear c1 d1 f1
   go_enter Tryz.func297,Tryz.ntmps297
   go_wp2;go_ret2
   exact⟨by rw[HE.out];rfl,rfl⟩
  by_cases g4:n<97
  ·have g3:70<n:=by omega
   clear c1 d1 f1
   go_enter Tryz.func297,Tryz.ntmps297
   go_wp2;go_ret2
   exact⟨by rw[HE.out];rfl,rfl⟩
  ·have g3:102<n:=by omega
   clear c1 d1 f1
   go_enter Tryz.func297,Tryz.ntmps297
   go_wp2;go_ret2
   exact⟨by rw[HE.out];rfl,rfl⟩
theorem Zf{s:BA}(h:s.size=0):s.toList.isEmpty=true:=by rw[ByteArray.toList_eq];show(tl s).isEmpty=true;rw[Zz h];rfl
theorem Ze{s:BA}(h:¬s.size=0):s.toList.isEmpty=false:=by
 rw[ByteArray.toList_eq];show(tl s).isEmpty=false;have:=tl_length s
 cases e:tl s with
 | nil=>rw[e]at this;simp at this;omega
 | cons=>rfl
theorem Za0(n base:Int):0≤(ZL n base).1∧((ZL n base).2=true→(ZL n base).1<base):=by
 unfold ZL;simp only
 split
 ·split
  ·simp
  ·simp only[true_implies];omega
 ·split
  ·split
   ·simp
   ·simp only[true_implies];omega
  ·split
   ·split
    ·simp
    ·simp only[true_implies];omega
   ·rw[if_pos (Int.le_refl _)];simp
def Z3(base most:Int):Int→List UInt8→Option Int
 | n,[]=>some n
 | n,c::r=>if(ZL c.toNat base).2 then Z3 base most (if n≤most then n*base+(ZL c.toNat base).1 else n) r else none
def Zv(l:List UInt8)(base most:Int):Int×Bool:=
 if l=[]then(0,false)else
 match Z3 base most 0 l with
 | none=>(0,false)
 | some n=>if most<n then(most+1,true)else(n,true)
theorem ZjD(s:BA)(most:Int)(w:World)(hs:s.size≤1000000)(hm0:0≤most)(hm1:most≤4294967295):Calls Tryz.prog 301 #[.string s,.int .i64 8,.int .i64 most] w fun e w'=>e=.returned (.tuple #[.int .i64 (Zv (tl s) 8 most).1,.bool (Zv (tl s) 8 most).2])∧w=w':=by
 by_cases he:s.size=0
 ·have HE:=Za (show Zv (tl s) 8 most=(0,false)by rw[Zz he];rfl)
  have he':s.toList.isEmpty=true:=Zf he;clear he
  go_enter Tryz.func301,Tryz.ntmps301
  go_wp2;go_ret2
  exact⟨by rw[HE.out];rfl,rfl⟩
 have he':s.toList.isEmpty=false:=Ze he
 have HNE:=Za (show ¬tl s=[]by intro h;have:=tl_length s;rw[h]at this;simp at this;omega)
 go_enter Tryz.func301,Tryz.ntmps301
 go_wp2
 go_loop [8,9] (fun x i=>∃(k:Nat) (n:Int),k≤s.size∧i=.int .i64 k∧x=.int .i64 n∧0≤n∧n≤4294967295*8+8∧Z3 8 most 0 (tl s)=Z3 8 most n ((tl s).drop k)) (fun _ i=>s.size-(intOf i).toNat)
 case atStart=>exact⟨0,0,Xa _,rfl,rfl,by omega,by omega,rfl⟩
 case round=>
  obtain⟨k,n,hk,rfl,rfl,hn0,hn1,hE⟩:=hrel;have HE:=Za hE;clear hE
  by_cases hlt:k<s.size
  ·have hb:=bb s[k]
   have hd:=Za0 (s[k].toNat:Int) 8
   have HS:=Za (show Z3 8 most n ((tl s).drop k)=if(ZL (s[k].toNat:Int) 8).2 then Z3 8 most (if n≤most then n*8+(ZL (s[k].toNat:Int) 8).1 else n) ((tl s).drop (k+1))else none by rw[ZU s k hlt,Z3])
   generalize hq:ZL (s[k].toNat:Int) 8=q at *;have HQ:=Za hq;clear hq;obtain⟨d,ok⟩:=q;simp only at hd HS
   cases ok
   ·have HF:=Za (show Zv (tl s) 8 most=(0,false)by unfold Zv;rw[if_neg HNE.out,HE.out,HS.out];rfl)
    go_wp2_with (go_at_call 297;refine(Z5 _ _ _ (by omega) (by omega)).mono ?_;rintro e w' ⟨rfl,rfl⟩;rw[HQ.out])
    go_ret2
    exact⟨by rw[HF.out];rfl,rfl⟩
   ·obtain⟨hd0,hd1⟩:=hd
    have hd2:=hd1 rfl;clear hd1
    by_cases hnm:n≤most
    ·have HF:=Za (show Z3 8 most 0 (tl s)=Z3 8 most (n*8+d) ((tl s).drop (k+1))by rw[HE.out,HS.out,if_pos rfl,if_pos hnm])
     go_wp2_with (go_at_call 297;refine(Z5 _ _ _ (by omega) (by omega)).mono ?_;rintro e w' ⟨rfl,rfl⟩;rw[HQ.out])
     go_round
     case rel=>exact⟨k+1,n*8+d,by omega,by go_num,rfl,by omega,by omega,HF.out⟩
     case measure=>simp[intOf];omega
    ·have HF:=Za (show Z3 8 most 0 (tl s)=Z3 8 most n ((tl s).drop (k+1))by rw[HE.out,HS.out,if_pos rfl,if_neg hnm])
     go_wp2_with (go_at_call 297;refine(Z5 _ _ _ (by omega) (by omega)).mono ?_;rintro e w' ⟨rfl,rfl⟩;rw[HQ.out])
     go_round
     case rel=>exact⟨k+1,n,by omega,by go_num,rfl,by omega,by omega,HF.out⟩
     case measure=>simp[intOf];omega
  ·have HF:=Za (show Zv (tl s) 8 most=if most<n then(most+1,true)else(n,true)by unfold Zv;rw[if_neg HNE.out,HE.out,Zy s k (by omega),Z3])
   by_cases hnm:most<n
   ·go_wp2
    go_ret2
    exact⟨by rw[HF.out,if_pos hnm];rfl,rfl⟩
   ·have HF2:=Za (HF.out.trans (if_neg hnm))
    go_wp2;go_ret2
    exact⟨by rw[HF2.out];rfl,rfl⟩
theorem Z0(s:BA)(most:Int)(w:World)(hs:s.size≤1000000)(hm0:0≤most)(hm1:most≤4294967295):Calls Tryz.prog 301 #[.string s,.int .i64 10,.int .i64 most] w fun e w'=>e=.returned (.tuple #[.int .i64 (Zv (tl s) 10 most).1,.bool (Zv (tl s) 10 most).2])∧w=w':=by
 by_cases he:s.size=0
 ·have HE:=Za (show Zv (tl s) 10 most=(0,false)by rw[Zz he];rfl)
  have he':s.toList.isEmpty=true:=Zf he;clear he
  go_enter Tryz.func301,Tryz.ntmps301
  go_wp2;go_ret2
  exact⟨by rw[HE.out];rfl,rfl⟩
 have he':s.toList.isEmpty=false:=Ze he
 have HNE:=Za (show ¬tl s=[]by intro h;have:=tl_length s;rw[h]at this;simp at this;omega)
 go_enter Tryz.func301,Tryz.ntmps301
 go_wp2
 go_loop [8,9] (fun x i=>∃(k:Nat) (n:Int),k≤s.size∧i=.int .i64 k∧x=.int .i64 n∧0≤n∧n≤4294967295*10+10∧Z3 10 most 0 (tl s)=Z3 10 most n ((tl s).drop k)) (fun _ i=>s.size-(intOf i).toNat)
 case atStart=>exact⟨0,0,Xa _,rfl,rfl,by omega,by omega,rfl⟩
 case round=>
  obtain⟨k,n,hk,rfl,rfl,hn0,hn1,hE⟩:=hrel;have HE:=Za hE;clear hE
  by_cases hlt:k<s.size
  ·have hb:=bb s[k]
   have hd:=Za0 (s[k].toNat:Int) 10
   have HS:=Za (show Z3 10 most n ((tl s).drop k)=if(ZL (s[k].toNat:Int) 10).2 then Z3 10 most (if n≤most then n*10+(ZL (s[k].toNat:Int) 10).1 else n) ((tl s).drop (k+1))else none by rw[ZU s k hlt,Z3])
   generalize hq:ZL (s[k].toNat:Int) 10=q at *;have HQ:=Za hq;clear hq;obtain⟨d,ok⟩:=q;simp only at hd HS
   cases ok
   ·have HF:=Za (show Zv (tl s) 10 most=(0,false)by unfold Zv;rw[if_neg HNE.out,HE.out,HS.out];rfl)
    go_wp2_with (go_at_call 297;refine(Z5 _ _ _ (by omega) (by omega)).mono ?_;rintro e w' ⟨rfl,rfl⟩;rw[HQ.out])
    go_ret2
    exact⟨by rw[HF.out];rfl,rfl⟩
   ·obtain⟨hd0,hd1⟩:=hd
    have hd2:=hd1 rfl;clear hd1
    by_cases hnm:n≤most
    ·have HF:=Za (show Z3 10 most 0 (tl s)=Z3 10 most (n*10+d) ((tl s).drop (k+1))by rw[HE.out,HS.out,if_pos rfl,if_pos hnm])
     go_wp2_with (go_at_call 297;refine(Z5 _ _ _ (by omega) (by omega)).mono ?_;rintro e w' ⟨rfl,rfl⟩;rw[HQ.out])
     go_round
     case rel=>exact⟨k+1,n*10+d,by omega,by go_num,rfl,by omega,by omega,HF.out⟩
     case measure=>simp[intOf];omega
    ·have HF:=Za (show Z3 10 most 0 (tl s)=Z3 10 most n ((tl s).drop (k+1))by rw[HE.out,HS.out,if_pos rfl,if_neg hnm])
     go_wp2_with (go_at_call 297;refine(Z5 _ _ _ (by omega) (by omega)).mono ?_;rintro e w' ⟨rfl,rfl⟩;rw[HQ.out])
     go_round
     case rel=>exact⟨k+1,n,by omega,by go_num,rfl,by omega,by omega,HF.out⟩
     case measure=>simp[intOf];omega
  ·have HF:=Za (show Zv (tl s) 10 most=if most<n then(most+1,true)else(n,true)by unfold Zv;rw[if_neg HNE.out,HE.out,Zy s k (by omega),Z3])
   by_cases hnm:most<n
   ·go_wp2
    go_ret2
    exact⟨by rw[HF.out,if_pos hnm];rfl,rfl⟩
   ·have HF2:=Za (HF.out.trans (if_neg hnm))
    go_wp2;go_ret2
    exact⟨by rw[HF2.out];rfl,rfl⟩
theorem ZbF(s:BA)(most:Int)(w:World)(hs:s.size≤1000000)(hm0:0≤most)(hm1:most≤4294967295):Calls Tryz.prog 301 #[.string s,.int .i64 16,.int .i64 most] w fun e w'=>e=.returned (.tuple #[.int .i64 (Zv (tl s) 16 most).1,.bool (Zv (tl s) 16 most).2])∧w=w':=by
 by_cases he:s.size=0
 ·have HE:=Za (show Zv (tl s) 16 most=(0,false)by rw[Zz he];rfl)
  have he':s.toList.isEmpty=true:=Zf he;clear he
  go_enter Tryz.func301,Tryz.ntmps301
  go_wp2;go_ret2
  exact⟨by rw[HE.out];rfl,rfl⟩
 have he':s.toList.isEmpty=false:=Ze he
 have HNE:=Za (show ¬tl s=[]by intro h;have:=tl_length s;rw[h]at this;simp at this;omega)
 go_enter Tryz.func301,Tryz.ntmps301
 go_wp2
 go_loop [8,9] (fun x i=>∃(k:Nat) (n:Int),k≤s.size∧i=.int .i64 k∧x=.int .i64 n∧0≤n∧n≤4294967295*16+16∧Z3 16 most 0 (tl s)=Z3 16 most n ((tl s).drop k)) (fun _ i=>s.size-(intOf i).toNat)
 case atStart=>exact⟨0,0,Xa _,rfl,rfl,by omega,by omega,rfl⟩
 case round=>
  obtain⟨k,n,hk,rfl,rfl,hn0,hn1,hE⟩:=hrel;have HE:=Za hE;clear hE
  by_cases hlt:k<s.size
  ·have hb:=bb s[k]
   have hd:=Za0 (s[k].toNat:Int) 16
   have HS:=Za (show Z3 16 most n ((tl s).drop k)=if(ZL (s[k].toNat:Int) 16).2 then Z3 16 most (if n≤most then n*16+(ZL (s[k].toNat:Int) 16).1 else n) ((tl s).drop (k+1))else none by rw[ZU s k hlt,Z3])
   generalize hq:ZL (s[k].toNat:Int) 16=q at *;have HQ:=Za hq;clear hq;obtain⟨d,ok⟩:=q;simp only at hd HS
   cases ok
   ·have HF:=Za (show Zv (tl s) 16 most=(0,false)by unfold Zv;rw[if_neg HNE.out,HE.out,HS.out];rfl)
    go_wp2_with (go_at_call 297;refine(Z5 _ _ _ (by omega) (by omega)).mono ?_;rintro e w' ⟨rfl,rfl⟩;rw[HQ.out])
    go_ret2
    exact⟨by rw[HF.out];rfl,rfl⟩
   ·obtain⟨hd0,hd1⟩:=hd
    have hd2:=hd1 rfl;clear hd1
    by_cases hnm:n≤most
    ·have HF:=Za (show Z3 16 most 0 (tl s)=Z3 16 most (n*16+d) ((tl s).drop (k+1))by rw[HE.out,HS.out,if_pos rfl,if_pos hnm])
     go_wp2_with (go_at_call 297;refine(Z5 _ _ _ (by omega) (by omega)).mono ?_;rintro e w' ⟨rfl,rfl⟩;rw[HQ.out])
     go_round
     case rel=>exact⟨k+1,n*16+d,by omega,by go_num,rfl,by omega,by omega,HF.out⟩
     case measure=>simp[intOf];omega
    ·have HF:=Za (show Z3 16 most 0 (tl s)=Z3 16 most n ((tl s).drop (k+1))by rw[HE.out,HS.out,if_pos rfl,if_neg hnm])
     go_wp2_with (go_at_call 297;refine(Z5 _ _ _ (by omega) (by omega)).mono ?_;rintro e w' ⟨rfl,rfl⟩;rw[HQ.out])
     go_round
     case rel=>exact⟨k+1,n,by omega,by go_num,rfl,by omega,by omega,HF.out⟩
     case measure=>simp[intOf];omega
  ·have HF:=Za (show Zv (tl s) 16 most=if most<n then(most+1,true)else(n,true)by unfold Zv;rw[if_neg HNE.out,HE.out,Zy s k (by omega),Z3])
   by_cases hnm:most<n
   ·go_wp2
    go_ret2
    exact⟨by rw[HF.out,if_pos hnm];rfl,rfl⟩
   ·have HF2:=Za (HF.out.trans (if_neg hnm))
    go_wp2;go_ret2
    exact⟨by rw[HF2.out];rfl,rfl⟩
def ZM(s:List UInt8):Int×Bool:=
 if s=[104,116,116,112]∨s=[119,115]then(80,true)else if s=[104,116,116,112,115]∨s=[119,115,115]then(443,true)else if s=[102,116,112]then(21,true)else(0,false)
theorem eqB{s:BA}{l:LB}(h:tl s=l):(s.toList==l)=true:=by rw[ByteArray.toList_eq];show(tl s==l)=true;rw[h];simp
theorem neB{s:BA}{l:LB}(h:¬tl s=l):(s.toList==l)=false:=by rw[ByteArray.toList_eq];show(tl s==l)=false;simpa using h
theorem Zb5(s:BA)(w:World):Calls Tryz.prog 223 #[.string s] w fun e w'=>e=.returned (.tuple #[.int .i64 (ZM (tl s)).1,.bool (ZM (tl s)).2])∧w=w':=by
 by_cases h1:tl s=[104,116,116,112]
 ·have HE:=Za (show ZM (tl s)=(80,true)by unfold ZM;rw[if_pos (Or.inl h1)])
  have h1':=eqB h1;clear h1
  go_enter Tryz.func223,Tryz.ntmps223
  go_wp2;go_ret2
  exact⟨by rw[HE.out];rfl,rfl⟩
 have h1':=neB h1
 by_cases h2:tl s=[119,115]
 ·have HE:=Za (show ZM (tl s)=(80,true)by unfold ZM;rw[if_pos (Or.inr h2)])
  have h2':=eqB h2;clear h1 h2
  go_enter Tryz.func223,Tryz.ntmps223
  go_wp2;go_ret2
  exact⟨by rw[HE.out];rfl,rfl⟩
 have h2':=neB h2
 by_cases h3:tl s=[104,116,116,112,115]
 ·have HE:=Za (show ZM (tl s)=(443,true)by unfold ZM;rw[if_neg (not_or.2 ⟨h1,h2⟩),if_pos (Or.inl h3)])
  have h3':=eqB h3;clear h1 h2 h3
  go_enter Tryz.func223,Tryz.ntmps223
  go_wp2;go_ret2
  exact⟨by rw[HE.out];rfl,rfl⟩
 have h3':=neB h3
 by_cases h4:tl s=[119,115,115]
 ·have HE:=Za (show ZM (tl s)=(443,true)by unfold ZM;rw[if_neg (not_or.2 ⟨h1,h2⟩),if_pos (Or.inr h4)])
  have h4':=eqB h4;clear h1 h2 h3 h4
  go_enter Tryz.func223,Tryz.ntmps223
  go_wp2;go_ret2
  exact⟨by rw[HE.out];rfl,rfl⟩
 have h4':=neB h4
 by_cases h5:tl s=[102,116,112]
 ·have HE:=Za (show ZM (tl s)=(21,true)by unfold ZM;rw[if_neg (not_or.2 ⟨h1,h2⟩),if_neg (not_or.2 ⟨h3,h4⟩),if_pos h5])
  have h5':=eqB h5;clear h1 h2 h3 h4 h5
  go_enter Tryz.func223,Tryz.ntmps223
  go_wp2;go_ret2
  exact⟨by rw[HE.out];rfl,rfl⟩
 have h5':=neB h5
 have HE:=Za (show ZM (tl s)=(0,false)by unfold ZM;rw[if_neg (not_or.2 ⟨h1,h2⟩),if_neg (not_or.2 ⟨h3,h4⟩),if_neg h5])
 clear h1 h2 h3 h4 h5
 go_enter Tryz.func223,Tryz.ntmps223
 go_wp2;go_ret2
 exact⟨by rw[HE.out];rfl,rfl⟩
def Zb(s:List UInt8):Bool:=(ZM s).2||s == [102,105,108,101]
theorem Z6(s:BA)(w:World):Calls Tryz.prog 189 #[.string s] w fun e w'=>e=.returned (.bool (Zb (tl s)))∧w=w':=by
 have HE:=Za (show Zb (tl s)=((ZM (tl s)).2||s.toList == [102,105,108,101])by rw[ByteArray.toList_eq];rfl)
 generalize hq:ZM (tl s)=q at *;have HQ:=Za hq;clear hq;obtain⟨p,ok⟩:=q
 cases ok
 ·go_enter Tryz.func189,Tryz.ntmps189
  go_wp2_with (go_at_call 223;refine(Zb5 _ _).mono ?_;rintro e w' ⟨rfl,rfl⟩;rw[HQ.out])
  all_goals go_ret
  all_goals exact⟨Zi (by rw[HE.out];simp),rfl⟩
 ·go_enter Tryz.func189,Tryz.ntmps189
  go_wp2_with (go_at_call 223;refine(Zb5 _ _).mono ?_;rintro e w' ⟨rfl,rfl⟩;rw[HQ.out])
  all_goals go_ret
  all_goals exact⟨Zi (by rw[HE.out];simp),rfl⟩
def capital(n:Int):Int:=if n<10 then 48+n else 65+n-10
theorem ZdW(n:Int)(w:World)(h0:0≤n)(h1:n<16):Calls Tryz.prog 195 #[.int .u8 n] w fun e w'=>e=.returned (.int .u8 (capital n))∧w=w':=by
 by_cases h:n<10
 ·have HE:=Za (show capital n=48+n by simp[capital,h])
  go_enter Tryz.func195,Tryz.ntmps195
  go_wp2;go_ret;exact⟨Zai HE.out.symm,rfl⟩
 ·have HE:=Za (show capital n=65+n-10 by simp[capital,h])
  go_enter Tryz.func195,Tryz.ntmps195
  go_wp2;go_ret;exact⟨Zai HE.out.symm,rfl⟩
def follow(b:Int):Int×Int×Int:=
 if b<128 then(1,0,0)else if b<194 then(0,0,0)else if b<224 then(2,128,191)else if b=224 then(3,160,191)else if b=237 then(3,128,159)
 else if b<240 then(3,128,191)else if b=240 then(4,144,191)else if b<244 then(4,128,191)else if b=244 then(4,128,143)else(0,0,0)
theorem ZlD(b:Int):0≤(follow b).1∧(follow b).1≤4∧0≤(follow b).2.1∧(follow b).2.1≤191∧0≤(follow b).2.2∧(follow b).2.2≤191:=by unfold follow;repeat (first|(refine⟨?_,?_,?_,?_,?_,?_⟩<;>decide)|split)
theorem ZlE(b:Int)(w:World):Calls Tryz.prog 220 #[.int .u8 b] w fun e w'=>e=.returned (.tuple #[.int .i64 (follow b).1,.int .u8 (follow b).2.1,.int .u8 (follow b).2.2])∧w=w':=by
 have go:∀q,follow b=q→(Calls Tryz.prog 220 #[.int .u8 b] w fun e w'=>e=.returned (.tuple #[.int .i64 q.1,.int .u8 q.2.1,.int .u8 q.2.2])∧w=w')→Calls Tryz.prog 220 #[.int .u8 b] w fun e w'=>e=.returned (.tuple #[.int .i64 (follow b).1,.int .u8 (follow b).2.1,.int .u8 (follow b).2.2])∧w=w':=by intro q h hc;rw[h];exact hc
 by_cases a1:b<128
 ·refine go _ (if_pos a1) ?_
  go_enter Tryz.func220,Tryz.ntmps220
  go_wp2
  go_ret3
  exact⟨rfl,rfl⟩
 by_cases a2:b<194
 ·refine go (0,0,0) (by unfold follow;rw[if_neg a1,if_pos a2]) ?_
  go_enter Tryz.func220,Tryz.ntmps220
  go_wp2
  go_ret3
  exact⟨rfl,rfl⟩
 by_cases a3:b<224
 ·refine go (2,128,191) (by unfold follow;rw[if_neg a1,if_neg a2,if_pos a3]) ?_
  clear a1
  go_enter Tryz.func220,Tryz.ntmps220
  go_wp2
  go_ret3
  exact⟨rfl,rfl⟩
 by_cases a4:b=224
 ·subst a4
  go_enter Tryz.func220,Tryz.ntmps220
  go_wp2
  go_ret3
  exact⟨rfl,rfl⟩
 by_cases a5:b=237
 ·subst a5
  go_enter Tryz.func220,Tryz.ntmps220
  go_wp2
  go_ret3
  exact⟨rfl,rfl⟩
 have a4':(b==224)=false:=by simp[a4]
 have a5':(b==237)=false:=by simp[a5]
 by_cases a6:b<240
 ·refine go (3,128,191) (by unfold follow;rw[if_neg a1,if_neg a2,if_neg a3,if_neg a4,if_neg a5,if_pos a6]) ?_
  clear a1 a2 a4 a5
  go_enter Tryz.func220,Tryz.ntmps220
  go_wp2
  go_ret3
  exact⟨rfl,rfl⟩
 by_cases a7:b=240
 ·subst a7
  go_enter Tryz.func220,Tryz.ntmps220
  go_wp2
  go_ret3
  exact⟨rfl,rfl⟩
 have a7':(b==240)=false:=by simp[a7]
 by_cases a8:b<244
 ·refine go (4,128,191) (by unfold follow;rw[if_neg a1,if_neg a2,if_neg a3,if_neg a4,if_neg a5,if_neg a6,if_neg a7,if_pos a8]) ?_
  clear a1 a2 a3 a4 a5 a7
  go_enter Tryz.func220,Tryz.ntmps220
  go_wp2
  go_ret3
  exact⟨rfl,rfl⟩
 by_cases a9:b=244
 ·subst a9
  go_enter Tryz.func220,Tryz.ntmps220
  go_wp2
  go_ret3
  exact⟨rfl,rfl⟩
 have a9':(b==244)=false:=by simp[a9]
 refine go (0,0,0) (by unfold follow;rw[if_neg a1,if_neg a2,if_neg a3,if_neg a4,if_neg a5,if_neg a6,if_neg a7,if_neg a8,if_neg a9]) ?_
 clear a1 a2 a3 a4 a5 a6 a7 a9
 go_enter Tryz.func220,Tryz.ntmps220
 go_wp2
 go_ret3
 exact⟨rfl,rfl⟩
def Z7(want:Int):Int→Int→Nat→List UInt8→Nat
 | _,_,size,[]=>size
 | low,high,size,c::r=>if(size:Int)<want∧low≤(c.toNat:Int)∧(c.toNat:Int)≤high then Z7 want 128 191 (size+1) r else size
def measure(l:List UInt8):Nat×Bool:=
 match l with
 | []=>(0,false)
 | c::r=>(Z7 (follow c.toNat).1 (follow c.toNat).2.1 (follow c.toNat).2.2 1 r,(Z7 (follow c.toNat).1 (follow c.toNat).2.1 (follow c.toNat).2.2 1 r:Int)==(follow c.toNat).1)
theorem ZlF(want low high:Int)(size:Nat)(l:LB):size≤Z7 want low high size l∧Z7 want low high size l≤size+l.length:=by
 induction l generalizing low high size with
 | nil=>simp[Z7]
 | cons c r ih=>
  rw[Z7]
  split
  ·have:=ih 128 191 (size+1)
   simp only[Xe]
   omega
  ·simp
theorem ZjE(s:BA)(w:World)(hs:s.size≤1000000)(h0:0<s.size):Calls Tryz.prog 186 #[.string s] w fun e w'=>e=.returned (.tuple #[.int .i64 (measure (tl s)).1,.bool (measure (tl s)).2])∧w=w':=by
 have hne:=Ze (s:=s) (by omega)
 have hl0:=ZU s 0 h0;simp only[List.drop_zero,Nat.zero_add]at hl0;have hb0:=bb s[0];obtain⟨q,hq⟩:∃q,follow (s[0].toNat:Int)=q:=⟨_,rfl⟩;have hrng:=ZlD (s[0].toNat:Int)
 have HE0:=Za (show measure (tl s)=(Z7 q.1 q.2.1 q.2.2 1 ((tl s).drop 1),(Z7 q.1 q.2.1 q.2.2 1 ((tl s).drop 1):Int)==q.1)by rw[hl0,measure,hq];rfl)
 rw[hq]at hrng;have HQ:=Za hq;clear hq hl0;obtain⟨want,low,high⟩:=q;simp only at hrng HE0;obtain⟨r0,r1,r2,r3,r4,r5⟩:=hrng
 go_enter Tryz.func186,Tryz.ntmps186
 go_wp2_with (go_at_call 220;refine(ZlE _ _).mono ?_;rintro e w' ⟨rfl,rfl⟩;rw[HQ.out])
 go_loop [5,6,7] (fun x y z=>∃(lo hi:Int) (k:Nat),1≤k∧k≤s.size∧x=.int .u8 lo∧y=.int .u8 hi∧z=.int .i64 k∧Z7 want low high 1 ((tl s).drop 1)=Z7 want lo hi k ((tl s).drop k)) (fun _ _ z=>s.size-(intOf z).toNat)
 case atStart=>exact⟨low,high,1,by omega,by omega,rfl,rfl,rfl,rfl⟩
 case round=>
  obtain⟨lo,hi,k,hk1,hk,rfl,rfl,rfl,hE⟩:=hrel;have HE:=Za hE;clear hE
  by_cases hlt:k<s.size
  ·have hbk:=bb s[k]
   have HS:=Za (show Z7 want lo hi k ((tl s).drop k)=if(k:Int)<want∧lo≤(s[k].toNat:Int)∧(s[k].toNat:Int)≤hi then Z7 want 128 191 (k+1) ((tl s).drop (k+1))else k by rw[ZU s k hlt,Z7])
   by_cases hc:(k:Int)<want∧lo≤(s[k].toNat:Int)∧(s[k].toNat:Int)≤hi
   ·have HF:=Za (HE.out.trans (HS.out.trans (if_pos hc)))
    obtain⟨c1,c2,c3⟩:=hc;go_wp2
    go_round
    case rel=>exact⟨128,191,k+1,by omega,by omega,rfl,rfl,by go_num,HF.out⟩
    case measure=>simp[intOf];omega
   ·have HF:=Za (show measure (tl s)=(k,(k:Int)==want)by rw[HE0.out,HE.out,HS.out,if_neg hc])
    by_cases c1:(k:Int)<want
    ·by_cases c2:lo≤(s[k].toNat:Int)
     ·have c3:hi<(s[k].toNat:Int):=by omega
      clear hc;go_wp2;go_ret2
      exact⟨by rw[HF.out];rfl,rfl⟩
     ·clear hc
      go_wp2;go_ret2
      exact⟨by rw[HF.out];rfl,rfl⟩
    ·clear hc
     go_wp2;go_ret2
     exact⟨by rw[HF.out];rfl,rfl⟩
  ·have HF:=Za (show measure (tl s)=(k,(k:Int)==want)by rw[HE0.out,HE.out,Zy s k (by omega),Z7])
   by_cases c1:(k:Int)<want
   ·go_wp2
    go_ret2
    exact⟨by rw[HF.out];rfl,rfl⟩
   ·go_wp2
    go_ret2
    exact⟨by rw[HF.out];rfl,rfl⟩
theorem Znh{ops:Array Oper}{rest:List Oper}{o:Oper}{a:Act}{Q:Exit→Act→World→Prop}(w:World)(q:BA)
  (hgd:o.guard=none) (s x:Operand) (ho:o.op=.call { callee:=.builtin .append,args:=#[s,x],argTypes:=#[160,9] })
  (base:Nat) (v:Value) (l:LB) (hs:a.eval s=v) (hown:Zhq w base v l) (hx:a.eval x=.string q)
  (hn:l.length+q.size<1099511627776) (hbase:base≤w.heap.size)
  (h:∀v' w',Zhq w' base v' (l++tl q)→Below base w w'→Kp 5 w w'→wpList Tryz.prog ops Q rest (a.put o.dst v') w'):wpList Tryz.prog ops Q (o::rest) a w:=by
 obtain⟨i,hi,hz0,hz1,hz2⟩:=info_parts Zne
 refine Lib.wpList_append_own_string w hgd s x _ _ ho base _ i Tryz.underlying160 Tryz.underlying9 hi hz0 hz1 hz2 v l.length _ hs hown q hx (by unfold maxLen;omega) (by omega) hbase ?_
 intro v' w' h2 h3 _
 refine h v' w' ?_ ((Below.refl base w).grown h3 hbase (fun k hk=>(hown.lt k hk).1)) (Zhp hown h3)
 rw[Lib.strCells_eq,←Lib.byteCells_append]at h2;unfold Zhq;rw[List.length_append,tl_length];exact h2
def clean(l:List UInt8):List UInt8:=
 match l with
 | []=>[]
 | c::r=>(if(measure (c::r)).2 then(c::r).take (measure (c::r)).1 else [239,191,189])++clean (r.drop ((measure (c::r)).1-1))
 termination_by l.length
 decreasing_by simp;omega
theorem ZjF(c:UInt8)(r:LB):(measure (c::r)).1=Z7 (follow (c.toNat:Int)).1 (follow (c.toNat:Int)).2.1 (follow (c.toNat:Int)).2.2 1 r:=by rw[measure]
theorem ZcO(c:UInt8)(r:LB):1≤(measure (c::r)).1∧(measure (c::r)).1≤r.length+1:=by
 have h:=ZlF (follow (c.toNat:Int)).1 (follow (c.toNat:Int)).2.1 (follow (c.toNat:Int)).2.2 1 r;rw[ZjF]
 omega
theorem Zb1(c:UInt8)(r:LB):clean (c::r)=(if(measure (c::r)).2 then(c::r).take (measure (c::r)).1 else [239,191,189])++clean (r.drop ((measure (c::r)).1-1)):=by conv=>lhs;unfold clean
theorem clean_nil:clean []=[]:=by unfold clean;rfl
theorem ZdB(l:LB)(hl:l≠[]):clean l=(if(measure l).2 then l.take (measure l).1 else [239,191,189])++clean (l.drop (measure l).1):=by
 cases l with
 | nil=>exact absurd rfl hl
 | cons c r=>
  have hr:=ZcO c r;rw[Zb1];generalize measure (c::r)=q at *;obtain⟨m,good⟩:=q
  obtain⟨k,hk⟩:∃k,m=k+1:=⟨m - 1,by simp only at hr;omega⟩
  subst hk;simp only[List.drop_succ_cons,Nat.add_sub_cancel]
theorem Zeu{l:LB}(hl:l≠[]):1≤(measure l).1∧(measure l).1≤l.length:=by
 cases l with
 | nil=>exact absurd rfl hl
 | cons c r=>rw[Xe];exact ZcO c r
theorem Zbo(s:BA)(w:World)(hs:s.size≤1000000):Calls Tryz.prog 138 #[.string s] w fun e w'=>∃r:BA,e=.returned (.string r)∧tl r=clean (tl s)∧Nx w w':=by
 go_enter Tryz.func138,Tryz.ntmps138
 go_wp2
 go_loopw [3,4] (fun o i wr=>∃(k:Nat) (P:LB),k≤s.size∧i=.int .i64 k∧clean (tl s)=P++clean ((tl s).drop k)∧Zhq wr w.heap.size o P∧P.length≤3*k∧Nx w wr) (fun _ i _=>s.size-(intOf i).toNat)
 case atStart=>exact⟨0,[],Xa _,rfl,by simp,ZcB w,by simp,Nx.rfl.alloc _⟩
 case round=>
  obtain⟨k,P,hk,rfl,hE,hown,hP,hnx⟩:=hrel
  by_cases hlt:k<s.size
  ·have HE:=Za hE
   have HO:=Za hown;have HN:=Za hnx;have hz:=hnx.size;clear hE hown hnx;obtain⟨L,hL⟩:∃L,(tl s).drop k=L:=⟨_,rfl⟩
   have hLl:L.length=s.size-k:=by rw[←hL,List.length_drop,tl_length]
   have hLne:L≠[]:=by intro h;rw[h]at hLl;simp at hLl;omega
   have HST:=Za (ZdB L hLne);obtain⟨hm1,hm2⟩:=Zeu hLne
   have HX:=Za (show tl (s.extract k s.size)=L by rw[ZaE,hL])
   have HX2:=Za (show ∀n,tl (s.extract k (k+n))=L.take n from fun n=>by rw[tl_extract,List.drop_take,hL];congr 1;omega)
   have HLK:=Za hL.symm;rw[hL]at HE;clear hL hLne;go_wp2_with fail
   refine(ZjE _ _ (by simp;omega) (by simp;omega)).mono ?_
   rintro e w' ⟨rfl,rfl⟩;rw[HX.out];generalize hq:measure L=q at *;clear hq;obtain⟨m,good⟩:=q;simp only at hm1 hm2 HST
   cases good
   ·go_wp2_with (at_builtin;go_must (refine Znh wr ⟨#[239,191,189]⟩ rfl _ _ rfl w.heap.size u3 P rfl HO.out rfl (by show P.length+3<_;omega) hz ?_;intro v' w2 ho2 hb2 _;have HO2:=Za ho2;clear ho2))
    go_roundw
    case rel=>exact⟨k+m,P++[239,191,189],by omega,by go_num,by rw[HE.out,HST.out,Xb,HLK.out,Xh];rfl,HO2.out,by simp;omega,HN.out.trans hb2⟩
    case measure=>simp[intOf];omega
   ·have hsz:(s.extract k (k+m)).size≤m:=by simp;omega
    go_wp2_with (at_builtin;go_must (refine Znh wr (s.extract k (k+m)) rfl _ _ rfl w.heap.size u3 P rfl HO.out rfl (by omega) hz ?_;intro v' w2 ho2 hb2 _;have HO2:=Za ho2;clear ho2))
    go_roundw
    case rel=>exact⟨k+m,P++L.take m,by omega,by go_num,by rw[HE.out,HST.out,Xb,HLK.out,Xh];rfl,by rw[←HX2.out m];exact HO2.out,by simp;omega,HN.out.trans hb2⟩
    case measure=>simp[intOf];omega
  ·rw[Zy s k (by omega)]at hE
   have hcv:=Zdy hown;clear hown;go_wp2;go_ret
   exact⟨_,rfl,by rw[hE,tl_mk,clean_nil,List.append_nil],hnx⟩
end Go.Proofs.YtchkhibgbnhjpabGreatDoor
