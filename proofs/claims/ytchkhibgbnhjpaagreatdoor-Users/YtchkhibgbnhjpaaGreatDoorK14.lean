import Derived.Test.YtchkhibgbnhjpaaGreatDoorK13
namespace Go.Proofs.YtchkhibgbnhjpaaGreatDoor
open Go.RowKit
def ZaC (b:UInt8):Bool:=decide ((b.toNat:Int)≤32)
def trimB (l:List UInt8):List UInt8:=((l.dropWhile ZaC).reverse.dropWhile ZaC).reverse
theorem Zkt (s:ByteArray) (k:Nat) (h1:((tl s).take k).all ZaC=true) (h2:(h:k < s.size)→ZaC s[k]=false):(tl s).dropWhile ZaC=(tl s).drop k:=by
 have e:=List.take_append_drop k (tl s)
 conv=>lhs;rw [← e]
 rw [List.dropWhile_append_of_pos (by intro a ha;exact List.all_eq_true.1 h1 a ha)]
 rcases Nat.lt_or_ge k s.size with h | h
 ·rw [ZK s k h,List.dropWhile_cons_of_neg (by rw [h2 h];decide)]
 ·rw [Zy s k h];rfl
theorem ZfI (l:List UInt8) (m:Nat) (hm:m≤l.length) (h1:(l.drop m).all ZaC=true) (h2:(h:0 < m)→ZaC (l[m - 1]'(by omega))=false):(l.reverse.dropWhile ZaC).reverse=l.take m:=by
 have e:=List.take_append_drop m l
 conv=>lhs;rw [← e]
 rw [List.reverse_append,List.dropWhile_append_of_pos (by intro a ha;exact List.all_eq_true.1 h1 a (List.mem_reverse.1 ha))]
 rcases Nat.eq_zero_or_pos m with h | h
 ·subst h;simp
 ·have hs:l.take m=l.take (m - 1)++[l[m - 1]'(by omega)]:=by
   rw [← List.take_succ_eq_append_getElem (by omega)]
   congr 1
   omega
  rw [hs,List.reverse_append,List.reverse_singleton,List.singleton_append,List.dropWhile_cons_of_neg (by rw [h2 h];decide)]
  simp
theorem all_snoc (p:UInt8→Bool) (l:List UInt8) (b:UInt8):(l++[b]).all p=(l.all p && p b):=by simp
set_option maxHeartbeats 2000000 in
theorem Zsy (s:ByteArray) (w:World) (hs:s.size≤1000000):
  Calls Tryz.prog 83 #[.string s] w fun e w'=>∃ r:ByteArray,e=.returned (.string r)∧tl r=trimB (tl s)∧r.size≤s.size∧w=w':=by
 go_enter Tryz.func83,Tryz.ntmps83
 go_wp2
 go_loop [3] (fun i=>∃ k:Nat,k≤s.size∧i=.int .i64 k∧((tl s).take k).all ZaC=true) (fun i=>s.size - (intOf i).toNat)
 case atStart=>exact ⟨0,Nat.zero_le _,rfl,rfl⟩
 case round=>
  obtain ⟨k,hk,rfl,ha⟩:=hrel
  have HA:=Za ha
  clear ha
  have main:∀ (hb:(h:k < s.size)→ZaC s[k]=false),Hid ((tl s).dropWhile ZaC=(tl s).drop k):=fun hb=>Za (Zkt s k HA.out hb)
  have second:(hstop:Hid ((tl s).dropWhile ZaC=(tl s).drop k))→True:=fun _=>trivial
  clear second
  by_cases hlt:k < s.size
  ·have hb:=bb s[k]
   by_cases hc:(s[k].toNat:Int)≤32
   ·have HN:=Za (show ((tl s).take (k + 1)).all ZaC=true by rw [ZE s k hlt,all_snoc,HA.out];simp [ZaC,hc])
    clear main
    go_wp2
    go_round
    case rel=>exact ⟨k + 1,by omega,by go_num,HN.out⟩
    case measure=>simp [intOf];omega
   ·have HD:=main (fun _=>by simp [ZaC];omega)
    clear main
    go_wp2
    go_loop [4] (fun i=>∃ m:Nat,k≤m∧m≤s.size∧i=.int .i64 m∧((tl s).drop m).all ZaC=true) (fun i=>(intOf i).toNat)
    case atStart=>exact ⟨s.size,by omega,Nat.le_refl _,rfl,by rw [Zy s _ (Nat.le_refl _)];rfl⟩
    case round=>
     obtain ⟨m,hkm,hm,rfl,hal⟩:=hrel
     have HAL:=Za hal
     clear hal
     by_cases hgt:k < m
     ·have hm1:m - 1 < s.size:=by omega
      have hb1:=bb (s[m - 1]'hm1)
      by_cases hc1:((s[m - 1]'hm1).toNat:Int)≤32
      ·have HN:=Za (show ((tl s).drop (m - 1)).all ZaC=true by rw [ZK s (m - 1) hm1,List.all_cons,show m - 1 + 1=m by omega,HAL.out];simp [ZaC,hc1])
       go_wp2
       go_round
       case rel=>exact ⟨m - 1,by omega,by omega,by rw [show ((m - 1:Nat):Int)=(m:Int) - 1 by omega],HN.out⟩
       case measure=>simp [intOf];omega
      ·have HF:=Za (show tl (s.extract k m)=trimB (tl s) by
        unfold trimB
        rw [HD.out,tl_extract,ZfI ((tl s).drop k) (m - k) (by rw [List.length_drop,tl_length];omega) (by rw [List.drop_drop,show k + (m - k)=m by omega];exact HAL.out) (fun h=>by rw [List.getElem_drop];show ZaC ((tl s)[k + (m - k - 1)]'_)=false;simp only [show k + (m - k - 1)=m - 1 by omega];rw [ZdY s (m - 1) hm1];simp [ZaC];omega),List.drop_take])
       have hez:(s.extract k m).size≤s.size:=Zg2 s k m
       go_wp2
       go_ret
       exact ⟨s.extract k m,rfl,HF.out,hez,rfl⟩
     ·have HF:=Za (show tl (s.extract k m)=trimB (tl s) by
       unfold trimB
       rw [HD.out,tl_extract,ZfI ((tl s).drop k) (m - k) (by rw [List.length_drop,tl_length];omega) (by rw [List.drop_drop,show k + (m - k)=m by omega];exact HAL.out) (fun h=>by omega),List.drop_take])
      have hez:(s.extract k m).size≤s.size:=Zg2 s k m
      go_wp2
      go_ret
      exact ⟨s.extract k m,rfl,HF.out,hez,rfl⟩
  ·have HD:=main (fun h=>absurd h hlt)
   clear main
   go_wp2
   go_loop [4] (fun i=>∃ m:Nat,k≤m∧m≤s.size∧i=.int .i64 m) (fun i=>(intOf i).toNat)
   case atStart=>exact ⟨s.size,by omega,Nat.le_refl _,rfl⟩
   case round=>
    obtain ⟨m,hkm,hm,rfl⟩:=hrel
    have HF:=Za (show tl (s.extract k m)=trimB (tl s) by
     unfold trimB
     rw [HD.out,tl_extract,Zy s k (by omega),List.drop_of_length_le (by rw [List.length_take,tl_length];omega)]
     rfl)
    have hez:(s.extract k m).size≤s.size:=Zg2 s k m
    have hgt:¬ k < m:=by omega
    go_wp2
    go_ret
    exact ⟨s.extract k m,rfl,HF.out,hez,rfl⟩
def Zdw (b:UInt8):Bool:=(b.toNat:Int) == 9 || (b.toNat:Int) == 10 || (b.toNat:Int) == 13
def noBreaks (l:List UInt8):List UInt8:=l.filter fun b=>!Zdw b
theorem Zju (l:List UInt8) (b:UInt8):noBreaks (l++[b])=noBreaks l++(if Zdw b=true then [] else [b]):=by
 unfold noBreaks
 rw [List.filter_append]
 cases h:Zdw b <;> simp [h]
theorem Zei (l:List UInt8):(noBreaks l).length≤l.length:=List.length_filter_le _ _
set_option maxHeartbeats 2000000 in
theorem Zku (s:ByteArray) (w:World) (hs:s.size≤1000000):
  Calls Tryz.prog 84 #[.string s] w fun e w'=>∃ r:ByteArray,e=.returned (.string r)∧tl r=noBreaks (tl s)∧Nx w w':=by
 go_enter Tryz.func84,Tryz.ntmps84
 go_wp2
 go_loopw [3,4] (fun o i wr=>∃ k:Nat,k≤s.size∧i=.int .i64 k∧Ze4 wr w.heap.size o (noBreaks ((tl s).take k))∧Nx w wr) (fun _ i _=>s.size - (intOf i).toNat)
 case atStart=>exact ⟨0,Nat.zero_le _,rfl,Zd9 w,Nx.rfl.alloc _⟩
 case round=>
  obtain ⟨k,hk,rfl,hown,hnx⟩:=hrel
  by_cases hlt:k < s.size
  ·have hb:=bb s[k]
   have HTK:=Za ((congrArg noBreaks (ZE s k hlt)).trans (Zju _ _))
   have hz:=hnx.size
   have hsz:(noBreaks ((tl s).take k)).length < 1099511627776:=by have h:=Zei ((tl s).take k);have:=List.length_take_le k (tl s);omega
   have HO:=Za hown
   have HN:=Za hnx
   have HT2:=Za (Zfy s[k])
   have HBR:=Za (show Zdw s[k]=((s[k].toNat:Int) == 9 || (s[k].toNat:Int) == 10 || (s[k].toNat:Int) == 13) from rfl)
   clear hown hnx
   cases h9:((s[k].toNat:Int) == 9)
   ·have n9:=Zg3 h9
    cases h10:((s[k].toNat:Int) == 10)
    ·have n10:=Zg3 h10
     cases h13:((s[k].toNat:Int) == 13)
     ·have n13:=Zg3 h13
      have HB:=Za (show Zdw s[k]=false by rw [HBR.out,h9,h10,h13];rfl)
      go_wp2_with (at_builtin;go_must (refine ZbJ wr (s[k].toNat:Int) rfl _ _ rfl w.heap.size _ _ rfl HO.out rfl (by omega) (by omega) hsz hz ?_;intro v' w2 ho1 hb1 hk1;have HO1:=Za ho1;clear ho1))
      go_roundw
      case rel=>exact ⟨k + 1,by omega,by go_num,by rw [HTK.out,if_neg (by rw [HB.out];decide)];have h:=HO1.out;rw [HT2.out] at h;exact h,HN.out.trans hb1⟩
      case measure=>simp [intOf];omega
     ·have n13:=Zr1 h13
      have HB:=Za (show Zdw s[k]=true by rw [HBR.out,h13];simp)
      go_wp2
      go_roundw
      case rel=>exact ⟨k + 1,by omega,by go_num,by rw [HTK.out,if_pos HB.out,List.append_nil];exact HO.out,HN.out⟩
      case measure=>simp [intOf];omega
    ·have n10:=Zr1 h10
     have HB:=Za (show Zdw s[k]=true by rw [HBR.out,h10];simp)
     go_wp2
     go_roundw
     case rel=>exact ⟨k + 1,by omega,by go_num,by rw [HTK.out,if_pos HB.out,List.append_nil];exact HO.out,HN.out⟩
     case measure=>simp [intOf];omega
   ·have n9:=Zr1 h9
    have HB:=Za (show Zdw s[k]=true by rw [HBR.out,h9];simp)
    go_wp2
    go_roundw
    case rel=>exact ⟨k + 1,by omega,by go_num,by rw [HTK.out,if_pos HB.out,List.append_nil];exact HO.out,HN.out⟩
    case measure=>simp [intOf];omega
  ·rw [Zao s k (by omega)] at hown
   have hcv:=ZdH hown
   have HN:=Za hnx
   clear hown hnx
   go_wp2
   go_ret
   exact ⟨_,rfl,tl_mk _,HN.out⟩
def Zf9 (b:UInt8):Bool:=(b.toNat:Int) == 43 || (b.toNat:Int) == 45 || (b.toNat:Int) == 46 || decide (48≤(b.toNat:Int)∧(b.toNat:Int)≤57) || alpha b.toNat
def Zb1 (l:List UInt8):Bool:=match l with | []=>false | c :: r=>alpha c.toNat && r.all Zf9
theorem Zih (p:UInt8→Bool) (s:ByteArray) (k:Nat) (h:k < s.size) (he:p s[k]=false) (h1:1≤k):((tl s).drop 1).all p=false:=by
 rw [List.all_eq_false]
 refine ⟨s[k],?_,by rw [he];decide⟩
 rw [← ZdY s k h]
 rw [show (tl s)[k]'(by rw [tl_length];exact h)=((tl s).drop 1)[k - 1]'(by rw [List.length_drop,tl_length];omega) by rw [List.getElem_drop];congr 1;omega]
 exact List.getElem_mem _
set_option maxHeartbeats 2000000 in
theorem ZhC (s:ByteArray) (w:World) (hs:s.size≤1000000):
  Calls Tryz.prog 149 #[.string s] w fun e w'=>e=.returned (.bool (Zb1 (tl s)))∧w=w':=by
 by_cases h0:s.size=0
 ·have HE:=Za (show Zb1 (tl s)=false by rw [ZB h0];rfl)
  have h0':=Zo h0
  clear h0
  go_enter Tryz.func149,Tryz.ntmps149
  go_wp2
  go_ret
  exact ⟨Zk HE.out.symm,rfl⟩
 have hpos:0 < s.size:=by omega
 have h0':=Zi h0
 have hb0:=bb (s[0]'hpos)
 have HD:=Za (show Zb1 (tl s)=(alpha (s[0]'hpos).toNat && ((tl s).drop 1).all Zf9) by have:=ZK s 0 hpos;rw [List.drop_zero] at this;rw [this];rfl)
 clear h0
 cases hA:alpha ((s[0]'hpos).toNat:Int)
 ·have HA:=Za hA
  have HE:=Za (show Zb1 (tl s)=false by rw [HD.out,hA];rfl)
  clear hA
  go_enter Tryz.func149,Tryz.ntmps149
  go_wp2_with (go_at_call 184;refine (Zbh _ _).mono ?_;rintro e w' ⟨rfl,rfl⟩;rw [HA.out])
  go_ret
  exact ⟨Zk HE.out.symm,rfl⟩
 ·have HA:=Za hA
  have HE:=Za (show Zb1 (tl s)=((tl s).drop 1).all Zf9 by rw [HD.out,hA];rfl)
  clear hA HD
  go_enter Tryz.func149,Tryz.ntmps149
  go_wp2_with (go_at_call 184;refine (Zbh _ _).mono ?_;rintro e w' ⟨rfl,rfl⟩;rw [HA.out])
  go_loop [3] (fun i=>∃ k:Nat,1≤k∧k≤s.size∧i=.int .i64 k∧(((tl s).take k).drop 1).all Zf9=true) (fun i=>s.size - (intOf i).toNat)
  case atStart=>exact ⟨1,by omega,by omega,rfl,by rw [List.drop_of_length_le (by rw [List.length_take];omega)];rfl⟩
  case round=>
   obtain ⟨k,hk1,hk,rfl,ha⟩:=hrel
   have HAL:=Za ha
   clear ha
   by_cases hlt:k < s.size
   ·have hb:=bb s[k]
    have HY:=Za (show Zf9 s[k]=true→(((tl s).take (k + 1)).drop 1).all Zf9=true from fun h=>by
     rw [ZE s k hlt,List.drop_append_of_le_length (by rw [List.length_take,tl_length];omega),all_snoc,HAL.out,h];rfl)
    have HNO:=Za (show Zf9 s[k]=false→Zb1 (tl s)=false from fun h=>by rw [HE.out];exact Zih Zf9 s k hlt h hk1)
    have HM:=Za (show Zf9 s[k]=((s[k].toNat:Int) == 43 || (s[k].toNat:Int) == 45 || (s[k].toNat:Int) == 46 || decide (48≤(s[k].toNat:Int)∧(s[k].toNat:Int)≤57) || alpha s[k].toNat) from rfl)
    cases h43:((s[k].toNat:Int) == 43)
    ·cases h45:((s[k].toNat:Int) == 45)
     ·cases h46:((s[k].toNat:Int) == 46)
      ·by_cases hd:48≤(s[k].toNat:Int)∧(s[k].toNat:Int)≤57
       ·have HG:=Za (HY.out (by rw [HM.out,decide_eq_true hd];simp))
        obtain ⟨hd1,hd2⟩:=hd
        clear HY HNO
        go_wp2
        go_round
        case rel=>exact ⟨k + 1,by omega,by omega,by go_num,HG.out⟩
        case measure=>simp [intOf];omega
       ·cases hal:alpha (s[k].toNat:Int)
        ·have HG:=Za (HNO.out (by rw [HM.out,h43,h45,h46,decide_eq_false hd,hal];rfl))
         have HALP:=Za hal
         clear HY HNO hal
         by_cases hd1:48≤(s[k].toNat:Int)
         ·have hd2:¬ (s[k].toNat:Int)≤57:=fun h=>hd ⟨hd1,h⟩
          clear hd
          go_wp2_with (go_at_call 184;refine (Zbh _ _).mono ?_;rintro e w' ⟨rfl,rfl⟩;rw [HALP.out])
          go_ret
          exact ⟨Zk HG.out.symm,rfl⟩
         ·clear hd
          go_wp2_with (go_at_call 184;refine (Zbh _ _).mono ?_;rintro e w' ⟨rfl,rfl⟩;rw [HALP.out])
          go_ret
          exact ⟨Zk HG.out.symm,rfl⟩
        ·have HG:=Za (HY.out (by rw [HM.out,hal];simp))
         have HALP:=Za hal
         clear HY HNO hal
         by_cases hd1:48≤(s[k].toNat:Int)
         ·have hd2:¬ (s[k].toNat:Int)≤57:=fun h=>hd ⟨hd1,h⟩
          clear hd
          go_wp2_with (go_at_call 184;refine (Zbh _ _).mono ?_;rintro e w' ⟨rfl,rfl⟩;rw [HALP.out])
          go_round
          case rel=>exact ⟨k + 1,by omega,by omega,by go_num,HG.out⟩
          case measure=>simp [intOf];omega
         ·clear hd
          go_wp2_with (go_at_call 184;refine (Zbh _ _).mono ?_;rintro e w' ⟨rfl,rfl⟩;rw [HALP.out])
          go_round
          case rel=>exact ⟨k + 1,by omega,by omega,by go_num,HG.out⟩
          case measure=>simp [intOf];omega
      ·have HG:=Za (HY.out (by rw [HM.out,h46];simp))
       clear HY HNO
       go_wp2
       go_round
       case rel=>exact ⟨k + 1,by omega,by omega,by go_num,HG.out⟩
       case measure=>simp [intOf];omega
     ·have HG:=Za (HY.out (by rw [HM.out,h45];simp))
      clear HY HNO
      go_wp2
      go_round
      case rel=>exact ⟨k + 1,by omega,by omega,by go_num,HG.out⟩
      case measure=>simp [intOf];omega
    ·have HG:=Za (HY.out (by rw [HM.out,h43];simp))
     clear HY HNO
     go_wp2
     go_round
     case rel=>exact ⟨k + 1,by omega,by omega,by go_num,HG.out⟩
     case measure=>simp [intOf];omega
   ·have HF:=Za (show Zb1 (tl s)=true by rw [HE.out];have h:=HAL.out;rw [Zao s k (by omega)] at h;exact h)
    go_wp2
    go_ret
    exact ⟨Zk HF.out.symm,rfl⟩
def ZaD (l:List UInt8):List UInt8 × List UInt8 × Bool:=
 if (bcut (isB 58) l).2.2=true∧Zb1 (bcut (isB 58) l).1=true then (lower (bcut (isB 58) l).1,(bcut (isB 58) l).2.1,true) else ([],l,false)
set_option maxHeartbeats 2000000 in
theorem Zox (s:ByteArray) (w:World) (hs:s.size≤1000000):
  Calls Tryz.prog 110 #[.string s] w fun e w'=>Zn5 (ZaD (tl s)) e∧Nx w w':=by
 have HD:=Za (show ZaD (tl s)=if (bcut (isB 58) (tl s)).2.2=true∧Zb1 (bcut (isB 58) (tl s)).1=true then (lower (bcut (isB 58) (tl s)).1,(bcut (isB 58) (tl s)).2.1,true) else ([],tl s,false) from rfl)
 have hcl:=Zar (isB 58) (tl s)
 go_enter Tryz.func110,Tryz.ntmps110
 go_wp2_with fail
 refine (ZeB s 58 _ (Zd hs)).mono ?_
 rintro e w1 ⟨⟨a,b,rfl,ha,hb⟩,hn1⟩
 have has:a.size≤1000000:=by have h:=hcl.1;rw [← ha,tl_length,tl_length] at h;omega
 rw [← ha,← hb] at HD
 have HN1:=Za hn1
 clear ha hb hn1 hcl
 generalize (bcut (isB 58) (tl s)).2.2=found at *
 cases found
 ·have HE:=Za (HD.out.trans (if_neg (by rintro ⟨h,-⟩;cases h)))
  clear HD
  go_wp2
  go_ret3
  exact ⟨⟨⟨#[]⟩,s,by rw [HE.out];rfl,by rw [HE.out];rfl,by rw [HE.out]⟩,HN1.out⟩
 ·cases hsc:Zb1 (tl a)
  ·have HE:=Za (HD.out.trans (if_neg (by rintro ⟨-,h⟩;rw [hsc] at h;cases h)))
   have HSC:=Za hsc
   clear HD hsc
   go_wp2_with (go_at_call 149;refine (ZhC _ _ has).mono ?_;rintro e w' ⟨rfl,rfl⟩;rw [HSC.out])
   go_ret3
   exact ⟨⟨⟨#[]⟩,s,by rw [HE.out];rfl,by rw [HE.out];rfl,by rw [HE.out]⟩,HN1.out⟩
  ·have HE:=Za (HD.out.trans (if_pos ⟨rfl,hsc⟩))
   have HSC:=Za hsc
   clear HD hsc
   go_wp2_with (first | (go_at_call 149;refine (ZhC _ _ has).mono ?_;rintro e w' ⟨rfl,rfl⟩;rw [HSC.out]) | (go_at_call 150;refine (Ziw _ _ has).mono ?_;rintro e w2 ⟨r,rfl,hr,hn2⟩;have HR:=Za hr;have HN2:=Za (HN1.out.then hn2);clear hr hn2))
   go_ret3
   exact ⟨⟨r,b,by rw [HE.out];rfl,by rw [HE.out];exact HR.out,by rw [HE.out]⟩,HN2.out⟩
def Za1 (sch:List UInt8):Int:=if Zc sch=true then 3 else 2
set_option maxHeartbeats 1000000 in
theorem ZgD (s:ByteArray) (w:World):
  Calls Tryz.prog 113 #[.bool (Zc (tl s))] w fun e w'=>e=.returned (.int .i64 (Za1 (tl s)))∧w=w':=by
 cases h:Zc (tl s)
 ·have HE:=Za (show Za1 (tl s)=2 from if_neg (by rw [h];decide))
  clear h
  go_enter Tryz.func113,Tryz.ntmps113
  go_wp2
  go_ret
  exact ⟨Zah HE.out.symm,rfl⟩
 ·have HE:=Za (show Za1 (tl s)=3 from if_pos h)
  clear h
  go_enter Tryz.func113,Tryz.ntmps113
  go_wp2
  go_ret
  exact ⟨Zah HE.out.symm,rfl⟩
def cutPortGo (inb:Bool):List UInt8→Option (List UInt8 × List UInt8)
 | []=>none
 | c :: r=>if (c.toNat:Int)=91 then (cutPortGo true r).map (fun q=>(c :: q.1,q.2)) else if (c.toNat:Int)=93 then (cutPortGo false r).map (fun q=>(c :: q.1,q.2))
  else if (c.toNat:Int)=58∧inb=false then some ([],r) else (cutPortGo inb r).map (fun q=>(c :: q.1,q.2))
def Zz (l:List UInt8):List UInt8 × List UInt8 × Bool:=match cutPortGo false l with | none=>(l,[],false) | some q=>(q.1,q.2,true)
def Zr3 (l:List UInt8) (k:Nat) (inb:Bool):Prop:=cutPortGo false l=(cutPortGo inb (l.drop k)).map (fun q=>(l.take k++q.1,q.2))
theorem Zqg (l:List UInt8):Zr3 l 0 false:=by
 unfold Zr3
 rw [List.drop_zero,List.take_zero]
 cases cutPortGo false l <;> rfl
theorem Zjv {s:ByteArray} {k:Nat} {inb inb':Bool} (hk:k < s.size) (h:Zr3 (tl s) k inb) (hs:cutPortGo inb (s[k] :: (tl s).drop (k + 1))=(cutPortGo inb' ((tl s).drop (k + 1))).map (fun q=>(s[k] :: q.1,q.2))):Zr3 (tl s) (k + 1) inb':=by
 unfold Zr3 at *
 rw [h,ZK s k hk,hs,ZE s k hk]
 cases cutPortGo inb' ((tl s).drop (k + 1)) with
 | none=>rfl
 | some q=>simp
theorem Zsz {s:ByteArray} {k:Nat} (hk:k < s.size) (h:Zr3 (tl s) k false) (h91:¬ (s[k].toNat:Int)=91) (h93:¬ (s[k].toNat:Int)=93) (h58:(s[k].toNat:Int)=58):Zz (tl s)=((tl s).take k,(tl s).drop (k + 1),true):=by
 unfold Zr3 at h
 rw [ZK s k hk,cutPortGo,if_neg h91,if_neg h93,if_pos ⟨h58,rfl⟩] at h
 unfold Zz
 rw [h]
 simp
theorem ZsA {s:ByteArray} {k:Nat} {inb:Bool} (hk:s.size≤k) (h:Zr3 (tl s) k inb):Zz (tl s)=(tl s,[],false):=by
 unfold Zr3 at h
 rw [Zy s k hk] at h
 unfold Zz
 rw [h]
 rfl
set_option maxHeartbeats 2000000 in
theorem Zl2 (s:ByteArray) (w:World) (hs:s.size≤1000000):
  Calls Tryz.prog 205 #[.string s] w fun e w'=>Zn5 (Zz (tl s)) e∧Nx w w':=by
 go_enter Tryz.func205,Tryz.ntmps205
 go_wp2
 go_loop [5,6] (fun b i=>∃ (k:Nat) (inb:Bool),k≤s.size∧b=.bool inb∧i=.int .i64 k∧Zr3 (tl s) k inb) (fun _ i=>s.size - (intOf i).toNat)
 case atStart=>exact ⟨0,false,Nat.zero_le _,rfl,rfl,Zqg _⟩
 case round=>
  obtain ⟨k,inb,hk,rfl,rfl,ha⟩:=hrel
  have HA:=Za ha
  clear ha
  by_cases hlt:k < s.size
  ·have hb:=bb s[k]
   cases h91:((s[k].toNat:Int) == 91)
   ·have e91:¬ (s[k].toNat:Int)=91:=by simpa using h91
    cases h93:((s[k].toNat:Int) == 93)
    ·have e93:¬ (s[k].toNat:Int)=93:=by simpa using h93
     cases h58:((s[k].toNat:Int) == 58)
     ·have e58:¬ (s[k].toNat:Int)=58:=by simpa using h58
      have HG:=Za (Zjv (inb':=inb) hlt HA.out (by rw [cutPortGo,if_neg e91,if_neg e93,if_neg (fun h=>e58 h.1)]))
      clear e91 e93 e58
      go_wp2
      go_round
      case rel=>exact ⟨k + 1,inb,by omega,rfl,by go_num,HG.out⟩
      case measure=>simp [intOf];omega
     ·cases inb
      ·have HR:=Za (Zsz hlt HA.out e91 e93 (by simpa using h58))
       clear e91 e93
       go_wp2
       go_region
       all_goals go_wp2
       all_goals go_ret3
       all_goals exact ⟨⟨_,_,by rw [HR.out];rfl,by rw [HR.out,tl_to],by rw [HR.out,tl_from]⟩,Nx.rfl.drew⟩
      ·have HG:=Za (Zjv (inb':=true) hlt HA.out (by rw [cutPortGo,if_neg e91,if_neg e93,if_neg (fun h=>by cases h.2)]))
       clear e91 e93
       go_wp2
       go_round
       case rel=>exact ⟨k + 1,true,by omega,rfl,by go_num,HG.out⟩
       case measure=>simp [intOf];omega
    ·have HG:=Za (Zjv (inb':=false) hlt HA.out (by rw [cutPortGo,if_neg e91,if_pos (by simpa using h93)]))
     clear e91
     go_wp2
     go_round
     case rel=>exact ⟨k + 1,false,by omega,rfl,by go_num,HG.out⟩
     case measure=>simp [intOf];omega
   ·have HG:=Za (Zjv (inb':=true) hlt HA.out (by rw [cutPortGo,if_pos (by simpa using h91)]))
    go_wp2
    go_round
    case rel=>exact ⟨k + 1,true,by omega,rfl,by go_num,HG.out⟩
    case measure=>simp [intOf];omega
  ·have HR:=Za (ZsA (Nat.le_of_not_lt hlt) HA.out)
   go_wp2
   go_ret3
   exact ⟨⟨_,_,by rw [HR.out];rfl,by rw [HR.out],by rw [HR.out];rfl⟩,Nx.rfl⟩
def Zej:List UInt8:=[108,111,99,97,108,104,111,115,116]
def ZM (l:List UInt8):List UInt8 × Int:=if l=[] then ([],0) else if (ZR l true).2≠0 then ([],(ZR l true).2) else if (ZR l true).1=Zej then ([],0) else ((ZR l true).1,0)
set_option maxHeartbeats 2000000 in
theorem Zkv (s:ByteArray) (w:World) (hs:s.size≤1000000) (ht:Tb w):
  Calls Tryz.prog 204 #[.string s] w fun e w'=>∃ r:ByteArray,e=.returned (.tuple #[.string r,.int .i64 (ZM (tl s)).2])∧tl r=(ZM (tl s)).1∧Nx w w':=by
 by_cases h0:s.size=0
 ·have HE:=Za (show ZM (tl s)=([],0) from if_pos (ZB h0))
  have h0':=Zo h0
  clear h0
  go_enter Tryz.func204,Tryz.ntmps204
  go_wp2
  go_ret2
  exact ⟨⟨#[]⟩,by rw [HE.out];rfl,by rw [HE.out];rfl,Nx.rfl⟩
 ·have HE:=Za (show ZM (tl s)=if (ZR (tl s) true).2≠0 then ([],(ZR (tl s) true).2) else if (ZR (tl s) true).1=Zej then ([],0) else ((ZR (tl s) true).1,0) from if_neg (Zdf h0))
  have h0':=Zi h0
  clear h0
  go_enter Tryz.func204,Tryz.ntmps204
  go_wp2_with fail
  refine (Zkr s true _ hs ht).mono ?_
  rintro e w1 ⟨r,rfl,hr,hn⟩
  have HN:=Za hn
  rw [← hr] at HE
  have HR:=Za hr
  clear hn hr
  generalize (ZR (tl s) true).2=err at *
  by_cases he:err=0
  ·subst he
   have HE2:=Za (HE.out.trans (if_neg (by decide)))
   clear HE
   by_cases hl:tl r=Zej
   ·have HE3:=Za (HE2.out.trans (if_pos hl))
    have hl':=eqB hl
    unfold Zej at hl'
    clear HE2 hl
    go_wp2
    go_ret2
    exact ⟨⟨#[]⟩,by rw [HE3.out];rfl,by rw [HE3.out];rfl,HN.out⟩
   ·have HE3:=Za (HE2.out.trans (if_neg hl))
    have hl':=neB hl
    unfold Zej at hl'
    clear HE2 hl
    go_wp2
    go_ret2
    exact ⟨r,by rw [HE3.out];rfl,by rw [HE3.out],HN.out⟩
  ·have HE2:=Za (HE.out.trans (if_pos he))
   have he':(err != 0)=true:=Zg3 (beq_eq_false_iff_ne.2 he)
   clear HE he
   go_wp2
   go_ret2
   exact ⟨⟨#[]⟩,by rw [HE2.out];rfl,by rw [HE2.out];rfl,HN.out⟩
def rz:Rc:=⟨⟨#[]⟩,⟨#[]⟩,⟨#[]⟩,false,⟨#[]⟩,false,0,false,⟨#[]⟩,none,0,0,false,⟨#[]⟩,false,⟨#[]⟩⟩
def zeroU:U:=⟨[],[],[],false,[],false,0,false,[],[],false,[],false,[]⟩
theorem Zd3 (w:World):RcIs w rz zeroU []:=⟨rfl,SlAt.nil w,by decide,by decide,by decide,by decide,by decide,by decide,by decide,(fun b hb=>by cases hb),by decide,by decide⟩
theorem Zfj (w:World):RecB (w.alloc (Obj.cells #[.string ⟨#[]⟩,.string ⟨#[]⟩,.string ⟨#[]⟩,.bool false,.string ⟨#[]⟩,.bool false,.int .i64 0,.bool false,.string ⟨#[]⟩,.slice none 0 0,.bool false,.string ⟨#[]⟩,.bool false,.string ⟨#[]⟩] 54)) w.heap.size rz:=heap_alloc_new w _
def C14 (w:World) (b:Nat) (v0 v1 v2 v3 v4 v5 v6 v7 v8 v9 v10 v11 v12 v13:Value):Prop:=w.heap[b]?=some (Obj.cells #[v0,v1,v2,v3,v4,v5,v6,v7,v8,v9,v10,v11,v12,v13] 54 (0,0))
theorem C14.on {w w':World} {b:Nat} {v0 v1 v2 v3 v4 v5 v6 v7 v8 v9 v10 v11 v12 v13:Value} (h:C14 w b v0 v1 v2 v3 v4 v5 v6 v7 v8 v9 v10 v11 v12 v13) (hb:Nx w w'):C14 w' b v0 v1 v2 v3 v4 v5 v6 v7 v8 v9 v10 v11 v12 v13:=(hb.block b (Array.getElem?_eq_some_iff.1 h).1).trans h
theorem RecB.put {w:World} {b:Nat} {r:Rc} (h:RecB w b r) (v0 v1 v2 v3 v4 v5 v6 v7 v8 v9 v10 v11 v12 v13:Value):C14 ((((((((((((((w.setCell ⟨b,0,none⟩ v0).setCell ⟨b,1,none⟩ v1).setCell ⟨b,2,none⟩ v2).setCell ⟨b,3,none⟩ v3).setCell ⟨b,4,none⟩ v4).setCell ⟨b,5,none⟩ v5).setCell ⟨b,6,none⟩ v6).setCell ⟨b,7,none⟩ v7).setCell ⟨b,8,none⟩ v8).setCell ⟨b,9,none⟩ v9).setCell ⟨b,10,none⟩ v10).setCell ⟨b,11,none⟩ v11).setCell ⟨b,12,none⟩ v12).setCell ⟨b,13,none⟩ v13) b v0 v1 v2 v3 v4 v5 v6 v7 v8 v9 v10 v11 v12 v13:=by
 unfold RecB at h
 unfold C14
 simp [World.setCell,Array.getElem?_modify,h]
theorem C14.cells {w:World} {b:Nat} {v0 v1 v2 v3 v4 v5 v6 v7 v8 v9 v10 v11 v12 v13:Value} (h:C14 w b v0 v1 v2 v3 v4 v5 v6 v7 v8 v9 v10 v11 v12 v13):w.cell? ⟨b,0,none⟩=some v0∧w.cell? ⟨b,1,none⟩=some v1∧w.cell? ⟨b,2,none⟩=some v2∧w.cell? ⟨b,3,none⟩=some v3∧w.cell? ⟨b,4,none⟩=some v4∧w.cell? ⟨b,5,none⟩=some v5∧w.cell? ⟨b,6,none⟩=some v6∧w.cell? ⟨b,7,none⟩=some v7∧w.cell? ⟨b,8,none⟩=some v8∧w.cell? ⟨b,9,none⟩=some v9∧w.cell? ⟨b,10,none⟩=some v10∧w.cell? ⟨b,11,none⟩=some v11∧w.cell? ⟨b,12,none⟩=some v12∧w.cell? ⟨b,13,none⟩=some v13:=by
 unfold C14 at h
 refine ⟨?_,?_,?_,?_,?_,?_,?_,?_,?_,?_,?_,?_,?_,?_⟩ <;> simp [World.cell?,h]
theorem RecB.far {w:World} {b q:Nat} {r:Rc} (h:RecB w b r) (hq:q≠b) (i:Nat) (u:Value):RecB (w.setCell ⟨q,i,none⟩ u) b r:=by
 unfold RecB at *
 simp only [World.setCell,Array.getElem?_modify,if_neg hq]
 exact h
theorem Zf {B:Nat} {a w:World} {b:Nat} (h:Below B a w) (hb:B≤b) (v0 v1 v2 v3 v4 v5 v6 v7 v8 v9 v10 v11 v12 v13:Value):Below B a ((((((((((((((w.setCell ⟨b,0,none⟩ v0).setCell ⟨b,1,none⟩ v1).setCell ⟨b,2,none⟩ v2).setCell ⟨b,3,none⟩ v3).setCell ⟨b,4,none⟩ v4).setCell ⟨b,5,none⟩ v5).setCell ⟨b,6,none⟩ v6).setCell ⟨b,7,none⟩ v7).setCell ⟨b,8,none⟩ v8).setCell ⟨b,9,none⟩ v9).setCell ⟨b,10,none⟩ v10).setCell ⟨b,11,none⟩ v11).setCell ⟨b,12,none⟩ v12).setCell ⟨b,13,none⟩ v13):=
 ((((((((((((((h.setCell hb _).setCell hb _).setCell hb _).setCell hb _).setCell hb _).setCell hb _).setCell hb _).setCell hb _).setCell hb _).setCell hb _).setCell hb _).setCell hb _).setCell hb _).setCell hb _)
def Ks (w w':World):Prop:=∀ (k:Nat) (cs:Array Value) (fz:Nat × Nat),w.heap[k]?=some (Obj.cells cs 9 fz)→w'.heap[k]?=some (Obj.cells cs 9 fz)
theorem Ks.rfl {w:World}:Ks w w:=fun _ _ _ h=>h
theorem Ks.then {a b c:World} (h:Ks a b) (k:Ks b c):Ks a c:=fun i cs fz hi=>k i cs fz (h i cs fz hi)
theorem Nx.ks {w w':World} (h:Nx w w'):Ks w w':=fun k _ _ hk=>(h.block k (Array.getElem?_eq_some_iff.1 hk).1).trans hk
theorem ZY {w:World} {pb:Nat} {t:TypeId} (h:TyB w pb t) (ht:t≠9) (i:Nat) (u:Value):Ks w (w.setCell ⟨pb,i,none⟩ u):=by
 intro k cs fz hk
 obtain ⟨cs',fz',h⟩:=h
 have hne:pb≠k:=by
  intro e
  subst e
  rw [h] at hk
  simp only [Option.some.injEq,Obj.cells.injEq] at hk
  exact ht hk.2.1
 simp only [World.setCell,Array.getElem?_modify,if_neg hne]
 exact hk
theorem RecB.ty {w:World} {b:Nat} {r:Rc} (h:RecB w b r):TyB w b 54:=⟨_,_,h⟩
theorem Zq {w:World} {b:Nat} {t:TypeId} (h:TyB w b t) (ht:t≠9) (v0 v1 v2 v3 v4 v5 v6 v7 v8 v9 v10 v11 v12 v13:Value):Ks w ((((((((((((((w.setCell ⟨b,0,none⟩ v0).setCell ⟨b,1,none⟩ v1).setCell ⟨b,2,none⟩ v2).setCell ⟨b,3,none⟩ v3).setCell ⟨b,4,none⟩ v4).setCell ⟨b,5,none⟩ v5).setCell ⟨b,6,none⟩ v6).setCell ⟨b,7,none⟩ v7).setCell ⟨b,8,none⟩ v8).setCell ⟨b,9,none⟩ v9).setCell ⟨b,10,none⟩ v10).setCell ⟨b,11,none⟩ v11).setCell ⟨b,12,none⟩ v12).setCell ⟨b,13,none⟩ v13):=by
 have h1:=h.set b 0 v0
 have h2:=h1.set b 1 v1
 have h3:=h2.set b 2 v2
 have h4:=h3.set b 3 v3
 have h5:=h4.set b 4 v4
 have h6:=h5.set b 5 v5
 have h7:=h6.set b 6 v6
 have h8:=h7.set b 7 v7
 have h9:=h8.set b 8 v8
 have h10:=h9.set b 9 v9
 have h11:=h10.set b 10 v10
 have h12:=h11.set b 11 v11
 have h13:=h12.set b 12 v12
 exact ((((((((((((((ZY h ht 0 v0).then (ZY h1 ht 1 v1)).then (ZY h2 ht 2 v2)).then (ZY h3 ht 3 v3)).then (ZY h4 ht 4 v4)).then (ZY h5 ht 5 v5)).then (ZY h6 ht 6 v6)).then (ZY h7 ht 7 v7)).then (ZY h8 ht 8 v8)).then (ZY h9 ht 9 v9)).then (ZY h10 ht 10 v10)).then (ZY h11 ht 11 v11)).then (ZY h12 ht 12 v12)).then (ZY h13 ht 13 v13))
theorem SlAt.ks {w w':World} {v:Value} {l:List ByteArray} (h:Zcb w v l) (hk:Ks w w'):Zcb w' v l:=by
 obtain ⟨ao,cap,rfl,hlc,hcap,hnone,hsome⟩:=h
 refine ⟨ao,cap,rfl,hlc,hcap,hnone,fun a ha=>?_⟩
 obtain ⟨b,off,rfl,cs,fz,hh,hc⟩:=hsome a ha
 exact ⟨b,off,rfl,cs,fz,hk b cs fz hh,hc⟩
theorem RcIs.ks {w w':World} {r:Rc} {u:U} {bs:List ByteArray} (h:RcIs w r u bs) (hk:Ks w w'):RcIs w' r u bs:={ h with seg:=h.seg.ks hk }
theorem Zag {fn:Func} {R:Ending→World→Prop} {a:Act} {W:World} {c t:Tmp} {rb:Nat} {v0 v1 v2 v3 v4 v5 v6 v7 v8 v9 v10 v11 v12 v13:Value} {err:Int} (hres:fn.results=#[.cell c 54,.tmp t]) (hc:a.tmps[c]?.getD undef=.pointer (some ⟨rb,0,none⟩)) (ht:a.tmps[t]?.getD undef=.int .i64 err)
  (hC:C14 W rb v0 v1 v2 v3 v4 v5 v6 v7 v8 v9 v10 v11 v12 v13) (hd:a.defers=[]) (hR:R (.returned (.tuple #[.agg #[v0,v1,v2,v3,v4,v5,v6,v7,v8,v9,v10,v11,v12,v13],.int .i64 err])) W):bodyPost Tryz.prog fn R .ret a W:=by
 obtain ⟨y0,y1,y2,y3,y4,y5,y6,y7,y8,y9,y10,y11,y12,y13⟩:=hC.cells
 exact bodyPost_ret (v:=.tuple #[.agg #[v0,v1,v2,v3,v4,v5,v6,v7,v8,v9,v10,v11,v12,v13],.int .i64 err]) (by simp [results,hres,hc,ht,go_sem,y0,y1,y2,y3,y4,y5,y6,y7,y8,y9,y10,y11,y12,y13]) hd hR
theorem ZhD {fn:Func} {R:Ending→World→Prop} {a:Act} {W:World} {c:Tmp} {rb:Nat} {v0 v1 v2 v3 v4 v5 v6 v7 v8 v9 v10 v11 v12 v13:Value} (hres:fn.results=#[.cell c 54]) (hc:a.tmps[c]?.getD undef=.pointer (some ⟨rb,0,none⟩))
  (hC:C14 W rb v0 v1 v2 v3 v4 v5 v6 v7 v8 v9 v10 v11 v12 v13) (hd:a.defers=[]) (hR:R (.returned (.agg #[v0,v1,v2,v3,v4,v5,v6,v7,v8,v9,v10,v11,v12,v13])) W):bodyPost Tryz.prog fn R .ret a W:=by
 obtain ⟨y0,y1,y2,y3,y4,y5,y6,y7,y8,y9,y10,y11,y12,y13⟩:=hC.cells
 exact bodyPost_ret (v:=.agg #[v0,v1,v2,v3,v4,v5,v6,v7,v8,v9,v10,v11,v12,v13]) (by simp [results,hres,hc,go_sem,y0,y1,y2,y3,y4,y5,y6,y7,y8,y9,y10,y11,y12,y13]) hd hR
def ZgW (e:Ending) (w':World) (x:U × Int) (n:Nat):Prop:=∃ (r:Rc) (bs:List ByteArray),e=.returned (.tuple #[.agg #[.string r.sch,.string r.nam,.string r.pw,.bool r.hh,.string r.host,.bool r.hp,.int .i64 (r.port:Int),.bool r.op,.string r.opath,.slice r.so r.sn r.sc,.bool r.hq,.string r.q,.bool r.hf,.string r.fr],.int .i64 x.2])∧RcIs w' r x.1 bs∧bs.length≤n
def Zd4 (ps:List (List UInt8)):Prop:=∀ p∈ps,p.length≤300000
theorem Zbu (set l:List UInt8) (h:l.length≤30000):(encB set (clean l)).length≤300000:=by
 have h1:=Zjh set (clean l)
 have h2:=Zea l
 omega
theorem ZgE {f:Bool} {ps:List (List UInt8)} (h:Zd4 ps):Zd4 (Zaz f ps):=by
 unfold Zaz
 split
 ·exact h
 ·exact fun p hp=>h p (List.mem_of_mem_take hp)
theorem Zl3 {f:Bool} {ps:List (List UInt8)} {seg:List UInt8} (h:Zd4 ps) (hs:seg.length≤30000):Zd4 (joinL f ps seg):=by
 intro p hp
 unfold joinL at hp
 rcases List.mem_append.1 hp with hp | hp
 ·exact h p hp
 ·rw [List.mem_singleton] at hp
  subst hp
  split
  ·rw [List.length_append,List.length_take];simp;omega
  ·exact Zbu _ _ hs
theorem ZhE {f:Bool} {ps:List (List UInt8)} {seg:List UInt8} {last:Bool} (h:Zd4 ps) (hs:seg.length≤30000):Zd4 (Zdj f ps seg last):=by
 have h2:Zd4 (if countDots seg=2 then Zaz f ps else ps):=by split;exact ZgE h;exact h
 unfold Zdj
 split
 ·exact Zl3 h hs
 ·split
  ·intro p hp
   rcases List.mem_append.1 hp with hp | hp
   ·exact h2 p hp
   ·rw [List.mem_singleton] at hp;subst hp;simp
  ·exact h2
theorem Zkw (f:Bool) (ss:List (List UInt8)):∀ ps,Zd4 ps→(∀ s∈ss,s.length≤30000)→Zd4 (ZbX f ps ss):=by
 induction ss with
 | nil=>intro ps h _;exact h
 | cons x r ih=>
  intro ps h hs
  have hx:=hs x (List.mem_cons_self ..)
  cases r with
  | nil=>exact ZhE h hx
  | cons y q=>exact ih _ (ZhE h hx) (fun s hh=>hs s (List.mem_cons_of_mem _ hh))
theorem Zkx (p:UInt8→Bool) (l:List UInt8):∀ s∈ZbC p l,s.length≤l.length:=by
 induction l with
 | nil=>intro s hs;rw [ZbC] at hs;simp at hs;subst hs;simp
 | cons c r ih=>
  intro s hs
  rw [ZbC] at hs
  split at hs
  ·rcases List.mem_cons.1 hs with rfl | hs
   ·simp
   ·have:=ih s hs;simp;omega
  ·obtain ⟨x,q,hx⟩:=Zef p r
   rw [hx] at hs ih
   simp only at hs
   rcases List.mem_cons.1 hs with rfl | hs
   ·have:=ih x (List.mem_cons_self ..);simp;omega
   ·have:=ih s (List.mem_cons_of_mem _ hs);simp;omega
theorem ZdS {f sp:Bool} {ps:List (List UInt8)} {t:List UInt8} (h:Zd4 ps) (ht:t.length≤30000):Zd4 (ZaP f sp ps t):=
 Zkw f _ ps h (fun s hs=>Nat.le_trans (Zkx _ _ s hs) ht)
theorem Zav {t sch:List UInt8} (ht:t.length≤30000):Zd4 (ZbG t sch):=ZdS (fun p hp=>by cases hp) ht
theorem Zjw {base:List (List UInt8)} {t sch:List UInt8} (h:Zd4 base) (ht:t.length≤30000):Zd4 (Zct base t sch):=ZdS (ZgE h) ht
theorem Zii {base:List (List UInt8)} {t:List UInt8} (h:Zd4 base) (ht:t.length≤30000):Zd4 (ZaB base t):=by
 unfold ZaB
 split
 ·exact Zav ht
 ·exact ZdS (fun p hp=>h p (List.mem_of_mem_take hp)) ht
theorem ZaV {bs:List ByteArray} {ps:List (List UInt8)} (h:bs.map tl=ps) (hs:Zd4 ps):∀ b∈bs,b.size≤300000:=fun b hb=>by
 have:=hs (tl b) (by rw [← h];exact List.mem_map.2 ⟨b,hb,rfl⟩)
 rwa [tl_length] at this
theorem RcIs.short {w:World} {r:Rc} {u:U} {bs:List ByteArray} (h:RcIs w r u bs):Zd4 u.segs:=by
 intro p hp
 have e:u.segs=bs.map tl:=by rw [← h.eq];rfl
 rw [e] at hp
 obtain ⟨b,hb,rfl⟩:=List.mem_map.1 hp
 rw [tl_length]
 exact h.lseg b hb
theorem RcIs.segs {w:World} {r:Rc} {u:U} {bs:List ByteArray} (h:RcIs w r u bs):bs.map tl=u.segs:=by rw [← h.eq];rfl
theorem RcIs.usch {w:World} {r:Rc} {u:U} {bs:List ByteArray} (h:RcIs w r u bs):tl r.sch=u.sch:=by rw [← h.eq];rfl
end Go.Proofs.YtchkhibgbnhjpaaGreatDoor
