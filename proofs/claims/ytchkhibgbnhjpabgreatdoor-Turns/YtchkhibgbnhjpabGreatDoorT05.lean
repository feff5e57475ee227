import Derived.Test.YtchkhibgbnhjpabGreatDoorT01
namespace Go.Proofs.YtchkhibgbnhjpabGreatDoor
open Go.RowKit
set_option maxHeartbeats 2000000
theorem Zxa(l:LB):(Zh l).length≤l.length+1:=by unfold Zh;rw[List.length_map];exact ZeT l
theorem ZuZ{ps:List Pq}{l:LB}(h:ps.map tl2=Zh l)(hl:l.length≤300000):ps.length≤1000000:=by
 have h1:=Zxa l;rw[←h,List.length_map]at h1
 omega
def Zzm(e:Ending)(w w':World)(q:List UInt8):Prop:=∃v ps,e=.returned v∧PrsIs w' w.heap.size v ps∧ps.map tl2=Zh q∧Nx w w'
theorem Zv2(pb:Nat)(r:Rc)(u:U)(bs:LA)(w:World)(h0:UrlB w pb r)(h:RcIs w r u bs):Calls Tryz.prog 47 #[.pointer (some ⟨pb,0,none⟩)] w fun e w'=>Zzm e w w' u.q:=by
 obtain⟨-,-,-,-,-,-,-,-,-,-,-,a11,-,-⟩:=h0.cells;have hl:=h.lq
 have HQ:=Za (show tl r.q=u.q by rw[←h.eq];rfl)
 clear h h0
 go_enter Tryz.func47,Tryz.ntmps47
 go_wp2_with fail
 refine(ZjI r.q _ hl).mono ?_
 rintro e w1 ⟨v,ps,rfl,h1,h2,h3⟩;have H1:=Za h1;have H2:=Za h2;have H3:=Za h3;clear h1 h2 h3;go_wp2;go_ret
 exact⟨v,ps,rfl,H1.out,by rw[H2.out,HQ.out],H3.out⟩
theorem Zu0(pb:Nat)(r:Rc)(u:U)(bs:LA)(w:World)(h0:UrlB w pb r)(h:RcIs w r u bs):Calls Tryz.prog 31 #[.pointer (some ⟨pb,0,none⟩)] w fun e w'=>Zzm e w w' u.q:=by
 go_enter Tryz.func31,Tryz.ntmps31
 go_wp2_with fail
 refine(Zv2 pb r u bs _ h0 h).mono ?_
 rintro e w1 ⟨v,ps,rfl,h1,h2,h3⟩;have H1:=Za h1;have H2:=Za h2;have H3:=Za h3;clear h1 h2 h3 h0 h;go_wp2;go_ret;exact⟨v,ps,rfl,H1.out,H2.out,H3.out⟩
theorem plain_true(s:BA)(w:World)(hs:s.size≤maxLen)(hp:∀k (h:k<s.size),32≤((s[k]'h).toNat:Int)∧((s[k]'h).toNat:Int)≤126):Calls Tryz.prog 92 #[.string s] w fun e w'=>e=.returned (.bool true)∧w=w':=by
 have HP:=Za hp;unfold maxLen at hs;clear hp
 go_enter Tryz.func92,Tryz.ntmps92
 go_wp2
 go_loop [3] (fun i=>∃k:Nat,k≤s.size∧i=.int .i64 k) (fun i=>s.size-(intOf i).toNat)
 case atStart=>exact⟨0,Nat.zero_le _,rfl⟩
 case round=>
  obtain⟨k,hk,rfl⟩:=hrel
  by_cases hlt:k<s.size
  ·have hb1:=(HP.out k hlt).1
   have hb2:=(HP.out k hlt).2;go_wp2
   go_round
   case rel=>exact⟨k+1,by omega,by go_num⟩
   case measure=>simp[intOf];omega
  ·go_wp2
   go_ret;exact⟨rfl,rfl⟩
def ZuO(s:List UInt8):Bool:=s == [104,116,116,112,58]||s == [104,116,116,112,115,58]||s == [119,115,58]||s == [119,115,115,58]||s == [102,116,112,58]||s == [102,105,108,101,58]
theorem Zu6(s:BA)(w:World):Calls Tryz.prog 91 #[.string s] w fun e w'=>e=.returned (.bool (ZuO (tl s)))∧w=w':=by
 have HE:=Za (show ZuO (tl s)=(s.toList == [104,116,116,112,58]||s.toList == [104,116,116,112,115,58]||s.toList == [119,115,58]||s.toList == [119,115,115,58]||s.toList == [102,116,112,58]||s.toList == [102,105,108,101,58])by rw[ByteArray.toList_eq];rfl)
 go_enter Tryz.func91,Tryz.ntmps91
 go_wp2
 all_goals go_ret
 all_goals exact⟨Zi (by rw[HE.out]<;>simp_all),rfl⟩
end Go.Proofs.YtchkhibgbnhjpabGreatDoor
