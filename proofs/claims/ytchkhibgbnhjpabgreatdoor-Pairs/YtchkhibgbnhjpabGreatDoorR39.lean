import Derived.Test.YtchkhibgbnhjpabGreatDoorR37
namespace Go.Proofs.YtchkhibgbnhjpabGreatDoor
open Go.RowKit
set_option maxHeartbeats 2000000
theorem Zlt(l:LB):(Zs l).length≤l.length+1:=by unfold Zs;rw[List.length_map];exact Zg8 l
theorem Za1{ps:List Pq}{l:LB}(h:ps.map tl2=Zs l)(hl:l.length≤300000):ps.length≤1000000:=by
 have h1:=Zlt l;rw[←h,List.length_map]at h1
 omega
def ZuJ(e:Ending)(w w':World)(q:List UInt8):Prop:=∃v ps,e=.returned v∧PrsIs w' w.heap.size v ps∧ps.map tl2=Zs q∧Nx w w'
theorem Zeo(pb:Nat)(r:Rc)(u:U)(bs:LA)(w:World)(h0:UrlB w pb r)(h:RcIs w r u bs):Calls Tryz.prog 47 #[.pointer (some ⟨pb,0,none⟩)] w fun e w'=>ZuJ e w w' u.q:=by
 obtain⟨-,-,-,-,-,-,-,-,-,-,-,a11,-,-⟩:=h0.cells;have hl:=h.lq
 have HQ:=Za (show tl r.q=u.q by rw[←h.eq];rfl)
 clear h h0
 go_enter Tryz.func47,Tryz.ntmps47
 go_wp2_with fail
 refine(Znl r.q _ hl).mono ?_
 rintro e w1 ⟨v,ps,rfl,h1,h2,h3⟩;have H1:=Za h1;have H2:=Za h2;have H3:=Za h3;clear h1 h2 h3;go_wp2;go_ret
 exact⟨v,ps,rfl,H1.out,by rw[H2.out,HQ.out],H3.out⟩
theorem ZuK(pb:Nat)(r:Rc)(u:U)(bs:LA)(w:World)(h0:UrlB w pb r)(h:RcIs w r u bs):Calls Tryz.prog 31 #[.pointer (some ⟨pb,0,none⟩)] w fun e w'=>ZuJ e w w' u.q:=by
 go_enter Tryz.func31,Tryz.ntmps31
 go_wp2_with fail
 refine(Zeo pb r u bs _ h0 h).mono ?_
 rintro e w1 ⟨v,ps,rfl,h1,h2,h3⟩;have H1:=Za h1;have H2:=Za h2;have H3:=Za h3;clear h1 h2 h3 h0 h;go_wp2;go_ret;exact⟨v,ps,rfl,H1.out,H2.out,H3.out⟩
end Go.Proofs.YtchkhibgbnhjpabGreatDoor
