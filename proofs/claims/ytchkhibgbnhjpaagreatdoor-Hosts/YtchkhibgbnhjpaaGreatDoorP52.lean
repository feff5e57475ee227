import Derived.Test.YtchkhibgbnhjpaaGreatDoorP46
import Derived.Test.YtchkhibgbnhjpaaGreatDoorP49
import Derived.Test.YtchkhibgbnhjpaaGreatDoorP50
import Derived.Test.YtchkhibgbnhjpaaGreatDoorP51
namespace Go.Proofs.YtchkhibgbnhjpaaGreatDoor
open Go.RowKit
set_option maxHeartbeats 8000000
set_option maxRecDepth 8000
theorem Zxd:ZtI 5:=by
 intro pp pb ub rb r u bs R rs v ps s w hp hb ht hs;have HB:=Za hb;have HP:=Za hp;have HTB:=Za ht
 have hbl:bs.length≤30001:=by have:=hb.len;omega
 obtain⟨p0,p1⟩:=hp.cells
 have HPB:Hid (∀w1 u1 r1 ds,Mid w w1 u u1 pp pb ub rb r1 ds R rs v ps→Calls Tryz.prog 72 #[.pointer (some ⟨ub,0,none⟩),.int .i64 5,.string s] w1 fun e w'=>ZxU e w1 w' ub rb (decide (160<s.size)) (Zjf (toR u) 5 (tl s)) (Za6 (toR u) 5 (tl s) (ps.map tl2))):=Za (fun w1 u1 r1 ds hm=>by
  by_cases hl:160<s.size
  ·exact(ZgJ ub 5 s w1 hs hl).mono (fun e w' h=>Or.inl ⟨decide_eq_true hl,h.1,h.2⟩)
  ·exact(ZxX ub rb v R (toR u) rs ps s w1 hm.ref hm.rcd hm.ris hm.pl (by omega)).mono (fun e w' h=>Or.inr ⟨decide_eq_false hl,h⟩))
 have HPS:Hid (decide (160<s.size)=false→ZtG u (tl s) (Zk9 u 4 (tl s)) (Zjf (toR u) 5 (tl s)) (Za6 (toR u) 5 (tl s) (Za1 u.q))):=Za (fun _=>ZxR hb.wk (tl s))
 have HLS:=Za hb.list;have HWK:=Za hb.wk;have HSE:=Za (ZnY pb r u bs s w hb.url hb.rc ht hbl);generalize decide (160<s.size)=long at *;generalize Zk9 u 4 (tl s)=x at *
 obtain⟨err,hee⟩:∃err:Int,(if long=true then(1:Int)else x.2)=err:=⟨_,rfl⟩
 have HEE:=Za hee;clear hb hp ht hbl hs hee
 go_enter Tryz.func50,Tryz.ntmps50
 go_wp2_with fail
 refine HSE.out.mono ?_
 rintro e w1 hx;obtain⟨r1,ds,he,hm⟩:=ZgM HP.out HB.out hx;rw[HEE.out]at he;subst he;have HM:=Za hm;obtain⟨q0,q1⟩:=hm.pair.cells;clear hx hm p0 p1 HSE;go_wp2_with fail
 refine(HPB.out _ _ _ _ HM.out).mono ?_
 rintro e w2 hy;rw[HLS.out]at hy;obtain⟨he,hf⟩:=ZgN HWK.out HLS.out HM.out HPS.out hy;rw[HEE.out]at he;subst he;have HF:=Za hf;clear hy hf q0 q1 HPB HPS HM HB HP
 have hee:(err==err)=true:=by simp
 go_wp2;go_ret;exact⟨rfl,HF.out⟩
theorem Zxe:ZtI 6:=by
 intro pp pb ub rb r u bs R rs v ps s w hp hb ht hs;have HB:=Za hb;have HP:=Za hp;have HTB:=Za ht
 have hbl:bs.length≤30001:=by have:=hb.len;omega
 obtain⟨p0,p1⟩:=hp.cells
 have HPB:Hid (∀w1 u1 r1 ds,Mid w w1 u u1 pp pb ub rb r1 ds R rs v ps→Calls Tryz.prog 72 #[.pointer (some ⟨ub,0,none⟩),.int .i64 6,.string s] w1 fun e w'=>ZxU e w1 w' ub rb (decide (160<s.size)) (Zjf (toR u) 6 (tl s)) (Za6 (toR u) 6 (tl s) (ps.map tl2))):=Za (fun w1 u1 r1 ds hm=>by
  by_cases hl:160<s.size
  ·exact(ZgJ ub 6 s w1 hs hl).mono (fun e w' h=>Or.inl ⟨decide_eq_true hl,h.1,h.2⟩)
  ·exact(ZxY ub rb v R (toR u) rs ps s w1 hm.ref hm.rcd hm.ris hm.pl (by omega)).mono (fun e w' h=>Or.inr ⟨decide_eq_false hl,h⟩))
 have HPS:Hid (decide (160<s.size)=false→ZtG u (tl s) (Zk9 u 5 (tl s)) (Zjf (toR u) 6 (tl s)) (Za6 (toR u) 6 (tl s) (Za1 u.q))):=Za (fun _=>ZxS hb.wk (tl s))
 have HLS:=Za hb.list;have HWK:=Za hb.wk;have HSE:=Za (Zi9 pb r u bs s w hb.url hb.rc ht hbl);generalize decide (160<s.size)=long at *;generalize Zk9 u 5 (tl s)=x at *
 obtain⟨err,hee⟩:∃err:Int,(if long=true then(1:Int)else x.2)=err:=⟨_,rfl⟩
 have HEE:=Za hee;clear hb hp ht hbl hs hee
 go_enter Tryz.func50,Tryz.ntmps50
 go_wp2_with fail
 refine HSE.out.mono ?_
 rintro e w1 hx;obtain⟨r1,ds,he,hm⟩:=ZgM HP.out HB.out hx;rw[HEE.out]at he;subst he;have HM:=Za hm;obtain⟨q0,q1⟩:=hm.pair.cells;clear hx hm p0 p1 HSE;go_wp2_with fail
 refine(HPB.out _ _ _ _ HM.out).mono ?_
 rintro e w2 hy;rw[HLS.out]at hy;obtain⟨he,hf⟩:=ZgN HWK.out HLS.out HM.out HPS.out hy;rw[HEE.out]at he;subst he;have HF:=Za hf;clear hy hf q0 q1 HPB HPS HM HB HP
 have hee:(err==err)=true:=by simp
 go_wp2;go_ret;exact⟨rfl,HF.out⟩
theorem Zxf:ZtI 7:=by
 intro pp pb ub rb r u bs R rs v ps s w hp hb ht hs;have HB:=Za hb;have HP:=Za hp;have HTB:=Za ht
 have hbl:bs.length≤30001:=by have:=hb.len;omega
 obtain⟨p0,p1⟩:=hp.cells
 have HPB:Hid (∀w1 u1 r1 ds,Mid w w1 u u1 pp pb ub rb r1 ds R rs v ps→Calls Tryz.prog 72 #[.pointer (some ⟨ub,0,none⟩),.int .i64 7,.string s] w1 fun e w'=>ZxU e w1 w' ub rb (decide (160<s.size)) (Zjf (toR u) 7 (tl s)) (Za6 (toR u) 7 (tl s) (ps.map tl2))):=Za (fun w1 u1 r1 ds hm=>by
  by_cases hl:160<s.size
  ·exact(ZgJ ub 7 s w1 hs hl).mono (fun e w' h=>Or.inl ⟨decide_eq_true hl,h.1,h.2⟩)
  ·exact(ZxW ub rb v R (toR u) rs ps s w1 hm.ref hm.rcd hm.ris hm.pl (by omega)).mono (fun e w' h=>Or.inr ⟨decide_eq_false hl,h⟩))
 have HPS:Hid (decide (160<s.size)=false→ZtG u (tl s) (Zk9 u 6 (tl s)) (Zjf (toR u) 7 (tl s)) (Za6 (toR u) 7 (tl s) (Za1 u.q))):=Za (fun _=>ZxT hb.wk (tl s))
 have HLS:=Za hb.list;have HWK:=Za hb.wk;have HSE:=Za (ZnZ pb r u bs s w hb.url hb.rc ht hbl);generalize decide (160<s.size)=long at *;generalize Zk9 u 6 (tl s)=x at *
 obtain⟨err,hee⟩:∃err:Int,(if long=true then(1:Int)else x.2)=err:=⟨_,rfl⟩
 have HEE:=Za hee;clear hb hp ht hbl hs hee
 go_enter Tryz.func50,Tryz.ntmps50
 go_wp2_with fail
 refine HSE.out.mono ?_
 rintro e w1 hx;obtain⟨r1,ds,he,hm⟩:=ZgM HP.out HB.out hx;rw[HEE.out]at he;subst he;have HM:=Za hm;obtain⟨q0,q1⟩:=hm.pair.cells;clear hx hm p0 p1 HSE;go_wp2_with fail
 refine(HPB.out _ _ _ _ HM.out).mono ?_
 rintro e w2 hy;rw[HLS.out]at hy;obtain⟨he,hf⟩:=ZgN HWK.out HLS.out HM.out HPS.out hy;rw[HEE.out]at he;subst he;have HF:=Za hf;clear hy hf q0 q1 HPB HPS HM HB HP
 have hee:(err==err)=true:=by simp
 go_wp2;go_ret;exact⟨rfl,HF.out⟩
theorem Zq0(s v:BA)(w:World)(hs:s.size≤maxLen)(hv:v.size≤maxLen)(ht:Tb w):Calls Tryz.prog 14 #[.string s,.string v] w fun e w'=>e=.returned (.bool true)∧Nx w w':=by
 have HPU:=Za (Zpu 5 7 (by decide) (by decide) (fun k h1 h2=>by
  match k,h1,h2 with
  | 5,_,_=>exact Zxd
  | 6,_,_=>exact Zxe
  | 7,_,_=>exact Zxf) s v · hs hv)
 have HTB:=Za ht;clear ht hs hv
 go_enter Tryz.func14,Tryz.ntmps14
 go_wp2_with fail
 refine(HPU.out _ HTB.out).mono ?_
 rintro e w1 ⟨rfl,hn⟩;have HN:=Za hn;clear hn;go_wp2;go_ret;exact⟨rfl,HN.out⟩
end Go.Proofs.YtchkhibgbnhjpaaGreatDoor
