import Derived.Test.YtchkhibgbnhjpabGreatDoorB46
import Derived.Test.YtchkhibgbnhjpabGreatDoorB48
import Derived.Test.YtchkhibgbnhjpabGreatDoorB53
namespace Go.Proofs.YtchkhibgbnhjpabGreatDoor
open Go.RowKit
set_option maxHeartbeats 8000000
set_option maxRecDepth 8000
theorem ZwZ:Zvs 9:=by
 intro pp pb ub rb r u bs R rs v ps s w hp hb ht hs;have HB:=Za hb;have HP:=Za hp;have HTB:=Za ht
 have hbl:bs.length≤30001:=by have:=hb.len;omega
 obtain⟨p0,p1⟩:=hp.cells
 have HPB:Hid (∀w1 u1 r1 ds,Mid w w1 u u1 pp pb ub rb r1 ds R rs v ps→Calls Tryz.prog 77 #[.pointer (some ⟨ub,0,none⟩),.int .i64 9,.string s] w1 fun e w'=>ZxF e w1 w' ub rb (decide (160<s.size)) (Zmm (toR u) 9 (tl s)) (ZbS (toR u) 9 (tl s) (ps.map tl2))):=Za (fun w1 u1 r1 ds hm=>by
  by_cases hl:160<s.size
  ·exact(ZiJ ub 9 s w1 hs hl).mono (fun e w' h=>Or.inl ⟨decide_eq_true hl,h.1,h.2⟩)
  ·exact(Zxz ub rb v R (toR u) rs ps s w1 hm.ref hm.rcd hm.ris hm.pl (by omega) hb.rl.bl).mono (fun e w' h=>Or.inr ⟨decide_eq_false hl,h⟩))
 have HPS:Hid (decide (160<s.size)=false→ZvL u (tl s) (ZnS u 8 (tl s)) (Zmm (toR u) 9 (tl s)) (ZbS (toR u) 9 (tl s) (Zba u.q))):=Za (fun g=>Zxw hb.wk (tl s) (by rw[tl_length];have:=of_decide_eq_false g;omega))
 have HLS:=Za hb.list;have HWK:=Za hb.wk;have HSE:=Za (ZkW pb r u bs s w hb.url hb.rc ht hbl);generalize decide (160<s.size)=long at *;generalize ZnS u 8 (tl s)=x at *
 obtain⟨err,hee⟩:∃err:Int,(if long=true then(1:Int)else x.2)=err:=⟨_,rfl⟩
 have HEE:=Za hee;clear hb hp ht hbl hs hee
 go_enter Tryz.func27,Tryz.ntmps27
 go_wp2_with fail
 refine HSE.out.mono ?_
 rintro e w1 hx;obtain⟨r1,ds,he,hm⟩:=ZiO HP.out HB.out hx;rw[HEE.out]at he;subst he;have HM:=Za hm;obtain⟨q0,q1⟩:=hm.pair.cells;clear hx hm p0 p1 HSE;go_wp2_with fail
 refine(HPB.out _ _ _ _ HM.out).mono ?_
 rintro e w2 hy;rw[HLS.out]at hy;obtain⟨he,hf⟩:=ZiP HWK.out HLS.out HM.out HPS.out hy;rw[HEE.out]at he;subst he;have HF:=Za hf;clear hy hf q0 q1 HPB HPS HM HB HP
 have hee:(err==err)=true:=by simp
 go_wp2;go_ret;exact⟨rfl,HF.out⟩
theorem Zvt:Zvs 10:=by
 intro pp pb ub rb r u bs R rs v ps s w hp hb ht hs;have HB:=Za hb;have HP:=Za hp;have HTB:=Za ht
 have hbl:bs.length≤30001:=by have:=hb.len;omega
 obtain⟨p0,p1⟩:=hp.cells
 have HPB:Hid (∀w1 u1 r1 ds,Mid w w1 u u1 pp pb ub rb r1 ds R rs v ps→Calls Tryz.prog 77 #[.pointer (some ⟨ub,0,none⟩),.int .i64 10,.string s] w1 fun e w'=>ZxF e w1 w' ub rb (decide (160<s.size)) (Zmm (toR u) 10 (tl s)) (ZbS (toR u) 10 (tl s) (ps.map tl2))):=Za (fun w1 u1 r1 ds hm=>by
  by_cases hl:160<s.size
  ·exact(ZiJ ub 10 s w1 hs hl).mono (fun e w' h=>Or.inl ⟨decide_eq_true hl,h.1,h.2⟩)
  ·exact(ZwY ub rb v R (toR u) rs ps s w1 hm.ref hm.rcd hm.ris hm.pl (by omega) hb.rl.bl).mono (fun e w' h=>Or.inr ⟨decide_eq_false hl,h⟩))
 have HPS:Hid (decide (160<s.size)=false→ZvL u (tl s) (ZnS u 9 (tl s)) (Zmm (toR u) 10 (tl s)) (ZbS (toR u) 10 (tl s) (Zba u.q))):=Za (fun _=>Zxx hb.wk (tl s))
 have HLS:=Za hb.list;have HWK:=Za hb.wk;have HSE:=Za (ZnT pb r u bs s w hb.url hb.rc ht hbl);generalize decide (160<s.size)=long at *;generalize ZnS u 9 (tl s)=x at *
 obtain⟨err,hee⟩:∃err:Int,(if long=true then(1:Int)else x.2)=err:=⟨_,rfl⟩
 have HEE:=Za hee;clear hb hp ht hbl hs hee
 go_enter Tryz.func27,Tryz.ntmps27
 go_wp2_with fail
 refine HSE.out.mono ?_
 rintro e w1 hx;obtain⟨r1,ds,he,hm⟩:=ZiO HP.out HB.out hx;rw[HEE.out]at he;subst he;have HM:=Za hm;obtain⟨q0,q1⟩:=hm.pair.cells;clear hx hm p0 p1 HSE;go_wp2_with fail
 refine(HPB.out _ _ _ _ HM.out).mono ?_
 rintro e w2 hy;rw[HLS.out]at hy;obtain⟨he,hf⟩:=ZiP HWK.out HLS.out HM.out HPS.out hy;rw[HEE.out]at he;subst he;have HF:=Za hf;clear hy hf q0 q1 HPB HPS HM HB HP
 have hee:(err==err)=true:=by simp
 go_wp2;go_ret;exact⟨rfl,HF.out⟩
theorem ZqR(s v:BA)(w:World)(hs:s.size≤maxLen)(hv:v.size≤maxLen)(ht:Tb w):Calls Tryz.prog 4 #[.string s,.string v] w fun e w'=>e=.returned (.bool true)∧Nx w w':=by
 have HPU:=Za (Zpl 9 10 (by decide) (by decide) (fun k h1 h2=>by
  match k,h1,h2 with
  | 9,_,_=>exact ZwZ
  | 10,_,_=>exact Zvt) s v · hs hv)
 have HTB:=Za ht;clear ht hs hv
 go_enter Tryz.func4,Tryz.ntmps4
 go_wp2_with fail
 refine(HPU.out _ HTB.out).mono ?_
 rintro e w1 ⟨rfl,hn⟩;have HN:=Za hn;clear hn;go_wp2;go_ret;exact⟨rfl,HN.out⟩
end Go.Proofs.YtchkhibgbnhjpabGreatDoor
