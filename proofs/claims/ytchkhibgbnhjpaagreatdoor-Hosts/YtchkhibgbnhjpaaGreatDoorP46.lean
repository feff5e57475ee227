import Derived.Test.YtchkhibgbnhjpaaGreatDoorP43
import Derived.Test.YtchkhibgbnhjpaaGreatDoorP44
namespace Go.Proofs.YtchkhibgbnhjpaaGreatDoor
open Go.RowKit
set_option maxHeartbeats 8000000
theorem ZvA(ru:Rc)(u:U)(bs:LA)(s:BA)(w:World)(h:RcIs w ru u bs)(ht:Tb w)(hb:bs.length≤30001)(hs:s.size≤3000):Calls Tryz.prog 91 #[.agg #[.string ru.sch,.string ru.nam,.string ru.pw,.bool ru.hh,.string ru.host,.bool ru.hp,.int .i64 (ru.port:Int),.bool ru.op,.string ru.opath,.slice ru.so ru.sn ru.sc,.bool ru.hq,.string ru.q,.bool ru.hf,.string ru.fr],.int .i64 4,.string s] w fun e w'=>Zd7 e w' (ZaW u (clean (tl s)) true) 30002∧Nx w w':=by
 go_enter Tryz.func91,Tryz.ntmps91
 go_upto_region 1 with fail;obtain⟨g1,g2,g3⟩:=Zbe (w:=w) (ru:=ru) Nx.rfl;have HUB:=Za g1;have HZ:=Za g2;have HN:=Za g3;clear g1 g2 g3;generalize ((w.alloc (Obj.cells #[.string ru.sch,.string ru.nam,.string ru.pw,.bool ru.hh,.string ru.host,.bool ru.hp,.int .i64 (ru.port:Int),.bool ru.op,.string ru.opath,.slice ru.so ru.sn ru.sc,.bool ru.hq,.string ru.q,.bool ru.hf,.string ru.fr] 54)).alloc (Obj.cells #[.string ⟨#[]⟩,.string ⟨#[]⟩,.string ⟨#[]⟩,.bool false,.string ⟨#[]⟩,.bool false,.int .i64 0,.bool false,.string ⟨#[]⟩,.slice none 0 0,.bool false,.string ⟨#[]⟩,.bool false,.string ⟨#[]⟩] 54))=w1 at *;go_wp2_with fail
 refine(Zd1 s _ (by omega)).mono ?_
 rintro e w2 ⟨x,rfl,hx,hn2⟩
 have hxl:x.size≤9000:=by have:=Zca (tl s);rw[←hx,tl_length,tl_length]at this;omega
 have HP:Hid (∀w',Nx w w'→Calls Tryz.prog 122 #[.agg #[.string ru.sch,.string ru.nam,.string ru.pw,.bool ru.hh,.string ru.host,.bool ru.hp,.int .i64 (ru.port:Int),.bool ru.op,.string ru.opath,.slice ru.so ru.sn ru.sc,.bool ru.hq,.string ru.q,.bool ru.hf,.string ru.fr],.string x,.bool true] w' fun e w''=>Zd7 e w'' (ZaW u (tl x) true) 30002∧Nx w' w''):=Za (fun w' hn=>(Zi7 ru u bs x true w' (h.on hn) (ht.on hn) (by omega)).mono (by rintro e w2 ⟨⟨r,ds,he,hr,hd⟩,hn2⟩;exact⟨⟨r,ds,he,hr,by omega⟩,hn2⟩))
 rw[hx]at HP;have HUB2:=Za (HUB.out.on hn2);have HZ2:=Za (HZ.out.on hn2);have HN2:=Za (HN.out.then hn2);clear hx hn2 HUB HZ HN h ht hb;obtain⟨a0,a1,a2,a3,a4,a5,a6,a7,a8,a9,a10,a11,a12,a13⟩:=HUB2.out.cells;go_wp2_with fail
 refine(HP.out _ HN2.out).mono ?_
 rintro e w3 ⟨⟨r,ds,rfl,hr,hdl⟩,hn3⟩;have HR:=Za hr;have HZ3:=Za (HZ2.out.on hn3);have HN3:=Za (HN2.out.then hn3);clear hr hn3 HZ2 HN2 HUB2;clear a0 a1 a2 a3 a4 a5 a6 a7 a8 a9 a10 a11 a12 a13;obtain⟨z0,z1,z2,z3,z4,z5,z6,z7,z8,z9,z10,z11,z12,z13⟩:=HZ3.out.cells;have zf0:=HZ3.out.free 0;have zf1:=HZ3.out.free 1;have zf2:=HZ3.out.free 2;have zf3:=HZ3.out.free 3;have zf4:=HZ3.out.free 4;have zf5:=HZ3.out.free 5;have zf6:=HZ3.out.free 6;have zf7:=HZ3.out.free 7;have zf8:=HZ3.out.free 8;have zf9:=HZ3.out.free 9;have zf10:=HZ3.out.free 10;have zf11:=HZ3.out.free 11;have zf12:=HZ3.out.free 12;have zf13:=HZ3.out.free 13;go_wp2
 exact Z5 (rb:=w.heap.size+1) Tryz.results91 rfl rfl (RecB.put HZ3.out _ _ _ _ _ _ _ _ _ _ _ _ _ _) rfl ⟨⟨r,ds,rfl,HR.out.ks (Zm HZ3.out.ty (by decide) _ _ _ _ _ _ _ _ _ _ _ _ _ _),hdl⟩,(Zd HN3.out (by omega) _ _ _ _ _ _ _ _ _ _ _ _ _ _)⟩
theorem ZvB(ru:Rc)(u:U)(bs:LA)(s:BA)(w:World)(h:RcIs w ru u bs)(ht:Tb w)(hb:bs.length≤30001)(hs:s.size≤3000):Calls Tryz.prog 91 #[.agg #[.string ru.sch,.string ru.nam,.string ru.pw,.bool ru.hh,.string ru.host,.bool ru.hp,.int .i64 (ru.port:Int),.bool ru.op,.string ru.opath,.slice ru.so ru.sn ru.sc,.bool ru.hq,.string ru.q,.bool ru.hf,.string ru.fr],.int .i64 5,.string s] w fun e w'=>Zd7 e w' (ZaW u (clean (tl s)) false) 30002∧Nx w w':=by
 go_enter Tryz.func91,Tryz.ntmps91
 go_upto_region 1 with fail;obtain⟨g1,g2,g3⟩:=Zbe (w:=w) (ru:=ru) Nx.rfl;have HUB:=Za g1;have HZ:=Za g2;have HN:=Za g3;clear g1 g2 g3;generalize ((w.alloc (Obj.cells #[.string ru.sch,.string ru.nam,.string ru.pw,.bool ru.hh,.string ru.host,.bool ru.hp,.int .i64 (ru.port:Int),.bool ru.op,.string ru.opath,.slice ru.so ru.sn ru.sc,.bool ru.hq,.string ru.q,.bool ru.hf,.string ru.fr] 54)).alloc (Obj.cells #[.string ⟨#[]⟩,.string ⟨#[]⟩,.string ⟨#[]⟩,.bool false,.string ⟨#[]⟩,.bool false,.int .i64 0,.bool false,.string ⟨#[]⟩,.slice none 0 0,.bool false,.string ⟨#[]⟩,.bool false,.string ⟨#[]⟩] 54))=w1 at *;go_wp2_with fail
 refine(Zd1 s _ (by omega)).mono ?_
 rintro e w2 ⟨x,rfl,hx,hn2⟩
 have hxl:x.size≤9000:=by have:=Zca (tl s);rw[←hx,tl_length,tl_length]at this;omega
 have HP:Hid (∀w',Nx w w'→Calls Tryz.prog 122 #[.agg #[.string ru.sch,.string ru.nam,.string ru.pw,.bool ru.hh,.string ru.host,.bool ru.hp,.int .i64 (ru.port:Int),.bool ru.op,.string ru.opath,.slice ru.so ru.sn ru.sc,.bool ru.hq,.string ru.q,.bool ru.hf,.string ru.fr],.string x,.bool false] w' fun e w''=>Zd7 e w'' (ZaW u (tl x) false) 30002∧Nx w' w''):=Za (fun w' hn=>(Zi7 ru u bs x false w' (h.on hn) (ht.on hn) (by omega)).mono (by rintro e w2 ⟨⟨r,ds,he,hr,hd⟩,hn2⟩;exact⟨⟨r,ds,he,hr,by omega⟩,hn2⟩))
 rw[hx]at HP;have HUB2:=Za (HUB.out.on hn2);have HZ2:=Za (HZ.out.on hn2);have HN2:=Za (HN.out.then hn2);clear hx hn2 HUB HZ HN h ht hb;obtain⟨a0,a1,a2,a3,a4,a5,a6,a7,a8,a9,a10,a11,a12,a13⟩:=HUB2.out.cells;go_wp2_with fail
 refine(HP.out _ HN2.out).mono ?_
 rintro e w3 ⟨⟨r,ds,rfl,hr,hdl⟩,hn3⟩;have HR:=Za hr;have HZ3:=Za (HZ2.out.on hn3);have HN3:=Za (HN2.out.then hn3);clear hr hn3 HZ2 HN2 HUB2;clear a0 a1 a2 a3 a4 a5 a6 a7 a8 a9 a10 a11 a12 a13;obtain⟨z0,z1,z2,z3,z4,z5,z6,z7,z8,z9,z10,z11,z12,z13⟩:=HZ3.out.cells;have zf0:=HZ3.out.free 0;have zf1:=HZ3.out.free 1;have zf2:=HZ3.out.free 2;have zf3:=HZ3.out.free 3;have zf4:=HZ3.out.free 4;have zf5:=HZ3.out.free 5;have zf6:=HZ3.out.free 6;have zf7:=HZ3.out.free 7;have zf8:=HZ3.out.free 8;have zf9:=HZ3.out.free 9;have zf10:=HZ3.out.free 10;have zf11:=HZ3.out.free 11;have zf12:=HZ3.out.free 12;have zf13:=HZ3.out.free 13;go_wp2
 exact Z5 (rb:=w.heap.size+1) Tryz.results91 rfl rfl (RecB.put HZ3.out _ _ _ _ _ _ _ _ _ _ _ _ _ _) rfl ⟨⟨r,ds,rfl,HR.out.ks (Zm HZ3.out.ty (by decide) _ _ _ _ _ _ _ _ _ _ _ _ _ _),hdl⟩,(Zd HN3.out (by omega) _ _ _ _ _ _ _ _ _ _ _ _ _ _)⟩
theorem ZvC(ru:Rc)(u:U)(bs:LA)(s:BA)(w:World)(h:RcIs w ru u bs)(_ht:Tb w)(hb:bs.length≤30001)(hs:s.size≤3000):Calls Tryz.prog 91 #[.agg #[.string ru.sch,.string ru.nam,.string ru.pw,.bool ru.hh,.string ru.host,.bool ru.hp,.int .i64 (ru.port:Int),.bool ru.op,.string ru.opath,.slice ru.so ru.sn ru.sc,.bool ru.hq,.string ru.q,.bool ru.hf,.string ru.fr],.int .i64 6,.string s] w fun e w'=>Zd7 e w' ((ZbI u (clean (tl s)),0)) 30002∧Nx w w':=by
 go_enter Tryz.func91,Tryz.ntmps91
 go_upto_region 1 with fail;obtain⟨g1,g2,g3⟩:=Zbe (w:=w) (ru:=ru) Nx.rfl;have HUB:=Za g1;have HZ:=Za g2;have HN:=Za g3;clear g1 g2 g3;generalize ((w.alloc (Obj.cells #[.string ru.sch,.string ru.nam,.string ru.pw,.bool ru.hh,.string ru.host,.bool ru.hp,.int .i64 (ru.port:Int),.bool ru.op,.string ru.opath,.slice ru.so ru.sn ru.sc,.bool ru.hq,.string ru.q,.bool ru.hf,.string ru.fr] 54)).alloc (Obj.cells #[.string ⟨#[]⟩,.string ⟨#[]⟩,.string ⟨#[]⟩,.bool false,.string ⟨#[]⟩,.bool false,.int .i64 0,.bool false,.string ⟨#[]⟩,.slice none 0 0,.bool false,.string ⟨#[]⟩,.bool false,.string ⟨#[]⟩] 54))=w1 at *;go_wp2_with fail
 refine(Zd1 s _ (by omega)).mono ?_
 rintro e w2 ⟨x,rfl,hx,hn2⟩
 have hxl:x.size≤9000:=by have:=Zca (tl s);rw[←hx,tl_length,tl_length]at this;omega
 have HP:Hid (∀w',Nx w w'→Calls Tryz.prog 123 #[.agg #[.string ru.sch,.string ru.nam,.string ru.pw,.bool ru.hh,.string ru.host,.bool ru.hp,.int .i64 (ru.port:Int),.bool ru.op,.string ru.opath,.slice ru.so ru.sn ru.sc,.bool ru.hq,.string ru.q,.bool ru.hf,.string ru.fr],.int .i64 6,.string x] w' fun e w''=>ZqT e w' w'' (ZbI u (tl x))):=Za (fun w' hn=>Zk8 ru u bs x w' (h.on hn) hb (by omega))
 rw[hx]at HP;have HUB2:=Za (HUB.out.on hn2);have HZ2:=Za (HZ.out.on hn2);have HN2:=Za (HN.out.then hn2);clear hx hn2 HUB HZ HN h _ht hb;obtain⟨a0,a1,a2,a3,a4,a5,a6,a7,a8,a9,a10,a11,a12,a13⟩:=HUB2.out.cells;go_wp2_with fail
 refine(HP.out _ HN2.out).mono ?_
 rintro e w3 ⟨r,ds,rfl,hr,hdl,hn3⟩;have HR:=Za hr;have HZ3:=Za (HZ2.out.on hn3);have HN3:=Za (HN2.out.then hn3);clear hr hn3 HZ2 HN2 HUB2;clear a0 a1 a2 a3 a4 a5 a6 a7 a8 a9 a10 a11 a12 a13;obtain⟨z0,z1,z2,z3,z4,z5,z6,z7,z8,z9,z10,z11,z12,z13⟩:=HZ3.out.cells;have zf0:=HZ3.out.free 0;have zf1:=HZ3.out.free 1;have zf2:=HZ3.out.free 2;have zf3:=HZ3.out.free 3;have zf4:=HZ3.out.free 4;have zf5:=HZ3.out.free 5;have zf6:=HZ3.out.free 6;have zf7:=HZ3.out.free 7;have zf8:=HZ3.out.free 8;have zf9:=HZ3.out.free 9;have zf10:=HZ3.out.free 10;have zf11:=HZ3.out.free 11;have zf12:=HZ3.out.free 12;have zf13:=HZ3.out.free 13;go_wp2
 exact Z5 (rb:=w.heap.size+1) Tryz.results91 rfl rfl (RecB.put HZ3.out _ _ _ _ _ _ _ _ _ _ _ _ _ _) rfl ⟨⟨r,ds,rfl,HR.out.ks (Zm HZ3.out.ty (by decide) _ _ _ _ _ _ _ _ _ _ _ _ _ _),hdl⟩,(Zd HN3.out (by omega) _ _ _ _ _ _ _ _ _ _ _ _ _ _)⟩
theorem ZnY(pb:Nat)(r:Rc)(u:U)(bs:LA)(s:BA)(w:World)(hu:UrlB w pb r)(hr:RcIs w r u bs)(ht:Tb w)(hb:bs.length≤30001):Calls Tryz.prog 67 #[.pointer (some ⟨pb,0,none⟩),.string s] w fun e w'=>ZqU e w w' pb (decide (160<s.size)) (Zk9 u 4 (tl s)):=by
 have HP:=Za (ZfB 4 pb r u bs s w hu hr (fun hs=>ZvA r u bs s w hr ht hb (by omega)))
 clear hu hr ht hb
 go_enter Tryz.func67,Tryz.ntmps67
 go_wp2_with fail
 refine HP.out.mono ?_
 intro e w1 h;rcases h with⟨h1,rfl,hn⟩|⟨h1,h2,rfl,hn⟩|⟨h1,h2,rfl,hx,hbu⟩
 ·have H1:=Za h1
  have HN:=Za hn;clear h1 hn;go_wp2;go_ret;exact Or.inl ⟨H1.out,rfl,HN.out⟩
 ·have H1:=Za h1
  have H2:=Za h2;have HN:=Za hn;clear h1 h2 hn;go_wp2;go_ret;exact Or.inr (Or.inl ⟨H1.out,H2.out,rfl,HN.out⟩)
 ·have H1:=Za h1
  have H2:=Za h2;have HX:=Za hx;have HB:=Za hbu;clear h1 h2 hx hbu;go_wp2;go_ret;exact Or.inr (Or.inr ⟨H1.out,H2.out,rfl,HX.out,HB.out⟩)
theorem Zi9(pb:Nat)(r:Rc)(u:U)(bs:LA)(s:BA)(w:World)(hu:UrlB w pb r)(hr:RcIs w r u bs)(ht:Tb w)(hb:bs.length≤30001):Calls Tryz.prog 68 #[.pointer (some ⟨pb,0,none⟩),.string s] w fun e w'=>ZqU e w w' pb (decide (160<s.size)) (Zk9 u 5 (tl s)):=by
 have HP:=Za (ZfB 5 pb r u bs s w hu hr (fun hs=>ZvB r u bs s w hr ht hb (by omega)))
 clear hu hr ht hb
 go_enter Tryz.func68,Tryz.ntmps68
 go_wp2_with fail
 refine HP.out.mono ?_
 intro e w1 h;rcases h with⟨h1,rfl,hn⟩|⟨h1,h2,rfl,hn⟩|⟨h1,h2,rfl,hx,hbu⟩
 ·have H1:=Za h1
  have HN:=Za hn;clear h1 hn;go_wp2;go_ret;exact Or.inl ⟨H1.out,rfl,HN.out⟩
 ·have H1:=Za h1
  have H2:=Za h2;have HN:=Za hn;clear h1 h2 hn;go_wp2;go_ret;exact Or.inr (Or.inl ⟨H1.out,H2.out,rfl,HN.out⟩)
 ·have H1:=Za h1
  have H2:=Za h2;have HX:=Za hx;have HB:=Za hbu;clear h1 h2 hx hbu;go_wp2;go_ret;exact Or.inr (Or.inr ⟨H1.out,H2.out,rfl,HX.out,HB.out⟩)
theorem ZnZ(pb:Nat)(r:Rc)(u:U)(bs:LA)(s:BA)(w:World)(hu:UrlB w pb r)(hr:RcIs w r u bs)(ht:Tb w)(hb:bs.length≤30001):Calls Tryz.prog 69 #[.pointer (some ⟨pb,0,none⟩),.string s] w fun e w'=>ZqU e w w' pb (decide (160<s.size)) (Zk9 u 6 (tl s)):=by
 have HP:=Za (ZfB 6 pb r u bs s w hu hr (fun hs=>ZvC r u bs s w hr ht hb (by omega)))
 clear hu hr ht hb
 go_enter Tryz.func69,Tryz.ntmps69
 go_wp2_with fail
 refine HP.out.mono ?_
 intro e w1 h;rcases h with⟨h1,rfl,hn⟩|⟨h1,h2,rfl,hn⟩|⟨h1,h2,rfl,hx,hbu⟩
 ·have H1:=Za h1
  have HN:=Za hn;clear h1 hn;go_wp2;go_ret;exact Or.inl ⟨H1.out,rfl,HN.out⟩
 ·have H1:=Za h1
  have H2:=Za h2;have HN:=Za hn;clear h1 h2 hn;go_wp2;go_ret;exact Or.inr (Or.inl ⟨H1.out,H2.out,rfl,HN.out⟩)
 ·have H1:=Za h1
  have H2:=Za h2;have HX:=Za hx;have HB:=Za hbu;clear h1 h2 hx hbu;go_wp2;go_ret;exact Or.inr (Or.inr ⟨H1.out,H2.out,rfl,HX.out,HB.out⟩)
end Go.Proofs.YtchkhibgbnhjpaaGreatDoor
