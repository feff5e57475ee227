import Derived.Test.YtchkhibgbnhjpabGreatDoorT11
namespace Go.Proofs.YtchkhibgbnhjpabGreatDoor
open Go.RowKit
set_option maxHeartbeats 8000000
set_option maxRecDepth 8000
def ZuW(u:U)(k:Int)(l:List UInt8):U×Int:=
 if k=0 then ZbK (clean l)else if k=4 then ZuN u (clean l) true else if k=5 then ZuN u (clean l) false else(Zzg u k (clean l),0)
theorem ZAn(ru:Rc)(u:U)(bs:LA)(s:BA)(w:World)(_h:RcIs w ru u bs)(ht:Tb w)(_hb:bs.length≤30001)(hs:s.size≤3000):Calls Tryz.prog 170 #[.agg #[.string ru.sch,.string ru.nam,.string ru.pw,.bool ru.hh,.string ru.host,.bool ru.hp,.int .i64 (ru.port:Int),.bool ru.op,.string ru.opath,.slice ru.so ru.sn ru.sc,.bool ru.hq,.string ru.q,.bool ru.hf,.string ru.fr],.int .i64 0,.string s] w fun e w'=>Zfc e w' (ZbK (clean (tl s))) 30002∧Nx w w':=by
 go_enter Tryz.func170,Tryz.ntmps170
 go_upto_region 1 with fail;obtain⟨g1,g2,g3⟩:=Zcb (w:=w) (ru:=ru) Nx.rfl;have HUB:=Za g1;have HZ:=Za g2;have HN:=Za g3;clear g1 g2 g3;generalize ((w.alloc (Obj.cells #[.string ru.sch,.string ru.nam,.string ru.pw,.bool ru.hh,.string ru.host,.bool ru.hp,.int .i64 (ru.port:Int),.bool ru.op,.string ru.opath,.slice ru.so ru.sn ru.sc,.bool ru.hq,.string ru.q,.bool ru.hf,.string ru.fr] 101)).alloc (Obj.cells #[.string ⟨#[]⟩,.string ⟨#[]⟩,.string ⟨#[]⟩,.bool false,.string ⟨#[]⟩,.bool false,.int .i64 0,.bool false,.string ⟨#[]⟩,.slice none 0 0,.bool false,.string ⟨#[]⟩,.bool false,.string ⟨#[]⟩] 101))=w1 at *;go_wp2_with fail
 refine(Zbo s _ (by omega)).mono ?_
 rintro e w2 ⟨x,rfl,hx,hn2⟩
 have hxl:x.size≤9000:=by have:=Za9 (tl s);rw[←hx,tl_length,tl_length]at this;omega
 have HP:Hid (∀w',Nx w w'→Calls Tryz.prog 137 #[.string x] w' fun e w''=>Zfc e w'' (ZbK (tl x)) 30002∧Nx w' w''):=Za (fun w' hn=>(ZiK x w' (by omega) (ht.on hn)).mono (by rintro e w2 ⟨⟨r,ds,he,hr,hd⟩,hn2⟩;exact⟨⟨r,ds,he,hr,by omega⟩,hn2⟩))
 rw[hx]at HP;have HUB2:=Za (HUB.out.on hn2);have HZ2:=Za (HZ.out.on hn2);have HN2:=Za (HN.out.then hn2);clear hx hn2 HUB HZ HN _h ht _hb;obtain⟨a0,a1,a2,a3,a4,a5,a6,a7,a8,a9,a10,a11,a12,a13⟩:=HUB2.out.cells;go_wp2_with fail
 refine(HP.out _ HN2.out).mono ?_
 rintro e w3 ⟨⟨r,ds,rfl,hr,hdl⟩,hn3⟩;have HR:=Za hr;have HZ3:=Za (HZ2.out.on hn3);have HN3:=Za (HN2.out.then hn3);clear hr hn3 HZ2 HN2 HUB2;clear a0 a1 a2 a3 a4 a5 a6 a7 a8 a9 a10 a11 a12 a13;obtain⟨z0,z1,z2,z3,z4,z5,z6,z7,z8,z9,z10,z11,z12,z13⟩:=HZ3.out.cells;have zf0:=HZ3.out.free 0;have zf1:=HZ3.out.free 1;have zf2:=HZ3.out.free 2;have zf3:=HZ3.out.free 3;have zf4:=HZ3.out.free 4;have zf5:=HZ3.out.free 5;have zf6:=HZ3.out.free 6;have zf7:=HZ3.out.free 7;have zf8:=HZ3.out.free 8;have zf9:=HZ3.out.free 9;have zf10:=HZ3.out.free 10;have zf11:=HZ3.out.free 11;have zf12:=HZ3.out.free 12;have zf13:=HZ3.out.free 13;go_wp2
 exact Z9 (rb:=w.heap.size+1) Tryz.results170 rfl rfl (RecB.put HZ3.out _ _ _ _ _ _ _ _ _ _ _ _ _ _) rfl ⟨⟨r,ds,rfl,HR.out.ks (Zq HZ3.out.ty (by decide) _ _ _ _ _ _ _ _ _ _ _ _ _ _),hdl⟩,(Zd HN3.out (by omega) _ _ _ _ _ _ _ _ _ _ _ _ _ _)⟩
theorem ZAo(ru:Rc)(u:U)(bs:LA)(s:BA)(w:World)(h:RcIs w ru u bs)(_ht:Tb w)(hb:bs.length≤30001)(hs:s.size≤3000):Calls Tryz.prog 170 #[.agg #[.string ru.sch,.string ru.nam,.string ru.pw,.bool ru.hh,.string ru.host,.bool ru.hp,.int .i64 (ru.port:Int),.bool ru.op,.string ru.opath,.slice ru.so ru.sn ru.sc,.bool ru.hq,.string ru.q,.bool ru.hf,.string ru.fr],.int .i64 1,.string s] w fun e w'=>Zfc e w' ((ZuH u (clean (tl s)),0)) 30002∧Nx w w':=by
 go_enter Tryz.func170,Tryz.ntmps170
 go_upto_region 1 with fail;obtain⟨g1,g2,g3⟩:=Zcb (w:=w) (ru:=ru) Nx.rfl;have HUB:=Za g1;have HZ:=Za g2;have HN:=Za g3;clear g1 g2 g3;generalize ((w.alloc (Obj.cells #[.string ru.sch,.string ru.nam,.string ru.pw,.bool ru.hh,.string ru.host,.bool ru.hp,.int .i64 (ru.port:Int),.bool ru.op,.string ru.opath,.slice ru.so ru.sn ru.sc,.bool ru.hq,.string ru.q,.bool ru.hf,.string ru.fr] 101)).alloc (Obj.cells #[.string ⟨#[]⟩,.string ⟨#[]⟩,.string ⟨#[]⟩,.bool false,.string ⟨#[]⟩,.bool false,.int .i64 0,.bool false,.string ⟨#[]⟩,.slice none 0 0,.bool false,.string ⟨#[]⟩,.bool false,.string ⟨#[]⟩] 101))=w1 at *;go_wp2_with fail
 refine(Zbo s _ (by omega)).mono ?_
 rintro e w2 ⟨x,rfl,hx,hn2⟩
 have hxl:x.size≤9000:=by have:=Za9 (tl s);rw[←hx,tl_length,tl_length]at this;omega
 have HP:Hid (∀w',Nx w w'→Calls Tryz.prog 208 #[.agg #[.string ru.sch,.string ru.nam,.string ru.pw,.bool ru.hh,.string ru.host,.bool ru.hp,.int .i64 (ru.port:Int),.bool ru.op,.string ru.opath,.slice ru.so ru.sn ru.sc,.bool ru.hq,.string ru.q,.bool ru.hf,.string ru.fr],.int .i64 1,.string x] w' fun e w''=>Zvm e w' w'' (ZuH u (tl x))):=Za (fun w' hn=>Zw0 ru u bs x w' (h.on hn) hb (by omega))
 rw[hx]at HP;have HUB2:=Za (HUB.out.on hn2);have HZ2:=Za (HZ.out.on hn2);have HN2:=Za (HN.out.then hn2);clear hx hn2 HUB HZ HN h _ht hb;obtain⟨a0,a1,a2,a3,a4,a5,a6,a7,a8,a9,a10,a11,a12,a13⟩:=HUB2.out.cells;go_wp2_with fail
 refine(HP.out _ HN2.out).mono ?_
 rintro e w3 ⟨r,ds,rfl,hr,hdl,hn3⟩;have HR:=Za hr;have HZ3:=Za (HZ2.out.on hn3);have HN3:=Za (HN2.out.then hn3);clear hr hn3 HZ2 HN2 HUB2;clear a0 a1 a2 a3 a4 a5 a6 a7 a8 a9 a10 a11 a12 a13;obtain⟨z0,z1,z2,z3,z4,z5,z6,z7,z8,z9,z10,z11,z12,z13⟩:=HZ3.out.cells;have zf0:=HZ3.out.free 0;have zf1:=HZ3.out.free 1;have zf2:=HZ3.out.free 2;have zf3:=HZ3.out.free 3;have zf4:=HZ3.out.free 4;have zf5:=HZ3.out.free 5;have zf6:=HZ3.out.free 6;have zf7:=HZ3.out.free 7;have zf8:=HZ3.out.free 8;have zf9:=HZ3.out.free 9;have zf10:=HZ3.out.free 10;have zf11:=HZ3.out.free 11;have zf12:=HZ3.out.free 12;have zf13:=HZ3.out.free 13;go_wp2
 exact Z9 (rb:=w.heap.size+1) Tryz.results170 rfl rfl (RecB.put HZ3.out _ _ _ _ _ _ _ _ _ _ _ _ _ _) rfl ⟨⟨r,ds,rfl,HR.out.ks (Zq HZ3.out.ty (by decide) _ _ _ _ _ _ _ _ _ _ _ _ _ _),hdl⟩,(Zd HN3.out (by omega) _ _ _ _ _ _ _ _ _ _ _ _ _ _)⟩
theorem ZAp(ru:Rc)(u:U)(bs:LA)(s:BA)(w:World)(h:RcIs w ru u bs)(_ht:Tb w)(hb:bs.length≤30001)(hs:s.size≤3000):Calls Tryz.prog 170 #[.agg #[.string ru.sch,.string ru.nam,.string ru.pw,.bool ru.hh,.string ru.host,.bool ru.hp,.int .i64 (ru.port:Int),.bool ru.op,.string ru.opath,.slice ru.so ru.sn ru.sc,.bool ru.hq,.string ru.q,.bool ru.hf,.string ru.fr],.int .i64 2,.string s] w fun e w'=>Zfc e w' ((ZuK u 2 (clean (tl s)),0)) 30002∧Nx w w':=by
 go_enter Tryz.func170,Tryz.ntmps170
 go_upto_region 1 with fail;obtain⟨g1,g2,g3⟩:=Zcb (w:=w) (ru:=ru) Nx.rfl;have HUB:=Za g1;have HZ:=Za g2;have HN:=Za g3;clear g1 g2 g3;generalize ((w.alloc (Obj.cells #[.string ru.sch,.string ru.nam,.string ru.pw,.bool ru.hh,.string ru.host,.bool ru.hp,.int .i64 (ru.port:Int),.bool ru.op,.string ru.opath,.slice ru.so ru.sn ru.sc,.bool ru.hq,.string ru.q,.bool ru.hf,.string ru.fr] 101)).alloc (Obj.cells #[.string ⟨#[]⟩,.string ⟨#[]⟩,.string ⟨#[]⟩,.bool false,.string ⟨#[]⟩,.bool false,.int .i64 0,.bool false,.string ⟨#[]⟩,.slice none 0 0,.bool false,.string ⟨#[]⟩,.bool false,.string ⟨#[]⟩] 101))=w1 at *;go_wp2_with fail
 refine(Zbo s _ (by omega)).mono ?_
 rintro e w2 ⟨x,rfl,hx,hn2⟩
 have hxl:x.size≤9000:=by have:=Za9 (tl s);rw[←hx,tl_length,tl_length]at this;omega
 have HP:Hid (∀w',Nx w w'→Calls Tryz.prog 208 #[.agg #[.string ru.sch,.string ru.nam,.string ru.pw,.bool ru.hh,.string ru.host,.bool ru.hp,.int .i64 (ru.port:Int),.bool ru.op,.string ru.opath,.slice ru.so ru.sn ru.sc,.bool ru.hq,.string ru.q,.bool ru.hf,.string ru.fr],.int .i64 2,.string x] w' fun e w''=>Zvm e w' w'' (ZuK u 2 (tl x))):=Za (fun w' hn=>Zw1 ru u bs x w' (h.on hn) hb (by omega))
 rw[hx]at HP;have HUB2:=Za (HUB.out.on hn2);have HZ2:=Za (HZ.out.on hn2);have HN2:=Za (HN.out.then hn2);clear hx hn2 HUB HZ HN h _ht hb;obtain⟨a0,a1,a2,a3,a4,a5,a6,a7,a8,a9,a10,a11,a12,a13⟩:=HUB2.out.cells;go_wp2_with fail
 refine(HP.out _ HN2.out).mono ?_
 rintro e w3 ⟨r,ds,rfl,hr,hdl,hn3⟩;have HR:=Za hr;have HZ3:=Za (HZ2.out.on hn3);have HN3:=Za (HN2.out.then hn3);clear hr hn3 HZ2 HN2 HUB2;clear a0 a1 a2 a3 a4 a5 a6 a7 a8 a9 a10 a11 a12 a13;obtain⟨z0,z1,z2,z3,z4,z5,z6,z7,z8,z9,z10,z11,z12,z13⟩:=HZ3.out.cells;have zf0:=HZ3.out.free 0;have zf1:=HZ3.out.free 1;have zf2:=HZ3.out.free 2;have zf3:=HZ3.out.free 3;have zf4:=HZ3.out.free 4;have zf5:=HZ3.out.free 5;have zf6:=HZ3.out.free 6;have zf7:=HZ3.out.free 7;have zf8:=HZ3.out.free 8;have zf9:=HZ3.out.free 9;have zf10:=HZ3.out.free 10;have zf11:=HZ3.out.free 11;have zf12:=HZ3.out.free 12;have zf13:=HZ3.out.free 13;go_wp2
 exact Z9 (rb:=w.heap.size+1) Tryz.results170 rfl rfl (RecB.put HZ3.out _ _ _ _ _ _ _ _ _ _ _ _ _ _) rfl ⟨⟨r,ds,rfl,HR.out.ks (Zq HZ3.out.ty (by decide) _ _ _ _ _ _ _ _ _ _ _ _ _ _),hdl⟩,(Zd HN3.out (by omega) _ _ _ _ _ _ _ _ _ _ _ _ _ _)⟩
theorem ZAq(ru:Rc)(u:U)(bs:LA)(s:BA)(w:World)(h:RcIs w ru u bs)(_ht:Tb w)(hb:bs.length≤30001)(hs:s.size≤3000):Calls Tryz.prog 170 #[.agg #[.string ru.sch,.string ru.nam,.string ru.pw,.bool ru.hh,.string ru.host,.bool ru.hp,.int .i64 (ru.port:Int),.bool ru.op,.string ru.opath,.slice ru.so ru.sn ru.sc,.bool ru.hq,.string ru.q,.bool ru.hf,.string ru.fr],.int .i64 3,.string s] w fun e w'=>Zfc e w' ((ZuK u 3 (clean (tl s)),0)) 30002∧Nx w w':=by
 go_enter Tryz.func170,Tryz.ntmps170
 go_upto_region 1 with fail;obtain⟨g1,g2,g3⟩:=Zcb (w:=w) (ru:=ru) Nx.rfl;have HUB:=Za g1;have HZ:=Za g2;have HN:=Za g3;clear g1 g2 g3;generalize ((w.alloc (Obj.cells #[.string ru.sch,.string ru.nam,.string ru.pw,.bool ru.hh,.string ru.host,.bool ru.hp,.int .i64 (ru.port:Int),.bool ru.op,.string ru.opath,.slice ru.so ru.sn ru.sc,.bool ru.hq,.string ru.q,.bool ru.hf,.string ru.fr] 101)).alloc (Obj.cells #[.string ⟨#[]⟩,.string ⟨#[]⟩,.string ⟨#[]⟩,.bool false,.string ⟨#[]⟩,.bool false,.int .i64 0,.bool false,.string ⟨#[]⟩,.slice none 0 0,.bool false,.string ⟨#[]⟩,.bool false,.string ⟨#[]⟩] 101))=w1 at *;go_wp2_with fail
 refine(Zbo s _ (by omega)).mono ?_
 rintro e w2 ⟨x,rfl,hx,hn2⟩
 have hxl:x.size≤9000:=by have:=Za9 (tl s);rw[←hx,tl_length,tl_length]at this;omega
 have HP:Hid (∀w',Nx w w'→Calls Tryz.prog 208 #[.agg #[.string ru.sch,.string ru.nam,.string ru.pw,.bool ru.hh,.string ru.host,.bool ru.hp,.int .i64 (ru.port:Int),.bool ru.op,.string ru.opath,.slice ru.so ru.sn ru.sc,.bool ru.hq,.string ru.q,.bool ru.hf,.string ru.fr],.int .i64 3,.string x] w' fun e w''=>Zvm e w' w'' (ZuK u 3 (tl x))):=Za (fun w' hn=>Zw2 ru u bs x w' (h.on hn) hb (by omega))
 rw[hx]at HP;have HUB2:=Za (HUB.out.on hn2);have HZ2:=Za (HZ.out.on hn2);have HN2:=Za (HN.out.then hn2);clear hx hn2 HUB HZ HN h _ht hb;obtain⟨a0,a1,a2,a3,a4,a5,a6,a7,a8,a9,a10,a11,a12,a13⟩:=HUB2.out.cells;go_wp2_with fail
 refine(HP.out _ HN2.out).mono ?_
 rintro e w3 ⟨r,ds,rfl,hr,hdl,hn3⟩;have HR:=Za hr;have HZ3:=Za (HZ2.out.on hn3);have HN3:=Za (HN2.out.then hn3);clear hr hn3 HZ2 HN2 HUB2;clear a0 a1 a2 a3 a4 a5 a6 a7 a8 a9 a10 a11 a12 a13;obtain⟨z0,z1,z2,z3,z4,z5,z6,z7,z8,z9,z10,z11,z12,z13⟩:=HZ3.out.cells;have zf0:=HZ3.out.free 0;have zf1:=HZ3.out.free 1;have zf2:=HZ3.out.free 2;have zf3:=HZ3.out.free 3;have zf4:=HZ3.out.free 4;have zf5:=HZ3.out.free 5;have zf6:=HZ3.out.free 6;have zf7:=HZ3.out.free 7;have zf8:=HZ3.out.free 8;have zf9:=HZ3.out.free 9;have zf10:=HZ3.out.free 10;have zf11:=HZ3.out.free 11;have zf12:=HZ3.out.free 12;have zf13:=HZ3.out.free 13;go_wp2
 exact Z9 (rb:=w.heap.size+1) Tryz.results170 rfl rfl (RecB.put HZ3.out _ _ _ _ _ _ _ _ _ _ _ _ _ _) rfl ⟨⟨r,ds,rfl,HR.out.ks (Zq HZ3.out.ty (by decide) _ _ _ _ _ _ _ _ _ _ _ _ _ _),hdl⟩,(Zd HN3.out (by omega) _ _ _ _ _ _ _ _ _ _ _ _ _ _)⟩
theorem ZAr(ru:Rc)(u:U)(bs:LA)(s:BA)(w:World)(h:RcIs w ru u bs)(ht:Tb w)(hb:bs.length≤30001)(hs:s.size≤3000):Calls Tryz.prog 170 #[.agg #[.string ru.sch,.string ru.nam,.string ru.pw,.bool ru.hh,.string ru.host,.bool ru.hp,.int .i64 (ru.port:Int),.bool ru.op,.string ru.opath,.slice ru.so ru.sn ru.sc,.bool ru.hq,.string ru.q,.bool ru.hf,.string ru.fr],.int .i64 4,.string s] w fun e w'=>Zfc e w' (ZuN u (clean (tl s)) true) 30002∧Nx w w':=by
 go_enter Tryz.func170,Tryz.ntmps170
 go_upto_region 1 with fail;obtain⟨g1,g2,g3⟩:=Zcb (w:=w) (ru:=ru) Nx.rfl;have HUB:=Za g1;have HZ:=Za g2;have HN:=Za g3;clear g1 g2 g3;generalize ((w.alloc (Obj.cells #[.string ru.sch,.string ru.nam,.string ru.pw,.bool ru.hh,.string ru.host,.bool ru.hp,.int .i64 (ru.port:Int),.bool ru.op,.string ru.opath,.slice ru.so ru.sn ru.sc,.bool ru.hq,.string ru.q,.bool ru.hf,.string ru.fr] 101)).alloc (Obj.cells #[.string ⟨#[]⟩,.string ⟨#[]⟩,.string ⟨#[]⟩,.bool false,.string ⟨#[]⟩,.bool false,.int .i64 0,.bool false,.string ⟨#[]⟩,.slice none 0 0,.bool false,.string ⟨#[]⟩,.bool false,.string ⟨#[]⟩] 101))=w1 at *;go_wp2_with fail
 refine(Zbo s _ (by omega)).mono ?_
 rintro e w2 ⟨x,rfl,hx,hn2⟩
 have hxl:x.size≤9000:=by have:=Za9 (tl s);rw[←hx,tl_length,tl_length]at this;omega
 have HP:Hid (∀w',Nx w w'→Calls Tryz.prog 207 #[.agg #[.string ru.sch,.string ru.nam,.string ru.pw,.bool ru.hh,.string ru.host,.bool ru.hp,.int .i64 (ru.port:Int),.bool ru.op,.string ru.opath,.slice ru.so ru.sn ru.sc,.bool ru.hq,.string ru.q,.bool ru.hf,.string ru.fr],.string x,.bool true] w' fun e w''=>Zfc e w'' (ZuN u (tl x) true) 30002∧Nx w' w''):=Za (fun w' hn=>(Zwc ru u bs x true w' (h.on hn) (ht.on hn) (by omega)).mono (by rintro e w2 ⟨⟨r,ds,he,hr,hd⟩,hn2⟩;exact⟨⟨r,ds,he,hr,by omega⟩,hn2⟩))
 rw[hx]at HP;have HUB2:=Za (HUB.out.on hn2);have HZ2:=Za (HZ.out.on hn2);have HN2:=Za (HN.out.then hn2);clear hx hn2 HUB HZ HN h ht hb;obtain⟨a0,a1,a2,a3,a4,a5,a6,a7,a8,a9,a10,a11,a12,a13⟩:=HUB2.out.cells;go_wp2_with fail
 refine(HP.out _ HN2.out).mono ?_
 rintro e w3 ⟨⟨r,ds,rfl,hr,hdl⟩,hn3⟩;have HR:=Za hr;have HZ3:=Za (HZ2.out.on hn3);have HN3:=Za (HN2.out.then hn3);clear hr hn3 HZ2 HN2 HUB2;clear a0 a1 a2 a3 a4 a5 a6 a7 a8 a9 a10 a11 a12 a13;obtain⟨z0,z1,z2,z3,z4,z5,z6,z7,z8,z9,z10,z11,z12,z13⟩:=HZ3.out.cells;have zf0:=HZ3.out.free 0;have zf1:=HZ3.out.free 1;have zf2:=HZ3.out.free 2;have zf3:=HZ3.out.free 3;have zf4:=HZ3.out.free 4;have zf5:=HZ3.out.free 5;have zf6:=HZ3.out.free 6;have zf7:=HZ3.out.free 7;have zf8:=HZ3.out.free 8;have zf9:=HZ3.out.free 9;have zf10:=HZ3.out.free 10;have zf11:=HZ3.out.free 11;have zf12:=HZ3.out.free 12;have zf13:=HZ3.out.free 13;go_wp2
 exact Z9 (rb:=w.heap.size+1) Tryz.results170 rfl rfl (RecB.put HZ3.out _ _ _ _ _ _ _ _ _ _ _ _ _ _) rfl ⟨⟨r,ds,rfl,HR.out.ks (Zq HZ3.out.ty (by decide) _ _ _ _ _ _ _ _ _ _ _ _ _ _),hdl⟩,(Zd HN3.out (by omega) _ _ _ _ _ _ _ _ _ _ _ _ _ _)⟩
theorem ZAs(ru:Rc)(u:U)(bs:LA)(s:BA)(w:World)(h:RcIs w ru u bs)(ht:Tb w)(hb:bs.length≤30001)(hs:s.size≤3000):Calls Tryz.prog 170 #[.agg #[.string ru.sch,.string ru.nam,.string ru.pw,.bool ru.hh,.string ru.host,.bool ru.hp,.int .i64 (ru.port:Int),.bool ru.op,.string ru.opath,.slice ru.so ru.sn ru.sc,.bool ru.hq,.string ru.q,.bool ru.hf,.string ru.fr],.int .i64 5,.string s] w fun e w'=>Zfc e w' (ZuN u (clean (tl s)) false) 30002∧Nx w w':=by
 go_enter Tryz.func170,Tryz.ntmps170
 go_upto_region 1 with fail;obtain⟨g1,g2,g3⟩:=Zcb (w:=w) (ru:=ru) Nx.rfl;have HUB:=Za g1;have HZ:=Za g2;have HN:=Za g3;clear g1 g2 g3;generalize ((w.alloc (Obj.cells #[.string ru.sch,.string ru.nam,.string ru.pw,.bool ru.hh,.string ru.host,.bool ru.hp,.int .i64 (ru.port:Int),.bool ru.op,.string ru.opath,.slice ru.so ru.sn ru.sc,.bool ru.hq,.string ru.q,.bool ru.hf,.string ru.fr] 101)).alloc (Obj.cells #[.string ⟨#[]⟩,.string ⟨#[]⟩,.string ⟨#[]⟩,.bool false,.string ⟨#[]⟩,.bool false,.int .i64 0,.bool false,.string ⟨#[]⟩,.slice none 0 0,.bool false,.string ⟨#[]⟩,.bool false,.string ⟨#[]⟩] 101))=w1 at *;go_wp2_with fail
 refine(Zbo s _ (by omega)).mono ?_
 rintro e w2 ⟨x,rfl,hx,hn2⟩
 have hxl:x.size≤9000:=by have:=Za9 (tl s);rw[←hx,tl_length,tl_length]at this;omega
 have HP:Hid (∀w',Nx w w'→Calls Tryz.prog 207 #[.agg #[.string ru.sch,.string ru.nam,.string ru.pw,.bool ru.hh,.string ru.host,.bool ru.hp,.int .i64 (ru.port:Int),.bool ru.op,.string ru.opath,.slice ru.so ru.sn ru.sc,.bool ru.hq,.string ru.q,.bool ru.hf,.string ru.fr],.string x,.bool false] w' fun e w''=>Zfc e w'' (ZuN u (tl x) false) 30002∧Nx w' w''):=Za (fun w' hn=>(Zwc ru u bs x false w' (h.on hn) (ht.on hn) (by omega)).mono (by rintro e w2 ⟨⟨r,ds,he,hr,hd⟩,hn2⟩;exact⟨⟨r,ds,he,hr,by omega⟩,hn2⟩))
 rw[hx]at HP;have HUB2:=Za (HUB.out.on hn2);have HZ2:=Za (HZ.out.on hn2);have HN2:=Za (HN.out.then hn2);clear hx hn2 HUB HZ HN h ht hb;obtain⟨a0,a1,a2,a3,a4,a5,a6,a7,a8,a9,a10,a11,a12,a13⟩:=HUB2.out.cells;go_wp2_with fail
 refine(HP.out _ HN2.out).mono ?_
 rintro e w3 ⟨⟨r,ds,rfl,hr,hdl⟩,hn3⟩;have HR:=Za hr;have HZ3:=Za (HZ2.out.on hn3);have HN3:=Za (HN2.out.then hn3);clear hr hn3 HZ2 HN2 HUB2;clear a0 a1 a2 a3 a4 a5 a6 a7 a8 a9 a10 a11 a12 a13;obtain⟨z0,z1,z2,z3,z4,z5,z6,z7,z8,z9,z10,z11,z12,z13⟩:=HZ3.out.cells;have zf0:=HZ3.out.free 0;have zf1:=HZ3.out.free 1;have zf2:=HZ3.out.free 2;have zf3:=HZ3.out.free 3;have zf4:=HZ3.out.free 4;have zf5:=HZ3.out.free 5;have zf6:=HZ3.out.free 6;have zf7:=HZ3.out.free 7;have zf8:=HZ3.out.free 8;have zf9:=HZ3.out.free 9;have zf10:=HZ3.out.free 10;have zf11:=HZ3.out.free 11;have zf12:=HZ3.out.free 12;have zf13:=HZ3.out.free 13;go_wp2
 exact Z9 (rb:=w.heap.size+1) Tryz.results170 rfl rfl (RecB.put HZ3.out _ _ _ _ _ _ _ _ _ _ _ _ _ _) rfl ⟨⟨r,ds,rfl,HR.out.ks (Zq HZ3.out.ty (by decide) _ _ _ _ _ _ _ _ _ _ _ _ _ _),hdl⟩,(Zd HN3.out (by omega) _ _ _ _ _ _ _ _ _ _ _ _ _ _)⟩
theorem ZAt(ru:Rc)(u:U)(bs:LA)(s:BA)(w:World)(h:RcIs w ru u bs)(_ht:Tb w)(hb:bs.length≤30001)(hs:s.size≤3000):Calls Tryz.prog 170 #[.agg #[.string ru.sch,.string ru.nam,.string ru.pw,.bool ru.hh,.string ru.host,.bool ru.hp,.int .i64 (ru.port:Int),.bool ru.op,.string ru.opath,.slice ru.so ru.sn ru.sc,.bool ru.hq,.string ru.q,.bool ru.hf,.string ru.fr],.int .i64 6,.string s] w fun e w'=>Zfc e w' ((ZuP u (clean (tl s)),0)) 30002∧Nx w w':=by
 go_enter Tryz.func170,Tryz.ntmps170
 go_upto_region 1 with fail;obtain⟨g1,g2,g3⟩:=Zcb (w:=w) (ru:=ru) Nx.rfl;have HUB:=Za g1;have HZ:=Za g2;have HN:=Za g3;clear g1 g2 g3;generalize ((w.alloc (Obj.cells #[.string ru.sch,.string ru.nam,.string ru.pw,.bool ru.hh,.string ru.host,.bool ru.hp,.int .i64 (ru.port:Int),.bool ru.op,.string ru.opath,.slice ru.so ru.sn ru.sc,.bool ru.hq,.string ru.q,.bool ru.hf,.string ru.fr] 101)).alloc (Obj.cells #[.string ⟨#[]⟩,.string ⟨#[]⟩,.string ⟨#[]⟩,.bool false,.string ⟨#[]⟩,.bool false,.int .i64 0,.bool false,.string ⟨#[]⟩,.slice none 0 0,.bool false,.string ⟨#[]⟩,.bool false,.string ⟨#[]⟩] 101))=w1 at *;go_wp2_with fail
 refine(Zbo s _ (by omega)).mono ?_
 rintro e w2 ⟨x,rfl,hx,hn2⟩
 have hxl:x.size≤9000:=by have:=Za9 (tl s);rw[←hx,tl_length,tl_length]at this;omega
 have HP:Hid (∀w',Nx w w'→Calls Tryz.prog 208 #[.agg #[.string ru.sch,.string ru.nam,.string ru.pw,.bool ru.hh,.string ru.host,.bool ru.hp,.int .i64 (ru.port:Int),.bool ru.op,.string ru.opath,.slice ru.so ru.sn ru.sc,.bool ru.hq,.string ru.q,.bool ru.hf,.string ru.fr],.int .i64 6,.string x] w' fun e w''=>Zvm e w' w'' (ZuP u (tl x))):=Za (fun w' hn=>Zw3 ru u bs x w' (h.on hn) hb (by omega))
 rw[hx]at HP;have HUB2:=Za (HUB.out.on hn2);have HZ2:=Za (HZ.out.on hn2);have HN2:=Za (HN.out.then hn2);clear hx hn2 HUB HZ HN h _ht hb;obtain⟨a0,a1,a2,a3,a4,a5,a6,a7,a8,a9,a10,a11,a12,a13⟩:=HUB2.out.cells;go_wp2_with fail
 refine(HP.out _ HN2.out).mono ?_
 rintro e w3 ⟨r,ds,rfl,hr,hdl,hn3⟩;have HR:=Za hr;have HZ3:=Za (HZ2.out.on hn3);have HN3:=Za (HN2.out.then hn3);clear hr hn3 HZ2 HN2 HUB2;clear a0 a1 a2 a3 a4 a5 a6 a7 a8 a9 a10 a11 a12 a13;obtain⟨z0,z1,z2,z3,z4,z5,z6,z7,z8,z9,z10,z11,z12,z13⟩:=HZ3.out.cells;have zf0:=HZ3.out.free 0;have zf1:=HZ3.out.free 1;have zf2:=HZ3.out.free 2;have zf3:=HZ3.out.free 3;have zf4:=HZ3.out.free 4;have zf5:=HZ3.out.free 5;have zf6:=HZ3.out.free 6;have zf7:=HZ3.out.free 7;have zf8:=HZ3.out.free 8;have zf9:=HZ3.out.free 9;have zf10:=HZ3.out.free 10;have zf11:=HZ3.out.free 11;have zf12:=HZ3.out.free 12;have zf13:=HZ3.out.free 13;go_wp2
 exact Z9 (rb:=w.heap.size+1) Tryz.results170 rfl rfl (RecB.put HZ3.out _ _ _ _ _ _ _ _ _ _ _ _ _ _) rfl ⟨⟨r,ds,rfl,HR.out.ks (Zq HZ3.out.ty (by decide) _ _ _ _ _ _ _ _ _ _ _ _ _ _),hdl⟩,(Zd HN3.out (by omega) _ _ _ _ _ _ _ _ _ _ _ _ _ _)⟩
theorem ZAu(ru:Rc)(u:U)(bs:LA)(s:BA)(w:World)(h:RcIs w ru u bs)(_ht:Tb w)(hb:bs.length≤30001)(hs:s.size≤3000):Calls Tryz.prog 170 #[.agg #[.string ru.sch,.string ru.nam,.string ru.pw,.bool ru.hh,.string ru.host,.bool ru.hp,.int .i64 (ru.port:Int),.bool ru.op,.string ru.opath,.slice ru.so ru.sn ru.sc,.bool ru.hq,.string ru.q,.bool ru.hf,.string ru.fr],.int .i64 7,.string s] w fun e w'=>Zfc e w' ((ZuT u (clean (tl s)),0)) 30002∧Nx w w':=by
 go_enter Tryz.func170,Tryz.ntmps170
 go_upto_region 1 with fail;obtain⟨g1,g2,g3⟩:=Zcb (w:=w) (ru:=ru) Nx.rfl;have HUB:=Za g1;have HZ:=Za g2;have HN:=Za g3;clear g1 g2 g3;generalize ((w.alloc (Obj.cells #[.string ru.sch,.string ru.nam,.string ru.pw,.bool ru.hh,.string ru.host,.bool ru.hp,.int .i64 (ru.port:Int),.bool ru.op,.string ru.opath,.slice ru.so ru.sn ru.sc,.bool ru.hq,.string ru.q,.bool ru.hf,.string ru.fr] 101)).alloc (Obj.cells #[.string ⟨#[]⟩,.string ⟨#[]⟩,.string ⟨#[]⟩,.bool false,.string ⟨#[]⟩,.bool false,.int .i64 0,.bool false,.string ⟨#[]⟩,.slice none 0 0,.bool false,.string ⟨#[]⟩,.bool false,.string ⟨#[]⟩] 101))=w1 at *;go_wp2_with fail
 refine(Zbo s _ (by omega)).mono ?_
 rintro e w2 ⟨x,rfl,hx,hn2⟩
 have hxl:x.size≤9000:=by have:=Za9 (tl s);rw[←hx,tl_length,tl_length]at this;omega
 have HP:Hid (∀w',Nx w w'→Calls Tryz.prog 208 #[.agg #[.string ru.sch,.string ru.nam,.string ru.pw,.bool ru.hh,.string ru.host,.bool ru.hp,.int .i64 (ru.port:Int),.bool ru.op,.string ru.opath,.slice ru.so ru.sn ru.sc,.bool ru.hq,.string ru.q,.bool ru.hf,.string ru.fr],.int .i64 7,.string x] w' fun e w''=>Zvm e w' w'' (ZuT u (tl x))):=Za (fun w' hn=>Zw4 ru u bs x w' (h.on hn) hb (by omega))
 rw[hx]at HP;have HUB2:=Za (HUB.out.on hn2);have HZ2:=Za (HZ.out.on hn2);have HN2:=Za (HN.out.then hn2);clear hx hn2 HUB HZ HN h _ht hb;obtain⟨a0,a1,a2,a3,a4,a5,a6,a7,a8,a9,a10,a11,a12,a13⟩:=HUB2.out.cells;go_wp2_with fail
 refine(HP.out _ HN2.out).mono ?_
 rintro e w3 ⟨r,ds,rfl,hr,hdl,hn3⟩;have HR:=Za hr;have HZ3:=Za (HZ2.out.on hn3);have HN3:=Za (HN2.out.then hn3);clear hr hn3 HZ2 HN2 HUB2;clear a0 a1 a2 a3 a4 a5 a6 a7 a8 a9 a10 a11 a12 a13;obtain⟨z0,z1,z2,z3,z4,z5,z6,z7,z8,z9,z10,z11,z12,z13⟩:=HZ3.out.cells;have zf0:=HZ3.out.free 0;have zf1:=HZ3.out.free 1;have zf2:=HZ3.out.free 2;have zf3:=HZ3.out.free 3;have zf4:=HZ3.out.free 4;have zf5:=HZ3.out.free 5;have zf6:=HZ3.out.free 6;have zf7:=HZ3.out.free 7;have zf8:=HZ3.out.free 8;have zf9:=HZ3.out.free 9;have zf10:=HZ3.out.free 10;have zf11:=HZ3.out.free 11;have zf12:=HZ3.out.free 12;have zf13:=HZ3.out.free 13;go_wp2
 exact Z9 (rb:=w.heap.size+1) Tryz.results170 rfl rfl (RecB.put HZ3.out _ _ _ _ _ _ _ _ _ _ _ _ _ _) rfl ⟨⟨r,ds,rfl,HR.out.ks (Zq HZ3.out.ty (by decide) _ _ _ _ _ _ _ _ _ _ _ _ _ _),hdl⟩,(Zd HN3.out (by omega) _ _ _ _ _ _ _ _ _ _ _ _ _ _)⟩
theorem ZAv(ru:Rc)(u:U)(bs:LA)(s:BA)(w:World)(h:RcIs w ru u bs)(_ht:Tb w)(hb:bs.length≤30001)(hs:s.size≤3000):Calls Tryz.prog 170 #[.agg #[.string ru.sch,.string ru.nam,.string ru.pw,.bool ru.hh,.string ru.host,.bool ru.hp,.int .i64 (ru.port:Int),.bool ru.op,.string ru.opath,.slice ru.so ru.sn ru.sc,.bool ru.hq,.string ru.q,.bool ru.hf,.string ru.fr],.int .i64 8,.string s] w fun e w'=>Zfc e w' ((ZuL u (clean (tl s)),0)) 30002∧Nx w w':=by
 go_enter Tryz.func170,Tryz.ntmps170
 go_upto_region 1 with fail;obtain⟨g1,g2,g3⟩:=Zcb (w:=w) (ru:=ru) Nx.rfl;have HUB:=Za g1;have HZ:=Za g2;have HN:=Za g3;clear g1 g2 g3;generalize ((w.alloc (Obj.cells #[.string ru.sch,.string ru.nam,.string ru.pw,.bool ru.hh,.string ru.host,.bool ru.hp,.int .i64 (ru.port:Int),.bool ru.op,.string ru.opath,.slice ru.so ru.sn ru.sc,.bool ru.hq,.string ru.q,.bool ru.hf,.string ru.fr] 101)).alloc (Obj.cells #[.string ⟨#[]⟩,.string ⟨#[]⟩,.string ⟨#[]⟩,.bool false,.string ⟨#[]⟩,.bool false,.int .i64 0,.bool false,.string ⟨#[]⟩,.slice none 0 0,.bool false,.string ⟨#[]⟩,.bool false,.string ⟨#[]⟩] 101))=w1 at *;go_wp2_with fail
 refine(Zbo s _ (by omega)).mono ?_
 rintro e w2 ⟨x,rfl,hx,hn2⟩
 have hxl:x.size≤9000:=by have:=Za9 (tl s);rw[←hx,tl_length,tl_length]at this;omega
 have HP:Hid (∀w',Nx w w'→Calls Tryz.prog 208 #[.agg #[.string ru.sch,.string ru.nam,.string ru.pw,.bool ru.hh,.string ru.host,.bool ru.hp,.int .i64 (ru.port:Int),.bool ru.op,.string ru.opath,.slice ru.so ru.sn ru.sc,.bool ru.hq,.string ru.q,.bool ru.hf,.string ru.fr],.int .i64 8,.string x] w' fun e w''=>Zvm e w' w'' (ZuL u (tl x))):=Za (fun w' hn=>Zw5 ru u bs x w' (h.on hn) hb (by omega))
 rw[hx]at HP;have HUB2:=Za (HUB.out.on hn2);have HZ2:=Za (HZ.out.on hn2);have HN2:=Za (HN.out.then hn2);clear hx hn2 HUB HZ HN h _ht hb;obtain⟨a0,a1,a2,a3,a4,a5,a6,a7,a8,a9,a10,a11,a12,a13⟩:=HUB2.out.cells;go_wp2_with fail
 refine(HP.out _ HN2.out).mono ?_
 rintro e w3 ⟨r,ds,rfl,hr,hdl,hn3⟩;have HR:=Za hr;have HZ3:=Za (HZ2.out.on hn3);have HN3:=Za (HN2.out.then hn3);clear hr hn3 HZ2 HN2 HUB2;clear a0 a1 a2 a3 a4 a5 a6 a7 a8 a9 a10 a11 a12 a13;obtain⟨z0,z1,z2,z3,z4,z5,z6,z7,z8,z9,z10,z11,z12,z13⟩:=HZ3.out.cells;have zf0:=HZ3.out.free 0;have zf1:=HZ3.out.free 1;have zf2:=HZ3.out.free 2;have zf3:=HZ3.out.free 3;have zf4:=HZ3.out.free 4;have zf5:=HZ3.out.free 5;have zf6:=HZ3.out.free 6;have zf7:=HZ3.out.free 7;have zf8:=HZ3.out.free 8;have zf9:=HZ3.out.free 9;have zf10:=HZ3.out.free 10;have zf11:=HZ3.out.free 11;have zf12:=HZ3.out.free 12;have zf13:=HZ3.out.free 13;go_wp2
 exact Z9 (rb:=w.heap.size+1) Tryz.results170 rfl rfl (RecB.put HZ3.out _ _ _ _ _ _ _ _ _ _ _ _ _ _) rfl ⟨⟨r,ds,rfl,HR.out.ks (Zq HZ3.out.ty (by decide) _ _ _ _ _ _ _ _ _ _ _ _ _ _),hdl⟩,(Zd HN3.out (by omega) _ _ _ _ _ _ _ _ _ _ _ _ _ _)⟩
theorem ZAw(ru:Rc)(u:U)(bs:LA)(s:BA)(w:World)(h:RcIs w ru u bs)(_ht:Tb w)(hb:bs.length≤30001)(hs:s.size≤3000):Calls Tryz.prog 170 #[.agg #[.string ru.sch,.string ru.nam,.string ru.pw,.bool ru.hh,.string ru.host,.bool ru.hp,.int .i64 (ru.port:Int),.bool ru.op,.string ru.opath,.slice ru.so ru.sn ru.sc,.bool ru.hq,.string ru.q,.bool ru.hf,.string ru.fr],.int .i64 9,.string s] w fun e w'=>Zfc e w' ((ZuS u (clean (tl s)),0)) 30002∧Nx w w':=by
 go_enter Tryz.func170,Tryz.ntmps170
 go_upto_region 1 with fail;obtain⟨g1,g2,g3⟩:=Zcb (w:=w) (ru:=ru) Nx.rfl;have HUB:=Za g1;have HZ:=Za g2;have HN:=Za g3;clear g1 g2 g3;generalize ((w.alloc (Obj.cells #[.string ru.sch,.string ru.nam,.string ru.pw,.bool ru.hh,.string ru.host,.bool ru.hp,.int .i64 (ru.port:Int),.bool ru.op,.string ru.opath,.slice ru.so ru.sn ru.sc,.bool ru.hq,.string ru.q,.bool ru.hf,.string ru.fr] 101)).alloc (Obj.cells #[.string ⟨#[]⟩,.string ⟨#[]⟩,.string ⟨#[]⟩,.bool false,.string ⟨#[]⟩,.bool false,.int .i64 0,.bool false,.string ⟨#[]⟩,.slice none 0 0,.bool false,.string ⟨#[]⟩,.bool false,.string ⟨#[]⟩] 101))=w1 at *;go_wp2_with fail
 refine(Zbo s _ (by omega)).mono ?_
 rintro e w2 ⟨x,rfl,hx,hn2⟩
 have hxl:x.size≤9000:=by have:=Za9 (tl s);rw[←hx,tl_length,tl_length]at this;omega
 have HP:Hid (∀w',Nx w w'→Calls Tryz.prog 208 #[.agg #[.string ru.sch,.string ru.nam,.string ru.pw,.bool ru.hh,.string ru.host,.bool ru.hp,.int .i64 (ru.port:Int),.bool ru.op,.string ru.opath,.slice ru.so ru.sn ru.sc,.bool ru.hq,.string ru.q,.bool ru.hf,.string ru.fr],.int .i64 9,.string x] w' fun e w''=>Zvm e w' w'' (ZuS u (tl x))):=Za (fun w' hn=>Zw6 ru u bs x w' (h.on hn) hb (by omega))
 rw[hx]at HP;have HUB2:=Za (HUB.out.on hn2);have HZ2:=Za (HZ.out.on hn2);have HN2:=Za (HN.out.then hn2);clear hx hn2 HUB HZ HN h _ht hb;obtain⟨a0,a1,a2,a3,a4,a5,a6,a7,a8,a9,a10,a11,a12,a13⟩:=HUB2.out.cells;go_wp2_with fail
 refine(HP.out _ HN2.out).mono ?_
 rintro e w3 ⟨r,ds,rfl,hr,hdl,hn3⟩;have HR:=Za hr;have HZ3:=Za (HZ2.out.on hn3);have HN3:=Za (HN2.out.then hn3);clear hr hn3 HZ2 HN2 HUB2;clear a0 a1 a2 a3 a4 a5 a6 a7 a8 a9 a10 a11 a12 a13;obtain⟨z0,z1,z2,z3,z4,z5,z6,z7,z8,z9,z10,z11,z12,z13⟩:=HZ3.out.cells;have zf0:=HZ3.out.free 0;have zf1:=HZ3.out.free 1;have zf2:=HZ3.out.free 2;have zf3:=HZ3.out.free 3;have zf4:=HZ3.out.free 4;have zf5:=HZ3.out.free 5;have zf6:=HZ3.out.free 6;have zf7:=HZ3.out.free 7;have zf8:=HZ3.out.free 8;have zf9:=HZ3.out.free 9;have zf10:=HZ3.out.free 10;have zf11:=HZ3.out.free 11;have zf12:=HZ3.out.free 12;have zf13:=HZ3.out.free 13;go_wp2
 exact Z9 (rb:=w.heap.size+1) Tryz.results170 rfl rfl (RecB.put HZ3.out _ _ _ _ _ _ _ _ _ _ _ _ _ _) rfl ⟨⟨r,ds,rfl,HR.out.ks (Zq HZ3.out.ty (by decide) _ _ _ _ _ _ _ _ _ _ _ _ _ _),hdl⟩,(Zd HN3.out (by omega) _ _ _ _ _ _ _ _ _ _ _ _ _ _)⟩
def ZuV(e:Ending)(w w':World)(pb:Nat)(long:Bool)(x:U×Int):Prop:=
 (long=true∧e=.returned (.int .i64 1)∧Nx w w')∨(long=false∧x.2≠0∧e=.returned (.int .i64 x.2)∧Nx w w')∨(long=false∧x.2=0∧e=.returned (.int .i64 0)∧(∃(r:Rc) (ds:List ByteArray),UrlB w' pb r∧RcIs w' r x.1 ds∧ds.length≤30002)∧But pb w w')
theorem Zu3(k:Nat)(pb:Nat)(r:Rc)(u:U)(bs:LA)(s:BA)(w:World)(hu:UrlB w pb r)(hr:RcIs w r u bs)(hput:s.size≤160→Calls Tryz.prog 170 #[.agg #[.string r.sch,.string r.nam,.string r.pw,.bool r.hh,.string r.host,.bool r.hp,.int .i64 (r.port:Int),.bool r.op,.string r.opath,.slice r.so r.sn r.sc,.bool r.hq,.string r.q,.bool r.hf,.string r.fr],.int .i64 (k:Int),.string s] w fun e w'=>Zfc e w' (ZuW u k (tl s)) 30002∧Nx w w'):Calls Tryz.prog 127 #[.pointer (some ⟨pb,0,none⟩),.int .i64 (k:Int),.string s] w fun e w'=>ZuV e w w' pb (decide (160<s.size)) (ZuW u k (tl s)):=by
 by_cases hs:160<s.size
 ·rw[decide_eq_true hs]
  clear hu hr hput
  go_enter Tryz.func127,Tryz.ntmps127
  go_wp2;go_ret;exact Or.inl ⟨rfl,rfl,Nx.rfl⟩
 rw[decide_eq_false hs];have HU:=Za hu;have HR:=Za hr
 have HP:=Za (hput (by omega))
 obtain⟨x,hx⟩:∃x,ZuW u k (tl s)=x:=⟨_,rfl⟩;rw[hx]at HP ⊢;clear hx;obtain⟨y,err⟩:=x;obtain⟨u0,u1,u2,u3,u4,u5,u6,u7,u8,u9,u10,u11,u12,u13⟩:=hu.cells
 have hs':s.size≤160:=by omega
 clear hu hr hput hs
 go_enter Tryz.func127,Tryz.ntmps127
 go_wp2_with fail
 refine HP.out.mono ?_
 rintro e w1 ⟨⟨r1,ds,rfl,hr1,hdl⟩,hn⟩;clear HP;simp only at hr1;have HU1:=Za (HU.out.on hn);have HR1:=Za hr1;have HN:=Za hn;have hlb:pb<w1.heap.size:=(Array.getElem?_eq_some_iff.1 HU1.out).1;clear hn hr1 u0 u1 u2 u3 u4 u5 u6 u7 u8 u9 u10 u11 u12 u13
 by_cases he:err=0
 ·subst he
  go_upto_region 6 with fail;have HU2:=Za (HU1.out.on (Nx.rfl.alloc (Obj.cells #[.string r1.sch,.string r1.nam,.string r1.pw,.bool r1.hh,.string r1.host,.bool r1.hp,.int .i64 (r1.port:Int),.bool r1.op,.string r1.opath,.slice r1.so r1.sn r1.sc,.bool r1.hq,.string r1.q,.bool r1.hf,.string r1.fr] 101)));have HR2:=Za (HR1.out.on (Nx.rfl.alloc (Obj.cells #[.string r1.sch,.string r1.nam,.string r1.pw,.bool r1.hh,.string r1.host,.bool r1.hp,.int .i64 (r1.port:Int),.bool r1.op,.string r1.opath,.slice r1.so r1.sn r1.sc,.bool r1.hq,.string r1.q,.bool r1.hf,.string r1.fr] 101)));have HV2:=Za (ZaS w1 r1);have HN2:=Za (HN.out.alloc (Obj.cells #[.string r1.sch,.string r1.nam,.string r1.pw,.bool r1.hh,.string r1.host,.bool r1.hp,.int .i64 (r1.port:Int),.bool r1.op,.string r1.opath,.slice r1.so r1.sn r1.sc,.bool r1.hq,.string r1.q,.bool r1.hf,.string r1.fr] 101));clear HU1 HR1 HN;generalize (w1.alloc (Obj.cells #[.string r1.sch,.string r1.nam,.string r1.pw,.bool r1.hh,.string r1.host,.bool r1.hp,.int .i64 (r1.port:Int),.bool r1.op,.string r1.opath,.slice r1.so r1.sn r1.sc,.bool r1.hq,.string r1.q,.bool r1.hf,.string r1.fr] 101))=w2 at *;obtain⟨u0,u1,u2,u3,u4,u5,u6,u7,u8,u9,u10,u11,u12,u13⟩:=HU2.out.cells;obtain⟨x0,x1,x2,x3,x4,x5,x6,x7,x8,x9,x10,x11,x12,x13⟩:=HV2.out.cells;have uf0:=HU2.out.free 0;have uf1:=HU2.out.free 1;have uf2:=HU2.out.free 2;have uf3:=HU2.out.free 3;have uf4:=HU2.out.free 4;have uf5:=HU2.out.free 5;have uf6:=HU2.out.free 6;have uf7:=HU2.out.free 7;have uf8:=HU2.out.free 8;have uf9:=HU2.out.free 9;have uf10:=HU2.out.free 10;have uf11:=HU2.out.free 11;have uf12:=HU2.out.free 12;have uf13:=HU2.out.free 13;go_wp2;go_ret
  refine Or.inr (Or.inr ⟨rfl,rfl,rfl,⟨r1,ds,UrlB.put HU2.out r1,?_,hdl⟩,Zud (But.nx HN2.out) _ _ _ _ _ _ _ _ _ _ _ _ _ _⟩)
  exact RcIs.ks HR2.out (Zq HU2.out.ty (by decide) _ _ _ _ _ _ _ _ _ _ _ _ _ _)
 ·have he1:(err==0)=false:=beq_eq_false_iff_ne.2 he
  have he2:(err != 0)=true:=bne_iff_ne.2 he;have HE:=Za he;clear he;go_wp2;go_ret;exact Or.inr (Or.inl ⟨rfl,HE.out,rfl,HN.out.alloc _⟩)
theorem ZxM(pb:Nat)(r:Rc)(u:U)(bs:LA)(s:BA)(w:World)(hu:UrlB w pb r)(hr:RcIs w r u bs)(ht:Tb w)(hb:bs.length≤30001):Calls Tryz.prog 67 #[.pointer (some ⟨pb,0,none⟩),.string s] w fun e w'=>ZuV e w w' pb (decide (160<s.size)) (ZuW u 0 (tl s)):=by
 have HP:=Za (Zu3 0 pb r u bs s w hu hr (fun hs=>ZAn r u bs s w hr ht hb (by omega)))
 clear hu hr ht hb
 go_enter Tryz.func67,Tryz.ntmps67
 go_wp2_with fail
 refine HP.out.mono ?_
 intro e w1 h;rcases h with⟨h1,rfl,hn⟩|⟨h1,h2,rfl,hn⟩|⟨h1,h2,rfl,hx,hbu⟩
 ·have H1:=Za h1
  have HN:=Za hn;clear h1 hn;go_wp2;go_ret;exact Or.inl ⟨H1.out,rfl,HN.out⟩
 ·have H1:=Za h1
  have H2:=Za h2;have HN:=Za hn;clear h1 h2 hn;go_wp2;go_ret;exact Or.inr (Or.inl ⟨H1.out,H2.out,rfl,HN.out⟩)
 ·have H1:=Za h1
  have H2:=Za h2;have HX:=Za hx;have HB:=Za hbu;clear h1 h2 hx hbu;go_wp2;go_ret;exact Or.inr (Or.inr ⟨H1.out,H2.out,rfl,HX.out,HB.out⟩)
theorem Zwd(pb:Nat)(r:Rc)(u:U)(bs:LA)(s:BA)(w:World)(hu:UrlB w pb r)(hr:RcIs w r u bs)(ht:Tb w)(hb:bs.length≤30001):Calls Tryz.prog 68 #[.pointer (some ⟨pb,0,none⟩),.string s] w fun e w'=>ZuV e w w' pb (decide (160<s.size)) (ZuW u 1 (tl s)):=by
 have HP:=Za (Zu3 1 pb r u bs s w hu hr (fun hs=>ZAo r u bs s w hr ht hb (by omega)))
 clear hu hr ht hb
 go_enter Tryz.func68,Tryz.ntmps68
 go_wp2_with fail
 refine HP.out.mono ?_
 intro e w1 h;rcases h with⟨h1,rfl,hn⟩|⟨h1,h2,rfl,hn⟩|⟨h1,h2,rfl,hx,hbu⟩
 ·have H1:=Za h1
  have HN:=Za hn;clear h1 hn;go_wp2;go_ret;exact Or.inl ⟨H1.out,rfl,HN.out⟩
 ·have H1:=Za h1
  have H2:=Za h2;have HN:=Za hn;clear h1 h2 hn;go_wp2;go_ret;exact Or.inr (Or.inl ⟨H1.out,H2.out,rfl,HN.out⟩)
 ·have H1:=Za h1
  have H2:=Za h2;have HX:=Za hx;have HB:=Za hbu;clear h1 h2 hx hbu;go_wp2;go_ret;exact Or.inr (Or.inr ⟨H1.out,H2.out,rfl,HX.out,HB.out⟩)
theorem Zwe(pb:Nat)(r:Rc)(u:U)(bs:LA)(s:BA)(w:World)(hu:UrlB w pb r)(hr:RcIs w r u bs)(ht:Tb w)(hb:bs.length≤30001):Calls Tryz.prog 69 #[.pointer (some ⟨pb,0,none⟩),.string s] w fun e w'=>ZuV e w w' pb (decide (160<s.size)) (ZuW u 2 (tl s)):=by
 have HP:=Za (Zu3 2 pb r u bs s w hu hr (fun hs=>ZAp r u bs s w hr ht hb (by omega)))
 clear hu hr ht hb
 go_enter Tryz.func69,Tryz.ntmps69
 go_wp2_with fail
 refine HP.out.mono ?_
 intro e w1 h;rcases h with⟨h1,rfl,hn⟩|⟨h1,h2,rfl,hn⟩|⟨h1,h2,rfl,hx,hbu⟩
 ·have H1:=Za h1
  have HN:=Za hn;clear h1 hn;go_wp2;go_ret;exact Or.inl ⟨H1.out,rfl,HN.out⟩
 ·have H1:=Za h1
  have H2:=Za h2;have HN:=Za hn;clear h1 h2 hn;go_wp2;go_ret;exact Or.inr (Or.inl ⟨H1.out,H2.out,rfl,HN.out⟩)
 ·have H1:=Za h1
  have H2:=Za h2;have HX:=Za hx;have HB:=Za hbu;clear h1 h2 hx hbu;go_wp2;go_ret;exact Or.inr (Or.inr ⟨H1.out,H2.out,rfl,HX.out,HB.out⟩)
theorem Zwf(pb:Nat)(r:Rc)(u:U)(bs:LA)(s:BA)(w:World)(hu:UrlB w pb r)(hr:RcIs w r u bs)(ht:Tb w)(hb:bs.length≤30001):Calls Tryz.prog 70 #[.pointer (some ⟨pb,0,none⟩),.string s] w fun e w'=>ZuV e w w' pb (decide (160<s.size)) (ZuW u 3 (tl s)):=by
 have HP:=Za (Zu3 3 pb r u bs s w hu hr (fun hs=>ZAq r u bs s w hr ht hb (by omega)))
 clear hu hr ht hb
 go_enter Tryz.func70,Tryz.ntmps70
 go_wp2_with fail
 refine HP.out.mono ?_
 intro e w1 h;rcases h with⟨h1,rfl,hn⟩|⟨h1,h2,rfl,hn⟩|⟨h1,h2,rfl,hx,hbu⟩
 ·have H1:=Za h1
  have HN:=Za hn;clear h1 hn;go_wp2;go_ret;exact Or.inl ⟨H1.out,rfl,HN.out⟩
 ·have H1:=Za h1
  have H2:=Za h2;have HN:=Za hn;clear h1 h2 hn;go_wp2;go_ret;exact Or.inr (Or.inl ⟨H1.out,H2.out,rfl,HN.out⟩)
 ·have H1:=Za h1
  have H2:=Za h2;have HX:=Za hx;have HB:=Za hbu;clear h1 h2 hx hbu;go_wp2;go_ret;exact Or.inr (Or.inr ⟨H1.out,H2.out,rfl,HX.out,HB.out⟩)
theorem ZxN(pb:Nat)(r:Rc)(u:U)(bs:LA)(s:BA)(w:World)(hu:UrlB w pb r)(hr:RcIs w r u bs)(ht:Tb w)(hb:bs.length≤30001):Calls Tryz.prog 71 #[.pointer (some ⟨pb,0,none⟩),.string s] w fun e w'=>ZuV e w w' pb (decide (160<s.size)) (ZuW u 4 (tl s)):=by
 have HP:=Za (Zu3 4 pb r u bs s w hu hr (fun hs=>ZAr r u bs s w hr ht hb (by omega)))
 clear hu hr ht hb
 go_enter Tryz.func71,Tryz.ntmps71
 go_wp2_with fail
 refine HP.out.mono ?_
 intro e w1 h;rcases h with⟨h1,rfl,hn⟩|⟨h1,h2,rfl,hn⟩|⟨h1,h2,rfl,hx,hbu⟩
 ·have H1:=Za h1
  have HN:=Za hn;clear h1 hn;go_wp2;go_ret;exact Or.inl ⟨H1.out,rfl,HN.out⟩
 ·have H1:=Za h1
  have H2:=Za h2;have HN:=Za hn;clear h1 h2 hn;go_wp2;go_ret;exact Or.inr (Or.inl ⟨H1.out,H2.out,rfl,HN.out⟩)
 ·have H1:=Za h1
  have H2:=Za h2;have HX:=Za hx;have HB:=Za hbu;clear h1 h2 hx hbu;go_wp2;go_ret;exact Or.inr (Or.inr ⟨H1.out,H2.out,rfl,HX.out,HB.out⟩)
theorem Zwg(pb:Nat)(r:Rc)(u:U)(bs:LA)(s:BA)(w:World)(hu:UrlB w pb r)(hr:RcIs w r u bs)(ht:Tb w)(hb:bs.length≤30001):Calls Tryz.prog 72 #[.pointer (some ⟨pb,0,none⟩),.string s] w fun e w'=>ZuV e w w' pb (decide (160<s.size)) (ZuW u 5 (tl s)):=by
 have HP:=Za (Zu3 5 pb r u bs s w hu hr (fun hs=>ZAs r u bs s w hr ht hb (by omega)))
 clear hu hr ht hb
 go_enter Tryz.func72,Tryz.ntmps72
 go_wp2_with fail
 refine HP.out.mono ?_
 intro e w1 h;rcases h with⟨h1,rfl,hn⟩|⟨h1,h2,rfl,hn⟩|⟨h1,h2,rfl,hx,hbu⟩
 ·have H1:=Za h1
  have HN:=Za hn;clear h1 hn;go_wp2;go_ret;exact Or.inl ⟨H1.out,rfl,HN.out⟩
 ·have H1:=Za h1
  have H2:=Za h2;have HN:=Za hn;clear h1 h2 hn;go_wp2;go_ret;exact Or.inr (Or.inl ⟨H1.out,H2.out,rfl,HN.out⟩)
 ·have H1:=Za h1
  have H2:=Za h2;have HX:=Za hx;have HB:=Za hbu;clear h1 h2 hx hbu;go_wp2;go_ret;exact Or.inr (Or.inr ⟨H1.out,H2.out,rfl,HX.out,HB.out⟩)
theorem ZxO(pb:Nat)(r:Rc)(u:U)(bs:LA)(s:BA)(w:World)(hu:UrlB w pb r)(hr:RcIs w r u bs)(ht:Tb w)(hb:bs.length≤30001):Calls Tryz.prog 73 #[.pointer (some ⟨pb,0,none⟩),.string s] w fun e w'=>ZuV e w w' pb (decide (160<s.size)) (ZuW u 6 (tl s)):=by
 have HP:=Za (Zu3 6 pb r u bs s w hu hr (fun hs=>ZAt r u bs s w hr ht hb (by omega)))
 clear hu hr ht hb
 go_enter Tryz.func73,Tryz.ntmps73
 go_wp2_with fail
 refine HP.out.mono ?_
 intro e w1 h;rcases h with⟨h1,rfl,hn⟩|⟨h1,h2,rfl,hn⟩|⟨h1,h2,rfl,hx,hbu⟩
 ·have H1:=Za h1
  have HN:=Za hn;clear h1 hn;go_wp2;go_ret;exact Or.inl ⟨H1.out,rfl,HN.out⟩
 ·have H1:=Za h1
  have H2:=Za h2;have HN:=Za hn;clear h1 h2 hn;go_wp2;go_ret;exact Or.inr (Or.inl ⟨H1.out,H2.out,rfl,HN.out⟩)
 ·have H1:=Za h1
  have H2:=Za h2;have HX:=Za hx;have HB:=Za hbu;clear h1 h2 hx hbu;go_wp2;go_ret;exact Or.inr (Or.inr ⟨H1.out,H2.out,rfl,HX.out,HB.out⟩)
theorem Zwh(pb:Nat)(r:Rc)(u:U)(bs:LA)(s:BA)(w:World)(hu:UrlB w pb r)(hr:RcIs w r u bs)(ht:Tb w)(hb:bs.length≤30001):Calls Tryz.prog 74 #[.pointer (some ⟨pb,0,none⟩),.string s] w fun e w'=>ZuV e w w' pb (decide (160<s.size)) (ZuW u 7 (tl s)):=by
 have HP:=Za (Zu3 7 pb r u bs s w hu hr (fun hs=>ZAu r u bs s w hr ht hb (by omega)))
 clear hu hr ht hb
 go_enter Tryz.func74,Tryz.ntmps74
 go_wp2_with fail
 refine HP.out.mono ?_
 intro e w1 h;rcases h with⟨h1,rfl,hn⟩|⟨h1,h2,rfl,hn⟩|⟨h1,h2,rfl,hx,hbu⟩
 ·have H1:=Za h1
  have HN:=Za hn;clear h1 hn;go_wp2;go_ret;exact Or.inl ⟨H1.out,rfl,HN.out⟩
 ·have H1:=Za h1
  have H2:=Za h2;have HN:=Za hn;clear h1 h2 hn;go_wp2;go_ret;exact Or.inr (Or.inl ⟨H1.out,H2.out,rfl,HN.out⟩)
 ·have H1:=Za h1
  have H2:=Za h2;have HX:=Za hx;have HB:=Za hbu;clear h1 h2 hx hbu;go_wp2;go_ret;exact Or.inr (Or.inr ⟨H1.out,H2.out,rfl,HX.out,HB.out⟩)
theorem Zw7(pb:Nat)(r:Rc)(u:U)(bs:LA)(s:BA)(w:World)(hu:UrlB w pb r)(hr:RcIs w r u bs)(ht:Tb w)(hb:bs.length≤30001):Calls Tryz.prog 75 #[.pointer (some ⟨pb,0,none⟩),.string s] w fun e w'=>ZuV e w w' pb (decide (160<s.size)) (ZuW u 8 (tl s)):=by
 have HP:=Za (Zu3 8 pb r u bs s w hu hr (fun hs=>ZAv r u bs s w hr ht hb (by omega)))
 clear hu hr ht hb
 go_enter Tryz.func75,Tryz.ntmps75
 go_wp2_with fail
 refine HP.out.mono ?_
 intro e w1 h;rcases h with⟨h1,rfl,hn⟩|⟨h1,h2,rfl,hn⟩|⟨h1,h2,rfl,hx,hbu⟩
 ·have H1:=Za h1
  have HN:=Za hn;clear h1 hn;go_wp2;go_ret;exact Or.inl ⟨H1.out,rfl,HN.out⟩
 ·have H1:=Za h1
  have H2:=Za h2;have HN:=Za hn;clear h1 h2 hn;go_wp2;go_ret;exact Or.inr (Or.inl ⟨H1.out,H2.out,rfl,HN.out⟩)
 ·have H1:=Za h1
  have H2:=Za h2;have HX:=Za hx;have HB:=Za hbu;clear h1 h2 hx hbu;go_wp2;go_ret;exact Or.inr (Or.inr ⟨H1.out,H2.out,rfl,HX.out,HB.out⟩)
theorem ZxP(pb:Nat)(r:Rc)(u:U)(bs:LA)(s:BA)(w:World)(hu:UrlB w pb r)(hr:RcIs w r u bs)(ht:Tb w)(hb:bs.length≤30001):Calls Tryz.prog 76 #[.pointer (some ⟨pb,0,none⟩),.string s] w fun e w'=>ZuV e w w' pb (decide (160<s.size)) (ZuW u 9 (tl s)):=by
 have HP:=Za (Zu3 9 pb r u bs s w hu hr (fun hs=>ZAw r u bs s w hr ht hb (by omega)))
 clear hu hr ht hb
 go_enter Tryz.func76,Tryz.ntmps76
 go_wp2_with fail
 refine HP.out.mono ?_
 intro e w1 h;rcases h with⟨h1,rfl,hn⟩|⟨h1,h2,rfl,hn⟩|⟨h1,h2,rfl,hx,hbu⟩
 ·have H1:=Za h1
  have HN:=Za hn;clear h1 hn;go_wp2;go_ret;exact Or.inl ⟨H1.out,rfl,HN.out⟩
 ·have H1:=Za h1
  have H2:=Za h2;have HN:=Za hn;clear h1 h2 hn;go_wp2;go_ret;exact Or.inr (Or.inl ⟨H1.out,H2.out,rfl,HN.out⟩)
 ·have H1:=Za h1
  have H2:=Za h2;have HX:=Za hx;have HB:=Za hbu;clear h1 h2 hx hbu;go_wp2;go_ret;exact Or.inr (Or.inr ⟨H1.out,H2.out,rfl,HX.out,HB.out⟩)
end Go.Proofs.YtchkhibgbnhjpabGreatDoor
