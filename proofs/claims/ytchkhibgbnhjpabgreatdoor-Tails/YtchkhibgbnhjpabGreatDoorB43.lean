import Derived.Test.YtchkhibgbnhjpabGreatDoorB42
open Nat renaming le_refl→Xa,le_trans→Xc
namespace Go.Proofs.YtchkhibgbnhjpabGreatDoor
open Go.RowKit
set_option maxHeartbeats 8000000
theorem Zev(n:Int)(l:LB):(Zbs n l).length≤l.length:=by unfold Zbs;split<;>simp
theorem Ze8(s:BA)(n:Nat)(w:World)(hs:s.size≤1000000):Calls Tryz.prog 283 #[.string s,.int .u8 (n:Int)] w fun e w'=>∃r:BA,e=.returned (.string r)∧tl r=noBreaks (Zbs n (tl s))∧Nx w w':=by
 by_cases h0:s.size=0
 ·have HE:=Za (show Zbs n (tl s)=tl s by unfold Zbs;rw[if_neg (fun x=>x.1 (Zw h0))])
  have h0':=Zl h0;clear h0
  go_enter Tryz.func283,Tryz.ntmps283
  go_wp2_with fail
  refine(ZcD s _ (by omega)).mono ?_
  rintro e w1 ⟨r,rfl,hr,hn1⟩;have HR:=Za hr;have HN:=Za hn1;clear hr hn1;go_wp2;go_ret
  exact⟨r,rfl,by rw[HE.out];exact HR.out,HN.out⟩
 ·have h0':=Zh h0
  have hpos:0<s.size:=by omega
  have hg:=ZdI s 0 hpos;have hne:=ZcO h0
  cases hc:((s[0].toNat:Int)==(n:Int))
  ·have HE:=Za (show Zbs n (tl s)=tl s by unfold Zbs;rw[if_neg (fun x=>by rw[hg]at x;rw[x.2]at hc;simp at hc)])
   clear h0 hg hne
   go_enter Tryz.func283,Tryz.ntmps283
   go_wp2_with fail
   refine(ZcD s _ (by omega)).mono ?_
   rintro e w1 ⟨r,rfl,hr,hn1⟩;have HR:=Za hr;have HN:=Za hn1;clear hr hn1;go_wp2;go_ret
   exact⟨r,rfl,by rw[HE.out];exact HR.out,HN.out⟩
  ·have HE:=Za (show Zbs n (tl s)=(tl s).drop 1 by unfold Zbs;rw[if_pos ⟨hne,by rw[hg];simpa using hc⟩])
   clear h0 hg hne
   go_enter Tryz.func283,Tryz.ntmps283
   go_wp2_with fail
   refine(ZcD (s.extract 1 s.size) _ (by rw[ZQ];omega)).mono ?_
   rintro e w1 ⟨r,rfl,hr,hn1⟩;rw[tl_from]at hr;have HR:=Za hr;have HN:=Za hn1;clear hr hn1;go_wp2;go_ret
   exact⟨r,rfl,by rw[HE.out];exact HR.out,HN.out⟩
theorem Ztq{l:LB}(h:l.length≤30000):(Ztp l).length≤300000:=Zbd _ _ (Xc (ZaP _) (Xc (Zev _ _) h))
theorem ZnO(ru:Rc)(s:BA)(w:World)(h0:¬s.size=0)(hs:s.size≤30000):Calls Tryz.prog 244 #[.agg #[.string ru.sch,.string ru.nam,.string ru.pw,.bool ru.hh,.string ru.host,.bool ru.hp,.int .i64 (ru.port:Int),.bool ru.op,.string ru.opath,.slice ru.so ru.sn ru.sc,.bool ru.hq,.string ru.q,.bool ru.hf,.string ru.fr],.string s] w fun e w'=>∃r:Rc,e=.returned (.agg #[.string r.sch,.string r.nam,.string r.pw,.bool r.hh,.string r.host,.bool r.hp,.int .i64 (r.port:Int),.bool r.op,.string r.opath,.slice r.so r.sn r.sc,.bool r.hq,.string r.q,.bool r.hf,.string r.fr])∧(∃fr:BA,r={ ru with hf:=true,fr:=fr }∧tl fr=Ztp (tl s)∧fr.size≤300000)∧Nx w w':=by
 have h0':=Zh h0;clear h0
 go_enter Tryz.func244,Tryz.ntmps244
 go_upto_region 1 with fail;obtain⟨g1,g2,g3⟩:=ZaA (w:=w) (ru:=ru) Nx.rfl;have HUB:=Za g1;have HZ:=Za g2;have HN:=Za g3;clear g1 g2 g3;generalize ((w.alloc (Obj.cells #[.string ru.sch,.string ru.nam,.string ru.pw,.bool ru.hh,.string ru.host,.bool ru.hp,.int .i64 (ru.port:Int),.bool ru.op,.string ru.opath,.slice ru.so ru.sn ru.sc,.bool ru.hq,.string ru.q,.bool ru.hf,.string ru.fr] 101)).alloc (Obj.cells #[.string ⟨#[]⟩,.string ⟨#[]⟩,.string ⟨#[]⟩,.bool false,.string ⟨#[]⟩,.bool false,.int .i64 0,.bool false,.string ⟨#[]⟩,.slice none 0 0,.bool false,.string ⟨#[]⟩,.bool false,.string ⟨#[]⟩] 101))=w1 at *;obtain⟨a0,a1,a2,a3,a4,a5,a6,a7,a8,a9,a10,a11,a12,a13⟩:=HUB.out.cells;have af12:=HUB.out.free 12;go_wp2_with fail
 refine(Ze8 s 35 _ (by omega)).mono ?_
 rintro e w2 ⟨x,rfl,hx,hn2⟩;rw[show((35:Nat):Int)=35 from rfl]at hx
 have hxl:x.size≤30000:=by have h1:=ZaP (Zbs 35 (tl s));have h2:=Zev 35 (tl s);rw[←hx,tl_length]at h1;rw[tl_length]at h2;omega
 have HX:=Za hx;have HUB2:=Za (HUB.out.on hn2);have HZ2:=Za (HZ.out.on hn2);have HN2:=Za (HN.out.then hn2);clear hx hn2 HUB HZ HN;clear a0 a1 a2 a3 a4 a5 a6 a7 a8 a9 a10 a11 a12 a13 af12;obtain⟨a0,a1,a2,a3,a4,a5,a6,a7,a8,a9,a10,a11,a12,a13⟩:=HUB2.out.cells;have af12:=HUB2.out.free 12;go_wp2_with fail
 refine(ZaM x 1 _ (by omega)).mono ?_
 rintro e w3 ⟨en,rfl,hen,hn3⟩
 have HEN:=Za (show tl en=Ztp (tl s)by rw[hen,HX.out];rfl)
 have hel:en.size≤300000:=by rw[←tl_length,HEN.out];exact Ztq (by rw[tl_length];exact hs)
 have HUB3:=Za ((HUB2.out.s12 true).on hn3)
 have HZ3:=Za ((HZ2.out.far (q:=w.heap.size) (by omega) 12 (.bool true)).on hn3)
 have HN3:=Za (show Nx w w3 from Nx.then (show Nx w _ from Below.setCell (p:=⟨w.heap.size,12,none⟩) HN2.out (Xa _) (.bool true)) hn3);clear hen hn3 HUB2 HZ2 HN2 HX;clear a0 a1 a2 a3 a4 a5 a6 a7 a8 a9 a10 a11 a12 a13 af12;obtain⟨a0,a1,a2,a3,a4,a5,a6,a7,a8,a9,a10,a11,a12,a13⟩:=HUB3.out.cells;have af13:=HUB3.out.free 13;obtain⟨z0,z1,z2,z3,z4,z5,z6,z7,z8,z9,z10,z11,z12,z13⟩:=HZ3.out.cells;have zf0:=HZ3.out.free 0;have zf1:=HZ3.out.free 1;have zf2:=HZ3.out.free 2;have zf3:=HZ3.out.free 3;have zf4:=HZ3.out.free 4;have zf5:=HZ3.out.free 5;have zf6:=HZ3.out.free 6;have zf7:=HZ3.out.free 7;have zf8:=HZ3.out.free 8;have zf9:=HZ3.out.free 9;have zf10:=HZ3.out.free 10;have zf11:=HZ3.out.free 11;have zf12:=HZ3.out.free 12;have zf13:=HZ3.out.free 13;go_wp2
 refine Za0 (rb:=w.heap.size+1) Tryz.results244 rfl (RecB.put (HZ3.out.far (by omega) 13 _) _ _ _ _ _ _ _ _ _ _ _ _ _ _) rfl ⟨{ ru with hf:=true,fr:=en },rfl,⟨en,rfl,HEN.out,hel⟩,(Zd (Below.setCell HN3.out (Xa _) _) (by omega) _ _ _ _ _ _ _ _ _ _ _ _ _ _)⟩
theorem ZjX{l:LB}{c:UInt8}(h:(c.toNat:Int)=32):ZbX (l++[c])=ZbX l:=by
 unfold ZbX;rw[List.reverse_append]
 show(List.dropWhile _ (c::l.reverse)).reverse=_
 rw[List.dropWhile_cons_of_pos (by simpa using h)]
theorem ZiL{l:LB}{c:UInt8}(h:¬(c.toNat:Int)=32):ZbX (l++[c])=l++[c]:=by
 unfold ZbX;rw[List.reverse_append]
 show(List.dropWhile _ (c::l.reverse)).reverse=_
 rw[List.dropWhile_cons_of_neg (by simpa using h)]
 simp
theorem dropBl_nil:ZbX []=[]:=rfl
theorem Zhs(ru:Rc)(bs:LA)(w:World)(hl:ru.opath.size≤300000):Calls Tryz.prog 156 #[.agg #[.string ru.sch,.string ru.nam,.string ru.pw,.bool ru.hh,.string ru.host,.bool ru.hp,.int .i64 (ru.port:Int),.bool ru.op,.string ru.opath,.slice ru.so ru.sn ru.sc,.bool ru.hq,.string ru.q,.bool ru.hf,.string ru.fr]] w fun e w'=>∃r:Rc,e=.returned (.agg #[.string r.sch,.string r.nam,.string r.pw,.bool r.hh,.string r.host,.bool r.hp,.int .i64 (r.port:Int),.bool r.op,.string r.opath,.slice r.so r.sn r.sc,.bool r.hq,.string r.q,.bool r.hf,.string r.fr])∧(∃p:BA,r={ ru with opath:=p }∧p.size≤300000∧(r.u bs)=ZaZ (ru.u bs))∧Nx w w':=by
 obtain⟨sch,nam,pw,hh,host,hp,port,op,opath,so,sn,sc,hq,q,hf,fr⟩:=ru;simp only at *
 cases hq
 ·cases hf
  ·go_enter Tryz.func156,Tryz.ntmps156
   go_upto_region 1 with fail;obtain⟨g1,g2,g3⟩:=ZaA (w:=w) (ru:=⟨sch,nam,pw,hh,host,hp,port,op,opath,so,sn,sc,false,q,false,fr⟩) Nx.rfl;have HUB:=Za g1;have HZ:=Za g2;have HN:=Za g3;clear g1 g2 g3;generalize ((w.alloc (Obj.cells #[.string sch,.string nam,.string pw,.bool hh,.string host,.bool hp,.int .i64 (port:Int),.bool op,.string opath,.slice so sn sc,.bool false,.string q,.bool false,.string fr] 101)).alloc (Obj.cells #[.string ⟨#[]⟩,.string ⟨#[]⟩,.string ⟨#[]⟩,.bool false,.string ⟨#[]⟩,.bool false,.int .i64 0,.bool false,.string ⟨#[]⟩,.slice none 0 0,.bool false,.string ⟨#[]⟩,.bool false,.string ⟨#[]⟩] 101))=w1 at *;obtain⟨a0,a1,a2,a3,a4,a5,a6,a7,a8,a9,a10,a11,a12,a13⟩:=HUB.out.cells;have af8:=HUB.out.free 8;obtain⟨z0,z1,z2,z3,z4,z5,z6,z7,z8,z9,z10,z11,z12,z13⟩:=HZ.out.cells;have zf0:=HZ.out.free 0;have zf1:=HZ.out.free 1;have zf2:=HZ.out.free 2;have zf3:=HZ.out.free 3;have zf4:=HZ.out.free 4;have zf5:=HZ.out.free 5;have zf6:=HZ.out.free 6;have zf7:=HZ.out.free 7;have zf8:=HZ.out.free 8;have zf9:=HZ.out.free 9;have zf10:=HZ.out.free 10;have zf11:=HZ.out.free 11;have zf12:=HZ.out.free 12;have zf13:=HZ.out.free 13;simp only at a0 a1 a2 a3 a4 a5 a6 a7 a8 a9 a10 a11 a12 a13;go_wp2
   go_loop [4] (fun i=>∃k:Nat,k≤opath.size∧i=.int .i64 k∧ZbX (tl opath)=ZbX ((tl opath).take k)) (fun i=>(intOf i).toNat)
   case atStart=>exact⟨opath.size,Xa _,rfl,by rw[Z3 _ _ (Xa _)]⟩
   case round=>
    obtain⟨k,hk,rfl,hE⟩:=hrel;have HK:=Za hE;clear hE
    by_cases h0:0<k
    ·have hk1:k-1<opath.size:=by omega
     have HT:=Za (show(tl opath).take k=(tl opath).take (k-1)++[opath[k-1]'hk1]by
      have:=Zz opath (k-1) hk1
      rw[show k-1+1=k by omega]at this
      exact this)
     have hb1:=bb (opath[k-1]'hk1)
     cases hc:(((opath[k-1]'hk1).toNat:Int)==32)
     ·have HF:=Za (show tl (opath.extract 0 k)=ZbX (tl opath)by rw[HK.out,HT.out,ZiL (by simpa using hc),←HT.out,tl_extract];rfl)
      go_wp2;have hez:=Zee opath 0 k
      exact Za0 (rb:=w.heap.size+1) Tryz.results156 rfl (RecB.put (HZ.out.far (by omega) 8 _) _ _ _ _ _ _ _ _ _ _ _ _ _ _) rfl ⟨⟨sch,nam,pw,hh,host,hp,port,op,opath.extract 0 k,so,sn,sc,false,q,false,fr⟩,rfl,⟨_,rfl,by show(opath.extract 0 k).size≤_;omega,by show _=ZaZ _;unfold ZaZ;rw[if_neg (by rintro(x|x)<;>cases x)];show _=({ (Rc.u ⟨sch,nam,pw,hh,host,hp,port,op,opath,so,sn,sc,false,q,false,fr⟩ bs)with opath:=ZbX (tl opath) }:U);rw[←HF.out];rfl⟩,(Zd (Below.setCell HN.out (Xa _) _) (by omega) _ _ _ _ _ _ _ _ _ _ _ _ _ _)⟩
     ·have HN2:=Za (show ZbX (tl opath)=ZbX ((tl opath).take (k-1))by rw[HK.out,HT.out,ZjX (by simpa using hc)])
      go_wp2
      go_round
      case rel=>exact⟨k-1,by omega,by rw[show((k-1:Nat):Int)=(k:Int)-1 by omega],HN2.out⟩
      case measure=>simp[intOf];omega
    ·have HF:=Za (show tl (opath.extract 0 k)=ZbX (tl opath)by
      have hk0:k=0:=by omega
      subst hk0;rw[HK.out,List.take_zero,dropBl_nil,tl_extract]
      rfl)
     go_wp2;have hez:=Zee opath 0 k
     exact Za0 (rb:=w.heap.size+1) Tryz.results156 rfl (RecB.put (HZ.out.far (by omega) 8 _) _ _ _ _ _ _ _ _ _ _ _ _ _ _) rfl ⟨⟨sch,nam,pw,hh,host,hp,port,op,opath.extract 0 k,so,sn,sc,false,q,false,fr⟩,rfl,⟨_,rfl,by show(opath.extract 0 k).size≤_;omega,by show _=ZaZ _;unfold ZaZ;rw[if_neg (by rintro(x|x)<;>cases x)];show _=({ (Rc.u ⟨sch,nam,pw,hh,host,hp,port,op,opath,so,sn,sc,false,q,false,fr⟩ bs)with opath:=ZbX (tl opath) }:U);rw[←HF.out];rfl⟩,(Zd (Below.setCell HN.out (Xa _) _) (by omega) _ _ _ _ _ _ _ _ _ _ _ _ _ _)⟩
  ·go_enter Tryz.func156,Tryz.ntmps156
   go_upto_region 1 with fail;obtain⟨g1,g2,g3⟩:=ZaA (w:=w) (ru:=⟨sch,nam,pw,hh,host,hp,port,op,opath,so,sn,sc,false,q,true,fr⟩) Nx.rfl;have HUB:=Za g1;have HZ:=Za g2;have HN:=Za g3;clear g1 g2 g3;generalize ((w.alloc (Obj.cells #[.string sch,.string nam,.string pw,.bool hh,.string host,.bool hp,.int .i64 (port:Int),.bool op,.string opath,.slice so sn sc,.bool false,.string q,.bool true,.string fr] 101)).alloc (Obj.cells #[.string ⟨#[]⟩,.string ⟨#[]⟩,.string ⟨#[]⟩,.bool false,.string ⟨#[]⟩,.bool false,.int .i64 0,.bool false,.string ⟨#[]⟩,.slice none 0 0,.bool false,.string ⟨#[]⟩,.bool false,.string ⟨#[]⟩] 101))=w1 at *;obtain⟨a0,a1,a2,a3,a4,a5,a6,a7,a8,a9,a10,a11,a12,a13⟩:=HUB.out.cells;have af8:=HUB.out.free 8;obtain⟨z0,z1,z2,z3,z4,z5,z6,z7,z8,z9,z10,z11,z12,z13⟩:=HZ.out.cells;have zf0:=HZ.out.free 0;have zf1:=HZ.out.free 1;have zf2:=HZ.out.free 2;have zf3:=HZ.out.free 3;have zf4:=HZ.out.free 4;have zf5:=HZ.out.free 5;have zf6:=HZ.out.free 6;have zf7:=HZ.out.free 7;have zf8:=HZ.out.free 8;have zf9:=HZ.out.free 9;have zf10:=HZ.out.free 10;have zf11:=HZ.out.free 11;have zf12:=HZ.out.free 12;have zf13:=HZ.out.free 13;simp only at a0 a1 a2 a3 a4 a5 a6 a7 a8 a9 a10 a11 a12 a13;go_wp2
   exact Za0 (rb:=w.heap.size+1) Tryz.results156 rfl (RecB.put HZ.out _ _ _ _ _ _ _ _ _ _ _ _ _ _) rfl ⟨⟨sch,nam,pw,hh,host,hp,port,op,opath,so,sn,sc,false,q,true,fr⟩,rfl,⟨opath,rfl,hl,(if_pos (Or.inr rfl)).symm⟩,(Zd HN.out (by omega) _ _ _ _ _ _ _ _ _ _ _ _ _ _)⟩
 ·go_enter Tryz.func156,Tryz.ntmps156
  go_upto_region 1 with fail;obtain⟨g1,g2,g3⟩:=ZaA (w:=w) (ru:=⟨sch,nam,pw,hh,host,hp,port,op,opath,so,sn,sc,true,q,hf,fr⟩) Nx.rfl;have HUB:=Za g1;have HZ:=Za g2;have HN:=Za g3;clear g1 g2 g3;generalize ((w.alloc (Obj.cells #[.string sch,.string nam,.string pw,.bool hh,.string host,.bool hp,.int .i64 (port:Int),.bool op,.string opath,.slice so sn sc,.bool true,.string q,.bool hf,.string fr] 101)).alloc (Obj.cells #[.string ⟨#[]⟩,.string ⟨#[]⟩,.string ⟨#[]⟩,.bool false,.string ⟨#[]⟩,.bool false,.int .i64 0,.bool false,.string ⟨#[]⟩,.slice none 0 0,.bool false,.string ⟨#[]⟩,.bool false,.string ⟨#[]⟩] 101))=w1 at *;obtain⟨a0,a1,a2,a3,a4,a5,a6,a7,a8,a9,a10,a11,a12,a13⟩:=HUB.out.cells;have af8:=HUB.out.free 8;obtain⟨z0,z1,z2,z3,z4,z5,z6,z7,z8,z9,z10,z11,z12,z13⟩:=HZ.out.cells;have zf0:=HZ.out.free 0;have zf1:=HZ.out.free 1;have zf2:=HZ.out.free 2;have zf3:=HZ.out.free 3;have zf4:=HZ.out.free 4;have zf5:=HZ.out.free 5;have zf6:=HZ.out.free 6;have zf7:=HZ.out.free 7;have zf8:=HZ.out.free 8;have zf9:=HZ.out.free 9;have zf10:=HZ.out.free 10;have zf11:=HZ.out.free 11;have zf12:=HZ.out.free 12;have zf13:=HZ.out.free 13;simp only at a0 a1 a2 a3 a4 a5 a6 a7 a8 a9 a10 a11 a12 a13;go_wp2
  exact Za0 (rb:=w.heap.size+1) Tryz.results156 rfl (RecB.put HZ.out _ _ _ _ _ _ _ _ _ _ _ _ _ _) rfl ⟨⟨sch,nam,pw,hh,host,hp,port,op,opath,so,sn,sc,true,q,hf,fr⟩,rfl,⟨opath,rfl,hl,(if_pos (Or.inl rfl)).symm⟩,(Zd HN.out (by omega) _ _ _ _ _ _ _ _ _ _ _ _ _ _)⟩
theorem ZnQ(ru:Rc)(bs:LA)(w:World)(hl:ru.opath.size≤300000):Calls Tryz.prog 107 #[.agg #[.string ru.sch,.string ru.nam,.string ru.pw,.bool ru.hh,.string ru.host,.bool ru.hp,.int .i64 (ru.port:Int),.bool ru.op,.string ru.opath,.slice ru.so ru.sn ru.sc,.bool ru.hq,.string ru.q,.bool ru.hf,.string ru.fr]] w fun e w'=>∃r:Rc,e=.returned (.agg #[.string r.sch,.string r.nam,.string r.pw,.bool r.hh,.string r.host,.bool r.hp,.int .i64 (r.port:Int),.bool r.op,.string r.opath,.slice r.so r.sn r.sc,.bool r.hq,.string r.q,.bool r.hf,.string r.fr])∧(∃p:BA,r={ ru with hq:=false,q:=⟨#[]⟩,opath:=p }∧p.size≤300000∧(r.u bs)=ZkQ (ru.u bs))∧Nx w w':=by
 have HB:=Za (fun w'=>Zhs { ru with hq:=false,q:=⟨#[]⟩ } bs w' hl)
 go_enter Tryz.func107,Tryz.ntmps107
 go_upto_region 1 with fail;obtain⟨g1,g2,g3⟩:=ZaA (w:=w) (ru:=ru) Nx.rfl;have HUB:=Za g1;have HZ:=Za g2;have HN:=Za g3;clear g1 g2 g3;generalize ((w.alloc (Obj.cells #[.string ru.sch,.string ru.nam,.string ru.pw,.bool ru.hh,.string ru.host,.bool ru.hp,.int .i64 (ru.port:Int),.bool ru.op,.string ru.opath,.slice ru.so ru.sn ru.sc,.bool ru.hq,.string ru.q,.bool ru.hf,.string ru.fr] 101)).alloc (Obj.cells #[.string ⟨#[]⟩,.string ⟨#[]⟩,.string ⟨#[]⟩,.bool false,.string ⟨#[]⟩,.bool false,.int .i64 0,.bool false,.string ⟨#[]⟩,.slice none 0 0,.bool false,.string ⟨#[]⟩,.bool false,.string ⟨#[]⟩] 101))=w1 at *;obtain⟨a0,a1,a2,a3,a4,a5,a6,a7,a8,a9,a10,a11,a12,a13⟩:=HUB.out.cells;have af10:=HUB.out.free 10;have af11:=HUB.out.free 11;go_wp2_with fail
 refine(HB.out _).mono ?_
 rintro e w2 ⟨r,rfl,⟨p,hp1,hp2,hp3⟩,hn2⟩;have HP1:=Za hp1;have HP3:=Za hp3
 have HZ2:=Za (RecB.on ((HZ.out.far (by omega) 10 _).far (by omega) 11 _) hn2)
 have HN2:=Za (show Nx w w2 from Nx.then (show Nx w _ from(Below.setCell (p:=⟨w.heap.size,11,none⟩) (Below.setCell (p:=⟨w.heap.size,10,none⟩) HN.out (Xa _) _) (Xa _) _)) hn2);clear hp1 hp3 hn2;clear a0 a1 a2 a3 a4 a5 a6 a7 a8 a9 a10 a11 a12 a13 af10 af11;obtain⟨z0,z1,z2,z3,z4,z5,z6,z7,z8,z9,z10,z11,z12,z13⟩:=HZ2.out.cells;have zf0:=HZ2.out.free 0;have zf1:=HZ2.out.free 1;have zf2:=HZ2.out.free 2;have zf3:=HZ2.out.free 3;have zf4:=HZ2.out.free 4;have zf5:=HZ2.out.free 5;have zf6:=HZ2.out.free 6;have zf7:=HZ2.out.free 7;have zf8:=HZ2.out.free 8;have zf9:=HZ2.out.free 9;have zf10:=HZ2.out.free 10;have zf11:=HZ2.out.free 11;have zf12:=HZ2.out.free 12;have zf13:=HZ2.out.free 13;go_wp2
 exact Za0 (rb:=w.heap.size+1) Tryz.results107 rfl (RecB.put HZ2.out _ _ _ _ _ _ _ _ _ _ _ _ _ _) rfl ⟨r,rfl,⟨p,HP1.out,hp2,HP3.out⟩,(Zd HN2.out (by omega) _ _ _ _ _ _ _ _ _ _ _ _ _ _)⟩
theorem ZqJ(ru:Rc)(bs:LA)(w:World)(hl:ru.opath.size≤300000):Calls Tryz.prog 284 #[.agg #[.string ru.sch,.string ru.nam,.string ru.pw,.bool ru.hh,.string ru.host,.bool ru.hp,.int .i64 (ru.port:Int),.bool ru.op,.string ru.opath,.slice ru.so ru.sn ru.sc,.bool ru.hq,.string ru.q,.bool ru.hf,.string ru.fr]] w fun e w'=>∃r:Rc,e=.returned (.agg #[.string r.sch,.string r.nam,.string r.pw,.bool r.hh,.string r.host,.bool r.hp,.int .i64 (r.port:Int),.bool r.op,.string r.opath,.slice r.so r.sn r.sc,.bool r.hq,.string r.q,.bool r.hf,.string r.fr])∧(∃p:BA,r={ ru with hf:=false,fr:=⟨#[]⟩,opath:=p }∧p.size≤300000∧(r.u bs)=ZnP (ru.u bs))∧Nx w w':=by
 have HB:=Za (fun w'=>Zhs { ru with hf:=false,fr:=⟨#[]⟩ } bs w' hl)
 go_enter Tryz.func284,Tryz.ntmps284
 go_upto_region 1 with fail;obtain⟨g1,g2,g3⟩:=ZaA (w:=w) (ru:=ru) Nx.rfl;have HUB:=Za g1;have HZ:=Za g2;have HN:=Za g3;clear g1 g2 g3;generalize ((w.alloc (Obj.cells #[.string ru.sch,.string ru.nam,.string ru.pw,.bool ru.hh,.string ru.host,.bool ru.hp,.int .i64 (ru.port:Int),.bool ru.op,.string ru.opath,.slice ru.so ru.sn ru.sc,.bool ru.hq,.string ru.q,.bool ru.hf,.string ru.fr] 101)).alloc (Obj.cells #[.string ⟨#[]⟩,.string ⟨#[]⟩,.string ⟨#[]⟩,.bool false,.string ⟨#[]⟩,.bool false,.int .i64 0,.bool false,.string ⟨#[]⟩,.slice none 0 0,.bool false,.string ⟨#[]⟩,.bool false,.string ⟨#[]⟩] 101))=w1 at *;obtain⟨a0,a1,a2,a3,a4,a5,a6,a7,a8,a9,a10,a11,a12,a13⟩:=HUB.out.cells;have af12:=HUB.out.free 12;have af13:=HUB.out.free 13;go_wp2_with fail
 refine(HB.out _).mono ?_
 rintro e w2 ⟨r,rfl,⟨p,hp1,hp2,hp3⟩,hn2⟩;have HP1:=Za hp1;have HP3:=Za hp3
 have HZ2:=Za (RecB.on ((HZ.out.far (by omega) 12 _).far (by omega) 13 _) hn2)
 have HN2:=Za (show Nx w w2 from Nx.then (show Nx w _ from(Below.setCell (p:=⟨w.heap.size,13,none⟩) (Below.setCell (p:=⟨w.heap.size,12,none⟩) HN.out (Xa _) _) (Xa _) _)) hn2);clear hp1 hp3 hn2;clear a0 a1 a2 a3 a4 a5 a6 a7 a8 a9 a10 a11 a12 a13 af12 af13;obtain⟨z0,z1,z2,z3,z4,z5,z6,z7,z8,z9,z10,z11,z12,z13⟩:=HZ2.out.cells;have zf0:=HZ2.out.free 0;have zf1:=HZ2.out.free 1;have zf2:=HZ2.out.free 2;have zf3:=HZ2.out.free 3;have zf4:=HZ2.out.free 4;have zf5:=HZ2.out.free 5;have zf6:=HZ2.out.free 6;have zf7:=HZ2.out.free 7;have zf8:=HZ2.out.free 8;have zf9:=HZ2.out.free 9;have zf10:=HZ2.out.free 10;have zf11:=HZ2.out.free 11;have zf12:=HZ2.out.free 12;have zf13:=HZ2.out.free 13;go_wp2
 exact Za0 (rb:=w.heap.size+1) Tryz.results284 rfl (RecB.put HZ2.out _ _ _ _ _ _ _ _ _ _ _ _ _ _) rfl ⟨r,rfl,⟨p,HP1.out,hp2,HP3.out⟩,(Zd HN2.out (by omega) _ _ _ _ _ _ _ _ _ _ _ _ _ _)⟩
theorem Zmn(ru:Rc)(bs:LA)(s:BA)(w:World)(hl:ru.opath.size≤300000)(hs:s.size≤30000):Calls Tryz.prog 244 #[.agg #[.string ru.sch,.string ru.nam,.string ru.pw,.bool ru.hh,.string ru.host,.bool ru.hp,.int .i64 (ru.port:Int),.bool ru.op,.string ru.opath,.slice ru.so ru.sn ru.sc,.bool ru.hq,.string ru.q,.bool ru.hf,.string ru.fr],.string s] w fun e w'=>∃r:Rc,e=.returned (.agg #[.string r.sch,.string r.nam,.string r.pw,.bool r.hh,.string r.host,.bool r.hp,.int .i64 (r.port:Int),.bool r.op,.string r.opath,.slice r.so r.sn r.sc,.bool r.hq,.string r.q,.bool r.hf,.string r.fr])∧(∃(a:Bool) (x p:BA),r={ ru with hf:=a,fr:=x,opath:=p }∧x.size≤300000∧p.size≤300000∧(r.u bs)=Zbb (ru.u bs) (tl s))∧Nx w w':=by
 by_cases h0:s.size=0
 ·have HE:=Za (show Zbb (ru.u bs) (tl s)=ZnP (ru.u bs)from if_pos (Zw h0))
  have h0':=Zl h0
  have HB:=Za (fun w'=>ZqJ ru bs w' hl)
  clear h0
  go_enter Tryz.func244,Tryz.ntmps244
  go_upto_region 1 with fail;obtain⟨g1,g2,g3⟩:=ZaA (w:=w) (ru:=ru) Nx.rfl;have HUB:=Za g1;have HZ:=Za g2;have HN:=Za g3;clear g1 g2 g3;generalize ((w.alloc (Obj.cells #[.string ru.sch,.string ru.nam,.string ru.pw,.bool ru.hh,.string ru.host,.bool ru.hp,.int .i64 (ru.port:Int),.bool ru.op,.string ru.opath,.slice ru.so ru.sn ru.sc,.bool ru.hq,.string ru.q,.bool ru.hf,.string ru.fr] 101)).alloc (Obj.cells #[.string ⟨#[]⟩,.string ⟨#[]⟩,.string ⟨#[]⟩,.bool false,.string ⟨#[]⟩,.bool false,.int .i64 0,.bool false,.string ⟨#[]⟩,.slice none 0 0,.bool false,.string ⟨#[]⟩,.bool false,.string ⟨#[]⟩] 101))=w1 at *;obtain⟨a0,a1,a2,a3,a4,a5,a6,a7,a8,a9,a10,a11,a12,a13⟩:=HUB.out.cells;go_wp2_with fail
  refine(HB.out _).mono ?_
  rintro e w2 ⟨r,rfl,⟨p,hp1,hp2,hp3⟩,hn2⟩;have HP1:=Za hp1;have HP3:=Za hp3;have HZ2:=Za (HZ.out.on hn2);have HN2:=Za (HN.out.then hn2);clear hp1 hp3 hn2;clear a0 a1 a2 a3 a4 a5 a6 a7 a8 a9 a10 a11 a12 a13;obtain⟨z0,z1,z2,z3,z4,z5,z6,z7,z8,z9,z10,z11,z12,z13⟩:=HZ2.out.cells;have zf0:=HZ2.out.free 0;have zf1:=HZ2.out.free 1;have zf2:=HZ2.out.free 2;have zf3:=HZ2.out.free 3;have zf4:=HZ2.out.free 4;have zf5:=HZ2.out.free 5;have zf6:=HZ2.out.free 6;have zf7:=HZ2.out.free 7;have zf8:=HZ2.out.free 8;have zf9:=HZ2.out.free 9;have zf10:=HZ2.out.free 10;have zf11:=HZ2.out.free 11;have zf12:=HZ2.out.free 12;have zf13:=HZ2.out.free 13;go_wp2
  exact Za0 (rb:=w.heap.size+1) Tryz.results244 rfl (RecB.put HZ2.out _ _ _ _ _ _ _ _ _ _ _ _ _ _) rfl ⟨r,rfl,⟨false,⟨#[]⟩,p,HP1.out,by decide,hp2,HP3.out.trans HE.out.symm⟩,(Zd HN2.out (by omega) _ _ _ _ _ _ _ _ _ _ _ _ _ _)⟩
 ·refine(ZnO ru s w h0 hs).mono ?_
  rintro e w' ⟨r,rfl,⟨x,h1,h2,h3⟩,hn⟩
  refine⟨r,rfl,⟨true,x,ru.opath,by rw[h1],h3,hl,?_⟩,hn⟩
  rw[h1]
  show _=Zbb _ _
  unfold Zbb;rw[if_neg (ZcO h0),←h2]
  rfl
theorem ZkR(ru:Rc)(bs:LA)(s:BA)(w:World)(hl:ru.opath.size≤300000)(hs:s.size≤30000):Calls Tryz.prog 243 #[.agg #[.string ru.sch,.string ru.nam,.string ru.pw,.bool ru.hh,.string ru.host,.bool ru.hp,.int .i64 (ru.port:Int),.bool ru.op,.string ru.opath,.slice ru.so ru.sn ru.sc,.bool ru.hq,.string ru.q,.bool ru.hf,.string ru.fr],.string s] w fun e w'=>∃r:Rc,e=.returned (.agg #[.string r.sch,.string r.nam,.string r.pw,.bool r.hh,.string r.host,.bool r.hp,.int .i64 (r.port:Int),.bool r.op,.string r.opath,.slice r.so r.sn r.sc,.bool r.hq,.string r.q,.bool r.hf,.string r.fr])∧(∃(a:Bool) (x p:BA),r={ ru with hq:=a,q:=x,opath:=p }∧x.size≤300000∧p.size≤300000∧(r.u bs)=ZaE (ru.u bs) (tl s))∧Nx w w':=by
 by_cases h0:s.size=0
 ·have HE:=Za (show ZaE (ru.u bs) (tl s)=ZkQ (ru.u bs)from if_pos (Zw h0))
  have h0':=Zl h0
  have HB:=Za (fun w'=>ZnQ ru bs w' hl)
  clear h0
  go_enter Tryz.func243,Tryz.ntmps243
  go_upto_region 1 with fail;obtain⟨g1,g2,g3⟩:=ZaA (w:=w) (ru:=ru) Nx.rfl;have HUB:=Za g1;have HZ:=Za g2;have HN:=Za g3;clear g1 g2 g3;generalize ((w.alloc (Obj.cells #[.string ru.sch,.string ru.nam,.string ru.pw,.bool ru.hh,.string ru.host,.bool ru.hp,.int .i64 (ru.port:Int),.bool ru.op,.string ru.opath,.slice ru.so ru.sn ru.sc,.bool ru.hq,.string ru.q,.bool ru.hf,.string ru.fr] 101)).alloc (Obj.cells #[.string ⟨#[]⟩,.string ⟨#[]⟩,.string ⟨#[]⟩,.bool false,.string ⟨#[]⟩,.bool false,.int .i64 0,.bool false,.string ⟨#[]⟩,.slice none 0 0,.bool false,.string ⟨#[]⟩,.bool false,.string ⟨#[]⟩] 101))=w1 at *;obtain⟨a0,a1,a2,a3,a4,a5,a6,a7,a8,a9,a10,a11,a12,a13⟩:=HUB.out.cells;go_wp2_with fail
  refine(HB.out _).mono ?_
  rintro e w2 ⟨r,rfl,⟨p,hp1,hp2,hp3⟩,hn2⟩;have HP1:=Za hp1;have HP3:=Za hp3;have HZ2:=Za (HZ.out.on hn2);have HN2:=Za (HN.out.then hn2);clear hp1 hp3 hn2;clear a0 a1 a2 a3 a4 a5 a6 a7 a8 a9 a10 a11 a12 a13;obtain⟨z0,z1,z2,z3,z4,z5,z6,z7,z8,z9,z10,z11,z12,z13⟩:=HZ2.out.cells;have zf0:=HZ2.out.free 0;have zf1:=HZ2.out.free 1;have zf2:=HZ2.out.free 2;have zf3:=HZ2.out.free 3;have zf4:=HZ2.out.free 4;have zf5:=HZ2.out.free 5;have zf6:=HZ2.out.free 6;have zf7:=HZ2.out.free 7;have zf8:=HZ2.out.free 8;have zf9:=HZ2.out.free 9;have zf10:=HZ2.out.free 10;have zf11:=HZ2.out.free 11;have zf12:=HZ2.out.free 12;have zf13:=HZ2.out.free 13;go_wp2
  exact Za0 (rb:=w.heap.size+1) Tryz.results243 rfl (RecB.put HZ2.out _ _ _ _ _ _ _ _ _ _ _ _ _ _) rfl ⟨r,rfl,⟨false,⟨#[]⟩,p,HP1.out,by decide,hp2,HP3.out.trans HE.out.symm⟩,(Zd HN2.out (by omega) _ _ _ _ _ _ _ _ _ _ _ _ _ _)⟩
 ·have HE:=Za (show ZaE (ru.u bs) (tl s)={ ru.u bs with hq:=true,q:=Zg0 (tl ru.sch) (tl s) }from if_neg (ZcO h0))
  have h0':=Zh h0;clear h0
  go_enter Tryz.func243,Tryz.ntmps243
  go_upto_region 1 with fail;obtain⟨g1,g2,g3⟩:=ZaA (w:=w) (ru:=ru) Nx.rfl;have HUB:=Za g1;have HZ:=Za g2;have HN:=Za g3;clear g1 g2 g3;generalize ((w.alloc (Obj.cells #[.string ru.sch,.string ru.nam,.string ru.pw,.bool ru.hh,.string ru.host,.bool ru.hp,.int .i64 (ru.port:Int),.bool ru.op,.string ru.opath,.slice ru.so ru.sn ru.sc,.bool ru.hq,.string ru.q,.bool ru.hf,.string ru.fr] 101)).alloc (Obj.cells #[.string ⟨#[]⟩,.string ⟨#[]⟩,.string ⟨#[]⟩,.bool false,.string ⟨#[]⟩,.bool false,.int .i64 0,.bool false,.string ⟨#[]⟩,.slice none 0 0,.bool false,.string ⟨#[]⟩,.bool false,.string ⟨#[]⟩] 101))=w1 at *;obtain⟨a0,a1,a2,a3,a4,a5,a6,a7,a8,a9,a10,a11,a12,a13⟩:=HUB.out.cells;have af10:=HUB.out.free 10
  go_wp2_with (first|(go_at_call 189;refine(ZZ _ _).mono ?_;rintro e w' ⟨rfl,rfl⟩)|(go_at_call 190;refine(ZeR _ _).mono ?_;rintro e w' ⟨rfl,rfl⟩)|fail)
  refine(Ze8 s 63 _ (by omega)).mono ?_
  rintro e w2 ⟨x,rfl,hx,hn2⟩;rw[show((63:Nat):Int)=63 from rfl]at hx
  have hxl:x.size≤30000:=by have h1:=ZaP (Zbs 63 (tl s));have h2:=Zev 63 (tl s);rw[←hx,tl_length]at h1;rw[tl_length]at h2;omega
  have HX:=Za hx;have HUB2:=Za (HUB.out.on hn2);have HZ2:=Za (HZ.out.on hn2);have HN2:=Za (HN.out.then hn2);clear hx hn2 HUB HZ HN;clear a0 a1 a2 a3 a4 a5 a6 a7 a8 a9 a10 a11 a12 a13 af10;obtain⟨a0,a1,a2,a3,a4,a5,a6,a7,a8,a9,a10,a11,a12,a13⟩:=HUB2.out.cells;have af10:=HUB2.out.free 10;go_wp2_with fail
  refine(ZaM x (ZaQ (tl ru.sch)) _ (by omega)).mono ?_
  rintro e w3 ⟨en,rfl,hen,hn3⟩
  have HEN:=Za (show tl en=Zg0 (tl ru.sch) (tl s)by rw[hen,HX.out];rfl)
  have hel:en.size≤300000:=by rw[←tl_length,hen];exact Zbd _ _ (by rw[tl_length];exact hxl)
  have HUB3:=Za ((HUB2.out.s10 true).on hn3)
  have HZ3:=Za ((HZ2.out.far (q:=w.heap.size) (by omega) 10 (.bool true)).on hn3)
  have HN3:=Za (show Nx w w3 from Nx.then (show Nx w _ from Below.setCell (p:=⟨w.heap.size,10,none⟩) HN2.out (Xa _) (.bool true)) hn3);clear hen hn3 HUB2 HZ2 HN2 HX;clear a0 a1 a2 a3 a4 a5 a6 a7 a8 a9 a10 a11 a12 a13 af10;obtain⟨a0,a1,a2,a3,a4,a5,a6,a7,a8,a9,a10,a11,a12,a13⟩:=HUB3.out.cells;have af11:=HUB3.out.free 11;obtain⟨z0,z1,z2,z3,z4,z5,z6,z7,z8,z9,z10,z11,z12,z13⟩:=HZ3.out.cells;have zf0:=HZ3.out.free 0;have zf1:=HZ3.out.free 1;have zf2:=HZ3.out.free 2;have zf3:=HZ3.out.free 3;have zf4:=HZ3.out.free 4;have zf5:=HZ3.out.free 5;have zf6:=HZ3.out.free 6;have zf7:=HZ3.out.free 7;have zf8:=HZ3.out.free 8;have zf9:=HZ3.out.free 9;have zf10:=HZ3.out.free 10;have zf11:=HZ3.out.free 11;have zf12:=HZ3.out.free 12;have zf13:=HZ3.out.free 13;go_wp2
  exact Za0 (rb:=w.heap.size+1) Tryz.results243 rfl (RecB.put (HZ3.out.far (by omega) 11 _) _ _ _ _ _ _ _ _ _ _ _ _ _ _) rfl ⟨{ ru with hq:=true,q:=en },rfl,⟨true,en,ru.opath,rfl,hel,hl,by rw[HE.out,←HEN.out];rfl⟩,(Zd (Below.setCell HN3.out (Xa _) _) (by omega) _ _ _ _ _ _ _ _ _ _ _ _ _ _)⟩
theorem ZkU(ru:Rc)(u:U)(bs:LA)(s:BA)(w:World)(h:RcIs w ru u bs)(hb:bs.length≤30001)(hs:s.size≤29000):Calls Tryz.prog 208 #[.agg #[.string ru.sch,.string ru.nam,.string ru.pw,.bool ru.hh,.string ru.host,.bool ru.hp,.int .i64 (ru.port:Int),.bool ru.op,.string ru.opath,.slice ru.so ru.sn ru.sc,.bool ru.hq,.string ru.q,.bool ru.hf,.string ru.fr],.int .i64 8,.string s] w fun e w'=>ZkS e w w' (ZaE u (tl s)):=by
 have HP:Hid (∀w',Nx w w'→Calls Tryz.prog 243 #[.agg #[.string ru.sch,.string ru.nam,.string ru.pw,.bool ru.hh,.string ru.host,.bool ru.hp,.int .i64 (ru.port:Int),.bool ru.op,.string ru.opath,.slice ru.so ru.sn ru.sc,.bool ru.hq,.string ru.q,.bool ru.hf,.string ru.fr],.string s] w' fun e w''=>ZkS e w' w'' (ZaE u (tl s))):=Za (fun w' hn=>(ZkR ru bs s w' h.lopath (by omega)).mono (by rintro e w2 ⟨r,he,⟨a,x,p,hr,hx,hp,hq⟩,hn2⟩;exact⟨r,bs,he,by subst hr;exact { h.on (hn.then hn2)with eq:=by rw[hq,h.eq],lq:=hx,lopath:=hp },by omega,hn2⟩))
 clear h
 go_enter Tryz.func208,Tryz.ntmps208
 go_upto_region 1 with fail;obtain⟨g1,g2,g3⟩:=ZaA (w:=w) (ru:=ru) Nx.rfl;have HUB:=Za g1;have HZ:=Za g2;have HN:=Za g3;clear g1 g2 g3;generalize ((w.alloc (Obj.cells #[.string ru.sch,.string ru.nam,.string ru.pw,.bool ru.hh,.string ru.host,.bool ru.hp,.int .i64 (ru.port:Int),.bool ru.op,.string ru.opath,.slice ru.so ru.sn ru.sc,.bool ru.hq,.string ru.q,.bool ru.hf,.string ru.fr] 101)).alloc (Obj.cells #[.string ⟨#[]⟩,.string ⟨#[]⟩,.string ⟨#[]⟩,.bool false,.string ⟨#[]⟩,.bool false,.int .i64 0,.bool false,.string ⟨#[]⟩,.slice none 0 0,.bool false,.string ⟨#[]⟩,.bool false,.string ⟨#[]⟩] 101))=w1 at *;obtain⟨a0,a1,a2,a3,a4,a5,a6,a7,a8,a9,a10,a11,a12,a13⟩:=HUB.out.cells;go_wp2_with fail
 refine(HP.out _ HN.out).mono ?_
 rintro e w2 ⟨r,ds,rfl,hr,hdl,hn2⟩;have HR:=Za hr;have HZ2:=Za (HZ.out.on hn2);have HN2:=Za (HN.out.then hn2);clear hr hn2 HZ HN;clear a0 a1 a2 a3 a4 a5 a6 a7 a8 a9 a10 a11 a12 a13;obtain⟨z0,z1,z2,z3,z4,z5,z6,z7,z8,z9,z10,z11,z12,z13⟩:=HZ2.out.cells;have zf0:=HZ2.out.free 0;have zf1:=HZ2.out.free 1;have zf2:=HZ2.out.free 2;have zf3:=HZ2.out.free 3;have zf4:=HZ2.out.free 4;have zf5:=HZ2.out.free 5;have zf6:=HZ2.out.free 6;have zf7:=HZ2.out.free 7;have zf8:=HZ2.out.free 8;have zf9:=HZ2.out.free 9;have zf10:=HZ2.out.free 10;have zf11:=HZ2.out.free 11;have zf12:=HZ2.out.free 12;have zf13:=HZ2.out.free 13;go_wp2
 exact Za0 (rb:=w.heap.size+1) Tryz.results208 rfl (RecB.put HZ2.out _ _ _ _ _ _ _ _ _ _ _ _ _ _) rfl ⟨r,ds,rfl,HR.out.ks (Zm HZ2.out.ty (by decide) _ _ _ _ _ _ _ _ _ _ _ _ _ _),hdl,(Zd HN2.out (by omega) _ _ _ _ _ _ _ _ _ _ _ _ _ _)⟩
theorem ZkV(ru:Rc)(u:U)(bs:LA)(s:BA)(w:World)(h:RcIs w ru u bs)(hb:bs.length≤30001)(hs:s.size≤29000):Calls Tryz.prog 208 #[.agg #[.string ru.sch,.string ru.nam,.string ru.pw,.bool ru.hh,.string ru.host,.bool ru.hp,.int .i64 (ru.port:Int),.bool ru.op,.string ru.opath,.slice ru.so ru.sn ru.sc,.bool ru.hq,.string ru.q,.bool ru.hf,.string ru.fr],.int .i64 9,.string s] w fun e w'=>ZkS e w w' (Zbb u (tl s)):=by
 have HP:Hid (∀w',Nx w w'→Calls Tryz.prog 244 #[.agg #[.string ru.sch,.string ru.nam,.string ru.pw,.bool ru.hh,.string ru.host,.bool ru.hp,.int .i64 (ru.port:Int),.bool ru.op,.string ru.opath,.slice ru.so ru.sn ru.sc,.bool ru.hq,.string ru.q,.bool ru.hf,.string ru.fr],.string s] w' fun e w''=>ZkS e w' w'' (Zbb u (tl s))):=Za (fun w' hn=>(Zmn ru bs s w' h.lopath (by omega)).mono (by rintro e w2 ⟨r,he,⟨a,x,p,hr,hx,hp,hq⟩,hn2⟩;exact⟨r,bs,he,by subst hr;exact { h.on (hn.then hn2)with eq:=by rw[hq,h.eq],lfr:=hx,lopath:=hp },by omega,hn2⟩))
 clear h
 go_enter Tryz.func208,Tryz.ntmps208
 go_upto_region 1 with fail;obtain⟨g1,g2,g3⟩:=ZaA (w:=w) (ru:=ru) Nx.rfl;have HUB:=Za g1;have HZ:=Za g2;have HN:=Za g3;clear g1 g2 g3;generalize ((w.alloc (Obj.cells #[.string ru.sch,.string ru.nam,.string ru.pw,.bool ru.hh,.string ru.host,.bool ru.hp,.int .i64 (ru.port:Int),.bool ru.op,.string ru.opath,.slice ru.so ru.sn ru.sc,.bool ru.hq,.string ru.q,.bool ru.hf,.string ru.fr] 101)).alloc (Obj.cells #[.string ⟨#[]⟩,.string ⟨#[]⟩,.string ⟨#[]⟩,.bool false,.string ⟨#[]⟩,.bool false,.int .i64 0,.bool false,.string ⟨#[]⟩,.slice none 0 0,.bool false,.string ⟨#[]⟩,.bool false,.string ⟨#[]⟩] 101))=w1 at *;obtain⟨a0,a1,a2,a3,a4,a5,a6,a7,a8,a9,a10,a11,a12,a13⟩:=HUB.out.cells;go_wp2_with fail
 refine(HP.out _ HN.out).mono ?_
 rintro e w2 ⟨r,ds,rfl,hr,hdl,hn2⟩;have HR:=Za hr;have HZ2:=Za (HZ.out.on hn2);have HN2:=Za (HN.out.then hn2);clear hr hn2 HZ HN;clear a0 a1 a2 a3 a4 a5 a6 a7 a8 a9 a10 a11 a12 a13;obtain⟨z0,z1,z2,z3,z4,z5,z6,z7,z8,z9,z10,z11,z12,z13⟩:=HZ2.out.cells;have zf0:=HZ2.out.free 0;have zf1:=HZ2.out.free 1;have zf2:=HZ2.out.free 2;have zf3:=HZ2.out.free 3;have zf4:=HZ2.out.free 4;have zf5:=HZ2.out.free 5;have zf6:=HZ2.out.free 6;have zf7:=HZ2.out.free 7;have zf8:=HZ2.out.free 8;have zf9:=HZ2.out.free 9;have zf10:=HZ2.out.free 10;have zf11:=HZ2.out.free 11;have zf12:=HZ2.out.free 12;have zf13:=HZ2.out.free 13;go_wp2
 exact Za0 (rb:=w.heap.size+1) Tryz.results208 rfl (RecB.put HZ2.out _ _ _ _ _ _ _ _ _ _ _ _ _ _) rfl ⟨r,ds,rfl,HR.out.ks (Zm HZ2.out.ty (by decide) _ _ _ _ _ _ _ _ _ _ _ _ _ _),hdl,(Zd HN2.out (by omega) _ _ _ _ _ _ _ _ _ _ _ _ _ _)⟩
theorem Zvp(ru:Rc)(u:U)(bs:LA)(s:BA)(w:World)(h:RcIs w ru u bs)(_ht:Tb w)(hb:bs.length≤30001)(hs:s.size≤3000):Calls Tryz.prog 170 #[.agg #[.string ru.sch,.string ru.nam,.string ru.pw,.bool ru.hh,.string ru.host,.bool ru.hp,.int .i64 (ru.port:Int),.bool ru.op,.string ru.opath,.slice ru.so ru.sn ru.sc,.bool ru.hq,.string ru.q,.bool ru.hf,.string ru.fr],.int .i64 8,.string s] w fun e w'=>Zfy e w' ((ZaE u (clean (tl s)),0)) 30002∧Nx w w':=by
 go_enter Tryz.func170,Tryz.ntmps170
 go_upto_region 1 with fail;obtain⟨g1,g2,g3⟩:=ZaA (w:=w) (ru:=ru) Nx.rfl;have HUB:=Za g1;have HZ:=Za g2;have HN:=Za g3;clear g1 g2 g3;generalize ((w.alloc (Obj.cells #[.string ru.sch,.string ru.nam,.string ru.pw,.bool ru.hh,.string ru.host,.bool ru.hp,.int .i64 (ru.port:Int),.bool ru.op,.string ru.opath,.slice ru.so ru.sn ru.sc,.bool ru.hq,.string ru.q,.bool ru.hf,.string ru.fr] 101)).alloc (Obj.cells #[.string ⟨#[]⟩,.string ⟨#[]⟩,.string ⟨#[]⟩,.bool false,.string ⟨#[]⟩,.bool false,.int .i64 0,.bool false,.string ⟨#[]⟩,.slice none 0 0,.bool false,.string ⟨#[]⟩,.bool false,.string ⟨#[]⟩] 101))=w1 at *;go_wp2_with fail
 refine(ZeJ s _ (by omega)).mono ?_
 rintro e w2 ⟨x,rfl,hx,hn2⟩
 have hxl:x.size≤9000:=by have:=Zb4 (tl s);rw[←hx,tl_length,tl_length]at this;omega
 have HP:Hid (∀w',Nx w w'→Calls Tryz.prog 208 #[.agg #[.string ru.sch,.string ru.nam,.string ru.pw,.bool ru.hh,.string ru.host,.bool ru.hp,.int .i64 (ru.port:Int),.bool ru.op,.string ru.opath,.slice ru.so ru.sn ru.sc,.bool ru.hq,.string ru.q,.bool ru.hf,.string ru.fr],.int .i64 8,.string x] w' fun e w''=>ZkS e w' w'' (ZaE u (tl x))):=Za (fun w' hn=>ZkU ru u bs x w' (h.on hn) hb (by omega))
 rw[hx]at HP;have HUB2:=Za (HUB.out.on hn2);have HZ2:=Za (HZ.out.on hn2);have HN2:=Za (HN.out.then hn2);clear hx hn2 HUB HZ HN h _ht hb;obtain⟨a0,a1,a2,a3,a4,a5,a6,a7,a8,a9,a10,a11,a12,a13⟩:=HUB2.out.cells;go_wp2_with fail
 refine(HP.out _ HN2.out).mono ?_
 rintro e w3 ⟨r,ds,rfl,hr,hdl,hn3⟩;have HR:=Za hr;have HZ3:=Za (HZ2.out.on hn3);have HN3:=Za (HN2.out.then hn3);clear hr hn3 HZ2 HN2 HUB2;clear a0 a1 a2 a3 a4 a5 a6 a7 a8 a9 a10 a11 a12 a13;obtain⟨z0,z1,z2,z3,z4,z5,z6,z7,z8,z9,z10,z11,z12,z13⟩:=HZ3.out.cells;have zf0:=HZ3.out.free 0;have zf1:=HZ3.out.free 1;have zf2:=HZ3.out.free 2;have zf3:=HZ3.out.free 3;have zf4:=HZ3.out.free 4;have zf5:=HZ3.out.free 5;have zf6:=HZ3.out.free 6;have zf7:=HZ3.out.free 7;have zf8:=HZ3.out.free 8;have zf9:=HZ3.out.free 9;have zf10:=HZ3.out.free 10;have zf11:=HZ3.out.free 11;have zf12:=HZ3.out.free 12;have zf13:=HZ3.out.free 13;go_wp2
 exact Zac (rb:=w.heap.size+1) Tryz.results170 rfl rfl (RecB.put HZ3.out _ _ _ _ _ _ _ _ _ _ _ _ _ _) rfl ⟨⟨r,ds,rfl,HR.out.ks (Zm HZ3.out.ty (by decide) _ _ _ _ _ _ _ _ _ _ _ _ _ _),hdl⟩,(Zd HN3.out (by omega) _ _ _ _ _ _ _ _ _ _ _ _ _ _)⟩
theorem Zvq(ru:Rc)(u:U)(bs:LA)(s:BA)(w:World)(h:RcIs w ru u bs)(_ht:Tb w)(hb:bs.length≤30001)(hs:s.size≤3000):Calls Tryz.prog 170 #[.agg #[.string ru.sch,.string ru.nam,.string ru.pw,.bool ru.hh,.string ru.host,.bool ru.hp,.int .i64 (ru.port:Int),.bool ru.op,.string ru.opath,.slice ru.so ru.sn ru.sc,.bool ru.hq,.string ru.q,.bool ru.hf,.string ru.fr],.int .i64 9,.string s] w fun e w'=>Zfy e w' ((Zbb u (clean (tl s)),0)) 30002∧Nx w w':=by
 go_enter Tryz.func170,Tryz.ntmps170
 go_upto_region 1 with fail;obtain⟨g1,g2,g3⟩:=ZaA (w:=w) (ru:=ru) Nx.rfl;have HUB:=Za g1;have HZ:=Za g2;have HN:=Za g3;clear g1 g2 g3;generalize ((w.alloc (Obj.cells #[.string ru.sch,.string ru.nam,.string ru.pw,.bool ru.hh,.string ru.host,.bool ru.hp,.int .i64 (ru.port:Int),.bool ru.op,.string ru.opath,.slice ru.so ru.sn ru.sc,.bool ru.hq,.string ru.q,.bool ru.hf,.string ru.fr] 101)).alloc (Obj.cells #[.string ⟨#[]⟩,.string ⟨#[]⟩,.string ⟨#[]⟩,.bool false,.string ⟨#[]⟩,.bool false,.int .i64 0,.bool false,.string ⟨#[]⟩,.slice none 0 0,.bool false,.string ⟨#[]⟩,.bool false,.string ⟨#[]⟩] 101))=w1 at *;go_wp2_with fail
 refine(ZeJ s _ (by omega)).mono ?_
 rintro e w2 ⟨x,rfl,hx,hn2⟩
 have hxl:x.size≤9000:=by have:=Zb4 (tl s);rw[←hx,tl_length,tl_length]at this;omega
 have HP:Hid (∀w',Nx w w'→Calls Tryz.prog 208 #[.agg #[.string ru.sch,.string ru.nam,.string ru.pw,.bool ru.hh,.string ru.host,.bool ru.hp,.int .i64 (ru.port:Int),.bool ru.op,.string ru.opath,.slice ru.so ru.sn ru.sc,.bool ru.hq,.string ru.q,.bool ru.hf,.string ru.fr],.int .i64 9,.string x] w' fun e w''=>ZkS e w' w'' (Zbb u (tl x))):=Za (fun w' hn=>ZkV ru u bs x w' (h.on hn) hb (by omega))
 rw[hx]at HP;have HUB2:=Za (HUB.out.on hn2);have HZ2:=Za (HZ.out.on hn2);have HN2:=Za (HN.out.then hn2);clear hx hn2 HUB HZ HN h _ht hb;obtain⟨a0,a1,a2,a3,a4,a5,a6,a7,a8,a9,a10,a11,a12,a13⟩:=HUB2.out.cells;go_wp2_with fail
 refine(HP.out _ HN2.out).mono ?_
 rintro e w3 ⟨r,ds,rfl,hr,hdl,hn3⟩;have HR:=Za hr;have HZ3:=Za (HZ2.out.on hn3);have HN3:=Za (HN2.out.then hn3);clear hr hn3 HZ2 HN2 HUB2;clear a0 a1 a2 a3 a4 a5 a6 a7 a8 a9 a10 a11 a12 a13;obtain⟨z0,z1,z2,z3,z4,z5,z6,z7,z8,z9,z10,z11,z12,z13⟩:=HZ3.out.cells;have zf0:=HZ3.out.free 0;have zf1:=HZ3.out.free 1;have zf2:=HZ3.out.free 2;have zf3:=HZ3.out.free 3;have zf4:=HZ3.out.free 4;have zf5:=HZ3.out.free 5;have zf6:=HZ3.out.free 6;have zf7:=HZ3.out.free 7;have zf8:=HZ3.out.free 8;have zf9:=HZ3.out.free 9;have zf10:=HZ3.out.free 10;have zf11:=HZ3.out.free 11;have zf12:=HZ3.out.free 12;have zf13:=HZ3.out.free 13;go_wp2
 exact Zac (rb:=w.heap.size+1) Tryz.results170 rfl rfl (RecB.put HZ3.out _ _ _ _ _ _ _ _ _ _ _ _ _ _) rfl ⟨⟨r,ds,rfl,HR.out.ks (Zm HZ3.out.ty (by decide) _ _ _ _ _ _ _ _ _ _ _ _ _ _),hdl⟩,(Zd HN3.out (by omega) _ _ _ _ _ _ _ _ _ _ _ _ _ _)⟩
theorem ZkW(pb:Nat)(r:Rc)(u:U)(bs:LA)(s:BA)(w:World)(hu:UrlB w pb r)(hr:RcIs w r u bs)(ht:Tb w)(hb:bs.length≤30001):Calls Tryz.prog 75 #[.pointer (some ⟨pb,0,none⟩),.string s] w fun e w'=>Ztt e w w' pb (decide (160<s.size)) (ZnS u 8 (tl s)):=by
 have HP:=Za (Zg1 8 pb r u bs s w hu hr (fun hs=>Zvp r u bs s w hr ht hb (by omega)))
 clear hu hr ht hb
 go_enter Tryz.func75,Tryz.ntmps75
 go_wp2_with fail
 refine HP.out.mono ?_
 intro e w1 h;rcases h with⟨h1,rfl,hn⟩|⟨h1,h2,rfl,hn⟩|⟨h1,h2,rfl,hx,hbu⟩
 ·have H1:=Za h1
  have HN:=Za hn;clear h1 hn;go_wp2;go_ret;exact Or.inl ⟨H1.out,rfl,HN.out⟩
 ·have H1:=Za h1
  have H2:=Za h2;have HN:=Za hn;clear h1 h2 hn;go_wp2;go_ret;exact Or.inr (Or.inl ⟨H1.out,H2.out,rfl,HN.out⟩)
 ·have H1:=Za h1
  have H2:=Za h2;have HX:=Za hx;have HB:=Za hbu;clear h1 h2 hx hbu;go_wp2;go_ret;exact Or.inr (Or.inr ⟨H1.out,H2.out,rfl,HX.out,HB.out⟩)
theorem ZnT(pb:Nat)(r:Rc)(u:U)(bs:LA)(s:BA)(w:World)(hu:UrlB w pb r)(hr:RcIs w r u bs)(ht:Tb w)(hb:bs.length≤30001):Calls Tryz.prog 76 #[.pointer (some ⟨pb,0,none⟩),.string s] w fun e w'=>Ztt e w w' pb (decide (160<s.size)) (ZnS u 9 (tl s)):=by
 have HP:=Za (Zg1 9 pb r u bs s w hu hr (fun hs=>Zvq r u bs s w hr ht hb (by omega)))
 clear hu hr ht hb
 go_enter Tryz.func76,Tryz.ntmps76
 go_wp2_with fail
 refine HP.out.mono ?_
 intro e w1 h;rcases h with⟨h1,rfl,hn⟩|⟨h1,h2,rfl,hn⟩|⟨h1,h2,rfl,hx,hbu⟩
 ·have H1:=Za h1
  have HN:=Za hn;clear h1 hn;go_wp2;go_ret;exact Or.inl ⟨H1.out,rfl,HN.out⟩
 ·have H1:=Za h1
  have H2:=Za h2;have HN:=Za hn;clear h1 h2 hn;go_wp2;go_ret;exact Or.inr (Or.inl ⟨H1.out,H2.out,rfl,HN.out⟩)
 ·have H1:=Za h1
  have H2:=Za h2;have HX:=Za hx;have HB:=Za hbu;clear h1 h2 hx hbu;go_wp2;go_ret;exact Or.inr (Or.inr ⟨H1.out,H2.out,rfl,HX.out,HB.out⟩)
end Go.Proofs.YtchkhibgbnhjpabGreatDoor
