import Derived.Test.YtchkhibgbnhjpabGreatDoorB42
open Nat renaming le_refl→Xa
namespace Go.Proofs.YtchkhibgbnhjpabGreatDoor
open Go.RowKit
set_option maxHeartbeats 8000000
theorem Zht(sp:Bool):ZbC sp []=[]:=rfl
theorem ZnR(ru:Rc)(u:U)(bs:LA)(s:BA)(w:World)(h:RcIs w ru u bs)(hbs:bs.length≤30001)(hs:s.size≤29000):Calls Tryz.prog 242 #[.agg #[.string ru.sch,.string ru.nam,.string ru.pw,.bool ru.hh,.string ru.host,.bool ru.hp,.int .i64 (ru.port:Int),.bool ru.op,.string ru.opath,.slice ru.so ru.sn ru.sc,.bool ru.hq,.string ru.q,.bool ru.hf,.string ru.fr],.string s] w fun e w'=>∃(r:Rc) (ds:LA),e=.returned (.agg #[.string r.sch,.string r.nam,.string r.pw,.bool r.hh,.string r.host,.bool r.hp,.int .i64 (r.port:Int),.bool r.op,.string r.opath,.slice r.so r.sn r.sc,.bool r.hq,.string r.q,.bool r.hf,.string r.fr])∧RcIs w' r (ZbD u (tl s)) ds∧ds.length≤30001∧Nx w w':=by
 have HR:=Za h
 have HD:=Za (show ZbD u (tl s)=if ru.op=true then u else if noBreaks (tl s)=[]∧Zc (tl ru.sch)=false∧ru.hh=true then { u with segs:=[] }else { u with segs:=Zbe (ZbC (Zc (tl ru.sch)) (noBreaks (tl s))) (tl ru.sch) }by rw[←h.eq];rfl)
 clear h;obtain⟨sch,nam,pw,hh,host,hp,port,op,opath,so,sn,sc,hq,q,hf,fr⟩:=ru;simp only at *
 cases op
 ·have HD2:=Za (HD.out.trans (if_neg (by decide)))
  clear HD;generalize hsp:Zc (tl sch)=sp at *;have HSP:=Za hsp;clear hsp
  go_enter Tryz.func242,Tryz.ntmps242
  go_upto_region 1 with fail;obtain⟨g1,g2,g3⟩:=ZaA (w:=w) (ru:=⟨sch,nam,pw,hh,host,hp,port,false,opath,so,sn,sc,hq,q,hf,fr⟩) Nx.rfl;have HUB:=Za g1;have HZ:=Za g2;have HN:=Za g3;clear g1 g2 g3;generalize ((w.alloc (Obj.cells #[.string sch,.string nam,.string pw,.bool hh,.string host,.bool hp,.int .i64 (port:Int),.bool false,.string opath,.slice so sn sc,.bool hq,.string q,.bool hf,.string fr] 101)).alloc (Obj.cells #[.string ⟨#[]⟩,.string ⟨#[]⟩,.string ⟨#[]⟩,.bool false,.string ⟨#[]⟩,.bool false,.int .i64 0,.bool false,.string ⟨#[]⟩,.slice none 0 0,.bool false,.string ⟨#[]⟩,.bool false,.string ⟨#[]⟩] 101))=w1 at *;obtain⟨a0,a1,a2,a3,a4,a5,a6,a7,a8,a9,a10,a11,a12,a13⟩:=HUB.out.cells;simp only at a0 a1 a2 a3 a4 a5 a6 a7 a8 a9 a10 a11 a12 a13
  go_wp2_with (first|(go_at_call 189;refine(ZZ _ _).mono ?_;rintro e w' ⟨rfl,rfl⟩;rw[HSP.out])|fail)
  refine(ZcD s _ (by omega)).mono ?_
  rintro e w2 ⟨x,rfl,hx,hn2⟩;rw[←hx]at HD2
  have hxl:x.size≤29000:=by have h1:=ZaP (tl s);rw[←hx,tl_length,tl_length]at h1;omega
  have HUB2:=Za (HUB.out.on hn2);have HZ2:=Za (HZ.out.on hn2);have HN2:=Za (HN.out.then hn2);clear hx hn2 HUB HZ HN;clear a0 a1 a2 a3 a4 a5 a6 a7 a8 a9 a10 a11 a12 a13;obtain⟨a0,a1,a2,a3,a4,a5,a6,a7,a8,a9,a10,a11,a12,a13⟩:=HUB2.out.cells;have af9:=HUB2.out.free 9;simp only at a0 a1 a2 a3 a4 a5 a6 a7 a8 a9 a10 a11 a12 a13
  by_cases h0:x.size=0
  ·have h0':=Zl h0
   have hxe:=Zw h0
   cases sp
   ·cases hh
    ·have HE:=Za (HD2.out.trans (if_neg (by rintro⟨-,-,h⟩;cases h)))
     clear HD2 h0;go_wp2_with fail
     refine(Zao x sch _ (by omega)).mono ?_
     rintro e w3 ⟨v3,ds,rfl,ho,hds,hdl,hn3⟩;obtain⟨ao,n,cap,rfl⟩:=ZF ho;have HO:=Za (Zp ho)
     have HDS:=Za (show ds.map tl=Zbe (ZbC false (tl x)) (tl sch)by rw[hds];rw[hxe,Zht])
     have HSH:=Za (Zax hds (Z1 (by rw[tl_length];omega)))
     have hdl2:ds.length≤30001:=by omega
     have HUB3:=Za (HUB2.out.on hn3);have HZ3:=Za (HZ2.out.on hn3);have HN3:=Za (HN2.out.then hn3);clear ho hds hn3 hdl;clear a0 a1 a2 a3 a4 a5 a6 a7 a8 a9 a10 a11 a12 a13 af9;obtain⟨a0,a1,a2,a3,a4,a5,a6,a7,a8,a9,a10,a11,a12,a13⟩:=HUB3.out.cells;have af9:=HUB3.out.free 9;obtain⟨z0,z1,z2,z3,z4,z5,z6,z7,z8,z9,z10,z11,z12,z13⟩:=HZ3.out.cells;have zf0:=HZ3.out.free 0;have zf1:=HZ3.out.free 1;have zf2:=HZ3.out.free 2;have zf3:=HZ3.out.free 3;have zf4:=HZ3.out.free 4;have zf5:=HZ3.out.free 5;have zf6:=HZ3.out.free 6;have zf7:=HZ3.out.free 7;have zf8:=HZ3.out.free 8;have zf9:=HZ3.out.free 9;have zf10:=HZ3.out.free 10;have zf11:=HZ3.out.free 11;have zf12:=HZ3.out.free 12;have zf13:=HZ3.out.free 13;simp only at a0 a1 a2 a3 a4 a5 a6 a7 a8 a9 a10 a11 a12 a13;go_wp2
     refine Za0 (rb:=w.heap.size+1) Tryz.results242 rfl (RecB.put (HZ3.out.far (by omega) 9 _) _ _ _ _ _ _ _ _ _ _ _ _ _ _) rfl ⟨⟨sch,nam,pw,false,host,hp,port,false,opath,ao,n,cap,hq,q,hf,fr⟩,ds,rfl,?_,hdl2,(Zd (Below.setCell HN3.out (Xa _) _) (by omega) _ _ _ _ _ _ _ _ _ _ _ _ _ _)⟩
     exact { HR.out with eq:=by rw[HE.out,←HDS.out,←HR.out.eq];rfl,seg:=HO.out.ks (Ks.then (Ks.then Ks.rfl (ZW HUB3.out.ty (by decide) 9 _)) (Zm (HZ3.out.ty.set w.heap.size 9 _) (by decide) _ _ _ _ _ _ _ _ _ _ _ _ _ _)),lsegs:=by omega,lseg:=HSH.out }
    ·have HE:=Za (HD2.out.trans (if_pos ⟨hxe,rfl,rfl⟩))
     clear HD2 h0 hxe;obtain⟨z0,z1,z2,z3,z4,z5,z6,z7,z8,z9,z10,z11,z12,z13⟩:=HZ2.out.cells;have zf0:=HZ2.out.free 0;have zf1:=HZ2.out.free 1;have zf2:=HZ2.out.free 2;have zf3:=HZ2.out.free 3;have zf4:=HZ2.out.free 4;have zf5:=HZ2.out.free 5;have zf6:=HZ2.out.free 6;have zf7:=HZ2.out.free 7;have zf8:=HZ2.out.free 8;have zf9:=HZ2.out.free 9;have zf10:=HZ2.out.free 10;have zf11:=HZ2.out.free 11;have zf12:=HZ2.out.free 12;have zf13:=HZ2.out.free 13;go_wp2
     refine Za0 (rb:=w.heap.size+1) Tryz.results242 rfl (RecB.put (HZ2.out.far (by omega) 9 _) _ _ _ _ _ _ _ _ _ _ _ _ _ _) rfl ⟨⟨sch,nam,pw,true,host,hp,port,false,opath,none,0,0,hq,q,hf,fr⟩,[],rfl,?_,by simp,(Zd (Below.setCell HN2.out (Xa _) _) (by omega) _ _ _ _ _ _ _ _ _ _ _ _ _ _)⟩
     exact { HR.out with eq:=by rw[HE.out,←HR.out.eq];rfl,seg:=SlAt.nil _,lsegs:=by simp,lseg:=fun b hb=>(by cases hb) }
   ·have HE:=Za (HD2.out.trans (if_neg (by rintro⟨-,h,-⟩;cases h)))
    clear HD2 h0;go_wp2_with fail
    refine(Zao x sch _ (by omega)).mono ?_
    rintro e w3 ⟨v3,ds,rfl,ho,hds,hdl,hn3⟩;obtain⟨ao,n,cap,rfl⟩:=ZF ho;have HO:=Za (Zp ho)
    have HDS:=Za (show ds.map tl=Zbe (ZbC true (tl x)) (tl sch)by rw[hds];rw[hxe,Zht])
    have HSH:=Za (Zax hds (Z1 (by rw[tl_length];omega)))
    have hdl2:ds.length≤30001:=by omega
    have HUB3:=Za (HUB2.out.on hn3);have HZ3:=Za (HZ2.out.on hn3);have HN3:=Za (HN2.out.then hn3);clear ho hds hn3 hdl;clear a0 a1 a2 a3 a4 a5 a6 a7 a8 a9 a10 a11 a12 a13 af9;obtain⟨a0,a1,a2,a3,a4,a5,a6,a7,a8,a9,a10,a11,a12,a13⟩:=HUB3.out.cells;have af9:=HUB3.out.free 9;obtain⟨z0,z1,z2,z3,z4,z5,z6,z7,z8,z9,z10,z11,z12,z13⟩:=HZ3.out.cells;have zf0:=HZ3.out.free 0;have zf1:=HZ3.out.free 1;have zf2:=HZ3.out.free 2;have zf3:=HZ3.out.free 3;have zf4:=HZ3.out.free 4;have zf5:=HZ3.out.free 5;have zf6:=HZ3.out.free 6;have zf7:=HZ3.out.free 7;have zf8:=HZ3.out.free 8;have zf9:=HZ3.out.free 9;have zf10:=HZ3.out.free 10;have zf11:=HZ3.out.free 11;have zf12:=HZ3.out.free 12;have zf13:=HZ3.out.free 13;simp only at a0 a1 a2 a3 a4 a5 a6 a7 a8 a9 a10 a11 a12 a13;go_wp2
    refine Za0 (rb:=w.heap.size+1) Tryz.results242 rfl (RecB.put (HZ3.out.far (by omega) 9 _) _ _ _ _ _ _ _ _ _ _ _ _ _ _) rfl ⟨⟨sch,nam,pw,hh,host,hp,port,false,opath,ao,n,cap,hq,q,hf,fr⟩,ds,rfl,?_,hdl2,(Zd (Below.setCell HN3.out (Xa _) _) (by omega) _ _ _ _ _ _ _ _ _ _ _ _ _ _)⟩
    exact { HR.out with eq:=by rw[HE.out,←HDS.out,←HR.out.eq];rfl,seg:=HO.out.ks (Ks.then (Ks.then Ks.rfl (ZW HUB3.out.ty (by decide) 9 _)) (Zm (HZ3.out.ty.set w.heap.size 9 _) (by decide) _ _ _ _ _ _ _ _ _ _ _ _ _ _)),lsegs:=by omega,lseg:=HSH.out }
  ·have h0':=Zh h0
   have hpos:0<x.size:=by omega
   have HE:=Za (HD2.out.trans (if_neg (fun h=>ZcO h0 h.1)))
   have HCO:Hid (tl x=x[0]::(tl x).drop 1):=Za (by have:=ZI x 0 hpos;rw[List.drop_zero]at this;exact this)
   clear HD2 h0
   cases hsl:Zdv sp (x[0].toNat:Int)
   ·have HSO:=Za (show ZbC sp (tl x)=tl x by rw[HCO.out];show(if slB sp x[0]=true then _ else _)=_;rw[if_neg (by unfold slB;rw[hsl];decide)])
    have HSL:=Za hsl;clear hsl
    go_wp2_with (first|(go_at_call 257;refine(ZeG _ _ _).mono ?_;rintro e w' ⟨rfl,rfl⟩;rw[HSL.out])|fail)
    refine(Zao x sch _ (by omega)).mono ?_
    rintro e w3 ⟨v3,ds,rfl,ho,hds,hdl,hn3⟩;obtain⟨ao,n,cap,rfl⟩:=ZF ho;have HO:=Za (Zp ho)
    have HDS:=Za (show ds.map tl=Zbe (ZbC sp (tl x)) (tl sch)by rw[hds];rw[HSO.out])
    have HSH:=Za (Zax hds (Z1 (by rw[tl_length];omega)))
    have hdl2:ds.length≤30001:=by omega
    have HUB3:=Za (HUB2.out.on hn3);have HZ3:=Za (HZ2.out.on hn3);have HN3:=Za (HN2.out.then hn3);clear ho hds hn3 hdl;clear a0 a1 a2 a3 a4 a5 a6 a7 a8 a9 a10 a11 a12 a13 af9;obtain⟨a0,a1,a2,a3,a4,a5,a6,a7,a8,a9,a10,a11,a12,a13⟩:=HUB3.out.cells;have af9:=HUB3.out.free 9;obtain⟨z0,z1,z2,z3,z4,z5,z6,z7,z8,z9,z10,z11,z12,z13⟩:=HZ3.out.cells;have zf0:=HZ3.out.free 0;have zf1:=HZ3.out.free 1;have zf2:=HZ3.out.free 2;have zf3:=HZ3.out.free 3;have zf4:=HZ3.out.free 4;have zf5:=HZ3.out.free 5;have zf6:=HZ3.out.free 6;have zf7:=HZ3.out.free 7;have zf8:=HZ3.out.free 8;have zf9:=HZ3.out.free 9;have zf10:=HZ3.out.free 10;have zf11:=HZ3.out.free 11;have zf12:=HZ3.out.free 12;have zf13:=HZ3.out.free 13;simp only at a0 a1 a2 a3 a4 a5 a6 a7 a8 a9 a10 a11 a12 a13;go_wp2
    refine Za0 (rb:=w.heap.size+1) Tryz.results242 rfl (RecB.put (HZ3.out.far (by omega) 9 _) _ _ _ _ _ _ _ _ _ _ _ _ _ _) rfl ⟨⟨sch,nam,pw,hh,host,hp,port,false,opath,ao,n,cap,hq,q,hf,fr⟩,ds,rfl,?_,hdl2,(Zd (Below.setCell HN3.out (Xa _) _) (by omega) _ _ _ _ _ _ _ _ _ _ _ _ _ _)⟩
    exact { HR.out with eq:=by rw[HE.out,←HDS.out,←HR.out.eq];rfl,seg:=HO.out.ks (Ks.then (Ks.then Ks.rfl (ZW HUB3.out.ty (by decide) 9 _)) (Zm (HZ3.out.ty.set w.heap.size 9 _) (by decide) _ _ _ _ _ _ _ _ _ _ _ _ _ _)),lsegs:=by omega,lseg:=HSH.out }
   ·have HSO:=Za (show ZbC sp (tl x)=tl (x.extract 1 x.size)by
     rw[tl_from];have e:=HCO.out;generalize (tl x).drop 1=m at *;rw[e]
     show(if slB sp x[0]=true then m else _)=m
     rw[if_pos (by unfold slB;exact hsl)])
    have HSL:=Za hsl;clear hsl
    go_wp2_with (first|(go_at_call 257;refine(ZeG _ _ _).mono ?_;rintro e w' ⟨rfl,rfl⟩;rw[HSL.out])|fail)
    refine(Zao (x.extract 1 x.size) sch _ (by first|(rw[ZQ];omega)|(rw[ZQ]at hdl;omega))).mono ?_
    rintro e w3 ⟨v3,ds,rfl,ho,hds,hdl,hn3⟩;obtain⟨ao,n,cap,rfl⟩:=ZF ho;have HO:=Za (Zp ho)
    have HDS:=Za (show ds.map tl=Zbe (ZbC sp (tl x)) (tl sch)by rw[hds];rw[HSO.out])
    have HSH:=Za (Zax hds (Z1 (by rw[tl_length];first|(rw[ZQ];omega)|(rw[ZQ]at hdl;omega))))
    have hdl2:ds.length≤30001:=by first|(rw[ZQ];omega)|(rw[ZQ]at hdl;omega)
    have HUB3:=Za (HUB2.out.on hn3);have HZ3:=Za (HZ2.out.on hn3);have HN3:=Za (HN2.out.then hn3);clear ho hds hn3 hdl;clear a0 a1 a2 a3 a4 a5 a6 a7 a8 a9 a10 a11 a12 a13 af9;obtain⟨a0,a1,a2,a3,a4,a5,a6,a7,a8,a9,a10,a11,a12,a13⟩:=HUB3.out.cells;have af9:=HUB3.out.free 9;obtain⟨z0,z1,z2,z3,z4,z5,z6,z7,z8,z9,z10,z11,z12,z13⟩:=HZ3.out.cells;have zf0:=HZ3.out.free 0;have zf1:=HZ3.out.free 1;have zf2:=HZ3.out.free 2;have zf3:=HZ3.out.free 3;have zf4:=HZ3.out.free 4;have zf5:=HZ3.out.free 5;have zf6:=HZ3.out.free 6;have zf7:=HZ3.out.free 7;have zf8:=HZ3.out.free 8;have zf9:=HZ3.out.free 9;have zf10:=HZ3.out.free 10;have zf11:=HZ3.out.free 11;have zf12:=HZ3.out.free 12;have zf13:=HZ3.out.free 13;simp only at a0 a1 a2 a3 a4 a5 a6 a7 a8 a9 a10 a11 a12 a13;go_wp2
    refine Za0 (rb:=w.heap.size+1) Tryz.results242 rfl (RecB.put (HZ3.out.far (by omega) 9 _) _ _ _ _ _ _ _ _ _ _ _ _ _ _) rfl ⟨⟨sch,nam,pw,hh,host,hp,port,false,opath,ao,n,cap,hq,q,hf,fr⟩,ds,rfl,?_,hdl2,(Zd (Below.setCell HN3.out (Xa _) _) (by omega) _ _ _ _ _ _ _ _ _ _ _ _ _ _)⟩
    exact { HR.out with eq:=by rw[HE.out,←HDS.out,←HR.out.eq];rfl,seg:=HO.out.ks (Ks.then (Ks.then Ks.rfl (ZW HUB3.out.ty (by decide) 9 _)) (Zm (HZ3.out.ty.set w.heap.size 9 _) (by decide) _ _ _ _ _ _ _ _ _ _ _ _ _ _)),lsegs:=by omega,lseg:=HSH.out }
 ·have HE:=Za (HD.out.trans (if_pos rfl))
  clear HD
  go_enter Tryz.func242,Tryz.ntmps242
  go_upto_region 1 with fail;obtain⟨g1,g2,g3⟩:=ZaA (w:=w) (ru:=⟨sch,nam,pw,hh,host,hp,port,true,opath,so,sn,sc,hq,q,hf,fr⟩) Nx.rfl;have HUB:=Za g1;have HZ:=Za g2;have HN:=Za g3;clear g1 g2 g3;generalize ((w.alloc (Obj.cells #[.string sch,.string nam,.string pw,.bool hh,.string host,.bool hp,.int .i64 (port:Int),.bool true,.string opath,.slice so sn sc,.bool hq,.string q,.bool hf,.string fr] 101)).alloc (Obj.cells #[.string ⟨#[]⟩,.string ⟨#[]⟩,.string ⟨#[]⟩,.bool false,.string ⟨#[]⟩,.bool false,.int .i64 0,.bool false,.string ⟨#[]⟩,.slice none 0 0,.bool false,.string ⟨#[]⟩,.bool false,.string ⟨#[]⟩] 101))=w1 at *;obtain⟨a0,a1,a2,a3,a4,a5,a6,a7,a8,a9,a10,a11,a12,a13⟩:=HUB.out.cells;obtain⟨z0,z1,z2,z3,z4,z5,z6,z7,z8,z9,z10,z11,z12,z13⟩:=HZ.out.cells;have zf0:=HZ.out.free 0;have zf1:=HZ.out.free 1;have zf2:=HZ.out.free 2;have zf3:=HZ.out.free 3;have zf4:=HZ.out.free 4;have zf5:=HZ.out.free 5;have zf6:=HZ.out.free 6;have zf7:=HZ.out.free 7;have zf8:=HZ.out.free 8;have zf9:=HZ.out.free 9;have zf10:=HZ.out.free 10;have zf11:=HZ.out.free 11;have zf12:=HZ.out.free 12;have zf13:=HZ.out.free 13;simp only at a0 a1 a2 a3 a4 a5 a6 a7 a8 a9 a10 a11 a12 a13;go_wp2
  exact Za0 (rb:=w.heap.size+1) Tryz.results242 rfl (RecB.put HZ.out _ _ _ _ _ _ _ _ _ _ _ _ _ _) rfl ⟨⟨sch,nam,pw,hh,host,hp,port,true,opath,so,sn,sc,hq,q,hf,fr⟩,bs,rfl,by rw[HE.out];exact(HR.out.on HN.out).ks (Ks.then Ks.rfl (Zm HZ.out.ty (by decide) _ _ _ _ _ _ _ _ _ _ _ _ _ _)),hbs,(Zd HN.out (by omega) _ _ _ _ _ _ _ _ _ _ _ _ _ _)⟩
theorem ZkT(ru:Rc)(u:U)(bs:LA)(s:BA)(w:World)(h:RcIs w ru u bs)(hb:bs.length≤30001)(hs:s.size≤29000):Calls Tryz.prog 208 #[.agg #[.string ru.sch,.string ru.nam,.string ru.pw,.bool ru.hh,.string ru.host,.bool ru.hp,.int .i64 (ru.port:Int),.bool ru.op,.string ru.opath,.slice ru.so ru.sn ru.sc,.bool ru.hq,.string ru.q,.bool ru.hf,.string ru.fr],.int .i64 7,.string s] w fun e w'=>ZkS e w w' (ZbD u (tl s)):=by
 have HP:Hid (∀w',Nx w w'→Calls Tryz.prog 242 #[.agg #[.string ru.sch,.string ru.nam,.string ru.pw,.bool ru.hh,.string ru.host,.bool ru.hp,.int .i64 (ru.port:Int),.bool ru.op,.string ru.opath,.slice ru.so ru.sn ru.sc,.bool ru.hq,.string ru.q,.bool ru.hf,.string ru.fr],.string s] w' fun e w''=>ZkS e w' w'' (ZbD u (tl s))):=Za (fun w' hn=>(ZnR ru u bs s w' (h.on hn) hb hs).mono (by rintro e w2 ⟨r,ds,he,hr,hd,hn2⟩;exact⟨r,ds,he,hr,by omega,hn2⟩))
 clear h
 go_enter Tryz.func208,Tryz.ntmps208
 go_upto_region 1 with fail;obtain⟨g1,g2,g3⟩:=ZaA (w:=w) (ru:=ru) Nx.rfl;have HUB:=Za g1;have HZ:=Za g2;have HN:=Za g3;clear g1 g2 g3;generalize ((w.alloc (Obj.cells #[.string ru.sch,.string ru.nam,.string ru.pw,.bool ru.hh,.string ru.host,.bool ru.hp,.int .i64 (ru.port:Int),.bool ru.op,.string ru.opath,.slice ru.so ru.sn ru.sc,.bool ru.hq,.string ru.q,.bool ru.hf,.string ru.fr] 101)).alloc (Obj.cells #[.string ⟨#[]⟩,.string ⟨#[]⟩,.string ⟨#[]⟩,.bool false,.string ⟨#[]⟩,.bool false,.int .i64 0,.bool false,.string ⟨#[]⟩,.slice none 0 0,.bool false,.string ⟨#[]⟩,.bool false,.string ⟨#[]⟩] 101))=w1 at *;obtain⟨a0,a1,a2,a3,a4,a5,a6,a7,a8,a9,a10,a11,a12,a13⟩:=HUB.out.cells;go_wp2_with fail
 refine(HP.out _ HN.out).mono ?_
 rintro e w2 ⟨r,ds,rfl,hr,hdl,hn2⟩;have HR:=Za hr;have HZ2:=Za (HZ.out.on hn2);have HN2:=Za (HN.out.then hn2);clear hr hn2 HZ HN;clear a0 a1 a2 a3 a4 a5 a6 a7 a8 a9 a10 a11 a12 a13;obtain⟨z0,z1,z2,z3,z4,z5,z6,z7,z8,z9,z10,z11,z12,z13⟩:=HZ2.out.cells;have zf0:=HZ2.out.free 0;have zf1:=HZ2.out.free 1;have zf2:=HZ2.out.free 2;have zf3:=HZ2.out.free 3;have zf4:=HZ2.out.free 4;have zf5:=HZ2.out.free 5;have zf6:=HZ2.out.free 6;have zf7:=HZ2.out.free 7;have zf8:=HZ2.out.free 8;have zf9:=HZ2.out.free 9;have zf10:=HZ2.out.free 10;have zf11:=HZ2.out.free 11;have zf12:=HZ2.out.free 12;have zf13:=HZ2.out.free 13;go_wp2
 exact Za0 (rb:=w.heap.size+1) Tryz.results208 rfl (RecB.put HZ2.out _ _ _ _ _ _ _ _ _ _ _ _ _ _) rfl ⟨r,ds,rfl,HR.out.ks (Zm HZ2.out.ty (by decide) _ _ _ _ _ _ _ _ _ _ _ _ _ _),hdl,(Zd HN2.out (by omega) _ _ _ _ _ _ _ _ _ _ _ _ _ _)⟩
theorem Zvo(ru:Rc)(u:U)(bs:LA)(s:BA)(w:World)(h:RcIs w ru u bs)(_ht:Tb w)(hb:bs.length≤30001)(hs:s.size≤3000):Calls Tryz.prog 170 #[.agg #[.string ru.sch,.string ru.nam,.string ru.pw,.bool ru.hh,.string ru.host,.bool ru.hp,.int .i64 (ru.port:Int),.bool ru.op,.string ru.opath,.slice ru.so ru.sn ru.sc,.bool ru.hq,.string ru.q,.bool ru.hf,.string ru.fr],.int .i64 7,.string s] w fun e w'=>Zfy e w' ((ZbD u (clean (tl s)),0)) 30002∧Nx w w':=by
 go_enter Tryz.func170,Tryz.ntmps170
 go_upto_region 1 with fail;obtain⟨g1,g2,g3⟩:=ZaA (w:=w) (ru:=ru) Nx.rfl;have HUB:=Za g1;have HZ:=Za g2;have HN:=Za g3;clear g1 g2 g3;generalize ((w.alloc (Obj.cells #[.string ru.sch,.string ru.nam,.string ru.pw,.bool ru.hh,.string ru.host,.bool ru.hp,.int .i64 (ru.port:Int),.bool ru.op,.string ru.opath,.slice ru.so ru.sn ru.sc,.bool ru.hq,.string ru.q,.bool ru.hf,.string ru.fr] 101)).alloc (Obj.cells #[.string ⟨#[]⟩,.string ⟨#[]⟩,.string ⟨#[]⟩,.bool false,.string ⟨#[]⟩,.bool false,.int .i64 0,.bool false,.string ⟨#[]⟩,.slice none 0 0,.bool false,.string ⟨#[]⟩,.bool false,.string ⟨#[]⟩] 101))=w1 at *;go_wp2_with fail
 refine(ZeJ s _ (by omega)).mono ?_
 rintro e w2 ⟨x,rfl,hx,hn2⟩
 have hxl:x.size≤9000:=by have:=Zb4 (tl s);rw[←hx,tl_length,tl_length]at this;omega
 have HP:Hid (∀w',Nx w w'→Calls Tryz.prog 208 #[.agg #[.string ru.sch,.string ru.nam,.string ru.pw,.bool ru.hh,.string ru.host,.bool ru.hp,.int .i64 (ru.port:Int),.bool ru.op,.string ru.opath,.slice ru.so ru.sn ru.sc,.bool ru.hq,.string ru.q,.bool ru.hf,.string ru.fr],.int .i64 7,.string x] w' fun e w''=>ZkS e w' w'' (ZbD u (tl x))):=Za (fun w' hn=>ZkT ru u bs x w' (h.on hn) hb (by omega))
 rw[hx]at HP;have HUB2:=Za (HUB.out.on hn2);have HZ2:=Za (HZ.out.on hn2);have HN2:=Za (HN.out.then hn2);clear hx hn2 HUB HZ HN h _ht hb;obtain⟨a0,a1,a2,a3,a4,a5,a6,a7,a8,a9,a10,a11,a12,a13⟩:=HUB2.out.cells;go_wp2_with fail
 refine(HP.out _ HN2.out).mono ?_
 rintro e w3 ⟨r,ds,rfl,hr,hdl,hn3⟩;have HR:=Za hr;have HZ3:=Za (HZ2.out.on hn3);have HN3:=Za (HN2.out.then hn3);clear hr hn3 HZ2 HN2 HUB2;clear a0 a1 a2 a3 a4 a5 a6 a7 a8 a9 a10 a11 a12 a13;obtain⟨z0,z1,z2,z3,z4,z5,z6,z7,z8,z9,z10,z11,z12,z13⟩:=HZ3.out.cells;have zf0:=HZ3.out.free 0;have zf1:=HZ3.out.free 1;have zf2:=HZ3.out.free 2;have zf3:=HZ3.out.free 3;have zf4:=HZ3.out.free 4;have zf5:=HZ3.out.free 5;have zf6:=HZ3.out.free 6;have zf7:=HZ3.out.free 7;have zf8:=HZ3.out.free 8;have zf9:=HZ3.out.free 9;have zf10:=HZ3.out.free 10;have zf11:=HZ3.out.free 11;have zf12:=HZ3.out.free 12;have zf13:=HZ3.out.free 13;go_wp2
 exact Zac (rb:=w.heap.size+1) Tryz.results170 rfl rfl (RecB.put HZ3.out _ _ _ _ _ _ _ _ _ _ _ _ _ _) rfl ⟨⟨r,ds,rfl,HR.out.ks (Zm HZ3.out.ty (by decide) _ _ _ _ _ _ _ _ _ _ _ _ _ _),hdl⟩,(Zd HN3.out (by omega) _ _ _ _ _ _ _ _ _ _ _ _ _ _)⟩
theorem ZiM(pb:Nat)(r:Rc)(u:U)(bs:LA)(s:BA)(w:World)(hu:UrlB w pb r)(hr:RcIs w r u bs)(ht:Tb w)(hb:bs.length≤30001):Calls Tryz.prog 74 #[.pointer (some ⟨pb,0,none⟩),.string s] w fun e w'=>Ztt e w w' pb (decide (160<s.size)) (ZnS u 7 (tl s)):=by
 have HP:=Za (Zg1 7 pb r u bs s w hu hr (fun hs=>Zvo r u bs s w hr ht hb (by omega)))
 clear hu hr ht hb
 go_enter Tryz.func74,Tryz.ntmps74
 go_wp2_with fail
 refine HP.out.mono ?_
 intro e w1 h;rcases h with⟨h1,rfl,hn⟩|⟨h1,h2,rfl,hn⟩|⟨h1,h2,rfl,hx,hbu⟩
 ·have H1:=Za h1
  have HN:=Za hn;clear h1 hn;go_wp2;go_ret;exact Or.inl ⟨H1.out,rfl,HN.out⟩
 ·have H1:=Za h1
  have H2:=Za h2;have HN:=Za hn;clear h1 h2 hn;go_wp2;go_ret;exact Or.inr (Or.inl ⟨H1.out,H2.out,rfl,HN.out⟩)
 ·have H1:=Za h1
  have H2:=Za h2;have HX:=Za hx;have HB:=Za hbu;clear h1 h2 hx hbu;go_wp2;go_ret;exact Or.inr (Or.inr ⟨H1.out,H2.out,rfl,HX.out,HB.out⟩)
end Go.Proofs.YtchkhibgbnhjpabGreatDoor
