import Derived.Test.YtchkhibgbnhjpabGreatDoorT02
open Nat renaming le_refl→Xa
namespace Go.Proofs.YtchkhibgbnhjpabGreatDoor
open Go.RowKit
set_option maxHeartbeats 8000000
theorem ZvU(sp:Bool):Zu1 sp []=[]:=rfl
theorem ZxL(ru:Rc)(u:U)(bs:LA)(s:BA)(w:World)(h:RcIs w ru u bs)(hbs:bs.length≤30001)(hs:s.size≤29000):Calls Tryz.prog 242 #[.agg #[.string ru.sch,.string ru.nam,.string ru.pw,.bool ru.hh,.string ru.host,.bool ru.hp,.int .i64 (ru.port:Int),.bool ru.op,.string ru.opath,.slice ru.so ru.sn ru.sc,.bool ru.hq,.string ru.q,.bool ru.hf,.string ru.fr],.string s] w fun e w'=>∃(r:Rc) (ds:LA),e=.returned (.agg #[.string r.sch,.string r.nam,.string r.pw,.bool r.hh,.string r.host,.bool r.hp,.int .i64 (r.port:Int),.bool r.op,.string r.opath,.slice r.so r.sn r.sc,.bool r.hq,.string r.q,.bool r.hf,.string r.fr])∧RcIs w' r (ZuT u (tl s)) ds∧ds.length≤30001∧Nx w w':=by
 have HR:=Za h
 have HD:=Za (show ZuT u (tl s)=if ru.op=true then u else if noBreaks (tl s)=[]∧Zb (tl ru.sch)=false∧ru.hh=true then { u with segs:=[] }else { u with segs:=Zbg (Zu1 (Zb (tl ru.sch)) (noBreaks (tl s))) (tl ru.sch) }by rw[←h.eq];rfl)
 clear h;obtain⟨sch,nam,pw,hh,host,hp,port,op,opath,so,sn,sc,hq,q,hf,fr⟩:=ru;simp only at *
 cases op
 ·have HD2:=Za (HD.out.trans (if_neg (by decide)))
  clear HD;generalize hsp:Zb (tl sch)=sp at *;have HSP:=Za hsp;clear hsp
  go_enter Tryz.func242,Tryz.ntmps242
  go_upto_region 1 with fail;obtain⟨g1,g2,g3⟩:=Zcb (w:=w) (ru:=⟨sch,nam,pw,hh,host,hp,port,false,opath,so,sn,sc,hq,q,hf,fr⟩) Nx.rfl;have HUB:=Za g1;have HZ:=Za g2;have HN:=Za g3;clear g1 g2 g3;generalize ((w.alloc (Obj.cells #[.string sch,.string nam,.string pw,.bool hh,.string host,.bool hp,.int .i64 (port:Int),.bool false,.string opath,.slice so sn sc,.bool hq,.string q,.bool hf,.string fr] 101)).alloc (Obj.cells #[.string ⟨#[]⟩,.string ⟨#[]⟩,.string ⟨#[]⟩,.bool false,.string ⟨#[]⟩,.bool false,.int .i64 0,.bool false,.string ⟨#[]⟩,.slice none 0 0,.bool false,.string ⟨#[]⟩,.bool false,.string ⟨#[]⟩] 101))=w1 at *;obtain⟨a0,a1,a2,a3,a4,a5,a6,a7,a8,a9,a10,a11,a12,a13⟩:=HUB.out.cells;simp only at a0 a1 a2 a3 a4 a5 a6 a7 a8 a9 a10 a11 a12 a13
  go_wp2_with (first|(go_at_call 189;refine(Z6 _ _).mono ?_;rintro e w' ⟨rfl,rfl⟩;rw[HSP.out])|fail)
  refine(ZiC s _ (by omega)).mono ?_
  rintro e w2 ⟨x,rfl,hx,hn2⟩;rw[←hx]at HD2
  have hxl:x.size≤29000:=by have h1:=Zdh (tl s);rw[←hx,tl_length,tl_length]at h1;omega
  have HUB2:=Za (HUB.out.on hn2);have HZ2:=Za (HZ.out.on hn2);have HN2:=Za (HN.out.then hn2);clear hx hn2 HUB HZ HN;clear a0 a1 a2 a3 a4 a5 a6 a7 a8 a9 a10 a11 a12 a13;obtain⟨a0,a1,a2,a3,a4,a5,a6,a7,a8,a9,a10,a11,a12,a13⟩:=HUB2.out.cells;have af9:=HUB2.out.free 9;simp only at a0 a1 a2 a3 a4 a5 a6 a7 a8 a9 a10 a11 a12 a13
  by_cases h0:x.size=0
  ·have h0':=Zf h0
   have hxe:=Zz h0
   cases sp
   ·cases hh
    ·have HE:=Za (HD2.out.trans (if_neg (by rintro⟨-,-,h⟩;cases h)))
     clear HD2 h0;go_wp2_with fail
     refine(ZaF x sch _ (by omega)).mono ?_
     rintro e w3 ⟨v3,ds,rfl,ho,hds,hdl,hn3⟩;obtain⟨ao,n,cap,rfl⟩:=ZK ho;have HO:=Za (Za5 ho)
     have HDS:=Za (show ds.map tl=Zbg (Zu1 false (tl x)) (tl sch)by rw[hds];rw[hxe,ZvU])
     have HSH:=Za (ZaO hds (Zaq (by rw[tl_length];omega)))
     have hdl2:ds.length≤30001:=by omega
     have HUB3:=Za (HUB2.out.on hn3);have HZ3:=Za (HZ2.out.on hn3);have HN3:=Za (HN2.out.then hn3);clear ho hds hn3 hdl;clear a0 a1 a2 a3 a4 a5 a6 a7 a8 a9 a10 a11 a12 a13 af9;obtain⟨a0,a1,a2,a3,a4,a5,a6,a7,a8,a9,a10,a11,a12,a13⟩:=HUB3.out.cells;have af9:=HUB3.out.free 9;obtain⟨z0,z1,z2,z3,z4,z5,z6,z7,z8,z9,z10,z11,z12,z13⟩:=HZ3.out.cells;have zf0:=HZ3.out.free 0;have zf1:=HZ3.out.free 1;have zf2:=HZ3.out.free 2;have zf3:=HZ3.out.free 3;have zf4:=HZ3.out.free 4;have zf5:=HZ3.out.free 5;have zf6:=HZ3.out.free 6;have zf7:=HZ3.out.free 7;have zf8:=HZ3.out.free 8;have zf9:=HZ3.out.free 9;have zf10:=HZ3.out.free 10;have zf11:=HZ3.out.free 11;have zf12:=HZ3.out.free 12;have zf13:=HZ3.out.free 13;simp only at a0 a1 a2 a3 a4 a5 a6 a7 a8 a9 a10 a11 a12 a13;go_wp2
     refine Zc4 (rb:=w.heap.size+1) Tryz.results242 rfl (RecB.put (HZ3.out.far (by omega) 9 _) _ _ _ _ _ _ _ _ _ _ _ _ _ _) rfl ⟨⟨sch,nam,pw,false,host,hp,port,false,opath,ao,n,cap,hq,q,hf,fr⟩,ds,rfl,?_,hdl2,(Zd (Below.setCell HN3.out (Xa _) _) (by omega) _ _ _ _ _ _ _ _ _ _ _ _ _ _)⟩
     exact { HR.out with eq:=by rw[HE.out,←HDS.out,←HR.out.eq];rfl,seg:=HO.out.ks (Ks.then (Ks.then Ks.rfl (ZW HUB3.out.ty (by decide) 9 _)) (Zq (HZ3.out.ty.set w.heap.size 9 _) (by decide) _ _ _ _ _ _ _ _ _ _ _ _ _ _)),lsegs:=by omega,lseg:=HSH.out }
    ·have HE:=Za (HD2.out.trans (if_pos ⟨hxe,rfl,rfl⟩))
     clear HD2 h0 hxe;obtain⟨z0,z1,z2,z3,z4,z5,z6,z7,z8,z9,z10,z11,z12,z13⟩:=HZ2.out.cells;have zf0:=HZ2.out.free 0;have zf1:=HZ2.out.free 1;have zf2:=HZ2.out.free 2;have zf3:=HZ2.out.free 3;have zf4:=HZ2.out.free 4;have zf5:=HZ2.out.free 5;have zf6:=HZ2.out.free 6;have zf7:=HZ2.out.free 7;have zf8:=HZ2.out.free 8;have zf9:=HZ2.out.free 9;have zf10:=HZ2.out.free 10;have zf11:=HZ2.out.free 11;have zf12:=HZ2.out.free 12;have zf13:=HZ2.out.free 13;go_wp2
     refine Zc4 (rb:=w.heap.size+1) Tryz.results242 rfl (RecB.put (HZ2.out.far (by omega) 9 _) _ _ _ _ _ _ _ _ _ _ _ _ _ _) rfl ⟨⟨sch,nam,pw,true,host,hp,port,false,opath,none,0,0,hq,q,hf,fr⟩,[],rfl,?_,by simp,(Zd (Below.setCell HN2.out (Xa _) _) (by omega) _ _ _ _ _ _ _ _ _ _ _ _ _ _)⟩
     exact { HR.out with eq:=by rw[HE.out,←HR.out.eq];rfl,seg:=SlAt.nil _,lsegs:=by simp,lseg:=fun b hb=>(by cases hb) }
   ·have HE:=Za (HD2.out.trans (if_neg (by rintro⟨-,h,-⟩;cases h)))
    clear HD2 h0;go_wp2_with fail
    refine(ZaF x sch _ (by omega)).mono ?_
    rintro e w3 ⟨v3,ds,rfl,ho,hds,hdl,hn3⟩;obtain⟨ao,n,cap,rfl⟩:=ZK ho;have HO:=Za (Za5 ho)
    have HDS:=Za (show ds.map tl=Zbg (Zu1 true (tl x)) (tl sch)by rw[hds];rw[hxe,ZvU])
    have HSH:=Za (ZaO hds (Zaq (by rw[tl_length];omega)))
    have hdl2:ds.length≤30001:=by omega
    have HUB3:=Za (HUB2.out.on hn3);have HZ3:=Za (HZ2.out.on hn3);have HN3:=Za (HN2.out.then hn3);clear ho hds hn3 hdl;clear a0 a1 a2 a3 a4 a5 a6 a7 a8 a9 a10 a11 a12 a13 af9;obtain⟨a0,a1,a2,a3,a4,a5,a6,a7,a8,a9,a10,a11,a12,a13⟩:=HUB3.out.cells;have af9:=HUB3.out.free 9;obtain⟨z0,z1,z2,z3,z4,z5,z6,z7,z8,z9,z10,z11,z12,z13⟩:=HZ3.out.cells;have zf0:=HZ3.out.free 0;have zf1:=HZ3.out.free 1;have zf2:=HZ3.out.free 2;have zf3:=HZ3.out.free 3;have zf4:=HZ3.out.free 4;have zf5:=HZ3.out.free 5;have zf6:=HZ3.out.free 6;have zf7:=HZ3.out.free 7;have zf8:=HZ3.out.free 8;have zf9:=HZ3.out.free 9;have zf10:=HZ3.out.free 10;have zf11:=HZ3.out.free 11;have zf12:=HZ3.out.free 12;have zf13:=HZ3.out.free 13;simp only at a0 a1 a2 a3 a4 a5 a6 a7 a8 a9 a10 a11 a12 a13;go_wp2
    refine Zc4 (rb:=w.heap.size+1) Tryz.results242 rfl (RecB.put (HZ3.out.far (by omega) 9 _) _ _ _ _ _ _ _ _ _ _ _ _ _ _) rfl ⟨⟨sch,nam,pw,hh,host,hp,port,false,opath,ao,n,cap,hq,q,hf,fr⟩,ds,rfl,?_,hdl2,(Zd (Below.setCell HN3.out (Xa _) _) (by omega) _ _ _ _ _ _ _ _ _ _ _ _ _ _)⟩
    exact { HR.out with eq:=by rw[HE.out,←HDS.out,←HR.out.eq];rfl,seg:=HO.out.ks (Ks.then (Ks.then Ks.rfl (ZW HUB3.out.ty (by decide) 9 _)) (Zq (HZ3.out.ty.set w.heap.size 9 _) (by decide) _ _ _ _ _ _ _ _ _ _ _ _ _ _)),lsegs:=by omega,lseg:=HSH.out }
  ·have h0':=Ze h0
   have hpos:0<x.size:=by omega
   have HE:=Za (HD2.out.trans (if_neg (fun h=>ZcC h0 h.1)))
   have HCO:Hid (tl x=x[0]::(tl x).drop 1):=Za (by have:=ZU x 0 hpos;rw[List.drop_zero]at this;exact this)
   clear HD2 h0
   cases hsl:Zc1 sp (x[0].toNat:Int)
   ·have HSO:=Za (show Zu1 sp (tl x)=tl x by rw[HCO.out];show(if slB sp x[0]=true then _ else _)=_;rw[if_neg (by unfold slB;rw[hsl];decide)])
    have HSL:=Za hsl;clear hsl
    go_wp2_with (first|(go_at_call 257;refine(Zfy _ _ _).mono ?_;rintro e w' ⟨rfl,rfl⟩;rw[HSL.out])|fail)
    refine(ZaF x sch _ (by omega)).mono ?_
    rintro e w3 ⟨v3,ds,rfl,ho,hds,hdl,hn3⟩;obtain⟨ao,n,cap,rfl⟩:=ZK ho;have HO:=Za (Za5 ho)
    have HDS:=Za (show ds.map tl=Zbg (Zu1 sp (tl x)) (tl sch)by rw[hds];rw[HSO.out])
    have HSH:=Za (ZaO hds (Zaq (by rw[tl_length];omega)))
    have hdl2:ds.length≤30001:=by omega
    have HUB3:=Za (HUB2.out.on hn3);have HZ3:=Za (HZ2.out.on hn3);have HN3:=Za (HN2.out.then hn3);clear ho hds hn3 hdl;clear a0 a1 a2 a3 a4 a5 a6 a7 a8 a9 a10 a11 a12 a13 af9;obtain⟨a0,a1,a2,a3,a4,a5,a6,a7,a8,a9,a10,a11,a12,a13⟩:=HUB3.out.cells;have af9:=HUB3.out.free 9;obtain⟨z0,z1,z2,z3,z4,z5,z6,z7,z8,z9,z10,z11,z12,z13⟩:=HZ3.out.cells;have zf0:=HZ3.out.free 0;have zf1:=HZ3.out.free 1;have zf2:=HZ3.out.free 2;have zf3:=HZ3.out.free 3;have zf4:=HZ3.out.free 4;have zf5:=HZ3.out.free 5;have zf6:=HZ3.out.free 6;have zf7:=HZ3.out.free 7;have zf8:=HZ3.out.free 8;have zf9:=HZ3.out.free 9;have zf10:=HZ3.out.free 10;have zf11:=HZ3.out.free 11;have zf12:=HZ3.out.free 12;have zf13:=HZ3.out.free 13;simp only at a0 a1 a2 a3 a4 a5 a6 a7 a8 a9 a10 a11 a12 a13;go_wp2
    refine Zc4 (rb:=w.heap.size+1) Tryz.results242 rfl (RecB.put (HZ3.out.far (by omega) 9 _) _ _ _ _ _ _ _ _ _ _ _ _ _ _) rfl ⟨⟨sch,nam,pw,hh,host,hp,port,false,opath,ao,n,cap,hq,q,hf,fr⟩,ds,rfl,?_,hdl2,(Zd (Below.setCell HN3.out (Xa _) _) (by omega) _ _ _ _ _ _ _ _ _ _ _ _ _ _)⟩
    exact { HR.out with eq:=by rw[HE.out,←HDS.out,←HR.out.eq];rfl,seg:=HO.out.ks (Ks.then (Ks.then Ks.rfl (ZW HUB3.out.ty (by decide) 9 _)) (Zq (HZ3.out.ty.set w.heap.size 9 _) (by decide) _ _ _ _ _ _ _ _ _ _ _ _ _ _)),lsegs:=by omega,lseg:=HSH.out }
   ·have HSO:=Za (show Zu1 sp (tl x)=tl (x.extract 1 x.size)by
     rw[ZaE];have e:=HCO.out;generalize (tl x).drop 1=m at *;rw[e]
     show(if slB sp x[0]=true then m else _)=m
     rw[if_pos (by unfold slB;exact hsl)])
    have HSL:=Za hsl;clear hsl
    go_wp2_with (first|(go_at_call 257;refine(Zfy _ _ _).mono ?_;rintro e w' ⟨rfl,rfl⟩;rw[HSL.out])|fail)
    refine(ZaF (x.extract 1 x.size) sch _ (by first|(rw[Zac];omega)|(rw[Zac]at hdl;omega))).mono ?_
    rintro e w3 ⟨v3,ds,rfl,ho,hds,hdl,hn3⟩;obtain⟨ao,n,cap,rfl⟩:=ZK ho;have HO:=Za (Za5 ho)
    have HDS:=Za (show ds.map tl=Zbg (Zu1 sp (tl x)) (tl sch)by rw[hds];rw[HSO.out])
    have HSH:=Za (ZaO hds (Zaq (by rw[tl_length];first|(rw[Zac];omega)|(rw[Zac]at hdl;omega))))
    have hdl2:ds.length≤30001:=by first|(rw[Zac];omega)|(rw[Zac]at hdl;omega)
    have HUB3:=Za (HUB2.out.on hn3);have HZ3:=Za (HZ2.out.on hn3);have HN3:=Za (HN2.out.then hn3);clear ho hds hn3 hdl;clear a0 a1 a2 a3 a4 a5 a6 a7 a8 a9 a10 a11 a12 a13 af9;obtain⟨a0,a1,a2,a3,a4,a5,a6,a7,a8,a9,a10,a11,a12,a13⟩:=HUB3.out.cells;have af9:=HUB3.out.free 9;obtain⟨z0,z1,z2,z3,z4,z5,z6,z7,z8,z9,z10,z11,z12,z13⟩:=HZ3.out.cells;have zf0:=HZ3.out.free 0;have zf1:=HZ3.out.free 1;have zf2:=HZ3.out.free 2;have zf3:=HZ3.out.free 3;have zf4:=HZ3.out.free 4;have zf5:=HZ3.out.free 5;have zf6:=HZ3.out.free 6;have zf7:=HZ3.out.free 7;have zf8:=HZ3.out.free 8;have zf9:=HZ3.out.free 9;have zf10:=HZ3.out.free 10;have zf11:=HZ3.out.free 11;have zf12:=HZ3.out.free 12;have zf13:=HZ3.out.free 13;simp only at a0 a1 a2 a3 a4 a5 a6 a7 a8 a9 a10 a11 a12 a13;go_wp2
    refine Zc4 (rb:=w.heap.size+1) Tryz.results242 rfl (RecB.put (HZ3.out.far (by omega) 9 _) _ _ _ _ _ _ _ _ _ _ _ _ _ _) rfl ⟨⟨sch,nam,pw,hh,host,hp,port,false,opath,ao,n,cap,hq,q,hf,fr⟩,ds,rfl,?_,hdl2,(Zd (Below.setCell HN3.out (Xa _) _) (by omega) _ _ _ _ _ _ _ _ _ _ _ _ _ _)⟩
    exact { HR.out with eq:=by rw[HE.out,←HDS.out,←HR.out.eq];rfl,seg:=HO.out.ks (Ks.then (Ks.then Ks.rfl (ZW HUB3.out.ty (by decide) 9 _)) (Zq (HZ3.out.ty.set w.heap.size 9 _) (by decide) _ _ _ _ _ _ _ _ _ _ _ _ _ _)),lsegs:=by omega,lseg:=HSH.out }
 ·have HE:=Za (HD.out.trans (if_pos rfl))
  clear HD
  go_enter Tryz.func242,Tryz.ntmps242
  go_upto_region 1 with fail;obtain⟨g1,g2,g3⟩:=Zcb (w:=w) (ru:=⟨sch,nam,pw,hh,host,hp,port,true,opath,so,sn,sc,hq,q,hf,fr⟩) Nx.rfl;have HUB:=Za g1;have HZ:=Za g2;have HN:=Za g3;clear g1 g2 g3;generalize ((w.alloc (Obj.cells #[.string sch,.string nam,.string pw,.bool hh,.string host,.bool hp,.int .i64 (port:Int),.bool true,.string opath,.slice so sn sc,.bool hq,.string q,.bool hf,.string fr] 101)).alloc (Obj.cells #[.string ⟨#[]⟩,.string ⟨#[]⟩,.string ⟨#[]⟩,.bool false,.string ⟨#[]⟩,.bool false,.int .i64 0,.bool false,.string ⟨#[]⟩,.slice none 0 0,.bool false,.string ⟨#[]⟩,.bool false,.string ⟨#[]⟩] 101))=w1 at *;obtain⟨a0,a1,a2,a3,a4,a5,a6,a7,a8,a9,a10,a11,a12,a13⟩:=HUB.out.cells;obtain⟨z0,z1,z2,z3,z4,z5,z6,z7,z8,z9,z10,z11,z12,z13⟩:=HZ.out.cells;have zf0:=HZ.out.free 0;have zf1:=HZ.out.free 1;have zf2:=HZ.out.free 2;have zf3:=HZ.out.free 3;have zf4:=HZ.out.free 4;have zf5:=HZ.out.free 5;have zf6:=HZ.out.free 6;have zf7:=HZ.out.free 7;have zf8:=HZ.out.free 8;have zf9:=HZ.out.free 9;have zf10:=HZ.out.free 10;have zf11:=HZ.out.free 11;have zf12:=HZ.out.free 12;have zf13:=HZ.out.free 13;simp only at a0 a1 a2 a3 a4 a5 a6 a7 a8 a9 a10 a11 a12 a13;go_wp2
  exact Zc4 (rb:=w.heap.size+1) Tryz.results242 rfl (RecB.put HZ.out _ _ _ _ _ _ _ _ _ _ _ _ _ _) rfl ⟨⟨sch,nam,pw,hh,host,hp,port,true,opath,so,sn,sc,hq,q,hf,fr⟩,bs,rfl,by rw[HE.out];exact(HR.out.on HN.out).ks (Ks.then Ks.rfl (Zq HZ.out.ty (by decide) _ _ _ _ _ _ _ _ _ _ _ _ _ _)),hbs,(Zd HN.out (by omega) _ _ _ _ _ _ _ _ _ _ _ _ _ _)⟩
def ZuI(u:U)(s:List UInt8):Bool:=(Zb u.sch==Zb s) && !(s==Zw&&(ZuY u||u.hp))&&(u.sch != Zw || !u.host.isEmpty)
theorem ZvB(ru:Rc)(bs:LA)(s:BA)(w:World):Calls Tryz.prog 280 #[.agg #[.string ru.sch,.string ru.nam,.string ru.pw,.bool ru.hh,.string ru.host,.bool ru.hp,.int .i64 (ru.port:Int),.bool ru.op,.string ru.opath,.slice ru.so ru.sn ru.sc,.bool ru.hq,.string ru.q,.bool ru.hf,.string ru.fr],.string s] w fun e w'=>e=.returned (.bool (ZuI (ru.u bs) (tl s)))∧Nx w w':=by
 have HU:=Za (fun w'=>Zv9 ru bs w')
 have HD0:=Za (show ZuI (ru.u bs) (tl s)=((Zb (tl ru.sch)==Zb (tl s)) && !(tl s==Zw&&(ZuY (ru.u bs)||ru.hp))&&(tl ru.sch != Zw || !(tl ru.host).isEmpty))from rfl);obtain⟨sch,nam,pw,hh,host,hp,port,op,opath,so,sn,sc,hq,q,hf,fr⟩:=ru;simp only at *;generalize hs1:Zb (tl sch)=s1 at *;generalize hs2:Zb (tl s)=s2 at *;have HS1:=Za hs1;have HS2:=Za hs2;clear hs1 hs2
 by_cases hfs:tl s=Zw
 ·have e2:s2=true:=by rw[←HS2.out,hfs];exact file_special
  subst e2;have hs1':=eqB hfs;unfold Zw at hs1'
  cases s1
  ·have HE:=Za (show ZuI (Rc.u ⟨sch,nam,pw,hh,host,hp,port,op,opath,so,sn,sc,hq,q,hf,fr⟩ bs) (tl s)=false by rw[HD0.out];rfl)
   clear HD0 hfs
   go_enter Tryz.func280,Tryz.ntmps280
   go_upto_region 1 with fail;have HUB:=Za (ZaS w ⟨sch,nam,pw,hh,host,hp,port,op,opath,so,sn,sc,hq,q,hf,fr⟩);have HN:=Za (show Nx w (w.alloc (Obj.cells #[.string sch,.string nam,.string pw,.bool hh,.string host,.bool hp,.int .i64 (port:Int),.bool op,.string opath,.slice so sn sc,.bool hq,.string q,.bool hf,.string fr] 101))from Nx.rfl.alloc _);generalize (w.alloc (Obj.cells #[.string sch,.string nam,.string pw,.bool hh,.string host,.bool hp,.int .i64 (port:Int),.bool op,.string opath,.slice so sn sc,.bool hq,.string q,.bool hf,.string fr] 101))=w1 at *;obtain⟨a0,a1,a2,a3,a4,a5,a6,a7,a8,a9,a10,a11,a12,a13⟩:=HUB.out.cells;simp only at a0 a1 a2 a3 a4 a5 a6 a7 a8 a9 a10 a11 a12 a13
   go_wp2_with (go_at_call 189;refine(Z6 _ _).mono ?_;rintro e w' ⟨rfl,rfl⟩;first|rw[HS1.out]|rw[HS2.out])
   go_ret;exact⟨Zi HE.out.symm,HN.out⟩
  ·generalize hub:ZuY (Rc.u ⟨sch,nam,pw,hh,host,hp,port,op,opath,so,sn,sc,hq,q,hf,fr⟩ bs)=ub at *
   cases ub
   ·cases hp
    ·have HD:=Za (HD0.out.trans (by rw[hfs];rfl:_=(tl sch != Zw || !(tl host).isEmpty)))
     clear HD0 hfs hub
     by_cases hfq:tl sch=Zw
     ·have hf1:=eqB hfq
      unfold Zw at hf1
      have hf2:(sch.toList != [102,105,108,101])=false:=by simp only[bne,hf1];rfl
      by_cases h0:host.size=0
      ·have h0':=Zf h0
       have HE:=Za (show ZuI (Rc.u ⟨sch,nam,pw,hh,host,false,port,op,opath,so,sn,sc,hq,q,hf,fr⟩ bs) (tl s)=false by rw[HD.out];simp[hfq,tl_isEmpty,h0])
       clear hfq h0 HD
       go_enter Tryz.func280,Tryz.ntmps280
       go_upto_region 1 with fail;have HUB:=Za (ZaS w ⟨sch,nam,pw,hh,host,false,port,op,opath,so,sn,sc,hq,q,hf,fr⟩);have HN:=Za (show Nx w (w.alloc (Obj.cells #[.string sch,.string nam,.string pw,.bool hh,.string host,.bool false,.int .i64 (port:Int),.bool op,.string opath,.slice so sn sc,.bool hq,.string q,.bool hf,.string fr] 101))from Nx.rfl.alloc _);generalize (w.alloc (Obj.cells #[.string sch,.string nam,.string pw,.bool hh,.string host,.bool false,.int .i64 (port:Int),.bool op,.string opath,.slice so sn sc,.bool hq,.string q,.bool hf,.string fr] 101))=w1 at *;obtain⟨a0,a1,a2,a3,a4,a5,a6,a7,a8,a9,a10,a11,a12,a13⟩:=HUB.out.cells;simp only at a0 a1 a2 a3 a4 a5 a6 a7 a8 a9 a10 a11 a12 a13
       go_wp2_with (first|(go_at_call 189;refine(Z6 _ _).mono ?_;rintro e w' ⟨rfl,rfl⟩;first|rw[HS1.out]|rw[HS2.out])|fail)
       refine(HU.out _).mono ?_
       rintro e w2 ⟨rfl,hn2⟩;have HUB2:=Za (HUB.out.on hn2);have HN2:=Za (HN.out.then hn2);clear hn2;clear a0 a1 a2 a3 a4 a5 a6 a7 a8 a9 a10 a11 a12 a13;obtain⟨a0,a1,a2,a3,a4,a5,a6,a7,a8,a9,a10,a11,a12,a13⟩:=HUB2.out.cells;simp only at a0 a1 a2 a3 a4 a5 a6 a7 a8 a9 a10 a11 a12 a13;go_wp2;go_ret;exact⟨Zi HE.out.symm,HN2.out⟩
      ·have h0':=Ze h0
       have HE:=Za (show ZuI (Rc.u ⟨sch,nam,pw,hh,host,false,port,op,opath,so,sn,sc,hq,q,hf,fr⟩ bs) (tl s)=true by rw[HD.out];simp[hfq,tl_isEmpty,h0])
       clear hfq h0 HD
       go_enter Tryz.func280,Tryz.ntmps280
       go_upto_region 1 with fail;have HUB:=Za (ZaS w ⟨sch,nam,pw,hh,host,false,port,op,opath,so,sn,sc,hq,q,hf,fr⟩);have HN:=Za (show Nx w (w.alloc (Obj.cells #[.string sch,.string nam,.string pw,.bool hh,.string host,.bool false,.int .i64 (port:Int),.bool op,.string opath,.slice so sn sc,.bool hq,.string q,.bool hf,.string fr] 101))from Nx.rfl.alloc _);generalize (w.alloc (Obj.cells #[.string sch,.string nam,.string pw,.bool hh,.string host,.bool false,.int .i64 (port:Int),.bool op,.string opath,.slice so sn sc,.bool hq,.string q,.bool hf,.string fr] 101))=w1 at *;obtain⟨a0,a1,a2,a3,a4,a5,a6,a7,a8,a9,a10,a11,a12,a13⟩:=HUB.out.cells;simp only at a0 a1 a2 a3 a4 a5 a6 a7 a8 a9 a10 a11 a12 a13
       go_wp2_with (first|(go_at_call 189;refine(Z6 _ _).mono ?_;rintro e w' ⟨rfl,rfl⟩;first|rw[HS1.out]|rw[HS2.out])|fail)
       refine(HU.out _).mono ?_
       rintro e w2 ⟨rfl,hn2⟩;have HUB2:=Za (HUB.out.on hn2);have HN2:=Za (HN.out.then hn2);clear hn2;clear a0 a1 a2 a3 a4 a5 a6 a7 a8 a9 a10 a11 a12 a13;obtain⟨a0,a1,a2,a3,a4,a5,a6,a7,a8,a9,a10,a11,a12,a13⟩:=HUB2.out.cells;simp only at a0 a1 a2 a3 a4 a5 a6 a7 a8 a9 a10 a11 a12 a13;go_wp2;go_ret;exact⟨Zi HE.out.symm,HN2.out⟩
     ·have hf1:=neB hfq
      unfold Zw at hf1
      have hf2:(sch.toList != [102,105,108,101])=true:=by simp only[bne,hf1];rfl
      have HE:=Za (show ZuI (Rc.u ⟨sch,nam,pw,hh,host,false,port,op,opath,so,sn,sc,hq,q,hf,fr⟩ bs) (tl s)=true by rw[HD.out];simp[hfq,tl_isEmpty])
      clear hfq HD
      go_enter Tryz.func280,Tryz.ntmps280
      go_upto_region 1 with fail;have HUB:=Za (ZaS w ⟨sch,nam,pw,hh,host,false,port,op,opath,so,sn,sc,hq,q,hf,fr⟩);have HN:=Za (show Nx w (w.alloc (Obj.cells #[.string sch,.string nam,.string pw,.bool hh,.string host,.bool false,.int .i64 (port:Int),.bool op,.string opath,.slice so sn sc,.bool hq,.string q,.bool hf,.string fr] 101))from Nx.rfl.alloc _);generalize (w.alloc (Obj.cells #[.string sch,.string nam,.string pw,.bool hh,.string host,.bool false,.int .i64 (port:Int),.bool op,.string opath,.slice so sn sc,.bool hq,.string q,.bool hf,.string fr] 101))=w1 at *;obtain⟨a0,a1,a2,a3,a4,a5,a6,a7,a8,a9,a10,a11,a12,a13⟩:=HUB.out.cells;simp only at a0 a1 a2 a3 a4 a5 a6 a7 a8 a9 a10 a11 a12 a13
      go_wp2_with (first|(go_at_call 189;refine(Z6 _ _).mono ?_;rintro e w' ⟨rfl,rfl⟩;first|rw[HS1.out]|rw[HS2.out])|fail)
      refine(HU.out _).mono ?_
      rintro e w2 ⟨rfl,hn2⟩;have HUB2:=Za (HUB.out.on hn2);have HN2:=Za (HN.out.then hn2);clear hn2;clear a0 a1 a2 a3 a4 a5 a6 a7 a8 a9 a10 a11 a12 a13;obtain⟨a0,a1,a2,a3,a4,a5,a6,a7,a8,a9,a10,a11,a12,a13⟩:=HUB2.out.cells;simp only at a0 a1 a2 a3 a4 a5 a6 a7 a8 a9 a10 a11 a12 a13;go_wp2;go_ret;exact⟨Zi HE.out.symm,HN2.out⟩
    ·have HE:=Za (show ZuI (Rc.u ⟨sch,nam,pw,hh,host,true,port,op,opath,so,sn,sc,hq,q,hf,fr⟩ bs) (tl s)=false by rw[HD0.out,hfs];rfl)
     clear HD0 hfs hub
     go_enter Tryz.func280,Tryz.ntmps280
     go_upto_region 1 with fail;have HUB:=Za (ZaS w ⟨sch,nam,pw,hh,host,true,port,op,opath,so,sn,sc,hq,q,hf,fr⟩);have HN:=Za (show Nx w (w.alloc (Obj.cells #[.string sch,.string nam,.string pw,.bool hh,.string host,.bool true,.int .i64 (port:Int),.bool op,.string opath,.slice so sn sc,.bool hq,.string q,.bool hf,.string fr] 101))from Nx.rfl.alloc _);generalize (w.alloc (Obj.cells #[.string sch,.string nam,.string pw,.bool hh,.string host,.bool true,.int .i64 (port:Int),.bool op,.string opath,.slice so sn sc,.bool hq,.string q,.bool hf,.string fr] 101))=w1 at *;obtain⟨a0,a1,a2,a3,a4,a5,a6,a7,a8,a9,a10,a11,a12,a13⟩:=HUB.out.cells;simp only at a0 a1 a2 a3 a4 a5 a6 a7 a8 a9 a10 a11 a12 a13
     go_wp2_with (first|(go_at_call 189;refine(Z6 _ _).mono ?_;rintro e w' ⟨rfl,rfl⟩;first|rw[HS1.out]|rw[HS2.out])|fail)
     refine(HU.out _).mono ?_
     rintro e w2 ⟨rfl,hn2⟩;have HUB2:=Za (HUB.out.on hn2);have HN2:=Za (HN.out.then hn2);clear hn2;clear a0 a1 a2 a3 a4 a5 a6 a7 a8 a9 a10 a11 a12 a13;obtain⟨a0,a1,a2,a3,a4,a5,a6,a7,a8,a9,a10,a11,a12,a13⟩:=HUB2.out.cells;simp only at a0 a1 a2 a3 a4 a5 a6 a7 a8 a9 a10 a11 a12 a13;go_wp2;go_ret;exact⟨Zi HE.out.symm,HN2.out⟩
   ·have HE:=Za (show ZuI (Rc.u ⟨sch,nam,pw,hh,host,hp,port,op,opath,so,sn,sc,hq,q,hf,fr⟩ bs) (tl s)=false by rw[HD0.out,hfs];rfl)
    clear HD0 hfs hub
    go_enter Tryz.func280,Tryz.ntmps280
    go_upto_region 1 with fail;have HUB:=Za (ZaS w ⟨sch,nam,pw,hh,host,hp,port,op,opath,so,sn,sc,hq,q,hf,fr⟩);have HN:=Za (show Nx w (w.alloc (Obj.cells #[.string sch,.string nam,.string pw,.bool hh,.string host,.bool hp,.int .i64 (port:Int),.bool op,.string opath,.slice so sn sc,.bool hq,.string q,.bool hf,.string fr] 101))from Nx.rfl.alloc _);generalize (w.alloc (Obj.cells #[.string sch,.string nam,.string pw,.bool hh,.string host,.bool hp,.int .i64 (port:Int),.bool op,.string opath,.slice so sn sc,.bool hq,.string q,.bool hf,.string fr] 101))=w1 at *;obtain⟨a0,a1,a2,a3,a4,a5,a6,a7,a8,a9,a10,a11,a12,a13⟩:=HUB.out.cells;simp only at a0 a1 a2 a3 a4 a5 a6 a7 a8 a9 a10 a11 a12 a13
    go_wp2_with (first|(go_at_call 189;refine(Z6 _ _).mono ?_;rintro e w' ⟨rfl,rfl⟩;first|rw[HS1.out]|rw[HS2.out])|fail)
    refine(HU.out _).mono ?_
    rintro e w2 ⟨rfl,hn2⟩;have HUB2:=Za (HUB.out.on hn2);have HN2:=Za (HN.out.then hn2);clear hn2;clear a0 a1 a2 a3 a4 a5 a6 a7 a8 a9 a10 a11 a12 a13;obtain⟨a0,a1,a2,a3,a4,a5,a6,a7,a8,a9,a10,a11,a12,a13⟩:=HUB2.out.cells;simp only at a0 a1 a2 a3 a4 a5 a6 a7 a8 a9 a10 a11 a12 a13;go_wp2;go_ret;exact⟨Zi HE.out.symm,HN2.out⟩
 ·have hs1':=neB hfs
  unfold Zw at hs1';have HNF:=Za (show(tl s==Zw)=false from beq_eq_false_iff_ne.2 hfs);clear hfs
  cases s1
  ·cases s2
   ·have HD:=Za (HD0.out.trans (by rw[HNF.out];rfl:_=(tl sch != Zw || !(tl host).isEmpty)))
    clear HD0
    by_cases hfq:tl sch=Zw
    ·have hf1:=eqB hfq
     unfold Zw at hf1
     have hf2:(sch.toList != [102,105,108,101])=false:=by simp only[bne,hf1];rfl
     by_cases h0:host.size=0
     ·have h0':=Zf h0
      have HE:=Za (show ZuI (Rc.u ⟨sch,nam,pw,hh,host,hp,port,op,opath,so,sn,sc,hq,q,hf,fr⟩ bs) (tl s)=false by rw[HD.out];simp[hfq,tl_isEmpty,h0])
      clear hfq h0 HD
      go_enter Tryz.func280,Tryz.ntmps280
      go_upto_region 1 with fail;have HUB:=Za (ZaS w ⟨sch,nam,pw,hh,host,hp,port,op,opath,so,sn,sc,hq,q,hf,fr⟩);have HN:=Za (show Nx w (w.alloc (Obj.cells #[.string sch,.string nam,.string pw,.bool hh,.string host,.bool hp,.int .i64 (port:Int),.bool op,.string opath,.slice so sn sc,.bool hq,.string q,.bool hf,.string fr] 101))from Nx.rfl.alloc _);generalize (w.alloc (Obj.cells #[.string sch,.string nam,.string pw,.bool hh,.string host,.bool hp,.int .i64 (port:Int),.bool op,.string opath,.slice so sn sc,.bool hq,.string q,.bool hf,.string fr] 101))=w1 at *;obtain⟨a0,a1,a2,a3,a4,a5,a6,a7,a8,a9,a10,a11,a12,a13⟩:=HUB.out.cells;simp only at a0 a1 a2 a3 a4 a5 a6 a7 a8 a9 a10 a11 a12 a13
      go_wp2_with (go_at_call 189;refine(Z6 _ _).mono ?_;rintro e w' ⟨rfl,rfl⟩;first|rw[HS1.out]|rw[HS2.out])
      go_ret;exact⟨Zi HE.out.symm,HN.out⟩
     ·have h0':=Ze h0
      have HE:=Za (show ZuI (Rc.u ⟨sch,nam,pw,hh,host,hp,port,op,opath,so,sn,sc,hq,q,hf,fr⟩ bs) (tl s)=true by rw[HD.out];simp[hfq,tl_isEmpty,h0])
      clear hfq h0 HD
      go_enter Tryz.func280,Tryz.ntmps280
      go_upto_region 1 with fail;have HUB:=Za (ZaS w ⟨sch,nam,pw,hh,host,hp,port,op,opath,so,sn,sc,hq,q,hf,fr⟩);have HN:=Za (show Nx w (w.alloc (Obj.cells #[.string sch,.string nam,.string pw,.bool hh,.string host,.bool hp,.int .i64 (port:Int),.bool op,.string opath,.slice so sn sc,.bool hq,.string q,.bool hf,.string fr] 101))from Nx.rfl.alloc _);generalize (w.alloc (Obj.cells #[.string sch,.string nam,.string pw,.bool hh,.string host,.bool hp,.int .i64 (port:Int),.bool op,.string opath,.slice so sn sc,.bool hq,.string q,.bool hf,.string fr] 101))=w1 at *;obtain⟨a0,a1,a2,a3,a4,a5,a6,a7,a8,a9,a10,a11,a12,a13⟩:=HUB.out.cells;simp only at a0 a1 a2 a3 a4 a5 a6 a7 a8 a9 a10 a11 a12 a13
      go_wp2_with (go_at_call 189;refine(Z6 _ _).mono ?_;rintro e w' ⟨rfl,rfl⟩;first|rw[HS1.out]|rw[HS2.out])
      go_ret;exact⟨Zi HE.out.symm,HN.out⟩
    ·have hf1:=neB hfq
     unfold Zw at hf1
     have hf2:(sch.toList != [102,105,108,101])=true:=by simp only[bne,hf1];rfl
     have HE:=Za (show ZuI (Rc.u ⟨sch,nam,pw,hh,host,hp,port,op,opath,so,sn,sc,hq,q,hf,fr⟩ bs) (tl s)=true by rw[HD.out];simp[hfq,tl_isEmpty])
     clear hfq HD
     go_enter Tryz.func280,Tryz.ntmps280
     go_upto_region 1 with fail;have HUB:=Za (ZaS w ⟨sch,nam,pw,hh,host,hp,port,op,opath,so,sn,sc,hq,q,hf,fr⟩);have HN:=Za (show Nx w (w.alloc (Obj.cells #[.string sch,.string nam,.string pw,.bool hh,.string host,.bool hp,.int .i64 (port:Int),.bool op,.string opath,.slice so sn sc,.bool hq,.string q,.bool hf,.string fr] 101))from Nx.rfl.alloc _);generalize (w.alloc (Obj.cells #[.string sch,.string nam,.string pw,.bool hh,.string host,.bool hp,.int .i64 (port:Int),.bool op,.string opath,.slice so sn sc,.bool hq,.string q,.bool hf,.string fr] 101))=w1 at *;obtain⟨a0,a1,a2,a3,a4,a5,a6,a7,a8,a9,a10,a11,a12,a13⟩:=HUB.out.cells;simp only at a0 a1 a2 a3 a4 a5 a6 a7 a8 a9 a10 a11 a12 a13
     go_wp2_with (go_at_call 189;refine(Z6 _ _).mono ?_;rintro e w' ⟨rfl,rfl⟩;first|rw[HS1.out]|rw[HS2.out])
     go_ret;exact⟨Zi HE.out.symm,HN.out⟩
   ·have HE:=Za (show ZuI (Rc.u ⟨sch,nam,pw,hh,host,hp,port,op,opath,so,sn,sc,hq,q,hf,fr⟩ bs) (tl s)=false by rw[HD0.out];rfl)
    clear HD0
    go_enter Tryz.func280,Tryz.ntmps280
    go_upto_region 1 with fail;have HUB:=Za (ZaS w ⟨sch,nam,pw,hh,host,hp,port,op,opath,so,sn,sc,hq,q,hf,fr⟩);have HN:=Za (show Nx w (w.alloc (Obj.cells #[.string sch,.string nam,.string pw,.bool hh,.string host,.bool hp,.int .i64 (port:Int),.bool op,.string opath,.slice so sn sc,.bool hq,.string q,.bool hf,.string fr] 101))from Nx.rfl.alloc _);generalize (w.alloc (Obj.cells #[.string sch,.string nam,.string pw,.bool hh,.string host,.bool hp,.int .i64 (port:Int),.bool op,.string opath,.slice so sn sc,.bool hq,.string q,.bool hf,.string fr] 101))=w1 at *;obtain⟨a0,a1,a2,a3,a4,a5,a6,a7,a8,a9,a10,a11,a12,a13⟩:=HUB.out.cells;simp only at a0 a1 a2 a3 a4 a5 a6 a7 a8 a9 a10 a11 a12 a13
    go_wp2_with (go_at_call 189;refine(Z6 _ _).mono ?_;rintro e w' ⟨rfl,rfl⟩;first|rw[HS1.out]|rw[HS2.out])
    go_ret;exact⟨Zi HE.out.symm,HN.out⟩
  ·cases s2
   ·have HE:=Za (show ZuI (Rc.u ⟨sch,nam,pw,hh,host,hp,port,op,opath,so,sn,sc,hq,q,hf,fr⟩ bs) (tl s)=false by rw[HD0.out];rfl)
    clear HD0
    go_enter Tryz.func280,Tryz.ntmps280
    go_upto_region 1 with fail;have HUB:=Za (ZaS w ⟨sch,nam,pw,hh,host,hp,port,op,opath,so,sn,sc,hq,q,hf,fr⟩);have HN:=Za (show Nx w (w.alloc (Obj.cells #[.string sch,.string nam,.string pw,.bool hh,.string host,.bool hp,.int .i64 (port:Int),.bool op,.string opath,.slice so sn sc,.bool hq,.string q,.bool hf,.string fr] 101))from Nx.rfl.alloc _);generalize (w.alloc (Obj.cells #[.string sch,.string nam,.string pw,.bool hh,.string host,.bool hp,.int .i64 (port:Int),.bool op,.string opath,.slice so sn sc,.bool hq,.string q,.bool hf,.string fr] 101))=w1 at *;obtain⟨a0,a1,a2,a3,a4,a5,a6,a7,a8,a9,a10,a11,a12,a13⟩:=HUB.out.cells;simp only at a0 a1 a2 a3 a4 a5 a6 a7 a8 a9 a10 a11 a12 a13
    go_wp2_with (go_at_call 189;refine(Z6 _ _).mono ?_;rintro e w' ⟨rfl,rfl⟩;first|rw[HS1.out]|rw[HS2.out])
    go_ret;exact⟨Zi HE.out.symm,HN.out⟩
   ·have HD:=Za (HD0.out.trans (by rw[HNF.out];rfl:_=(tl sch != Zw || !(tl host).isEmpty)))
    clear HD0
    by_cases hfq:tl sch=Zw
    ·have hf1:=eqB hfq
     unfold Zw at hf1
     have hf2:(sch.toList != [102,105,108,101])=false:=by simp only[bne,hf1];rfl
     by_cases h0:host.size=0
     ·have h0':=Zf h0
      have HE:=Za (show ZuI (Rc.u ⟨sch,nam,pw,hh,host,hp,port,op,opath,so,sn,sc,hq,q,hf,fr⟩ bs) (tl s)=false by rw[HD.out];simp[hfq,tl_isEmpty,h0])
      clear hfq h0 HD
      go_enter Tryz.func280,Tryz.ntmps280
      go_upto_region 1 with fail;have HUB:=Za (ZaS w ⟨sch,nam,pw,hh,host,hp,port,op,opath,so,sn,sc,hq,q,hf,fr⟩);have HN:=Za (show Nx w (w.alloc (Obj.cells #[.string sch,.string nam,.string pw,.bool hh,.string host,.bool hp,.int .i64 (port:Int),.bool op,.string opath,.slice so sn sc,.bool hq,.string q,.bool hf,.string fr] 101))from Nx.rfl.alloc _);generalize (w.alloc (Obj.cells #[.string sch,.string nam,.string pw,.bool hh,.string host,.bool hp,.int .i64 (port:Int),.bool op,.string opath,.slice so sn sc,.bool hq,.string q,.bool hf,.string fr] 101))=w1 at *;obtain⟨a0,a1,a2,a3,a4,a5,a6,a7,a8,a9,a10,a11,a12,a13⟩:=HUB.out.cells;simp only at a0 a1 a2 a3 a4 a5 a6 a7 a8 a9 a10 a11 a12 a13
      go_wp2_with (go_at_call 189;refine(Z6 _ _).mono ?_;rintro e w' ⟨rfl,rfl⟩;first|rw[HS1.out]|rw[HS2.out])
      go_ret;exact⟨Zi HE.out.symm,HN.out⟩
     ·have h0':=Ze h0
      have HE:=Za (show ZuI (Rc.u ⟨sch,nam,pw,hh,host,hp,port,op,opath,so,sn,sc,hq,q,hf,fr⟩ bs) (tl s)=true by rw[HD.out];simp[hfq,tl_isEmpty,h0])
      clear hfq h0 HD
      go_enter Tryz.func280,Tryz.ntmps280
      go_upto_region 1 with fail;have HUB:=Za (ZaS w ⟨sch,nam,pw,hh,host,hp,port,op,opath,so,sn,sc,hq,q,hf,fr⟩);have HN:=Za (show Nx w (w.alloc (Obj.cells #[.string sch,.string nam,.string pw,.bool hh,.string host,.bool hp,.int .i64 (port:Int),.bool op,.string opath,.slice so sn sc,.bool hq,.string q,.bool hf,.string fr] 101))from Nx.rfl.alloc _);generalize (w.alloc (Obj.cells #[.string sch,.string nam,.string pw,.bool hh,.string host,.bool hp,.int .i64 (port:Int),.bool op,.string opath,.slice so sn sc,.bool hq,.string q,.bool hf,.string fr] 101))=w1 at *;obtain⟨a0,a1,a2,a3,a4,a5,a6,a7,a8,a9,a10,a11,a12,a13⟩:=HUB.out.cells;simp only at a0 a1 a2 a3 a4 a5 a6 a7 a8 a9 a10 a11 a12 a13
      go_wp2_with (go_at_call 189;refine(Z6 _ _).mono ?_;rintro e w' ⟨rfl,rfl⟩;first|rw[HS1.out]|rw[HS2.out])
      go_ret;exact⟨Zi HE.out.symm,HN.out⟩
    ·have hf1:=neB hfq
     unfold Zw at hf1
     have hf2:(sch.toList != [102,105,108,101])=true:=by simp only[bne,hf1];rfl
     have HE:=Za (show ZuI (Rc.u ⟨sch,nam,pw,hh,host,hp,port,op,opath,so,sn,sc,hq,q,hf,fr⟩ bs) (tl s)=true by rw[HD.out];simp[hfq,tl_isEmpty])
     clear hfq HD
     go_enter Tryz.func280,Tryz.ntmps280
     go_upto_region 1 with fail;have HUB:=Za (ZaS w ⟨sch,nam,pw,hh,host,hp,port,op,opath,so,sn,sc,hq,q,hf,fr⟩);have HN:=Za (show Nx w (w.alloc (Obj.cells #[.string sch,.string nam,.string pw,.bool hh,.string host,.bool hp,.int .i64 (port:Int),.bool op,.string opath,.slice so sn sc,.bool hq,.string q,.bool hf,.string fr] 101))from Nx.rfl.alloc _);generalize (w.alloc (Obj.cells #[.string sch,.string nam,.string pw,.bool hh,.string host,.bool hp,.int .i64 (port:Int),.bool op,.string opath,.slice so sn sc,.bool hq,.string q,.bool hf,.string fr] 101))=w1 at *;obtain⟨a0,a1,a2,a3,a4,a5,a6,a7,a8,a9,a10,a11,a12,a13⟩:=HUB.out.cells;simp only at a0 a1 a2 a3 a4 a5 a6 a7 a8 a9 a10 a11 a12 a13
     go_wp2_with (go_at_call 189;refine(Z6 _ _).mono ?_;rintro e w' ⟨rfl,rfl⟩;first|rw[HS1.out]|rw[HS2.out])
     go_ret;exact⟨Zi HE.out.symm,HN.out⟩
end Go.Proofs.YtchkhibgbnhjpabGreatDoor
