import Derived.Test.YtchkhibgbnhjpabGreatDoorT03
open Nat renaming le_refl→Xa
namespace Go.Proofs.YtchkhibgbnhjpabGreatDoor
open Go.RowKit
set_option maxHeartbeats 8000000
def ZuH(u:U)(l:List UInt8):U:=
 if(Zax (noBreaks l++[58])).2.2=false∨ZuI u (Zax (noBreaks l++[58])).1=false then u
 else if u.hp=true then ZaW { u with sch:=(Zax (noBreaks l++[58])).1 } u.port else { u with sch:=(Zax (noBreaks l++[58])).1 }
theorem Zxm(ru:Rc)(u:U)(bs:LA)(s:BA)(w:World)(h:RcIs w ru u bs)(hs:s.size≤29000):Calls Tryz.prog 239 #[.agg #[.string ru.sch,.string ru.nam,.string ru.pw,.bool ru.hh,.string ru.host,.bool ru.hp,.int .i64 (ru.port:Int),.bool ru.op,.string ru.opath,.slice ru.so ru.sn ru.sc,.bool ru.hq,.string ru.q,.bool ru.hf,.string ru.fr],.string s] w fun e w'=>∃r:Rc,e=.returned (.agg #[.string r.sch,.string r.nam,.string r.pw,.bool r.hh,.string r.host,.bool r.hp,.int .i64 (r.port:Int),.bool r.op,.string r.opath,.slice r.so r.sn r.sc,.bool r.hq,.string r.q,.bool r.hf,.string r.fr])∧RcIs w' r (ZuH u (tl s)) bs∧Nx w w':=by
 have HR:=Za h
 have HD0:=Za (show ZuH u (tl s)=if(Zax (noBreaks (tl s)++[58])).2.2=false∨ZuI (ru.u bs) (Zax (noBreaks (tl s)++[58])).1=false then u else if ru.hp=true then ZaW { u with sch:=(Zax (noBreaks (tl s)++[58])).1 } ru.port else { u with sch:=(Zax (noBreaks (tl s)++[58])).1 }by rw[←h.eq];rfl)
 clear h;obtain⟨sch,nam,pw,hh,host,hp,port,op,opath,so,sn,sc,hq,q,hf,fr⟩:=ru;simp only at *
 cases hp
 ·have HD:=Za (HD0.out.trans (by rw[if_neg (by decide:¬false=true)]:_=if(Zax (noBreaks (tl s)++[58])).2.2=false∨ZuI (Rc.u ⟨sch,nam,pw,hh,host,false,port,op,opath,so,sn,sc,hq,q,hf,fr⟩ bs) (Zax (noBreaks (tl s)++[58])).1=false then u else { u with sch:=(Zax (noBreaks (tl s)++[58])).1 }))
  clear HD0
  go_enter Tryz.func239,Tryz.ntmps239
  go_upto_region 1 with fail;obtain⟨g1,g2,g3⟩:=Zcb (w:=w) (ru:=⟨sch,nam,pw,hh,host,false,port,op,opath,so,sn,sc,hq,q,hf,fr⟩) Nx.rfl;have HUB:=Za g1;have HZ:=Za g2;have HN:=Za g3;clear g1 g2 g3;generalize ((w.alloc (Obj.cells #[.string sch,.string nam,.string pw,.bool hh,.string host,.bool false,.int .i64 (port:Int),.bool op,.string opath,.slice so sn sc,.bool hq,.string q,.bool hf,.string fr] 101)).alloc (Obj.cells #[.string ⟨#[]⟩,.string ⟨#[]⟩,.string ⟨#[]⟩,.bool false,.string ⟨#[]⟩,.bool false,.int .i64 0,.bool false,.string ⟨#[]⟩,.slice none 0 0,.bool false,.string ⟨#[]⟩,.bool false,.string ⟨#[]⟩] 101))=w1 at *;go_wp2_with fail
  refine(ZiC s _ (by omega)).mono ?_
  rintro e w2 ⟨x,rfl,hx,hn2⟩
  have hxl:x.size≤29000:=by have h1:=Zdh (tl s);rw[←hx,tl_length,tl_length]at h1;omega
  have HXC:=Za (show tl (x++(⟨#[58]⟩:BA))=noBreaks (tl s)++[58]by rw[Zc,hx];rfl)
  have hcz:(x++(⟨#[58]⟩:BA)).size≤29001:=by rw[Zm];show x.size+1≤_;omega
  have HUB2:=Za (HUB.out.on hn2);have HZ2:=Za (HZ.out.on hn2);have HN2:=Za (HN.out.then hn2);clear hx hn2 HUB HZ HN;go_wp2_with fail
  refine(Zl3 (x++(⟨#[58]⟩:BA)) _ (by omega)).mono ?_
  rintro e w3 ⟨⟨sc2,re,rfl,hsc,-⟩,hn3⟩;rw[HXC.out]at hsc
  have hscl:sc2.size≤29001:=by have h1:=(Zez (noBreaks (tl s)++[58])).1;rw[←hsc,tl_length,←HXC.out,tl_length]at h1;omega
  rw[HXC.out];rw[←hsc]at HD;have HUB3:=Za (HUB2.out.on hn3);have HZ3:=Za (HZ2.out.on hn3);have HN3:=Za (HN2.out.then hn3)
  have HMB:=Za (fun w'=>ZvB ⟨sch,nam,pw,hh,host,false,port,op,opath,so,sn,sc,hq,q,hf,fr⟩ bs sc2 w')
  clear hsc hn3 HUB2 HZ2 HN2 HXC;generalize (Zax (noBreaks (tl s)++[58])).2.2=fnd at *;generalize ZuI (Rc.u ⟨sch,nam,pw,hh,host,false,port,op,opath,so,sn,sc,hq,q,hf,fr⟩ bs) (tl sc2)=mb at *;obtain⟨a0,a1,a2,a3,a4,a5,a6,a7,a8,a9,a10,a11,a12,a13⟩:=HUB3.out.cells;have af0:=HUB3.out.free 0;obtain⟨z0,z1,z2,z3,z4,z5,z6,z7,z8,z9,z10,z11,z12,z13⟩:=HZ3.out.cells;have zf0:=HZ3.out.free 0;have zf1:=HZ3.out.free 1;have zf2:=HZ3.out.free 2;have zf3:=HZ3.out.free 3;have zf4:=HZ3.out.free 4;have zf5:=HZ3.out.free 5;have zf6:=HZ3.out.free 6;have zf7:=HZ3.out.free 7;have zf8:=HZ3.out.free 8;have zf9:=HZ3.out.free 9;have zf10:=HZ3.out.free 10;have zf11:=HZ3.out.free 11;have zf12:=HZ3.out.free 12;have zf13:=HZ3.out.free 13;simp only at a0 a1 a2 a3 a4 a5 a6 a7 a8 a9 a10 a11 a12 a13
  cases fnd
  ·have HE:=Za (HD.out.trans (if_pos (Or.inl rfl)))
   clear HD;go_wp2
   exact Zc4 (rb:=w.heap.size+1) Tryz.results239 rfl (RecB.put HZ3.out _ _ _ _ _ _ _ _ _ _ _ _ _ _) rfl ⟨⟨sch,nam,pw,hh,host,false,port,op,opath,so,sn,sc,hq,q,hf,fr⟩,rfl,by rw[HE.out];exact(HR.out.on HN3.out).ks (Ks.then Ks.rfl (Zq HZ3.out.ty (by decide) _ _ _ _ _ _ _ _ _ _ _ _ _ _)),(Zd HN3.out (by omega) _ _ _ _ _ _ _ _ _ _ _ _ _ _)⟩
  ·go_wp2_with fail
   refine(HMB.out _).mono ?_
   rintro e w4 ⟨rfl,hn4⟩;have HUB4:=Za (HUB3.out.on hn4);have HZ4:=Za (HZ3.out.on hn4);have HN4:=Za (HN3.out.then hn4);have HR4:=Za (HR.out.on HN4.out);clear hn4 HMB;clear a0 a1 a2 a3 a4 a5 a6 a7 a8 a9 a10 a11 a12 a13 af0 z0 z1 z2 z3 z4 z5 z6 z7 z8 z9 z10 z11 z12 z13 zf0 zf1 zf2 zf3 zf4 zf5 zf6 zf7 zf8 zf9 zf10 zf11 zf12 zf13;obtain⟨a0,a1,a2,a3,a4,a5,a6,a7,a8,a9,a10,a11,a12,a13⟩:=HUB4.out.cells;have af0:=HUB4.out.free 0;obtain⟨z0,z1,z2,z3,z4,z5,z6,z7,z8,z9,z10,z11,z12,z13⟩:=HZ4.out.cells;have zf0:=HZ4.out.free 0;have zf1:=HZ4.out.free 1;have zf2:=HZ4.out.free 2;have zf3:=HZ4.out.free 3;have zf4:=HZ4.out.free 4;have zf5:=HZ4.out.free 5;have zf6:=HZ4.out.free 6;have zf7:=HZ4.out.free 7;have zf8:=HZ4.out.free 8;have zf9:=HZ4.out.free 9;have zf10:=HZ4.out.free 10;have zf11:=HZ4.out.free 11;have zf12:=HZ4.out.free 12;have zf13:=HZ4.out.free 13;simp only at a0 a1 a2 a3 a4 a5 a6 a7 a8 a9 a10 a11 a12 a13
   cases mb
   ·have HE:=Za (HD.out.trans (if_pos (Or.inr rfl)))
    clear HD;go_wp2
    exact Zc4 (rb:=w.heap.size+1) Tryz.results239 rfl (RecB.put HZ4.out _ _ _ _ _ _ _ _ _ _ _ _ _ _) rfl ⟨⟨sch,nam,pw,hh,host,false,port,op,opath,so,sn,sc,hq,q,hf,fr⟩,rfl,by rw[HE.out];exact HR4.out.ks (Ks.then Ks.rfl (Zq HZ4.out.ty (by decide) _ _ _ _ _ _ _ _ _ _ _ _ _ _)),(Zd HN4.out (by omega) _ _ _ _ _ _ _ _ _ _ _ _ _ _)⟩
   ·have HE:=Za (HD.out.trans (if_neg (by rintro(x|x)<;>cases x)))
    clear HD;go_wp2
    refine Zc4 (rb:=w.heap.size+1) Tryz.results239 rfl (RecB.put (HZ4.out.far (by omega) 0 _) _ _ _ _ _ _ _ _ _ _ _ _ _ _) rfl ⟨⟨sc2,nam,pw,hh,host,false,port,op,opath,so,sn,sc,hq,q,hf,fr⟩,rfl,?_,(Zd (Below.setCell HN4.out (Xa _) _) (by omega) _ _ _ _ _ _ _ _ _ _ _ _ _ _)⟩
    exact { HR4.out with eq:=by rw[HE.out,←HR4.out.eq];rfl,seg:=HR4.out.seg.ks (Ks.then (Ks.then Ks.rfl (ZW HUB4.out.ty (by decide) 0 _)) (Zq (HZ4.out.ty.set w.heap.size 0 _) (by decide) _ _ _ _ _ _ _ _ _ _ _ _ _ _)),lsch:=by show sc2.size≤_;omega }
 ·have HD:=Za (HD0.out.trans (by rw[if_pos (rfl:true=true)]:_=if(Zax (noBreaks (tl s)++[58])).2.2=false∨ZuI (Rc.u ⟨sch,nam,pw,hh,host,true,port,op,opath,so,sn,sc,hq,q,hf,fr⟩ bs) (Zax (noBreaks (tl s)++[58])).1=false then u else ZaW { u with sch:=(Zax (noBreaks (tl s)++[58])).1 } port))
  clear HD0
  go_enter Tryz.func239,Tryz.ntmps239
  go_upto_region 1 with fail;obtain⟨g1,g2,g3⟩:=Zcb (w:=w) (ru:=⟨sch,nam,pw,hh,host,true,port,op,opath,so,sn,sc,hq,q,hf,fr⟩) Nx.rfl;have HUB:=Za g1;have HZ:=Za g2;have HN:=Za g3;clear g1 g2 g3;generalize ((w.alloc (Obj.cells #[.string sch,.string nam,.string pw,.bool hh,.string host,.bool true,.int .i64 (port:Int),.bool op,.string opath,.slice so sn sc,.bool hq,.string q,.bool hf,.string fr] 101)).alloc (Obj.cells #[.string ⟨#[]⟩,.string ⟨#[]⟩,.string ⟨#[]⟩,.bool false,.string ⟨#[]⟩,.bool false,.int .i64 0,.bool false,.string ⟨#[]⟩,.slice none 0 0,.bool false,.string ⟨#[]⟩,.bool false,.string ⟨#[]⟩] 101))=w1 at *;go_wp2_with fail
  refine(ZiC s _ (by omega)).mono ?_
  rintro e w2 ⟨x,rfl,hx,hn2⟩
  have hxl:x.size≤29000:=by have h1:=Zdh (tl s);rw[←hx,tl_length,tl_length]at h1;omega
  have HXC:=Za (show tl (x++(⟨#[58]⟩:BA))=noBreaks (tl s)++[58]by rw[Zc,hx];rfl)
  have hcz:(x++(⟨#[58]⟩:BA)).size≤29001:=by rw[Zm];show x.size+1≤_;omega
  have HUB2:=Za (HUB.out.on hn2);have HZ2:=Za (HZ.out.on hn2);have HN2:=Za (HN.out.then hn2);clear hx hn2 HUB HZ HN;go_wp2_with fail
  refine(Zl3 (x++(⟨#[58]⟩:BA)) _ (by omega)).mono ?_
  rintro e w3 ⟨⟨sc2,re,rfl,hsc,-⟩,hn3⟩;rw[HXC.out]at hsc
  have hscl:sc2.size≤29001:=by have h1:=(Zez (noBreaks (tl s)++[58])).1;rw[←hsc,tl_length,←HXC.out,tl_length]at h1;omega
  rw[HXC.out];rw[←hsc]at HD;have HUB3:=Za (HUB2.out.on hn3);have HZ3:=Za (HZ2.out.on hn3);have HN3:=Za (HN2.out.then hn3)
  have HMB:=Za (fun w'=>ZvB ⟨sch,nam,pw,hh,host,true,port,op,opath,so,sn,sc,hq,q,hf,fr⟩ bs sc2 w')
  clear hsc hn3 HUB2 HZ2 HN2 HXC;generalize (Zax (noBreaks (tl s)++[58])).2.2=fnd at *;generalize ZuI (Rc.u ⟨sch,nam,pw,hh,host,true,port,op,opath,so,sn,sc,hq,q,hf,fr⟩ bs) (tl sc2)=mb at *;obtain⟨a0,a1,a2,a3,a4,a5,a6,a7,a8,a9,a10,a11,a12,a13⟩:=HUB3.out.cells;have af0:=HUB3.out.free 0;obtain⟨z0,z1,z2,z3,z4,z5,z6,z7,z8,z9,z10,z11,z12,z13⟩:=HZ3.out.cells;have zf0:=HZ3.out.free 0;have zf1:=HZ3.out.free 1;have zf2:=HZ3.out.free 2;have zf3:=HZ3.out.free 3;have zf4:=HZ3.out.free 4;have zf5:=HZ3.out.free 5;have zf6:=HZ3.out.free 6;have zf7:=HZ3.out.free 7;have zf8:=HZ3.out.free 8;have zf9:=HZ3.out.free 9;have zf10:=HZ3.out.free 10;have zf11:=HZ3.out.free 11;have zf12:=HZ3.out.free 12;have zf13:=HZ3.out.free 13;simp only at a0 a1 a2 a3 a4 a5 a6 a7 a8 a9 a10 a11 a12 a13
  cases fnd
  ·have HE:=Za (HD.out.trans (if_pos (Or.inl rfl)))
   clear HD;go_wp2
   exact Zc4 (rb:=w.heap.size+1) Tryz.results239 rfl (RecB.put HZ3.out _ _ _ _ _ _ _ _ _ _ _ _ _ _) rfl ⟨⟨sch,nam,pw,hh,host,true,port,op,opath,so,sn,sc,hq,q,hf,fr⟩,rfl,by rw[HE.out];exact(HR.out.on HN3.out).ks (Ks.then Ks.rfl (Zq HZ3.out.ty (by decide) _ _ _ _ _ _ _ _ _ _ _ _ _ _)),(Zd HN3.out (by omega) _ _ _ _ _ _ _ _ _ _ _ _ _ _)⟩
  ·go_wp2_with fail
   refine(HMB.out _).mono ?_
   rintro e w4 ⟨rfl,hn4⟩;have HUB4:=Za (HUB3.out.on hn4);have HZ4:=Za (HZ3.out.on hn4);have HN4:=Za (HN3.out.then hn4);have HR4:=Za (HR.out.on HN4.out);clear hn4 HMB;clear a0 a1 a2 a3 a4 a5 a6 a7 a8 a9 a10 a11 a12 a13 af0 z0 z1 z2 z3 z4 z5 z6 z7 z8 z9 z10 z11 z12 z13 zf0 zf1 zf2 zf3 zf4 zf5 zf6 zf7 zf8 zf9 zf10 zf11 zf12 zf13;obtain⟨a0,a1,a2,a3,a4,a5,a6,a7,a8,a9,a10,a11,a12,a13⟩:=HUB4.out.cells;have af0:=HUB4.out.free 0;obtain⟨z0,z1,z2,z3,z4,z5,z6,z7,z8,z9,z10,z11,z12,z13⟩:=HZ4.out.cells;have zf0:=HZ4.out.free 0;have zf1:=HZ4.out.free 1;have zf2:=HZ4.out.free 2;have zf3:=HZ4.out.free 3;have zf4:=HZ4.out.free 4;have zf5:=HZ4.out.free 5;have zf6:=HZ4.out.free 6;have zf7:=HZ4.out.free 7;have zf8:=HZ4.out.free 8;have zf9:=HZ4.out.free 9;have zf10:=HZ4.out.free 10;have zf11:=HZ4.out.free 11;have zf12:=HZ4.out.free 12;have zf13:=HZ4.out.free 13;simp only at a0 a1 a2 a3 a4 a5 a6 a7 a8 a9 a10 a11 a12 a13
   cases mb
   ·have HE:=Za (HD.out.trans (if_pos (Or.inr rfl)))
    clear HD;go_wp2
    exact Zc4 (rb:=w.heap.size+1) Tryz.results239 rfl (RecB.put HZ4.out _ _ _ _ _ _ _ _ _ _ _ _ _ _) rfl ⟨⟨sch,nam,pw,hh,host,true,port,op,opath,so,sn,sc,hq,q,hf,fr⟩,rfl,by rw[HE.out];exact HR4.out.ks (Ks.then Ks.rfl (Zq HZ4.out.ty (by decide) _ _ _ _ _ _ _ _ _ _ _ _ _ _)),(Zd HN4.out (by omega) _ _ _ _ _ _ _ _ _ _ _ _ _ _)⟩
   ·have HE:=Za (HD.out.trans (if_neg (by rintro(x|x)<;>cases x)))
    clear HD;go_wp2_with fail
    refine(ZgZ ⟨sc2,nam,pw,hh,host,true,port,op,opath,so,sn,sc,hq,q,hf,fr⟩ port _).mono ?_
    rintro e w5 ⟨r5,rfl,hr5,hn5⟩
    have HR5:=Za ((((show RcIs w4 ⟨sc2,nam,pw,hh,host,true,port,op,opath,so,sn,sc,hq,q,hf,fr⟩ { u with sch:=tl sc2 } bs from { HR4.out with eq:=by rw[←HR4.out.eq];rfl,lsch:=by show sc2.size≤_;omega }).ks (ZW HUB4.out.ty (by decide) 0 (.string sc2))).on hn5).atPort HR4.out.lport)
    rw[←hr5]at HR5
    have HZ5:=Za ((HZ4.out.far (q:=w.heap.size) (by omega) 0 (.string sc2)).on hn5)
    have HN5:=Za (show Nx w w5 from Nx.then (show Nx w _ from Below.setCell (p:=⟨w.heap.size,0,none⟩) HN4.out (Xa _) (.string sc2)) hn5);clear hr5 hn5;clear a0 a1 a2 a3 a4 a5 a6 a7 a8 a9 a10 a11 a12 a13 af0 z0 z1 z2 z3 z4 z5 z6 z7 z8 z9 z10 z11 z12 z13 zf0 zf1 zf2 zf3 zf4 zf5 zf6 zf7 zf8 zf9 zf10 zf11 zf12 zf13;obtain⟨z0,z1,z2,z3,z4,z5,z6,z7,z8,z9,z10,z11,z12,z13⟩:=HZ5.out.cells;have zf0:=HZ5.out.free 0;have zf1:=HZ5.out.free 1;have zf2:=HZ5.out.free 2;have zf3:=HZ5.out.free 3;have zf4:=HZ5.out.free 4;have zf5:=HZ5.out.free 5;have zf6:=HZ5.out.free 6;have zf7:=HZ5.out.free 7;have zf8:=HZ5.out.free 8;have zf9:=HZ5.out.free 9;have zf10:=HZ5.out.free 10;have zf11:=HZ5.out.free 11;have zf12:=HZ5.out.free 12;have zf13:=HZ5.out.free 13;go_wp2
    exact Zc4 (rb:=w.heap.size+1) Tryz.results239 rfl (RecB.put HZ5.out _ _ _ _ _ _ _ _ _ _ _ _ _ _) rfl ⟨r5,rfl,by rw[HE.out];exact HR5.out.ks (Ks.then Ks.rfl (Zq HZ5.out.ty (by decide) _ _ _ _ _ _ _ _ _ _ _ _ _ _)),(Zd HN5.out (by omega) _ _ _ _ _ _ _ _ _ _ _ _ _ _)⟩
def ZuJ(sp:Bool)(l:List UInt8):List UInt8:=(bcut (isB 35) (bcut (isB 63) (bcut (slB sp) (noBreaks l)).1).1).1
theorem ZwD(sp:Bool)(l:LB):(ZuJ sp l).length≤l.length:=by
 have h1:=Zdh l;have h2:=(Z8 (slB sp) (noBreaks l)).1;have h3:=(Z8 (isB 63) (bcut (slB sp) (noBreaks l)).1).1;have h4:=(Z8 (isB 35) (bcut (isB 63) (bcut (slB sp) (noBreaks l)).1).1).1;unfold ZuJ
 omega
theorem ZwY(s:BA)(sp:Bool)(w:World)(hs:s.size≤900000):Calls Tryz.prog 273 #[.string s,.bool sp] w fun e w'=>∃r:BA,e=.returned (.string r)∧tl r=ZuJ sp (tl s)∧Nx w w':=by
 go_enter Tryz.func273,Tryz.ntmps273
 go_wp2_with fail
 refine(ZiC s _ (by omega)).mono ?_
 rintro e w1 ⟨x,rfl,hx,hn1⟩
 have hxl:x.size≤900000:=by have h1:=Zdh (tl s);rw[←hx,tl_length,tl_length]at h1;omega
 have HX:=Za hx;have HN1:=Za hn1;clear hx hn1;go_wp2_with fail
 refine(Zci x sp _ (Zg (by omega))).mono ?_
 rintro e w2 ⟨⟨a,b,rfl,ha,-⟩,hn2⟩
 have hal:a.size≤900000:=by have h1:=(Z8 (slB sp) (tl x)).1;rw[←ha,tl_length,tl_length]at h1;omega
 have HA:=Za ha;have HN2:=Za (HN1.out.then hn2);clear ha hn2;generalize (bcut (slB sp) (tl x)).2.2=f1 at *;go_wp2_with fail
 refine(ZcN a 63 _ (Zg (by omega))).mono ?_
 rintro e w3 ⟨⟨c,d,rfl,hc,-⟩,hn3⟩
 have hcl:c.size≤900000:=by have h1:=(Z8 (isB 63) (tl a)).1;rw[←hc,tl_length,tl_length]at h1;omega
 have HC:=Za hc;have HN3:=Za (HN2.out.then hn3);clear hc hn3;generalize (bcut (isB 63) (tl a)).2.2=f2 at *;go_wp2_with fail
 refine(ZcN c 35 _ (Zg (by omega))).mono ?_
 rintro e w4 ⟨⟨g,j,rfl,hg,-⟩,hn4⟩;have HG:=Za hg;have HN4:=Za (HN3.out.then hn4);clear hg hn4;generalize (bcut (isB 35) (tl c)).2.2=f3 at *;go_wp2;go_ret
 exact⟨g,rfl,by rw[HG.out,HC.out,HA.out,HX.out];rfl,HN4.out⟩
def ZuG(u:U)(l:List UInt8)(ported:Bool):List UInt8×List UInt8×Int:=
 if u.sch=Zw then((ZH (ZuJ (Zb u.sch) l)).1,[],(ZH (ZuJ (Zb u.sch) l)).2)
 else if(Zu (ZuJ (Zb u.sch) l)).2.2=true∧ported=false then([],[],2)
 else if(Zu (ZuJ (Zb u.sch) l)).1=[]∧((Zu (ZuJ (Zb u.sch) l)).2.2=true∨Zb u.sch=true∨ZuY u=true∨u.hp=true)then([],[],2)
 else if(ZI (Zu (ZuJ (Zb u.sch) l)).1 (Zb u.sch)).2≠0 then([],[],(ZI (Zu (ZuJ (Zb u.sch) l)).1 (Zb u.sch)).2)
 else((ZI (Zu (ZuJ (Zb u.sch) l)).1 (Zb u.sch)).1,(Zu (ZuJ (Zb u.sch) l)).2.1,0)
theorem ZwZ(ru:Rc)(bs:LA)(s:BA)(ported:Bool)(w:World)(ht:Tb w)(hs:s.size≤29000):Calls Tryz.prog 237 #[.agg #[.string ru.sch,.string ru.nam,.string ru.pw,.bool ru.hh,.string ru.host,.bool ru.hp,.int .i64 (ru.port:Int),.bool ru.op,.string ru.opath,.slice ru.so ru.sn ru.sc,.bool ru.hq,.string ru.q,.bool ru.hf,.string ru.fr],.string s,.bool ported] w fun e w'=>∃a b:BA,e=.returned (.tuple #[.string a,.string b,.int .i64 (ZuG (ru.u bs) (tl s) ported).2.2])∧tl a=(ZuG (ru.u bs) (tl s) ported).1∧tl b=(ZuG (ru.u bs) (tl s) ported).2.1∧a.size≤300000∧b.size≤30000∧Nx w w':=by
 have HTB:=Za ht
 have HU:=Za (fun w'=>Zv9 ru bs w')
 have HD0:=Za (show ZuG (ru.u bs) (tl s) ported=if tl ru.sch=Zw then((ZH (ZuJ (Zb (tl ru.sch)) (tl s))).1,[],(ZH (ZuJ (Zb (tl ru.sch)) (tl s))).2)
  else if(Zu (ZuJ (Zb (tl ru.sch)) (tl s))).2.2=true∧ported=false then([],[],2)
  else if(Zu (ZuJ (Zb (tl ru.sch)) (tl s))).1=[]∧((Zu (ZuJ (Zb (tl ru.sch)) (tl s))).2.2=true∨Zb (tl ru.sch)=true∨ZuY (ru.u bs)=true∨ru.hp=true)then([],[],2)
  else if(ZI (Zu (ZuJ (Zb (tl ru.sch)) (tl s))).1 (Zb (tl ru.sch))).2≠0 then([],[],(ZI (Zu (ZuJ (Zb (tl ru.sch)) (tl s))).1 (Zb (tl ru.sch))).2)
  else((ZI (Zu (ZuJ (Zb (tl ru.sch)) (tl s))).1 (Zb (tl ru.sch))).1,(Zu (ZuJ (Zb (tl ru.sch)) (tl s))).2.1,0)from rfl)
 clear ht;obtain⟨sch,nam,pw,hh,host,hp,port,op,opath,so,sn,sc,hq,q,hf,fr⟩:=ru;simp only at *;generalize ZuY (Rc.u ⟨sch,nam,pw,hh,host,hp,port,op,opath,so,sn,sc,hq,q,hf,fr⟩ bs)=ub at *;generalize hsp:Zb (tl sch)=sp at *;have HSP:=Za hsp;clear hsp
 go_enter Tryz.func237,Tryz.ntmps237
 go_upto_region 1 with fail;have HUB0:=Za (ZaS w ⟨sch,nam,pw,hh,host,hp,port,op,opath,so,sn,sc,hq,q,hf,fr⟩);have HN0:=Za (show Nx w (w.alloc (Obj.cells #[.string sch,.string nam,.string pw,.bool hh,.string host,.bool hp,.int .i64 (port:Int),.bool op,.string opath,.slice so sn sc,.bool hq,.string q,.bool hf,.string fr] 101))from Nx.rfl.alloc _);generalize (w.alloc (Obj.cells #[.string sch,.string nam,.string pw,.bool hh,.string host,.bool hp,.int .i64 (port:Int),.bool op,.string opath,.slice so sn sc,.bool hq,.string q,.bool hf,.string fr] 101))=w1 at *;obtain⟨a0,a1,a2,a3,a4,a5,a6,a7,a8,a9,a10,a11,a12,a13⟩:=HUB0.out.cells;simp only at a0 a1 a2 a3 a4 a5 a6 a7 a8 a9 a10 a11 a12 a13
 go_wp2_with (first|(go_at_call 189;refine(Z6 _ _).mono ?_;rintro e w' ⟨rfl,rfl⟩;rw[HSP.out])|fail)
 refine(ZwY s sp _ (by omega)).mono ?_
 rintro e w2 ⟨pl,rfl,hpl,hn2⟩
 have hpll:pl.size≤29000:=by have h1:=ZwD sp (tl s);rw[←hpl,tl_length,tl_length]at h1;omega
 rw[←hpl]at HD0;have HUB:=Za (HUB0.out.on hn2);have HNX:=Za (HN0.out.then hn2);clear hpl hn2 HUB0 HN0;clear a0 a1 a2 a3 a4 a5 a6 a7 a8 a9 a10 a11 a12 a13;obtain⟨a0,a1,a2,a3,a4,a5,a6,a7,a8,a9,a10,a11,a12,a13⟩:=HUB.out.cells;simp only at a0 a1 a2 a3 a4 a5 a6 a7 a8 a9 a10 a11 a12 a13
 by_cases hfq:tl sch=Zw
 ·have hf1:=eqB hfq
  unfold Zw at hf1;have HE:=Za (HD0.out.trans (if_pos hfq));clear HD0 hfq;go_wp2_with fail
  refine(ZiD pl _ (by omega) (HTB.out.on HNX.out)).mono ?_
  rintro e w3 ⟨r,rfl,hr,hn3⟩
  have hrl:r.size≤300000:=by rw[←tl_length,hr];exact Zek (by rw[tl_length];omega)
  have HR:=Za hr;have HNX3:=Za (HNX.out.then hn3);clear hr hn3;go_wp2
  go_ret3
  exact⟨r,⟨#[]⟩,by rw[HE.out];rfl,by rw[HE.out];exact HR.out,by rw[HE.out];rfl,hrl,by decide,HNX3.out⟩
 ·have hf1:=neB hfq
  unfold Zw at hf1;have HD1:=Za (HD0.out.trans (if_neg hfq));clear HD0 hfq;go_wp2_with fail
  refine(ZjZ pl _ (by omega)).mono ?_
  rintro e w3 ⟨⟨x,y,rfl,hx,hy⟩,hn3⟩;have hcl:=ZfU (tl pl);rw[←hx,←hy]at HD1 hcl;rw[tl_length,tl_length,tl_length]at hcl
  have hxl:x.size≤29000:=by omega
  have hyl:y.size≤29000:=by omega
  have HUB3:=Za (HUB.out.on hn3);have HNX2:=Za (HNX.out.then hn3);clear hx hy hn3 hcl HNX HUB;have HNX:=Za HNX2.out;clear HNX2;generalize (Zu (tl pl)).2.2=col at *;clear a0 a1 a2 a3 a4 a5 a6 a7 a8 a9 a10 a11 a12 a13;obtain⟨a0,a1,a2,a3,a4,a5,a6,a7,a8,a9,a10,a11,a12,a13⟩:=HUB3.out.cells;simp only at a0 a1 a2 a3 a4 a5 a6 a7 a8 a9 a10 a11 a12 a13
  cases col
  ·have HD2:=Za (HD1.out.trans (if_neg (by rintro⟨h,-⟩;cases h)))
   clear HD1
   by_cases h0:x.size=0
   ·have h0':=Zf h0
    have hxe:=Zz h0
    cases sp
    ·cases ub
     ·cases hp
      ·have HD:=Za (HD2.out.trans (if_neg (by rintro⟨-,h|h|h|h⟩<;>cases h)))
       clear HD2 h0 hxe;go_wp2_with fail
       refine(HU.out _).mono ?_
       rintro e w4 ⟨rfl,hn4⟩;have HUB4:=Za (HUB3.out.on hn4);have HNX4:=Za (HNX.out.then hn4);clear hn4 HNX;have HNX:=Za HNX4.out;clear HNX4;clear a0 a1 a2 a3 a4 a5 a6 a7 a8 a9 a10 a11 a12 a13;obtain⟨a0,a1,a2,a3,a4,a5,a6,a7,a8,a9,a10,a11,a12,a13⟩:=HUB4.out.cells;simp only at a0 a1 a2 a3 a4 a5 a6 a7 a8 a9 a10 a11 a12 a13;go_wp2_with fail
       refine(Ziz x false _ (by omega) (HTB.out.on HNX.out)).mono ?_
       rintro e w5 ⟨wr,rfl,hwr,hn5⟩
       have hwl:wr.size≤300000:=by rw[←tl_length,hwr];exact ZfS (by rw[tl_length];omega)
       have HNX5:=Za (HNX.out.then hn5);rw[←hwr]at HD;clear hn5 hwr;generalize (ZI (tl x) false).2=err at *
       by_cases he:err=0
       ·subst he
        have HE:=Za (HD.out.trans (if_neg (by intro h;exact h rfl)))
        clear HD;go_wp2
        go_ret3
        exact⟨wr,y,by rw[HE.out];rfl,by rw[HE.out],by rw[HE.out],hwl,by omega,HNX5.out⟩
       ·have HE:=Za (HD.out.trans (if_pos he))
        have he':(err != 0)=true:=Zd9 (beq_eq_false_iff_ne.2 he);clear HD he;go_wp2
        go_ret3
        exact⟨⟨#[]⟩,⟨#[]⟩,by rw[HE.out];rfl,by rw[HE.out];rfl,by rw[HE.out];rfl,by decide,by decide,HNX5.out⟩
      ·have HE:=Za (HD2.out.trans (if_pos ⟨hxe,Or.inr (Or.inr (Or.inr rfl))⟩))
       clear HD2 h0 hxe;go_wp2_with fail
       refine(HU.out _).mono ?_
       rintro e w4 ⟨rfl,hn4⟩;have HUB4:=Za (HUB3.out.on hn4);have HNX4:=Za (HNX.out.then hn4);clear hn4 HNX;have HNX:=Za HNX4.out;clear HNX4;clear a0 a1 a2 a3 a4 a5 a6 a7 a8 a9 a10 a11 a12 a13;obtain⟨a0,a1,a2,a3,a4,a5,a6,a7,a8,a9,a10,a11,a12,a13⟩:=HUB4.out.cells;simp only at a0 a1 a2 a3 a4 a5 a6 a7 a8 a9 a10 a11 a12 a13;go_wp2
       go_ret3
       exact⟨⟨#[]⟩,⟨#[]⟩,by rw[HE.out];rfl,by rw[HE.out];rfl,by rw[HE.out];rfl,by decide,by decide,HNX.out⟩
     ·have HE:=Za (HD2.out.trans (if_pos ⟨hxe,Or.inr (Or.inr (Or.inl rfl))⟩))
      clear HD2 h0 hxe;go_wp2_with fail
      refine(HU.out _).mono ?_
      rintro e w4 ⟨rfl,hn4⟩;have HNX4:=Za (HNX.out.then hn4);clear hn4 HNX;have HNX:=Za HNX4.out;clear HNX4;go_wp2
      go_ret3
      exact⟨⟨#[]⟩,⟨#[]⟩,by rw[HE.out];rfl,by rw[HE.out];rfl,by rw[HE.out];rfl,by decide,by decide,HNX.out⟩
    ·have HE:=Za (HD2.out.trans (if_pos ⟨hxe,Or.inr (Or.inl rfl)⟩))
     clear HD2 h0 hxe;go_wp2
     go_ret3
     exact⟨⟨#[]⟩,⟨#[]⟩,by rw[HE.out];rfl,by rw[HE.out];rfl,by rw[HE.out];rfl,by decide,by decide,HNX.out⟩
   ·have h0':=Ze h0
    have HD:=Za (HD2.out.trans (if_neg (fun h=>ZcC h0 h.1)))
    clear HD2 h0;go_wp2_with fail
    refine(Ziz x sp _ (by omega) (HTB.out.on HNX.out)).mono ?_
    rintro e w5 ⟨wr,rfl,hwr,hn5⟩
    have hwl:wr.size≤300000:=by rw[←tl_length,hwr];exact ZfS (by rw[tl_length];omega)
    have HNX5:=Za (HNX.out.then hn5);rw[←hwr]at HD;clear hn5 hwr;generalize (ZI (tl x) sp).2=err at *
    by_cases he:err=0
    ·subst he
     have HE:=Za (HD.out.trans (if_neg (by intro h;exact h rfl)))
     clear HD;go_wp2
     go_ret3
     exact⟨wr,y,by rw[HE.out];rfl,by rw[HE.out],by rw[HE.out],hwl,by omega,HNX5.out⟩
    ·have HE:=Za (HD.out.trans (if_pos he))
     have he':(err != 0)=true:=Zd9 (beq_eq_false_iff_ne.2 he);clear HD he;go_wp2
     go_ret3
     exact⟨⟨#[]⟩,⟨#[]⟩,by rw[HE.out];rfl,by rw[HE.out];rfl,by rw[HE.out];rfl,by decide,by decide,HNX5.out⟩
  ·cases ported
   ·have HE:=Za (HD1.out.trans (if_pos ⟨rfl,rfl⟩))
    clear HD1;go_wp2
    go_ret3
    exact⟨⟨#[]⟩,⟨#[]⟩,by rw[HE.out];rfl,by rw[HE.out];rfl,by rw[HE.out];rfl,by decide,by decide,HNX.out⟩
   ·have HD2:=Za (HD1.out.trans (if_neg (by rintro⟨-,h⟩;cases h)))
    clear HD1
    by_cases h0:x.size=0
    ·have h0':=Zf h0
     have HE:=Za (HD2.out.trans (if_pos ⟨Zz h0,Or.inl rfl⟩));clear HD2 h0;go_wp2
     go_ret3
     exact⟨⟨#[]⟩,⟨#[]⟩,by rw[HE.out];rfl,by rw[HE.out];rfl,by rw[HE.out];rfl,by decide,by decide,HNX.out⟩
    ·have h0':=Ze h0
     have HD:=Za (HD2.out.trans (if_neg (fun h=>ZcC h0 h.1)))
     clear HD2 h0;go_wp2_with fail
     refine(Ziz x sp _ (by omega) (HTB.out.on HNX.out)).mono ?_
     rintro e w5 ⟨wr,rfl,hwr,hn5⟩
     have hwl:wr.size≤300000:=by rw[←tl_length,hwr];exact ZfS (by rw[tl_length];omega)
     have HNX5:=Za (HNX.out.then hn5);rw[←hwr]at HD;clear hn5 hwr;generalize (ZI (tl x) sp).2=err at *
     by_cases he:err=0
     ·subst he
      have HE:=Za (HD.out.trans (if_neg (by intro h;exact h rfl)))
      clear HD;go_wp2
      go_ret3
      exact⟨wr,y,by rw[HE.out];rfl,by rw[HE.out],by rw[HE.out],hwl,by omega,HNX5.out⟩
     ·have HE:=Za (HD.out.trans (if_pos he))
      have he':(err != 0)=true:=Zd9 (beq_eq_false_iff_ne.2 he);clear HD he;go_wp2
      go_ret3
      exact⟨⟨#[]⟩,⟨#[]⟩,by rw[HE.out];rfl,by rw[HE.out];rfl,by rw[HE.out];rfl,by decide,by decide,HNX5.out⟩
def ZuN(u:U)(l:List UInt8)(ported:Bool):U×Int:=
 if u.op=true then(u,0)else if(ZuG u l ported).2.2=2 then(u,0)else if(ZuG u l ported).2.2≠0 then(zeroU,(ZuG u l ported).2.2)
 else(ZuQ { u with hh:=true,host:=(ZuG u l ported).1 } (ZuG u l ported).2.1,0)
theorem Zwc(ru:Rc)(u:U)(bs:LA)(s:BA)(ported:Bool)(w:World)(h:RcIs w ru u bs)(ht:Tb w)(hs:s.size≤29000):Calls Tryz.prog 207 #[.agg #[.string ru.sch,.string ru.nam,.string ru.pw,.bool ru.hh,.string ru.host,.bool ru.hp,.int .i64 (ru.port:Int),.bool ru.op,.string ru.opath,.slice ru.so ru.sn ru.sc,.bool ru.hq,.string ru.q,.bool ru.hf,.string ru.fr],.string s,.bool ported] w fun e w'=>Zfc e w' (ZuN u (tl s) ported) bs.length∧Nx w w':=by
 have HR:=Za h;have HTB:=Za ht
 have HP:=Za (fun w' (hn:Nx w w')=>ZwZ ru bs s ported w' (ht.on hn) hs)
 have HD0:=Za (show ZuN u (tl s) ported=if ru.op=true then(u,0)else if(ZuG (ru.u bs) (tl s) ported).2.2=2 then(u,0)else if(ZuG (ru.u bs) (tl s) ported).2.2≠0 then(zeroU,(ZuG (ru.u bs) (tl s) ported).2.2)else(ZuQ { u with hh:=true,host:=(ZuG (ru.u bs) (tl s) ported).1 } (ZuG (ru.u bs) (tl s) ported).2.1,0)by rw[h.eq,←h.eq];rfl)
 clear h ht;obtain⟨sch,nam,pw,hh,host,hp,port,op,opath,so,sn,sc,hq,q,hf,fr⟩:=ru;simp only at *
 cases op
 ·have HD1:=Za (HD0.out.trans (if_neg (by decide)))
  clear HD0;generalize ZuG (Rc.u ⟨sch,nam,pw,hh,host,hp,port,false,opath,so,sn,sc,hq,q,hf,fr⟩ bs) (tl s) ported=y at *;obtain⟨y1,y2,err⟩:=y;simp only at HD1 HP
  go_enter Tryz.func207,Tryz.ntmps207
  go_upto_region 1 with fail;obtain⟨g1,g2,g3⟩:=Zcb (w:=w) (ru:=⟨sch,nam,pw,hh,host,hp,port,false,opath,so,sn,sc,hq,q,hf,fr⟩) Nx.rfl;have HUB:=Za g1;have HZ:=Za g2;have HN:=Za g3;clear g1 g2 g3;generalize ((w.alloc (Obj.cells #[.string sch,.string nam,.string pw,.bool hh,.string host,.bool hp,.int .i64 (port:Int),.bool false,.string opath,.slice so sn sc,.bool hq,.string q,.bool hf,.string fr] 101)).alloc (Obj.cells #[.string ⟨#[]⟩,.string ⟨#[]⟩,.string ⟨#[]⟩,.bool false,.string ⟨#[]⟩,.bool false,.int .i64 0,.bool false,.string ⟨#[]⟩,.slice none 0 0,.bool false,.string ⟨#[]⟩,.bool false,.string ⟨#[]⟩] 101))=w1 at *;obtain⟨a0,a1,a2,a3,a4,a5,a6,a7,a8,a9,a10,a11,a12,a13⟩:=HUB.out.cells;simp only at a0 a1 a2 a3 a4 a5 a6 a7 a8 a9 a10 a11 a12 a13;go_wp2_with fail
  refine(HP.out _ HN.out).mono ?_
  rintro e w2 ⟨a,b,rfl,ha,hb,hal,hbl,hn2⟩;rw[←ha,←hb]at HD1;have HUB2:=Za (HUB.out.on hn2);have HZ2:=Za (HZ.out.on hn2);have HN2:=Za (HN.out.then hn2);have HR2:=Za (HR.out.on HN2.out);clear ha hb hn2 HUB HZ HN;clear a0 a1 a2 a3 a4 a5 a6 a7 a8 a9 a10 a11 a12 a13;obtain⟨a0,a1,a2,a3,a4,a5,a6,a7,a8,a9,a10,a11,a12,a13⟩:=HUB2.out.cells;have af3:=HUB2.out.free 3;have af4:=HUB2.out.free 4;obtain⟨z0,z1,z2,z3,z4,z5,z6,z7,z8,z9,z10,z11,z12,z13⟩:=HZ2.out.cells;have zf0:=HZ2.out.free 0;have zf1:=HZ2.out.free 1;have zf2:=HZ2.out.free 2;have zf3:=HZ2.out.free 3;have zf4:=HZ2.out.free 4;have zf5:=HZ2.out.free 5;have zf6:=HZ2.out.free 6;have zf7:=HZ2.out.free 7;have zf8:=HZ2.out.free 8;have zf9:=HZ2.out.free 9;have zf10:=HZ2.out.free 10;have zf11:=HZ2.out.free 11;have zf12:=HZ2.out.free 12;have zf13:=HZ2.out.free 13;simp only at a0 a1 a2 a3 a4 a5 a6 a7 a8 a9 a10 a11 a12 a13
  by_cases h2:err=2
  ·have HE:=Za (HD1.out.trans (if_pos h2))
   have h2':(err==2)=true:=by rw[h2];rfl
   clear HD1 h2;go_wp2
   exact Z9 (rb:=w.heap.size+1) Tryz.results207 rfl rfl (RecB.put HZ2.out _ _ _ _ _ _ _ _ _ _ _ _ _ _) rfl ⟨⟨⟨sch,nam,pw,hh,host,hp,port,false,opath,so,sn,sc,hq,q,hf,fr⟩,bs,(by rw[HE.out];first|done|rfl),(by rw[HE.out];exact HR2.out.ks (Ks.then Ks.rfl (Zq HZ2.out.ty (by decide) _ _ _ _ _ _ _ _ _ _ _ _ _ _))),by simp⟩,(Zd HN2.out (by omega) _ _ _ _ _ _ _ _ _ _ _ _ _ _)⟩
  ·have HD2:=Za (HD1.out.trans (if_neg h2))
   have h2':(err==2)=false:=beq_eq_false_iff_ne.2 h2;clear HD1 h2
   by_cases he:err=0
   ·subst he
    have HE:=Za (HD2.out.trans (if_neg (by intro x;exact x rfl)))
    clear HD2;go_wp2_with fail
    refine(ZvT ⟨sch,nam,pw,true,a,hp,port,false,opath,so,sn,sc,hq,q,hf,fr⟩ { u with hh:=true,host:=tl a } bs b _ (RcIs.ks { HR2.out with eq:=by rw[←HR2.out.eq];rfl,lhost:=hal } (Ks.then (Ks.then Ks.rfl (ZW HUB2.out.ty (by decide) 3 (.bool true))) (ZW (HUB2.out.ty.set w.heap.size 3 (.bool true)) (by decide) 4 (.string a)))) hbl).mono ?_
    rintro e w3 ⟨r3,rfl,hr3,hn3⟩;have HR3:=Za hr3
    have HZ3:=Za ((HZ2.out.far (q:=w.heap.size) (by omega) 3 (.bool true)).far (q:=w.heap.size) (by omega) 4 (.string a) |>.on hn3)
    have HN3:=Za (show Nx w w3 from Nx.then (show Nx w _ from Below.setCell (p:=⟨w.heap.size,4,none⟩) (Below.setCell (p:=⟨w.heap.size,3,none⟩) HN2.out (Xa _) (.bool true)) (Xa _) (.string a)) hn3);clear hr3 hn3;clear a0 a1 a2 a3 a4 a5 a6 a7 a8 a9 a10 a11 a12 a13 af3 af4 z0 z1 z2 z3 z4 z5 z6 z7 z8 z9 z10 z11 z12 z13 zf0 zf1 zf2 zf3 zf4 zf5 zf6 zf7 zf8 zf9 zf10 zf11 zf12 zf13;obtain⟨z0,z1,z2,z3,z4,z5,z6,z7,z8,z9,z10,z11,z12,z13⟩:=HZ3.out.cells;have zf0:=HZ3.out.free 0;have zf1:=HZ3.out.free 1;have zf2:=HZ3.out.free 2;have zf3:=HZ3.out.free 3;have zf4:=HZ3.out.free 4;have zf5:=HZ3.out.free 5;have zf6:=HZ3.out.free 6;have zf7:=HZ3.out.free 7;have zf8:=HZ3.out.free 8;have zf9:=HZ3.out.free 9;have zf10:=HZ3.out.free 10;have zf11:=HZ3.out.free 11;have zf12:=HZ3.out.free 12;have zf13:=HZ3.out.free 13;go_wp2
    exact Z9 (rb:=w.heap.size+1) Tryz.results207 rfl rfl (RecB.put HZ3.out _ _ _ _ _ _ _ _ _ _ _ _ _ _) rfl ⟨⟨r3,bs,(by rw[HE.out];first|done|rfl),(by rw[HE.out];exact HR3.out.ks (Ks.then Ks.rfl (Zq HZ3.out.ty (by decide) _ _ _ _ _ _ _ _ _ _ _ _ _ _))),by simp⟩,(Zd HN3.out (by omega) _ _ _ _ _ _ _ _ _ _ _ _ _ _)⟩
   ·have HE:=Za (HD2.out.trans (if_pos he))
    have he':(err != 0)=true:=Zd9 (beq_eq_false_iff_ne.2 he);clear HD2 he;go_wp2
    exact Z9 (rb:=w.heap.size+1) Tryz.results207 rfl rfl (RecB.put HZ2.out _ _ _ _ _ _ _ _ _ _ _ _ _ _) rfl ⟨⟨rz,[],(by rw[HE.out];first|done|rfl),(by rw[HE.out];exact Zc6 _),by simp⟩,(Zd HN2.out (by omega) _ _ _ _ _ _ _ _ _ _ _ _ _ _)⟩
 ·have HE:=Za (HD0.out.trans (if_pos rfl))
  clear HD0
  go_enter Tryz.func207,Tryz.ntmps207
  go_upto_region 1 with fail;obtain⟨g1,g2,g3⟩:=Zcb (w:=w) (ru:=⟨sch,nam,pw,hh,host,hp,port,true,opath,so,sn,sc,hq,q,hf,fr⟩) Nx.rfl;have HUB:=Za g1;have HZ:=Za g2;have HN:=Za g3;clear g1 g2 g3;generalize ((w.alloc (Obj.cells #[.string sch,.string nam,.string pw,.bool hh,.string host,.bool hp,.int .i64 (port:Int),.bool true,.string opath,.slice so sn sc,.bool hq,.string q,.bool hf,.string fr] 101)).alloc (Obj.cells #[.string ⟨#[]⟩,.string ⟨#[]⟩,.string ⟨#[]⟩,.bool false,.string ⟨#[]⟩,.bool false,.int .i64 0,.bool false,.string ⟨#[]⟩,.slice none 0 0,.bool false,.string ⟨#[]⟩,.bool false,.string ⟨#[]⟩] 101))=w1 at *;obtain⟨a0,a1,a2,a3,a4,a5,a6,a7,a8,a9,a10,a11,a12,a13⟩:=HUB.out.cells;obtain⟨z0,z1,z2,z3,z4,z5,z6,z7,z8,z9,z10,z11,z12,z13⟩:=HZ.out.cells;have zf0:=HZ.out.free 0;have zf1:=HZ.out.free 1;have zf2:=HZ.out.free 2;have zf3:=HZ.out.free 3;have zf4:=HZ.out.free 4;have zf5:=HZ.out.free 5;have zf6:=HZ.out.free 6;have zf7:=HZ.out.free 7;have zf8:=HZ.out.free 8;have zf9:=HZ.out.free 9;have zf10:=HZ.out.free 10;have zf11:=HZ.out.free 11;have zf12:=HZ.out.free 12;have zf13:=HZ.out.free 13;simp only at a0 a1 a2 a3 a4 a5 a6 a7 a8 a9 a10 a11 a12 a13;go_wp2
  exact Z9 (rb:=w.heap.size+1) Tryz.results207 rfl rfl (RecB.put HZ.out _ _ _ _ _ _ _ _ _ _ _ _ _ _) rfl ⟨⟨⟨sch,nam,pw,hh,host,hp,port,true,opath,so,sn,sc,hq,q,hf,fr⟩,bs,(by rw[HE.out];first|done|rfl),(by rw[HE.out];exact(HR.out.on HN.out).ks (Ks.then Ks.rfl (Zq HZ.out.ty (by decide) _ _ _ _ _ _ _ _ _ _ _ _ _ _))),by simp⟩,(Zd HN.out (by omega) _ _ _ _ _ _ _ _ _ _ _ _ _ _)⟩
end Go.Proofs.YtchkhibgbnhjpabGreatDoor
