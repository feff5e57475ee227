import Derived.Test.YtchkhibgbnhjpabGreatDoorV20
import Derived.Test.YtchkhibgbnhjpabGreatDoorT01
open Nat renaming le_refl→Xa,le_trans→Xb,zero_le→Xc
namespace Go.Proofs.YtchkhibgbnhjpabGreatDoor
open Go.RowKit
set_option maxHeartbeats 8000000
def Zu5(n:Int)(l:List UInt8):List UInt8:=if l≠[]∧((l.getD 0 0).toNat:Int)=n then l.drop 1 else l
theorem Zvs(n:Int)(l:LB):(Zu5 n l).length≤l.length:=by unfold Zu5;split<;>simp
theorem Zvv(s:BA)(n:Nat)(w:World)(hs:s.size≤1000000):Calls Tryz.prog 283 #[.string s,.int .u8 (n:Int)] w fun e w'=>∃r:BA,e=.returned (.string r)∧tl r=noBreaks (Zu5 n (tl s))∧Nx w w':=by
 by_cases h0:s.size=0
 ·have HE:=Za (show Zu5 n (tl s)=tl s by unfold Zu5;rw[if_neg (fun x=>x.1 (Zz h0))])
  have h0':=Zf h0;clear h0
  go_enter Tryz.func283,Tryz.ntmps283
  go_wp2_with fail
  refine(ZiC s _ (by omega)).mono ?_
  rintro e w1 ⟨r,rfl,hr,hn1⟩;have HR:=Za hr;have HN:=Za hn1;clear hr hn1;go_wp2;go_ret
  exact⟨r,rfl,by rw[HE.out];exact HR.out,HN.out⟩
 ·have h0':=Ze h0
  have hpos:0<s.size:=by omega
  have hg:=Zcp s 0 hpos;have hne:=ZcC h0
  cases hc:((s[0].toNat:Int)==(n:Int))
  ·have HE:=Za (show Zu5 n (tl s)=tl s by unfold Zu5;rw[if_neg (fun x=>by rw[hg]at x;rw[x.2]at hc;simp at hc)])
   clear h0 hg hne
   go_enter Tryz.func283,Tryz.ntmps283
   go_wp2_with fail
   refine(ZiC s _ (by omega)).mono ?_
   rintro e w1 ⟨r,rfl,hr,hn1⟩;have HR:=Za hr;have HN:=Za hn1;clear hr hn1;go_wp2;go_ret
   exact⟨r,rfl,by rw[HE.out];exact HR.out,HN.out⟩
  ·have HE:=Za (show Zu5 n (tl s)=(tl s).drop 1 by unfold Zu5;rw[if_pos ⟨hne,by rw[hg];simpa using hc⟩])
   clear h0 hg hne
   go_enter Tryz.func283,Tryz.ntmps283
   go_wp2_with fail
   refine(ZiC (s.extract 1 s.size) _ (by rw[Zac];omega)).mono ?_
   rintro e w1 ⟨r,rfl,hr,hn1⟩;rw[ZaE]at hr;have HR:=Za hr;have HN:=Za hn1;clear hr hn1;go_wp2;go_ret
   exact⟨r,rfl,by rw[HE.out];exact HR.out,HN.out⟩
def Zym(l:List UInt8):List UInt8:=encB (tl (ZaN 1)) (clean (noBreaks (Zu5 35 l)))
theorem Zzf{l:LB}(h:l.length≤30000):(Zym l).length≤300000:=Zbc _ _ (Xb (Zdh _) (Xb (Zvs _ _) h))
theorem ZxJ(ru:Rc)(s:BA)(w:World)(h0:¬s.size=0)(hs:s.size≤30000):Calls Tryz.prog 244 #[.agg #[.string ru.sch,.string ru.nam,.string ru.pw,.bool ru.hh,.string ru.host,.bool ru.hp,.int .i64 (ru.port:Int),.bool ru.op,.string ru.opath,.slice ru.so ru.sn ru.sc,.bool ru.hq,.string ru.q,.bool ru.hf,.string ru.fr],.string s] w fun e w'=>∃r:Rc,e=.returned (.agg #[.string r.sch,.string r.nam,.string r.pw,.bool r.hh,.string r.host,.bool r.hp,.int .i64 (r.port:Int),.bool r.op,.string r.opath,.slice r.so r.sn r.sc,.bool r.hq,.string r.q,.bool r.hf,.string r.fr])∧(∃fr:BA,r={ ru with hf:=true,fr:=fr }∧tl fr=Zym (tl s)∧fr.size≤300000)∧Nx w w':=by
 have h0':=Ze h0;clear h0
 go_enter Tryz.func244,Tryz.ntmps244
 go_upto_region 1 with fail;obtain⟨g1,g2,g3⟩:=Zcb (w:=w) (ru:=ru) Nx.rfl;have HUB:=Za g1;have HZ:=Za g2;have HN:=Za g3;clear g1 g2 g3;generalize ((w.alloc (Obj.cells #[.string ru.sch,.string ru.nam,.string ru.pw,.bool ru.hh,.string ru.host,.bool ru.hp,.int .i64 (ru.port:Int),.bool ru.op,.string ru.opath,.slice ru.so ru.sn ru.sc,.bool ru.hq,.string ru.q,.bool ru.hf,.string ru.fr] 101)).alloc (Obj.cells #[.string ⟨#[]⟩,.string ⟨#[]⟩,.string ⟨#[]⟩,.bool false,.string ⟨#[]⟩,.bool false,.int .i64 0,.bool false,.string ⟨#[]⟩,.slice none 0 0,.bool false,.string ⟨#[]⟩,.bool false,.string ⟨#[]⟩] 101))=w1 at *;obtain⟨a0,a1,a2,a3,a4,a5,a6,a7,a8,a9,a10,a11,a12,a13⟩:=HUB.out.cells;have af12:=HUB.out.free 12;go_wp2_with fail
 refine(Zvv s 35 _ (by omega)).mono ?_
 rintro e w2 ⟨x,rfl,hx,hn2⟩;rw[show((35:Nat):Int)=35 from rfl]at hx
 have hxl:x.size≤30000:=by have h1:=Zdh (Zu5 35 (tl s));have h2:=Zvs 35 (tl s);rw[←hx,tl_length]at h1;rw[tl_length]at h2;omega
 have HX:=Za hx;have HUB2:=Za (HUB.out.on hn2);have HZ2:=Za (HZ.out.on hn2);have HN2:=Za (HN.out.then hn2);clear hx hn2 HUB HZ HN;clear a0 a1 a2 a3 a4 a5 a6 a7 a8 a9 a10 a11 a12 a13 af12;obtain⟨a0,a1,a2,a3,a4,a5,a6,a7,a8,a9,a10,a11,a12,a13⟩:=HUB2.out.cells;have af12:=HUB2.out.free 12;go_wp2_with fail
 refine(Zaw x 1 _ (by omega)).mono ?_
 rintro e w3 ⟨en,rfl,hen,hn3⟩
 have HEN:=Za (show tl en=Zym (tl s)by rw[hen,HX.out];rfl)
 have hel:en.size≤300000:=by rw[←tl_length,HEN.out];exact Zzf (by rw[tl_length];exact hs)
 have HUB3:=Za ((HUB2.out.s12 true).on hn3)
 have HZ3:=Za ((HZ2.out.far (q:=w.heap.size) (by omega) 12 (.bool true)).on hn3)
 have HN3:=Za (show Nx w w3 from Nx.then (show Nx w _ from Below.setCell (p:=⟨w.heap.size,12,none⟩) HN2.out (Xa _) (.bool true)) hn3);clear hen hn3 HUB2 HZ2 HN2 HX;clear a0 a1 a2 a3 a4 a5 a6 a7 a8 a9 a10 a11 a12 a13 af12;obtain⟨a0,a1,a2,a3,a4,a5,a6,a7,a8,a9,a10,a11,a12,a13⟩:=HUB3.out.cells;have af13:=HUB3.out.free 13;obtain⟨z0,z1,z2,z3,z4,z5,z6,z7,z8,z9,z10,z11,z12,z13⟩:=HZ3.out.cells;have zf0:=HZ3.out.free 0;have zf1:=HZ3.out.free 1;have zf2:=HZ3.out.free 2;have zf3:=HZ3.out.free 3;have zf4:=HZ3.out.free 4;have zf5:=HZ3.out.free 5;have zf6:=HZ3.out.free 6;have zf7:=HZ3.out.free 7;have zf8:=HZ3.out.free 8;have zf9:=HZ3.out.free 9;have zf10:=HZ3.out.free 10;have zf11:=HZ3.out.free 11;have zf12:=HZ3.out.free 12;have zf13:=HZ3.out.free 13;go_wp2
 refine Zc4 (rb:=w.heap.size+1) Tryz.results244 rfl (RecB.put (HZ3.out.far (by omega) 13 _) _ _ _ _ _ _ _ _ _ _ _ _ _ _) rfl ⟨{ ru with hf:=true,fr:=en },rfl,⟨en,rfl,HEN.out,hel⟩,(Zd (Below.setCell HN3.out (Xa _) _) (by omega) _ _ _ _ _ _ _ _ _ _ _ _ _ _)⟩
def ZuY(u:U):Bool:=!(u.nam.isEmpty&&u.pw.isEmpty)
theorem tl_isEmpty(s:BA):(tl s).isEmpty=decide (s.size=0):=by
 by_cases h:s.size=0
 ·rw[decide_eq_true h,Zz h];rfl
 ·rw[decide_eq_false h]
  cases hh:tl s with
  | nil=>exact absurd hh (ZcC h)
  | cons c r=>rfl
theorem Zv9(ru:Rc)(bs:LA)(w:World):Calls Tryz.prog 276 #[.agg #[.string ru.sch,.string ru.nam,.string ru.pw,.bool ru.hh,.string ru.host,.bool ru.hp,.int .i64 (ru.port:Int),.bool ru.op,.string ru.opath,.slice ru.so ru.sn ru.sc,.bool ru.hq,.string ru.q,.bool ru.hf,.string ru.fr]] w fun e w'=>e=.returned (.bool (ZuY (ru.u bs)))∧Nx w w':=by
 have HD:=Za (show ZuY (ru.u bs)=!((tl ru.nam).isEmpty&&(tl ru.pw).isEmpty)from rfl);rw[tl_isEmpty,tl_isEmpty]at HD
 by_cases h1:ru.nam.size=0
 ·have h1':=Zf h1
  by_cases h2:ru.pw.size=0
  ·have h2':=Zf h2
   have HE:=Za (show ZuY (ru.u bs)=false by rw[HD.out,decide_eq_true h1,decide_eq_true h2];rfl)
   clear HD h1 h2
   go_enter Tryz.func276,Tryz.ntmps276
   go_wp2;go_ret;exact⟨Zi HE.out.symm,Nx.rfl.alloc _⟩
  ·have h2':=Ze h2
   have HE:=Za (show ZuY (ru.u bs)=true by rw[HD.out,decide_eq_true h1,decide_eq_false h2];rfl)
   clear HD h1 h2
   go_enter Tryz.func276,Tryz.ntmps276
   go_wp2;go_ret;exact⟨Zi HE.out.symm,Nx.rfl.alloc _⟩
 ·have h1':=Ze h1
  have HE:=Za (show ZuY (ru.u bs)=true by rw[HD.out,decide_eq_false h1];rfl)
  clear HD h1
  go_enter Tryz.func276,Tryz.ntmps276
  go_wp2;go_ret;exact⟨Zi HE.out.symm,Nx.rfl.alloc _⟩
def ZuR(u:U):Bool:=!u.host.isEmpty&&u.sch != Zw
theorem Zwa(ru:Rc)(bs:LA)(w:World):Calls Tryz.prog 281 #[.agg #[.string ru.sch,.string ru.nam,.string ru.pw,.bool ru.hh,.string ru.host,.bool ru.hp,.int .i64 (ru.port:Int),.bool ru.op,.string ru.opath,.slice ru.so ru.sn ru.sc,.bool ru.hq,.string ru.q,.bool ru.hf,.string ru.fr]] w fun e w'=>e=.returned (.bool (ZuR (ru.u bs)))∧Nx w w':=by
 have HD:=Za (show ZuR (ru.u bs)=(!(tl ru.host).isEmpty&&tl ru.sch != Zw)from rfl);rw[tl_isEmpty]at HD
 by_cases h1:ru.host.size=0
 ·have h1':=Zf h1
  have HE:=Za (show ZuR (ru.u bs)=false by rw[HD.out,decide_eq_true h1];rfl)
  clear HD h1
  go_enter Tryz.func281,Tryz.ntmps281
  go_wp2;go_ret;exact⟨Zi HE.out.symm,Nx.rfl.alloc _⟩
 ·have h1':=Ze h1
  by_cases hf:tl ru.sch=Zw
  ·have hf1:=eqB hf
   unfold Zw at hf1
   have hf2:(ru.sch.toList != [102,105,108,101])=false:=by simp only[bne,hf1];rfl
   have HE:=Za (show ZuR (ru.u bs)=false by rw[HD.out,decide_eq_false h1,hf];decide)
   clear HD h1 hf
   go_enter Tryz.func281,Tryz.ntmps281
   go_wp2;go_ret;exact⟨Zi HE.out.symm,Nx.rfl.alloc _⟩
  ·have hf1:=neB hf
   unfold Zw at hf1
   have hf2:(ru.sch.toList != [102,105,108,101])=true:=by simp only[bne,hf1];rfl
   have HE:=Za (show ZuR (ru.u bs)=true by rw[HD.out,decide_eq_false h1];simp only[bne,beq_eq_false_iff_ne.2 hf];rfl)
   clear HD h1 hf
   go_enter Tryz.func281,Tryz.ntmps281
   go_wp2;go_ret;exact⟨Zi HE.out.symm,Nx.rfl.alloc _⟩
def Zvw(u:U):U:=Zbe { u with hf:=false,fr:=[] }
theorem Zyn(ru:Rc)(bs:LA)(w:World)(hl:ru.opath.size≤300000):Calls Tryz.prog 284 #[.agg #[.string ru.sch,.string ru.nam,.string ru.pw,.bool ru.hh,.string ru.host,.bool ru.hp,.int .i64 (ru.port:Int),.bool ru.op,.string ru.opath,.slice ru.so ru.sn ru.sc,.bool ru.hq,.string ru.q,.bool ru.hf,.string ru.fr]] w fun e w'=>∃r:Rc,e=.returned (.agg #[.string r.sch,.string r.nam,.string r.pw,.bool r.hh,.string r.host,.bool r.hp,.int .i64 (r.port:Int),.bool r.op,.string r.opath,.slice r.so r.sn r.sc,.bool r.hq,.string r.q,.bool r.hf,.string r.fr])∧(∃p:BA,r={ ru with hf:=false,fr:=⟨#[]⟩,opath:=p }∧p.size≤300000∧(r.u bs)=Zvw (ru.u bs))∧Nx w w':=by
 have HB:=Za (fun w'=>Zi4 { ru with hf:=false,fr:=⟨#[]⟩ } bs w' hl)
 go_enter Tryz.func284,Tryz.ntmps284
 go_upto_region 1 with fail;obtain⟨g1,g2,g3⟩:=Zcb (w:=w) (ru:=ru) Nx.rfl;have HUB:=Za g1;have HZ:=Za g2;have HN:=Za g3;clear g1 g2 g3;generalize ((w.alloc (Obj.cells #[.string ru.sch,.string ru.nam,.string ru.pw,.bool ru.hh,.string ru.host,.bool ru.hp,.int .i64 (ru.port:Int),.bool ru.op,.string ru.opath,.slice ru.so ru.sn ru.sc,.bool ru.hq,.string ru.q,.bool ru.hf,.string ru.fr] 101)).alloc (Obj.cells #[.string ⟨#[]⟩,.string ⟨#[]⟩,.string ⟨#[]⟩,.bool false,.string ⟨#[]⟩,.bool false,.int .i64 0,.bool false,.string ⟨#[]⟩,.slice none 0 0,.bool false,.string ⟨#[]⟩,.bool false,.string ⟨#[]⟩] 101))=w1 at *;obtain⟨a0,a1,a2,a3,a4,a5,a6,a7,a8,a9,a10,a11,a12,a13⟩:=HUB.out.cells;have af12:=HUB.out.free 12;have af13:=HUB.out.free 13;go_wp2_with fail
 refine(HB.out _).mono ?_
 rintro e w2 ⟨r,rfl,⟨p,hp1,hp2,hp3⟩,hn2⟩;have HP1:=Za hp1;have HP3:=Za hp3
 have HZ2:=Za (RecB.on ((HZ.out.far (by omega) 12 _).far (by omega) 13 _) hn2)
 have HN2:=Za (show Nx w w2 from Nx.then (show Nx w _ from(Below.setCell (p:=⟨w.heap.size,13,none⟩) (Below.setCell (p:=⟨w.heap.size,12,none⟩) HN.out (Xa _) _) (Xa _) _)) hn2);clear hp1 hp3 hn2;clear a0 a1 a2 a3 a4 a5 a6 a7 a8 a9 a10 a11 a12 a13 af12 af13;obtain⟨z0,z1,z2,z3,z4,z5,z6,z7,z8,z9,z10,z11,z12,z13⟩:=HZ2.out.cells;have zf0:=HZ2.out.free 0;have zf1:=HZ2.out.free 1;have zf2:=HZ2.out.free 2;have zf3:=HZ2.out.free 3;have zf4:=HZ2.out.free 4;have zf5:=HZ2.out.free 5;have zf6:=HZ2.out.free 6;have zf7:=HZ2.out.free 7;have zf8:=HZ2.out.free 8;have zf9:=HZ2.out.free 9;have zf10:=HZ2.out.free 10;have zf11:=HZ2.out.free 11;have zf12:=HZ2.out.free 12;have zf13:=HZ2.out.free 13;go_wp2
 exact Zc4 (rb:=w.heap.size+1) Tryz.results284 rfl (RecB.put HZ2.out _ _ _ _ _ _ _ _ _ _ _ _ _ _) rfl ⟨r,rfl,⟨p,HP1.out,hp2,HP3.out⟩,(Zd HN2.out (by omega) _ _ _ _ _ _ _ _ _ _ _ _ _ _)⟩
def ZuS(u:U)(l:List UInt8):U:=if l=[]then Zvw u else { u with hf:=true,fr:=Zym l }
theorem Zxk(ru:Rc)(bs:LA)(s:BA)(w:World)(hl:ru.opath.size≤300000)(hs:s.size≤30000):Calls Tryz.prog 244 #[.agg #[.string ru.sch,.string ru.nam,.string ru.pw,.bool ru.hh,.string ru.host,.bool ru.hp,.int .i64 (ru.port:Int),.bool ru.op,.string ru.opath,.slice ru.so ru.sn ru.sc,.bool ru.hq,.string ru.q,.bool ru.hf,.string ru.fr],.string s] w fun e w'=>∃r:Rc,e=.returned (.agg #[.string r.sch,.string r.nam,.string r.pw,.bool r.hh,.string r.host,.bool r.hp,.int .i64 (r.port:Int),.bool r.op,.string r.opath,.slice r.so r.sn r.sc,.bool r.hq,.string r.q,.bool r.hf,.string r.fr])∧(∃(a:Bool) (x p:BA),r={ ru with hf:=a,fr:=x,opath:=p }∧x.size≤300000∧p.size≤300000∧(r.u bs)=ZuS (ru.u bs) (tl s))∧Nx w w':=by
 by_cases h0:s.size=0
 ·have HE:=Za (show ZuS (ru.u bs) (tl s)=Zvw (ru.u bs)from if_pos (Zz h0))
  have h0':=Zf h0
  have HB:=Za (fun w'=>Zyn ru bs w' hl)
  clear h0
  go_enter Tryz.func244,Tryz.ntmps244
  go_upto_region 1 with fail;obtain⟨g1,g2,g3⟩:=Zcb (w:=w) (ru:=ru) Nx.rfl;have HUB:=Za g1;have HZ:=Za g2;have HN:=Za g3;clear g1 g2 g3;generalize ((w.alloc (Obj.cells #[.string ru.sch,.string ru.nam,.string ru.pw,.bool ru.hh,.string ru.host,.bool ru.hp,.int .i64 (ru.port:Int),.bool ru.op,.string ru.opath,.slice ru.so ru.sn ru.sc,.bool ru.hq,.string ru.q,.bool ru.hf,.string ru.fr] 101)).alloc (Obj.cells #[.string ⟨#[]⟩,.string ⟨#[]⟩,.string ⟨#[]⟩,.bool false,.string ⟨#[]⟩,.bool false,.int .i64 0,.bool false,.string ⟨#[]⟩,.slice none 0 0,.bool false,.string ⟨#[]⟩,.bool false,.string ⟨#[]⟩] 101))=w1 at *;obtain⟨a0,a1,a2,a3,a4,a5,a6,a7,a8,a9,a10,a11,a12,a13⟩:=HUB.out.cells;go_wp2_with fail
  refine(HB.out _).mono ?_
  rintro e w2 ⟨r,rfl,⟨p,hp1,hp2,hp3⟩,hn2⟩;have HP1:=Za hp1;have HP3:=Za hp3;have HZ2:=Za (HZ.out.on hn2);have HN2:=Za (HN.out.then hn2);clear hp1 hp3 hn2;clear a0 a1 a2 a3 a4 a5 a6 a7 a8 a9 a10 a11 a12 a13;obtain⟨z0,z1,z2,z3,z4,z5,z6,z7,z8,z9,z10,z11,z12,z13⟩:=HZ2.out.cells;have zf0:=HZ2.out.free 0;have zf1:=HZ2.out.free 1;have zf2:=HZ2.out.free 2;have zf3:=HZ2.out.free 3;have zf4:=HZ2.out.free 4;have zf5:=HZ2.out.free 5;have zf6:=HZ2.out.free 6;have zf7:=HZ2.out.free 7;have zf8:=HZ2.out.free 8;have zf9:=HZ2.out.free 9;have zf10:=HZ2.out.free 10;have zf11:=HZ2.out.free 11;have zf12:=HZ2.out.free 12;have zf13:=HZ2.out.free 13;go_wp2
  exact Zc4 (rb:=w.heap.size+1) Tryz.results244 rfl (RecB.put HZ2.out _ _ _ _ _ _ _ _ _ _ _ _ _ _) rfl ⟨r,rfl,⟨false,⟨#[]⟩,p,HP1.out,by decide,hp2,HP3.out.trans HE.out.symm⟩,(Zd HN2.out (by omega) _ _ _ _ _ _ _ _ _ _ _ _ _ _)⟩
 ·refine(ZxJ ru s w h0 hs).mono ?_
  rintro e w' ⟨r,rfl,⟨x,h1,h2,h3⟩,hn⟩
  refine⟨r,rfl,⟨true,x,ru.opath,by rw[h1],h3,hl,?_⟩,hn⟩
  rw[h1]
  show _=ZuS _ _
  unfold ZuS;rw[if_neg (ZcC h0),←h2]
  rfl
def ZuK(u:U)(k:Int)(l:List UInt8):U:=if ZuR u=false then u else if k=2 then { u with nam:=Zgn l }else { u with pw:=Zgn l }
theorem Zwb(ru:Rc)(bs:LA)(k:Int)(s:BA)(w:World)(hn0:ru.nam.size≤300000)(hp0:ru.pw.size≤300000)(hs:s.size≤30000):Calls Tryz.prog 240 #[.agg #[.string ru.sch,.string ru.nam,.string ru.pw,.bool ru.hh,.string ru.host,.bool ru.hp,.int .i64 (ru.port:Int),.bool ru.op,.string ru.opath,.slice ru.so ru.sn ru.sc,.bool ru.hq,.string ru.q,.bool ru.hf,.string ru.fr],.int .i64 k,.string s] w fun e w'=>∃r:Rc,e=.returned (.agg #[.string r.sch,.string r.nam,.string r.pw,.bool r.hh,.string r.host,.bool r.hp,.int .i64 (r.port:Int),.bool r.op,.string r.opath,.slice r.so r.sn r.sc,.bool r.hq,.string r.q,.bool r.hf,.string r.fr])∧(∃(x p:BA),r={ ru with nam:=x,pw:=p }∧x.size≤300000∧p.size≤300000∧(r.u bs)=ZuK (ru.u bs) k (tl s))∧Nx w w':=by
 have HD:=Za (show ZuK (ru.u bs) k (tl s)=if ZuR (ru.u bs)=false then ru.u bs else if k=2 then { ru.u bs with nam:=Zgn (tl s) }else { ru.u bs with pw:=Zgn (tl s) }from rfl)
 have HMP:=Za (Zwa ru bs);generalize ZuR (ru.u bs)=b at *
 go_enter Tryz.func240,Tryz.ntmps240
 go_upto_region 1 with fail;obtain⟨g1,g2,g3⟩:=Zcb (w:=w) (ru:=ru) Nx.rfl;have HUB:=Za g1;have HZ:=Za g2;have HN:=Za g3;clear g1 g2 g3;generalize ((w.alloc (Obj.cells #[.string ru.sch,.string ru.nam,.string ru.pw,.bool ru.hh,.string ru.host,.bool ru.hp,.int .i64 (ru.port:Int),.bool ru.op,.string ru.opath,.slice ru.so ru.sn ru.sc,.bool ru.hq,.string ru.q,.bool ru.hf,.string ru.fr] 101)).alloc (Obj.cells #[.string ⟨#[]⟩,.string ⟨#[]⟩,.string ⟨#[]⟩,.bool false,.string ⟨#[]⟩,.bool false,.int .i64 0,.bool false,.string ⟨#[]⟩,.slice none 0 0,.bool false,.string ⟨#[]⟩,.bool false,.string ⟨#[]⟩] 101))=w1 at *;obtain⟨a0,a1,a2,a3,a4,a5,a6,a7,a8,a9,a10,a11,a12,a13⟩:=HUB.out.cells;go_wp2_with fail
 refine(HMP.out _).mono ?_
 rintro e w2 ⟨rfl,hn2⟩;have HUB2:=Za (HUB.out.on hn2);have HZ2:=Za (HZ.out.on hn2);have HN2:=Za (HN.out.then hn2);clear hn2 HUB HZ HN HMP;clear a0 a1 a2 a3 a4 a5 a6 a7 a8 a9 a10 a11 a12 a13;obtain⟨a0,a1,a2,a3,a4,a5,a6,a7,a8,a9,a10,a11,a12,a13⟩:=HUB2.out.cells;have af1:=HUB2.out.free 1;have af2:=HUB2.out.free 2;obtain⟨z0,z1,z2,z3,z4,z5,z6,z7,z8,z9,z10,z11,z12,z13⟩:=HZ2.out.cells;have zf0:=HZ2.out.free 0;have zf1:=HZ2.out.free 1;have zf2:=HZ2.out.free 2;have zf3:=HZ2.out.free 3;have zf4:=HZ2.out.free 4;have zf5:=HZ2.out.free 5;have zf6:=HZ2.out.free 6;have zf7:=HZ2.out.free 7;have zf8:=HZ2.out.free 8;have zf9:=HZ2.out.free 9;have zf10:=HZ2.out.free 10;have zf11:=HZ2.out.free 11;have zf12:=HZ2.out.free 12;have zf13:=HZ2.out.free 13
 cases b
 ·have HE:=Za (HD.out.trans (if_pos rfl))
  clear HD;go_wp2
  exact Zc4 (rb:=w.heap.size+1) Tryz.results240 rfl (RecB.put HZ2.out _ _ _ _ _ _ _ _ _ _ _ _ _ _) rfl ⟨ru,rfl,⟨ru.nam,ru.pw,rfl,hn0,hp0,HE.out.symm⟩,(Zd HN2.out (by omega) _ _ _ _ _ _ _ _ _ _ _ _ _ _)⟩
 ·have HE:=Za (HD.out.trans (if_neg (by decide)))
  clear HD;go_wp2_with fail
  refine(Zaw s 5 _ (by omega)).mono ?_
  rintro e w3 ⟨en,rfl,hen,hn3⟩
  have hel:en.size≤300000:=by rw[←tl_length,hen];exact Zbc _ _ (by rw[tl_length];exact hs)
  have HEN:=Za (show tl en=Zgn (tl s)from hen);have HUB3:=Za (HUB2.out.on hn3);have HZ3:=Za (HZ2.out.on hn3);have HN3:=Za (HN2.out.then hn3);clear hen hn3 HUB2 HZ2 HN2;clear a0 a1 a2 a3 a4 a5 a6 a7 a8 a9 a10 a11 a12 a13 af1 af2 z0 z1 z2 z3 z4 z5 z6 z7 z8 z9 z10 z11 z12 z13 zf0 zf1 zf2 zf3 zf4 zf5 zf6 zf7 zf8 zf9 zf10 zf11 zf12 zf13;obtain⟨a0,a1,a2,a3,a4,a5,a6,a7,a8,a9,a10,a11,a12,a13⟩:=HUB3.out.cells;have af1:=HUB3.out.free 1;have af2:=HUB3.out.free 2;obtain⟨z0,z1,z2,z3,z4,z5,z6,z7,z8,z9,z10,z11,z12,z13⟩:=HZ3.out.cells;have zf0:=HZ3.out.free 0;have zf1:=HZ3.out.free 1;have zf2:=HZ3.out.free 2;have zf3:=HZ3.out.free 3;have zf4:=HZ3.out.free 4;have zf5:=HZ3.out.free 5;have zf6:=HZ3.out.free 6;have zf7:=HZ3.out.free 7;have zf8:=HZ3.out.free 8;have zf9:=HZ3.out.free 9;have zf10:=HZ3.out.free 10;have zf11:=HZ3.out.free 11;have zf12:=HZ3.out.free 12;have zf13:=HZ3.out.free 13
  by_cases hk:k=2
  ·have HE2:=Za (HE.out.trans (if_pos hk))
   have hkb:(k==2)=true:=by rw[hk];rfl
   clear hk HE;go_wp2
   exact Zc4 (rb:=w.heap.size+1) Tryz.results240 rfl (RecB.put (HZ3.out.far (by omega) 1 _) _ _ _ _ _ _ _ _ _ _ _ _ _ _) rfl ⟨{ ru with nam:=en },rfl,⟨en,ru.pw,rfl,hel,hp0,by rw[HE2.out,←HEN.out];rfl⟩,(Zd (Below.setCell HN3.out (Xa _) _) (by omega) _ _ _ _ _ _ _ _ _ _ _ _ _ _)⟩
  ·have HE2:=Za (HE.out.trans (if_neg hk))
   have hkb:(k==2)=false:=beq_eq_false_iff_ne.2 hk;clear hk HE;go_wp2
   exact Zc4 (rb:=w.heap.size+1) Tryz.results240 rfl (RecB.put (HZ3.out.far (by omega) 2 _) _ _ _ _ _ _ _ _ _ _ _ _ _ _) rfl ⟨{ ru with pw:=en },rfl,⟨ru.nam,en,rfl,hn0,hel,by rw[HE2.out,←HEN.out];rfl⟩,(Zd (Below.setCell HN3.out (Xa _) _) (by omega) _ _ _ _ _ _ _ _ _ _ _ _ _ _)⟩
def ZvA(sch l:List UInt8):List UInt8:=encB (tl (ZaN (Zbr sch))) (clean (noBreaks (Zu5 63 l)))
def ZuL(u:U)(l:List UInt8):U:=if l=[]then ZbZ u else { u with hq:=true,q:=ZvA u.sch l }
theorem ZwX(ru:Rc)(bs:LA)(s:BA)(w:World)(hl:ru.opath.size≤300000)(hs:s.size≤30000):Calls Tryz.prog 243 #[.agg #[.string ru.sch,.string ru.nam,.string ru.pw,.bool ru.hh,.string ru.host,.bool ru.hp,.int .i64 (ru.port:Int),.bool ru.op,.string ru.opath,.slice ru.so ru.sn ru.sc,.bool ru.hq,.string ru.q,.bool ru.hf,.string ru.fr],.string s] w fun e w'=>∃r:Rc,e=.returned (.agg #[.string r.sch,.string r.nam,.string r.pw,.bool r.hh,.string r.host,.bool r.hp,.int .i64 (r.port:Int),.bool r.op,.string r.opath,.slice r.so r.sn r.sc,.bool r.hq,.string r.q,.bool r.hf,.string r.fr])∧(∃(a:Bool) (x p:BA),r={ ru with hq:=a,q:=x,opath:=p }∧x.size≤300000∧p.size≤300000∧(r.u bs)=ZuL (ru.u bs) (tl s))∧Nx w w':=by
 by_cases h0:s.size=0
 ·have HE:=Za (show ZuL (ru.u bs) (tl s)=ZbZ (ru.u bs)from if_pos (Zz h0))
  have h0':=Zf h0
  have HB:=Za (fun w'=>Zkg ru bs w' hl)
  clear h0
  go_enter Tryz.func243,Tryz.ntmps243
  go_upto_region 1 with fail;obtain⟨g1,g2,g3⟩:=Zcb (w:=w) (ru:=ru) Nx.rfl;have HUB:=Za g1;have HZ:=Za g2;have HN:=Za g3;clear g1 g2 g3;generalize ((w.alloc (Obj.cells #[.string ru.sch,.string ru.nam,.string ru.pw,.bool ru.hh,.string ru.host,.bool ru.hp,.int .i64 (ru.port:Int),.bool ru.op,.string ru.opath,.slice ru.so ru.sn ru.sc,.bool ru.hq,.string ru.q,.bool ru.hf,.string ru.fr] 101)).alloc (Obj.cells #[.string ⟨#[]⟩,.string ⟨#[]⟩,.string ⟨#[]⟩,.bool false,.string ⟨#[]⟩,.bool false,.int .i64 0,.bool false,.string ⟨#[]⟩,.slice none 0 0,.bool false,.string ⟨#[]⟩,.bool false,.string ⟨#[]⟩] 101))=w1 at *;obtain⟨a0,a1,a2,a3,a4,a5,a6,a7,a8,a9,a10,a11,a12,a13⟩:=HUB.out.cells;go_wp2_with fail
  refine(HB.out _).mono ?_
  rintro e w2 ⟨r,rfl,⟨p,hp1,hp2,hp3⟩,hn2⟩;have HP1:=Za hp1;have HP3:=Za hp3;have HZ2:=Za (HZ.out.on hn2);have HN2:=Za (HN.out.then hn2);clear hp1 hp3 hn2;clear a0 a1 a2 a3 a4 a5 a6 a7 a8 a9 a10 a11 a12 a13;obtain⟨z0,z1,z2,z3,z4,z5,z6,z7,z8,z9,z10,z11,z12,z13⟩:=HZ2.out.cells;have zf0:=HZ2.out.free 0;have zf1:=HZ2.out.free 1;have zf2:=HZ2.out.free 2;have zf3:=HZ2.out.free 3;have zf4:=HZ2.out.free 4;have zf5:=HZ2.out.free 5;have zf6:=HZ2.out.free 6;have zf7:=HZ2.out.free 7;have zf8:=HZ2.out.free 8;have zf9:=HZ2.out.free 9;have zf10:=HZ2.out.free 10;have zf11:=HZ2.out.free 11;have zf12:=HZ2.out.free 12;have zf13:=HZ2.out.free 13;go_wp2
  exact Zc4 (rb:=w.heap.size+1) Tryz.results243 rfl (RecB.put HZ2.out _ _ _ _ _ _ _ _ _ _ _ _ _ _) rfl ⟨r,rfl,⟨false,⟨#[]⟩,p,HP1.out,by decide,hp2,HP3.out.trans HE.out.symm⟩,(Zd HN2.out (by omega) _ _ _ _ _ _ _ _ _ _ _ _ _ _)⟩
 ·have HE:=Za (show ZuL (ru.u bs) (tl s)={ ru.u bs with hq:=true,q:=ZvA (tl ru.sch) (tl s) }from if_neg (ZcC h0))
  have h0':=Ze h0;clear h0
  go_enter Tryz.func243,Tryz.ntmps243
  go_upto_region 1 with fail;obtain⟨g1,g2,g3⟩:=Zcb (w:=w) (ru:=ru) Nx.rfl;have HUB:=Za g1;have HZ:=Za g2;have HN:=Za g3;clear g1 g2 g3;generalize ((w.alloc (Obj.cells #[.string ru.sch,.string ru.nam,.string ru.pw,.bool ru.hh,.string ru.host,.bool ru.hp,.int .i64 (ru.port:Int),.bool ru.op,.string ru.opath,.slice ru.so ru.sn ru.sc,.bool ru.hq,.string ru.q,.bool ru.hf,.string ru.fr] 101)).alloc (Obj.cells #[.string ⟨#[]⟩,.string ⟨#[]⟩,.string ⟨#[]⟩,.bool false,.string ⟨#[]⟩,.bool false,.int .i64 0,.bool false,.string ⟨#[]⟩,.slice none 0 0,.bool false,.string ⟨#[]⟩,.bool false,.string ⟨#[]⟩] 101))=w1 at *;obtain⟨a0,a1,a2,a3,a4,a5,a6,a7,a8,a9,a10,a11,a12,a13⟩:=HUB.out.cells;have af10:=HUB.out.free 10
  go_wp2_with (first|(go_at_call 189;refine(Z6 _ _).mono ?_;rintro e w' ⟨rfl,rfl⟩)|(go_at_call 190;refine(ZeX _ _).mono ?_;rintro e w' ⟨rfl,rfl⟩)|fail)
  refine(Zvv s 63 _ (by omega)).mono ?_
  rintro e w2 ⟨x,rfl,hx,hn2⟩;rw[show((63:Nat):Int)=63 from rfl]at hx
  have hxl:x.size≤30000:=by have h1:=Zdh (Zu5 63 (tl s));have h2:=Zvs 63 (tl s);rw[←hx,tl_length]at h1;rw[tl_length]at h2;omega
  have HX:=Za hx;have HUB2:=Za (HUB.out.on hn2);have HZ2:=Za (HZ.out.on hn2);have HN2:=Za (HN.out.then hn2);clear hx hn2 HUB HZ HN;clear a0 a1 a2 a3 a4 a5 a6 a7 a8 a9 a10 a11 a12 a13 af10;obtain⟨a0,a1,a2,a3,a4,a5,a6,a7,a8,a9,a10,a11,a12,a13⟩:=HUB2.out.cells;have af10:=HUB2.out.free 10;go_wp2_with fail
  refine(Zaw x (Zbr (tl ru.sch)) _ (by omega)).mono ?_
  rintro e w3 ⟨en,rfl,hen,hn3⟩
  have HEN:=Za (show tl en=ZvA (tl ru.sch) (tl s)by rw[hen,HX.out];rfl)
  have hel:en.size≤300000:=by rw[←tl_length,hen];exact Zbc _ _ (by rw[tl_length];exact hxl)
  have HUB3:=Za ((HUB2.out.s10 true).on hn3)
  have HZ3:=Za ((HZ2.out.far (q:=w.heap.size) (by omega) 10 (.bool true)).on hn3)
  have HN3:=Za (show Nx w w3 from Nx.then (show Nx w _ from Below.setCell (p:=⟨w.heap.size,10,none⟩) HN2.out (Xa _) (.bool true)) hn3);clear hen hn3 HUB2 HZ2 HN2 HX;clear a0 a1 a2 a3 a4 a5 a6 a7 a8 a9 a10 a11 a12 a13 af10;obtain⟨a0,a1,a2,a3,a4,a5,a6,a7,a8,a9,a10,a11,a12,a13⟩:=HUB3.out.cells;have af11:=HUB3.out.free 11;obtain⟨z0,z1,z2,z3,z4,z5,z6,z7,z8,z9,z10,z11,z12,z13⟩:=HZ3.out.cells;have zf0:=HZ3.out.free 0;have zf1:=HZ3.out.free 1;have zf2:=HZ3.out.free 2;have zf3:=HZ3.out.free 3;have zf4:=HZ3.out.free 4;have zf5:=HZ3.out.free 5;have zf6:=HZ3.out.free 6;have zf7:=HZ3.out.free 7;have zf8:=HZ3.out.free 8;have zf9:=HZ3.out.free 9;have zf10:=HZ3.out.free 10;have zf11:=HZ3.out.free 11;have zf12:=HZ3.out.free 12;have zf13:=HZ3.out.free 13;go_wp2
  exact Zc4 (rb:=w.heap.size+1) Tryz.results243 rfl (RecB.put (HZ3.out.far (by omega) 11 _) _ _ _ _ _ _ _ _ _ _ _ _ _ _) rfl ⟨{ ru with hq:=true,q:=en },rfl,⟨true,en,ru.opath,rfl,hel,hl,by rw[HE.out,←HEN.out];rfl⟩,(Zd (Below.setCell HN3.out (Xa _) _) (by omega) _ _ _ _ _ _ _ _ _ _ _ _ _ _)⟩
def ZAl(b:UInt8):Bool:=decide (48≤(b.toNat:Int)∧(b.toNat:Int)≤57)
def ZuQ(u:U)(l:List UInt8):U:=if(ZaD (l.takeWhile ZAl)).2=false then u else ZaW u (ZaD (l.takeWhile ZAl)).1
theorem Zxl{p:UInt8→Bool}{l:LB}{k:Nat}(h:(l.take k).all p=true):l.takeWhile p=l.take k++(l.drop k).takeWhile p:=by
 conv=>lhs;rw[←List.take_append_drop k l]
 rw[List.takeWhile_append_of_pos (by simpa using h)]
theorem ZvT(ru:Rc)(u:U)(bs:LA)(s:BA)(w:World)(h:RcIs w ru u bs)(hs:s.size≤30000):Calls Tryz.prog 238 #[.agg #[.string ru.sch,.string ru.nam,.string ru.pw,.bool ru.hh,.string ru.host,.bool ru.hp,.int .i64 (ru.port:Int),.bool ru.op,.string ru.opath,.slice ru.so ru.sn ru.sc,.bool ru.hq,.string ru.q,.bool ru.hf,.string ru.fr],.string s] w fun e w'=>∃r:Rc,e=.returned (.agg #[.string r.sch,.string r.nam,.string r.pw,.bool r.hh,.string r.host,.bool r.hp,.int .i64 (r.port:Int),.bool r.op,.string r.opath,.slice r.so r.sn r.sc,.bool r.hq,.string r.q,.bool r.hf,.string r.fr])∧RcIs w' r (ZuQ u (tl s)) bs∧Nx w w':=by
 have HR:=Za h;clear h
 go_enter Tryz.func238,Tryz.ntmps238
 go_upto_region 1 with fail;obtain⟨g1,g2,g3⟩:=Zcb (w:=w) (ru:=ru) Nx.rfl;have HUB:=Za g1;have HZ:=Za g2;have HN:=Za g3;clear g1 g2 g3;generalize ((w.alloc (Obj.cells #[.string ru.sch,.string ru.nam,.string ru.pw,.bool ru.hh,.string ru.host,.bool ru.hp,.int .i64 (ru.port:Int),.bool ru.op,.string ru.opath,.slice ru.so ru.sn ru.sc,.bool ru.hq,.string ru.q,.bool ru.hf,.string ru.fr] 101)).alloc (Obj.cells #[.string ⟨#[]⟩,.string ⟨#[]⟩,.string ⟨#[]⟩,.bool false,.string ⟨#[]⟩,.bool false,.int .i64 0,.bool false,.string ⟨#[]⟩,.slice none 0 0,.bool false,.string ⟨#[]⟩,.bool false,.string ⟨#[]⟩] 101))=w1 at *;have HR1:=Za (HR.out.on HN.out);go_wp2
 go_loop [5] (fun i=>∃k:Nat,k≤s.size∧i=.int .i64 k∧((tl s).take k).all ZAl=true) (fun i=>s.size-(intOf i).toNat)
 case atStart=>exact⟨0,Xc _,rfl,rfl⟩
 case round=>
  obtain⟨k,hk,rfl,hal⟩:=hrel;have HAL:=Za hal;clear hal
  by_cases hc:∃hlt:k<s.size,48≤((s[k]'hlt).toNat:Int)∧((s[k]'hlt).toNat:Int)≤57
  ·obtain⟨hlt,hc1,hc2⟩:=hc
   have HN2:=Za (show((tl s).take (k+1)).all ZAl=true by rw[ZG s k hlt,List.all_append,HAL.out];simp[ZAl,hc1,hc2])
   go_wp2
   go_round
   case rel=>exact⟨k+1,by omega,by go_num,HN2.out⟩
   case measure=>simp[intOf];omega
  ·have HT:=Za (show(tl s).takeWhile ZAl=tl (s.extract 0 k)by
    rw[Zxl HAL.out,tl_extract]
    show _++_=(tl s).take k
    by_cases hlt:k<s.size
    ·rw[ZU s k hlt,List.takeWhile_cons_of_neg (by unfold ZAl;simpa using fun a=>fun b=>hc ⟨hlt,a,b⟩),List.append_nil]
    ·rw[Zy s k (by omega)];simp)
   have hez:(s.extract 0 k).size≤s.size:=ZdC s 0 k
   have HD:=Za (show ZuQ u (tl s)=if(ZaD (tl (s.extract 0 k))).2=false then u else ZaW u (ZaD (tl (s.extract 0 k))).1 by rw[←HT.out];rfl)
   have hrg:=Zdi (tl (s.extract 0 k));generalize hq:ZaD (tl (s.extract 0 k))=nq at *;have HQ:=Za hq;clear hq;obtain⟨nv,nok⟩:=nq;simp only at HD hrg
   obtain⟨pn,rfl⟩:∃pn:Nat,nv=(pn:Int):=⟨nv.toNat,by omega⟩
   have hpn:pn≤65535:=by omega
   obtain⟨a0,a1,a2,a3,a4,a5,a6,a7,a8,a9,a10,a11,a12,a13⟩:=HUB.out.cells;obtain⟨z0,z1,z2,z3,z4,z5,z6,z7,z8,z9,z10,z11,z12,z13⟩:=HZ.out.cells;have zf0:=HZ.out.free 0;have zf1:=HZ.out.free 1;have zf2:=HZ.out.free 2;have zf3:=HZ.out.free 3;have zf4:=HZ.out.free 4;have zf5:=HZ.out.free 5;have zf6:=HZ.out.free 6;have zf7:=HZ.out.free 7;have zf8:=HZ.out.free 8;have zf9:=HZ.out.free 9;have zf10:=HZ.out.free 10;have zf11:=HZ.out.free 11;have zf12:=HZ.out.free 12;have zf13:=HZ.out.free 13
   have hend:s.size≤k∨(∃hlt:k<s.size,((s[k]'hlt).toNat:Int)<48)∨(∃hlt:k<s.size,48≤((s[k]'hlt).toNat:Int)∧57<((s[k]'hlt).toNat:Int)):=by
    by_cases hlt:k<s.size
    ·by_cases h1:48≤((s[k]'hlt).toNat:Int)
     ·exact Or.inr (Or.inr ⟨hlt,h1,by have:¬((s[k]'hlt).toNat:Int)≤57:=fun h2=>hc ⟨hlt,h1,h2⟩;omega⟩)
     ·exact Or.inr (Or.inl ⟨hlt,by omega⟩)
    ·exact Or.inl (by omega)
   clear hc
   cases nok
   ·have HE:=Za (HD.out.trans (if_pos rfl))
    clear HD;rcases hend with hend|⟨hlt,h1⟩|⟨hlt,h1,h2⟩
    ·go_wp2_with (go_at_call 278;refine(Zck _ _ (by omega)).mono ?_;rintro e w' ⟨rfl,rfl⟩;rw[HQ.out])
     exact Zc4 (rb:=w.heap.size+1) Tryz.results238 rfl (RecB.put HZ.out _ _ _ _ _ _ _ _ _ _ _ _ _ _) rfl ⟨ru,rfl,by rw[HE.out];exact HR1.out.ks (Ks.then Ks.rfl (Zq HZ.out.ty (by decide) _ _ _ _ _ _ _ _ _ _ _ _ _ _)),(Zd HN.out (by omega) _ _ _ _ _ _ _ _ _ _ _ _ _ _)⟩
    ·go_wp2_with (go_at_call 278;refine(Zck _ _ (by omega)).mono ?_;rintro e w' ⟨rfl,rfl⟩;rw[HQ.out])
     exact Zc4 (rb:=w.heap.size+1) Tryz.results238 rfl (RecB.put HZ.out _ _ _ _ _ _ _ _ _ _ _ _ _ _) rfl ⟨ru,rfl,by rw[HE.out];exact HR1.out.ks (Ks.then Ks.rfl (Zq HZ.out.ty (by decide) _ _ _ _ _ _ _ _ _ _ _ _ _ _)),(Zd HN.out (by omega) _ _ _ _ _ _ _ _ _ _ _ _ _ _)⟩
    ·go_wp2_with (go_at_call 278;refine(Zck _ _ (by omega)).mono ?_;rintro e w' ⟨rfl,rfl⟩;rw[HQ.out])
     exact Zc4 (rb:=w.heap.size+1) Tryz.results238 rfl (RecB.put HZ.out _ _ _ _ _ _ _ _ _ _ _ _ _ _) rfl ⟨ru,rfl,by rw[HE.out];exact HR1.out.ks (Ks.then Ks.rfl (Zq HZ.out.ty (by decide) _ _ _ _ _ _ _ _ _ _ _ _ _ _)),(Zd HN.out (by omega) _ _ _ _ _ _ _ _ _ _ _ _ _ _)⟩
   ·have HE:=Za (HD.out.trans (if_neg (by decide)))
    clear HD;rcases hend with hend|⟨hlt,h1⟩|⟨hlt,h1,h2⟩
    ·go_wp2_with (first|(go_at_call 278;refine(Zck _ _ (by omega)).mono ?_;rintro e w' ⟨rfl,rfl⟩;rw[HQ.out])|fail)
     refine(ZgZ ru pn _).mono ?_
     rintro e w2 ⟨r,rfl,hr,hn2⟩;have HA:=Za hr;have HZ2:=Za (HZ.out.on hn2);have HN2:=Za (HN.out.then hn2);have HR2:=Za (HR1.out.on hn2);clear hr hn2;clear a0 a1 a2 a3 a4 a5 a6 a7 a8 a9 a10 a11 a12 a13 z0 z1 z2 z3 z4 z5 z6 z7 z8 z9 z10 z11 z12 z13 zf0 zf1 zf2 zf3 zf4 zf5 zf6 zf7 zf8 zf9 zf10 zf11 zf12 zf13;obtain⟨z0,z1,z2,z3,z4,z5,z6,z7,z8,z9,z10,z11,z12,z13⟩:=HZ2.out.cells;have zf0:=HZ2.out.free 0;have zf1:=HZ2.out.free 1;have zf2:=HZ2.out.free 2;have zf3:=HZ2.out.free 3;have zf4:=HZ2.out.free 4;have zf5:=HZ2.out.free 5;have zf6:=HZ2.out.free 6;have zf7:=HZ2.out.free 7;have zf8:=HZ2.out.free 8;have zf9:=HZ2.out.free 9;have zf10:=HZ2.out.free 10;have zf11:=HZ2.out.free 11;have zf12:=HZ2.out.free 12;have zf13:=HZ2.out.free 13;go_wp2
     exact Zc4 (rb:=w.heap.size+1) Tryz.results238 rfl (RecB.put HZ2.out _ _ _ _ _ _ _ _ _ _ _ _ _ _) rfl ⟨r,rfl,by rw[HE.out,HA.out];exact(HR2.out.atPort hpn).ks (Ks.then Ks.rfl (Zq HZ2.out.ty (by decide) _ _ _ _ _ _ _ _ _ _ _ _ _ _)),(Zd HN2.out (by omega) _ _ _ _ _ _ _ _ _ _ _ _ _ _)⟩
    ·go_wp2_with (first|(go_at_call 278;refine(Zck _ _ (by omega)).mono ?_;rintro e w' ⟨rfl,rfl⟩;rw[HQ.out])|fail)
     refine(ZgZ ru pn _).mono ?_
     rintro e w2 ⟨r,rfl,hr,hn2⟩;have HA:=Za hr;have HZ2:=Za (HZ.out.on hn2);have HN2:=Za (HN.out.then hn2);have HR2:=Za (HR1.out.on hn2);clear hr hn2;clear a0 a1 a2 a3 a4 a5 a6 a7 a8 a9 a10 a11 a12 a13 z0 z1 z2 z3 z4 z5 z6 z7 z8 z9 z10 z11 z12 z13 zf0 zf1 zf2 zf3 zf4 zf5 zf6 zf7 zf8 zf9 zf10 zf11 zf12 zf13;obtain⟨z0,z1,z2,z3,z4,z5,z6,z7,z8,z9,z10,z11,z12,z13⟩:=HZ2.out.cells;have zf0:=HZ2.out.free 0;have zf1:=HZ2.out.free 1;have zf2:=HZ2.out.free 2;have zf3:=HZ2.out.free 3;have zf4:=HZ2.out.free 4;have zf5:=HZ2.out.free 5;have zf6:=HZ2.out.free 6;have zf7:=HZ2.out.free 7;have zf8:=HZ2.out.free 8;have zf9:=HZ2.out.free 9;have zf10:=HZ2.out.free 10;have zf11:=HZ2.out.free 11;have zf12:=HZ2.out.free 12;have zf13:=HZ2.out.free 13;go_wp2
     exact Zc4 (rb:=w.heap.size+1) Tryz.results238 rfl (RecB.put HZ2.out _ _ _ _ _ _ _ _ _ _ _ _ _ _) rfl ⟨r,rfl,by rw[HE.out,HA.out];exact(HR2.out.atPort hpn).ks (Ks.then Ks.rfl (Zq HZ2.out.ty (by decide) _ _ _ _ _ _ _ _ _ _ _ _ _ _)),(Zd HN2.out (by omega) _ _ _ _ _ _ _ _ _ _ _ _ _ _)⟩
    ·go_wp2_with (first|(go_at_call 278;refine(Zck _ _ (by omega)).mono ?_;rintro e w' ⟨rfl,rfl⟩;rw[HQ.out])|fail)
     refine(ZgZ ru pn _).mono ?_
     rintro e w2 ⟨r,rfl,hr,hn2⟩;have HA:=Za hr;have HZ2:=Za (HZ.out.on hn2);have HN2:=Za (HN.out.then hn2);have HR2:=Za (HR1.out.on hn2);clear hr hn2;clear a0 a1 a2 a3 a4 a5 a6 a7 a8 a9 a10 a11 a12 a13 z0 z1 z2 z3 z4 z5 z6 z7 z8 z9 z10 z11 z12 z13 zf0 zf1 zf2 zf3 zf4 zf5 zf6 zf7 zf8 zf9 zf10 zf11 zf12 zf13;obtain⟨z0,z1,z2,z3,z4,z5,z6,z7,z8,z9,z10,z11,z12,z13⟩:=HZ2.out.cells;have zf0:=HZ2.out.free 0;have zf1:=HZ2.out.free 1;have zf2:=HZ2.out.free 2;have zf3:=HZ2.out.free 3;have zf4:=HZ2.out.free 4;have zf5:=HZ2.out.free 5;have zf6:=HZ2.out.free 6;have zf7:=HZ2.out.free 7;have zf8:=HZ2.out.free 8;have zf9:=HZ2.out.free 9;have zf10:=HZ2.out.free 10;have zf11:=HZ2.out.free 11;have zf12:=HZ2.out.free 12;have zf13:=HZ2.out.free 13;go_wp2
     exact Zc4 (rb:=w.heap.size+1) Tryz.results238 rfl (RecB.put HZ2.out _ _ _ _ _ _ _ _ _ _ _ _ _ _) rfl ⟨r,rfl,by rw[HE.out,HA.out];exact(HR2.out.atPort hpn).ks (Ks.then Ks.rfl (Zq HZ2.out.ty (by decide) _ _ _ _ _ _ _ _ _ _ _ _ _ _)),(Zd HN2.out (by omega) _ _ _ _ _ _ _ _ _ _ _ _ _ _)⟩
def ZuP(u:U)(l:List UInt8):U:=if ZuR u=false then u else if l=[]then { u with hp:=false,port:=0 }else ZuQ u (noBreaks l)
theorem ZxK(ru:Rc)(u:U)(bs:LA)(s:BA)(w:World)(h:RcIs w ru u bs)(hs:s.size≤30000):Calls Tryz.prog 241 #[.agg #[.string ru.sch,.string ru.nam,.string ru.pw,.bool ru.hh,.string ru.host,.bool ru.hp,.int .i64 (ru.port:Int),.bool ru.op,.string ru.opath,.slice ru.so ru.sn ru.sc,.bool ru.hq,.string ru.q,.bool ru.hf,.string ru.fr],.string s] w fun e w'=>∃r:Rc,e=.returned (.agg #[.string r.sch,.string r.nam,.string r.pw,.bool r.hh,.string r.host,.bool r.hp,.int .i64 (r.port:Int),.bool r.op,.string r.opath,.slice r.so r.sn r.sc,.bool r.hq,.string r.q,.bool r.hf,.string r.fr])∧RcIs w' r (ZuP u (tl s)) bs∧Nx w w':=by
 have HR:=Za h
 have HD:=Za (show ZuP u (tl s)=if ZuR (ru.u bs)=false then u else if tl s=[]then { u with hp:=false,port:=0 }else ZuQ u (noBreaks (tl s))by rw[h.eq];rfl)
 have HMP:=Za (Zwa ru bs);generalize ZuR (ru.u bs)=b at *;clear h
 go_enter Tryz.func241,Tryz.ntmps241
 go_upto_region 1 with fail;obtain⟨g1,g2,g3⟩:=Zcb (w:=w) (ru:=ru) Nx.rfl;have HUB:=Za g1;have HZ:=Za g2;have HN:=Za g3;clear g1 g2 g3;generalize ((w.alloc (Obj.cells #[.string ru.sch,.string ru.nam,.string ru.pw,.bool ru.hh,.string ru.host,.bool ru.hp,.int .i64 (ru.port:Int),.bool ru.op,.string ru.opath,.slice ru.so ru.sn ru.sc,.bool ru.hq,.string ru.q,.bool ru.hf,.string ru.fr] 101)).alloc (Obj.cells #[.string ⟨#[]⟩,.string ⟨#[]⟩,.string ⟨#[]⟩,.bool false,.string ⟨#[]⟩,.bool false,.int .i64 0,.bool false,.string ⟨#[]⟩,.slice none 0 0,.bool false,.string ⟨#[]⟩,.bool false,.string ⟨#[]⟩] 101))=w1 at *;obtain⟨a0,a1,a2,a3,a4,a5,a6,a7,a8,a9,a10,a11,a12,a13⟩:=HUB.out.cells;go_wp2_with fail
 refine(HMP.out _).mono ?_
 rintro e w2 ⟨rfl,hn2⟩;have HUB2:=Za (HUB.out.on hn2);have HZ2:=Za (HZ.out.on hn2);have HN2:=Za (HN.out.then hn2);have HR2:=Za (HR.out.on HN2.out);clear hn2 HUB HZ HN HMP;clear a0 a1 a2 a3 a4 a5 a6 a7 a8 a9 a10 a11 a12 a13;obtain⟨a0,a1,a2,a3,a4,a5,a6,a7,a8,a9,a10,a11,a12,a13⟩:=HUB2.out.cells;obtain⟨z0,z1,z2,z3,z4,z5,z6,z7,z8,z9,z10,z11,z12,z13⟩:=HZ2.out.cells;have zf0:=HZ2.out.free 0;have zf1:=HZ2.out.free 1;have zf2:=HZ2.out.free 2;have zf3:=HZ2.out.free 3;have zf4:=HZ2.out.free 4;have zf5:=HZ2.out.free 5;have zf6:=HZ2.out.free 6;have zf7:=HZ2.out.free 7;have zf8:=HZ2.out.free 8;have zf9:=HZ2.out.free 9;have zf10:=HZ2.out.free 10;have zf11:=HZ2.out.free 11;have zf12:=HZ2.out.free 12;have zf13:=HZ2.out.free 13
 cases b
 ·have HE:=Za (HD.out.trans (if_pos rfl))
  clear HD;go_wp2
  exact Zc4 (rb:=w.heap.size+1) Tryz.results241 rfl (RecB.put HZ2.out _ _ _ _ _ _ _ _ _ _ _ _ _ _) rfl ⟨ru,rfl,by rw[HE.out];exact HR2.out.ks (Ks.then Ks.rfl (Zq HZ2.out.ty (by decide) _ _ _ _ _ _ _ _ _ _ _ _ _ _)),(Zd HN2.out (by omega) _ _ _ _ _ _ _ _ _ _ _ _ _ _)⟩
 ·have HD2:=Za (HD.out.trans (if_neg (by decide)))
  clear HD
  by_cases h0:s.size=0
  ·have HE:=Za (HD2.out.trans (if_pos (Zz h0)))
   have h0':=Zf h0;clear h0 HD2;go_wp2_with fail
   refine(ZfT ru _).mono ?_
   rintro e w3 ⟨r,rfl,hr,hn3⟩;have HA:=Za hr;have HZ3:=Za (HZ2.out.on hn3);have HN3:=Za (HN2.out.then hn3);have HR3:=Za (HR2.out.on hn3);clear hr hn3;clear a0 a1 a2 a3 a4 a5 a6 a7 a8 a9 a10 a11 a12 a13 z0 z1 z2 z3 z4 z5 z6 z7 z8 z9 z10 z11 z12 z13 zf0 zf1 zf2 zf3 zf4 zf5 zf6 zf7 zf8 zf9 zf10 zf11 zf12 zf13;obtain⟨z0,z1,z2,z3,z4,z5,z6,z7,z8,z9,z10,z11,z12,z13⟩:=HZ3.out.cells;have zf0:=HZ3.out.free 0;have zf1:=HZ3.out.free 1;have zf2:=HZ3.out.free 2;have zf3:=HZ3.out.free 3;have zf4:=HZ3.out.free 4;have zf5:=HZ3.out.free 5;have zf6:=HZ3.out.free 6;have zf7:=HZ3.out.free 7;have zf8:=HZ3.out.free 8;have zf9:=HZ3.out.free 9;have zf10:=HZ3.out.free 10;have zf11:=HZ3.out.free 11;have zf12:=HZ3.out.free 12;have zf13:=HZ3.out.free 13;go_wp2
   exact Zc4 (rb:=w.heap.size+1) Tryz.results241 rfl (RecB.put HZ3.out _ _ _ _ _ _ _ _ _ _ _ _ _ _) rfl ⟨r,rfl,by rw[HE.out,HA.out];exact RcIs.ks { HR3.out with eq:=by rw[←HR3.out.eq];rfl,lport:=Xc _ } (Ks.then Ks.rfl (Zq HZ3.out.ty (by decide) _ _ _ _ _ _ _ _ _ _ _ _ _ _)),(Zd HN3.out (by omega) _ _ _ _ _ _ _ _ _ _ _ _ _ _)⟩
  ·have HE:=Za (HD2.out.trans (if_neg (ZcC h0)))
   have h0':=Ze h0;clear h0 HD2;go_wp2_with fail
   refine(ZiC s _ (by omega)).mono ?_
   rintro e w3 ⟨x,rfl,hx,hn3⟩
   have hxl:x.size≤30000:=by have h1:=Zdh (tl s);rw[←hx,tl_length,tl_length]at h1;omega
   have HX:=Za hx;have HUB3:=Za (HUB2.out.on hn3);have HZ3:=Za (HZ2.out.on hn3);have HN3:=Za (HN2.out.then hn3);have HR3:=Za (HR2.out.on hn3);clear hx hn3;clear a0 a1 a2 a3 a4 a5 a6 a7 a8 a9 a10 a11 a12 a13 z0 z1 z2 z3 z4 z5 z6 z7 z8 z9 z10 z11 z12 z13 zf0 zf1 zf2 zf3 zf4 zf5 zf6 zf7 zf8 zf9 zf10 zf11 zf12 zf13;obtain⟨a0,a1,a2,a3,a4,a5,a6,a7,a8,a9,a10,a11,a12,a13⟩:=HUB3.out.cells;go_wp2_with fail
   refine(ZvT ru u bs x _ HR3.out hxl).mono ?_
   rintro e w4 ⟨r,rfl,hr,hn4⟩;rw[HX.out,←HE.out]at hr;have HA:=Za hr;have HZ4:=Za (HZ3.out.on hn4);have HN4:=Za (HN3.out.then hn4);clear hr hn4;clear a0 a1 a2 a3 a4 a5 a6 a7 a8 a9 a10 a11 a12 a13;obtain⟨z0,z1,z2,z3,z4,z5,z6,z7,z8,z9,z10,z11,z12,z13⟩:=HZ4.out.cells;have zf0:=HZ4.out.free 0;have zf1:=HZ4.out.free 1;have zf2:=HZ4.out.free 2;have zf3:=HZ4.out.free 3;have zf4:=HZ4.out.free 4;have zf5:=HZ4.out.free 5;have zf6:=HZ4.out.free 6;have zf7:=HZ4.out.free 7;have zf8:=HZ4.out.free 8;have zf9:=HZ4.out.free 9;have zf10:=HZ4.out.free 10;have zf11:=HZ4.out.free 11;have zf12:=HZ4.out.free 12;have zf13:=HZ4.out.free 13;go_wp2
   exact Zc4 (rb:=w.heap.size+1) Tryz.results241 rfl (RecB.put HZ4.out _ _ _ _ _ _ _ _ _ _ _ _ _ _) rfl ⟨r,rfl,HA.out.ks (Ks.then Ks.rfl (Zq HZ4.out.ty (by decide) _ _ _ _ _ _ _ _ _ _ _ _ _ _)),(Zd HN4.out (by omega) _ _ _ _ _ _ _ _ _ _ _ _ _ _)⟩
def Zu1(sp:Bool)(l:List UInt8):List UInt8:=match l with | []=>[]|c::r=>if slB sp c=true then r else c::r
def ZuT(u:U)(l:List UInt8):U:=
 if u.op=true then u else if noBreaks l=[]∧Zb u.sch=false∧u.hh=true then { u with segs:=[] }else { u with segs:=Zbg (Zu1 (Zb u.sch) (noBreaks l)) u.sch }
end Go.Proofs.YtchkhibgbnhjpabGreatDoor
