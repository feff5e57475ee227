import Derived.Test.YtchkhibgbnhjpaaGreatDoorP41
namespace Go.Proofs.YtchkhibgbnhjpaaGreatDoor
open Go.RowKit
set_option maxHeartbeats 8000000
theorem ZnW(ru:Rc)(bs:LA)(w:World):Calls Tryz.prog 211 #[.agg #[.string ru.sch,.string ru.nam,.string ru.pw,.bool ru.hh,.string ru.host,.bool ru.hp,.int .i64 (ru.port:Int),.bool ru.op,.string ru.opath,.slice ru.so ru.sn ru.sc,.bool ru.hq,.string ru.q,.bool ru.hf,.string ru.fr]] w fun e w'=>e=.returned (.bool (ZbV (ru.u bs)))∧Nx w w':=by
 have HD:=Za (show ZbV (ru.u bs)=(!(tl ru.host).isEmpty&&tl ru.sch != Zo)from rfl);rw[tl_isEmpty]at HD
 by_cases h1:ru.host.size=0
 ·have h1':=Zl h1
  have HE:=Za (show ZbV (ru.u bs)=false by rw[HD.out,decide_eq_true h1];rfl)
  clear HD h1
  go_enter Tryz.func211,Tryz.ntmps211
  go_wp2;go_ret;exact⟨Zj HE.out.symm,Nx.rfl.alloc _⟩
 ·have h1':=Zh h1
  by_cases hf:tl ru.sch=Zo
  ·have hf1:=eqB hf
   unfold Zo at hf1
   have hf2:(ru.sch.toList != [102,105,108,101])=false:=by simp only[bne,hf1];rfl
   have HE:=Za (show ZbV (ru.u bs)=false by rw[HD.out,decide_eq_false h1,hf];decide)
   clear HD h1 hf
   go_enter Tryz.func211,Tryz.ntmps211
   go_wp2;go_ret;exact⟨Zj HE.out.symm,Nx.rfl.alloc _⟩
  ·have hf1:=neB hf
   unfold Zo at hf1
   have hf2:(ru.sch.toList != [102,105,108,101])=true:=by simp only[bne,hf1];rfl
   have HE:=Za (show ZbV (ru.u bs)=true by rw[HD.out,decide_eq_false h1];simp only[bne,beq_eq_false_iff_ne.2 hf];rfl)
   clear HD h1 hf
   go_enter Tryz.func211,Tryz.ntmps211
   go_wp2;go_ret;exact⟨Zj HE.out.symm,Nx.rfl.alloc _⟩
theorem Zmy{p:UInt8→Bool}{l:LB}{k:Nat}(h:(l.take k).all p=true):l.takeWhile p=l.take k++(l.drop k).takeWhile p:=by
 conv=>lhs;rw[←List.take_append_drop k l]
 rw[List.takeWhile_append_of_pos (by simpa using h)]
theorem ZhQ(ru:Rc)(u:U)(bs:LA)(s:BA)(w:World)(h:RcIs w ru u bs)(hs:s.size≤30000):Calls Tryz.prog 165 #[.agg #[.string ru.sch,.string ru.nam,.string ru.pw,.bool ru.hh,.string ru.host,.bool ru.hp,.int .i64 (ru.port:Int),.bool ru.op,.string ru.opath,.slice ru.so ru.sn ru.sc,.bool ru.hq,.string ru.q,.bool ru.hf,.string ru.fr],.string s] w fun e w'=>∃r:Rc,e=.returned (.agg #[.string r.sch,.string r.nam,.string r.pw,.bool r.hh,.string r.host,.bool r.hp,.int .i64 (r.port:Int),.bool r.op,.string r.opath,.slice r.so r.sn r.sc,.bool r.hq,.string r.q,.bool r.hf,.string r.fr])∧RcIs w' r (ZaF u (tl s)) bs∧Nx w w':=by
 have HR:=Za h;clear h
 go_enter Tryz.func165,Tryz.ntmps165
 go_upto_region 1 with fail;obtain⟨g1,g2,g3⟩:=Zbe (w:=w) (ru:=ru) Nx.rfl;have HUB:=Za g1;have HZ:=Za g2;have HN:=Za g3;clear g1 g2 g3;generalize ((w.alloc (Obj.cells #[.string ru.sch,.string ru.nam,.string ru.pw,.bool ru.hh,.string ru.host,.bool ru.hp,.int .i64 (ru.port:Int),.bool ru.op,.string ru.opath,.slice ru.so ru.sn ru.sc,.bool ru.hq,.string ru.q,.bool ru.hf,.string ru.fr] 54)).alloc (Obj.cells #[.string ⟨#[]⟩,.string ⟨#[]⟩,.string ⟨#[]⟩,.bool false,.string ⟨#[]⟩,.bool false,.int .i64 0,.bool false,.string ⟨#[]⟩,.slice none 0 0,.bool false,.string ⟨#[]⟩,.bool false,.string ⟨#[]⟩] 54))=w1 at *;have HR1:=Za (HR.out.on HN.out);go_wp2
 go_loop [5] (fun i=>∃k:Nat,k≤s.size∧i=.int .i64 k∧((tl s).take k).all ZvZ=true) (fun i=>s.size-(intOf i).toNat)
 case atStart=>exact⟨0,Nat.zero_le _,rfl,rfl⟩
 case round=>
  obtain⟨k,hk,rfl,hal⟩:=hrel;have HAL:=Za hal;clear hal
  by_cases hc:∃hlt:k<s.size,48≤((s[k]'hlt).toNat:Int)∧((s[k]'hlt).toNat:Int)≤57
  ·obtain⟨hlt,hc1,hc2⟩:=hc
   have HN2:=Za (show((tl s).take (k+1)).all ZvZ=true by rw[ZJ s k hlt,List.all_append,HAL.out];simp[ZvZ,hc1,hc2])
   go_wp2
   go_round
   case rel=>exact⟨k+1,by omega,by go_num,HN2.out⟩
   case measure=>simp[intOf];omega
  ·have HT:=Za (show(tl s).takeWhile ZvZ=tl (s.extract 0 k)by
    rw[Zmy HAL.out,tl_extract]
    show _++_=(tl s).take k
    by_cases hlt:k<s.size
    ·rw[ZM s k hlt,List.takeWhile_cons_of_neg (by unfold ZvZ;simpa using fun a=>fun b=>hc ⟨hlt,a,b⟩),List.append_nil]
    ·rw[ZD s k (by omega)];simp)
   have hez:(s.extract 0 k).size≤s.size:=Zgh s 0 k
   have HD:=Za (show ZaF u (tl s)=if(Zas (tl (s.extract 0 k))).2=false then u else Zal u (Zas (tl (s.extract 0 k))).1 by rw[←HT.out];rfl)
   have hrg:=ZcN (tl (s.extract 0 k));generalize hq:Zas (tl (s.extract 0 k))=nq at *;have HQ:=Za hq;clear hq;obtain⟨nv,nok⟩:=nq;simp only at HD hrg
   obtain⟨pn,rfl⟩:∃pn:Nat,nv=(pn:Int):=⟨nv.toNat,by omega⟩
   have hpn:pn≤65535:=by omega
   obtain⟨a0,a1,a2,a3,a4,a5,a6,a7,a8,a9,a10,a11,a12,a13⟩:=HUB.out.cells;obtain⟨z0,z1,z2,z3,z4,z5,z6,z7,z8,z9,z10,z11,z12,z13⟩:=HZ.out.cells;have zf0:=HZ.out.free 0;have zf1:=HZ.out.free 1;have zf2:=HZ.out.free 2;have zf3:=HZ.out.free 3;have zf4:=HZ.out.free 4;have zf5:=HZ.out.free 5;have zf6:=HZ.out.free 6;have zf7:=HZ.out.free 7;have zf8:=HZ.out.free 8;have zf9:=HZ.out.free 9;have zf10:=HZ.out.free 10;have zf11:=HZ.out.free 11;have zf12:=HZ.out.free 12;have zf13:=HZ.out.free 13
   have hend:s.size≤k∨(∃hlt:k<s.size,((s[k]'hlt).toNat:Int)<48)∨(∃hlt:k<s.size,48≤((s[k]'hlt).toNat:Int)∧57<((s[k]'hlt).toNat:Int)):=by
    by_cases hlt:k<s.size
    ·by_cases h1:48≤((s[k]'hlt).toNat:Int)
     ·exact Or.inr (Or.inr ⟨hlt,h1,by have:¬((s[k]'hlt).toNat:Int)≤57:=fun h2=>hc ⟨hlt,h1,h2⟩;omega⟩)
     ·exact Or.inr (Or.inl ⟨hlt,by omega⟩)
    ·exact Or.inl (by omega)
   clear hc
   cases nok
   ·have HE:=Za (HD.out.trans (if_pos rfl))
    clear HD;rcases hend with hend|⟨hlt,h1⟩|⟨hlt,h1,h2⟩
    ·go_wp2_with (go_at_call 208;refine(ZaJ _ _ (by omega)).mono ?_;rintro e w' ⟨rfl,rfl⟩;rw[HQ.out])
     exact Zbl (rb:=w.heap.size+1) Tryz.results165 rfl (RecB.put HZ.out _ _ _ _ _ _ _ _ _ _ _ _ _ _) rfl ⟨ru,rfl,by rw[HE.out];exact HR1.out.ks (Ks.then Ks.rfl (Zm HZ.out.ty (by decide) _ _ _ _ _ _ _ _ _ _ _ _ _ _)),(Zd HN.out (by omega) _ _ _ _ _ _ _ _ _ _ _ _ _ _)⟩
    ·go_wp2_with (go_at_call 208;refine(ZaJ _ _ (by omega)).mono ?_;rintro e w' ⟨rfl,rfl⟩;rw[HQ.out])
     exact Zbl (rb:=w.heap.size+1) Tryz.results165 rfl (RecB.put HZ.out _ _ _ _ _ _ _ _ _ _ _ _ _ _) rfl ⟨ru,rfl,by rw[HE.out];exact HR1.out.ks (Ks.then Ks.rfl (Zm HZ.out.ty (by decide) _ _ _ _ _ _ _ _ _ _ _ _ _ _)),(Zd HN.out (by omega) _ _ _ _ _ _ _ _ _ _ _ _ _ _)⟩
    ·go_wp2_with (go_at_call 208;refine(ZaJ _ _ (by omega)).mono ?_;rintro e w' ⟨rfl,rfl⟩;rw[HQ.out])
     exact Zbl (rb:=w.heap.size+1) Tryz.results165 rfl (RecB.put HZ.out _ _ _ _ _ _ _ _ _ _ _ _ _ _) rfl ⟨ru,rfl,by rw[HE.out];exact HR1.out.ks (Ks.then Ks.rfl (Zm HZ.out.ty (by decide) _ _ _ _ _ _ _ _ _ _ _ _ _ _)),(Zd HN.out (by omega) _ _ _ _ _ _ _ _ _ _ _ _ _ _)⟩
   ·have HE:=Za (HD.out.trans (if_neg (by decide)))
    clear HD;rcases hend with hend|⟨hlt,h1⟩|⟨hlt,h1,h2⟩
    ·go_wp2_with (first|(go_at_call 208;refine(ZaJ _ _ (by omega)).mono ?_;rintro e w' ⟨rfl,rfl⟩;rw[HQ.out])|fail)
     refine(Zde ru pn _).mono ?_
     rintro e w2 ⟨r,rfl,hr,hn2⟩;have HA:=Za hr;have HZ2:=Za (HZ.out.on hn2);have HN2:=Za (HN.out.then hn2);have HR2:=Za (HR1.out.on hn2);clear hr hn2;clear a0 a1 a2 a3 a4 a5 a6 a7 a8 a9 a10 a11 a12 a13 z0 z1 z2 z3 z4 z5 z6 z7 z8 z9 z10 z11 z12 z13 zf0 zf1 zf2 zf3 zf4 zf5 zf6 zf7 zf8 zf9 zf10 zf11 zf12 zf13;obtain⟨z0,z1,z2,z3,z4,z5,z6,z7,z8,z9,z10,z11,z12,z13⟩:=HZ2.out.cells;have zf0:=HZ2.out.free 0;have zf1:=HZ2.out.free 1;have zf2:=HZ2.out.free 2;have zf3:=HZ2.out.free 3;have zf4:=HZ2.out.free 4;have zf5:=HZ2.out.free 5;have zf6:=HZ2.out.free 6;have zf7:=HZ2.out.free 7;have zf8:=HZ2.out.free 8;have zf9:=HZ2.out.free 9;have zf10:=HZ2.out.free 10;have zf11:=HZ2.out.free 11;have zf12:=HZ2.out.free 12;have zf13:=HZ2.out.free 13;go_wp2
     exact Zbl (rb:=w.heap.size+1) Tryz.results165 rfl (RecB.put HZ2.out _ _ _ _ _ _ _ _ _ _ _ _ _ _) rfl ⟨r,rfl,by rw[HE.out,HA.out];exact(HR2.out.atPort hpn).ks (Ks.then Ks.rfl (Zm HZ2.out.ty (by decide) _ _ _ _ _ _ _ _ _ _ _ _ _ _)),(Zd HN2.out (by omega) _ _ _ _ _ _ _ _ _ _ _ _ _ _)⟩
    ·go_wp2_with (first|(go_at_call 208;refine(ZaJ _ _ (by omega)).mono ?_;rintro e w' ⟨rfl,rfl⟩;rw[HQ.out])|fail)
     refine(Zde ru pn _).mono ?_
     rintro e w2 ⟨r,rfl,hr,hn2⟩;have HA:=Za hr;have HZ2:=Za (HZ.out.on hn2);have HN2:=Za (HN.out.then hn2);have HR2:=Za (HR1.out.on hn2);clear hr hn2;clear a0 a1 a2 a3 a4 a5 a6 a7 a8 a9 a10 a11 a12 a13 z0 z1 z2 z3 z4 z5 z6 z7 z8 z9 z10 z11 z12 z13 zf0 zf1 zf2 zf3 zf4 zf5 zf6 zf7 zf8 zf9 zf10 zf11 zf12 zf13;obtain⟨z0,z1,z2,z3,z4,z5,z6,z7,z8,z9,z10,z11,z12,z13⟩:=HZ2.out.cells;have zf0:=HZ2.out.free 0;have zf1:=HZ2.out.free 1;have zf2:=HZ2.out.free 2;have zf3:=HZ2.out.free 3;have zf4:=HZ2.out.free 4;have zf5:=HZ2.out.free 5;have zf6:=HZ2.out.free 6;have zf7:=HZ2.out.free 7;have zf8:=HZ2.out.free 8;have zf9:=HZ2.out.free 9;have zf10:=HZ2.out.free 10;have zf11:=HZ2.out.free 11;have zf12:=HZ2.out.free 12;have zf13:=HZ2.out.free 13;go_wp2
     exact Zbl (rb:=w.heap.size+1) Tryz.results165 rfl (RecB.put HZ2.out _ _ _ _ _ _ _ _ _ _ _ _ _ _) rfl ⟨r,rfl,by rw[HE.out,HA.out];exact(HR2.out.atPort hpn).ks (Ks.then Ks.rfl (Zm HZ2.out.ty (by decide) _ _ _ _ _ _ _ _ _ _ _ _ _ _)),(Zd HN2.out (by omega) _ _ _ _ _ _ _ _ _ _ _ _ _ _)⟩
    ·go_wp2_with (first|(go_at_call 208;refine(ZaJ _ _ (by omega)).mono ?_;rintro e w' ⟨rfl,rfl⟩;rw[HQ.out])|fail)
     refine(Zde ru pn _).mono ?_
     rintro e w2 ⟨r,rfl,hr,hn2⟩;have HA:=Za hr;have HZ2:=Za (HZ.out.on hn2);have HN2:=Za (HN.out.then hn2);have HR2:=Za (HR1.out.on hn2);clear hr hn2;clear a0 a1 a2 a3 a4 a5 a6 a7 a8 a9 a10 a11 a12 a13 z0 z1 z2 z3 z4 z5 z6 z7 z8 z9 z10 z11 z12 z13 zf0 zf1 zf2 zf3 zf4 zf5 zf6 zf7 zf8 zf9 zf10 zf11 zf12 zf13;obtain⟨z0,z1,z2,z3,z4,z5,z6,z7,z8,z9,z10,z11,z12,z13⟩:=HZ2.out.cells;have zf0:=HZ2.out.free 0;have zf1:=HZ2.out.free 1;have zf2:=HZ2.out.free 2;have zf3:=HZ2.out.free 3;have zf4:=HZ2.out.free 4;have zf5:=HZ2.out.free 5;have zf6:=HZ2.out.free 6;have zf7:=HZ2.out.free 7;have zf8:=HZ2.out.free 8;have zf9:=HZ2.out.free 9;have zf10:=HZ2.out.free 10;have zf11:=HZ2.out.free 11;have zf12:=HZ2.out.free 12;have zf13:=HZ2.out.free 13;go_wp2
     exact Zbl (rb:=w.heap.size+1) Tryz.results165 rfl (RecB.put HZ2.out _ _ _ _ _ _ _ _ _ _ _ _ _ _) rfl ⟨r,rfl,by rw[HE.out,HA.out];exact(HR2.out.atPort hpn).ks (Ks.then Ks.rfl (Zm HZ2.out.ty (by decide) _ _ _ _ _ _ _ _ _ _ _ _ _ _)),(Zd HN2.out (by omega) _ _ _ _ _ _ _ _ _ _ _ _ _ _)⟩
theorem ZnX(ru:Rc)(u:U)(bs:LA)(s:BA)(w:World)(h:RcIs w ru u bs)(hs:s.size≤30000):Calls Tryz.prog 168 #[.agg #[.string ru.sch,.string ru.nam,.string ru.pw,.bool ru.hh,.string ru.host,.bool ru.hp,.int .i64 (ru.port:Int),.bool ru.op,.string ru.opath,.slice ru.so ru.sn ru.sc,.bool ru.hq,.string ru.q,.bool ru.hf,.string ru.fr],.string s] w fun e w'=>∃r:Rc,e=.returned (.agg #[.string r.sch,.string r.nam,.string r.pw,.bool r.hh,.string r.host,.bool r.hp,.int .i64 (r.port:Int),.bool r.op,.string r.opath,.slice r.so r.sn r.sc,.bool r.hq,.string r.q,.bool r.hf,.string r.fr])∧RcIs w' r (ZbI u (tl s)) bs∧Nx w w':=by
 have HR:=Za h
 have HD:=Za (show ZbI u (tl s)=if ZbV (ru.u bs)=false then u else if tl s=[]then { u with hp:=false,port:=0 }else ZaF u (noBreaks (tl s))by rw[h.eq];rfl)
 have HMP:=Za (ZnW ru bs);generalize ZbV (ru.u bs)=b at *;clear h
 go_enter Tryz.func168,Tryz.ntmps168
 go_upto_region 1 with fail;obtain⟨g1,g2,g3⟩:=Zbe (w:=w) (ru:=ru) Nx.rfl;have HUB:=Za g1;have HZ:=Za g2;have HN:=Za g3;clear g1 g2 g3;generalize ((w.alloc (Obj.cells #[.string ru.sch,.string ru.nam,.string ru.pw,.bool ru.hh,.string ru.host,.bool ru.hp,.int .i64 (ru.port:Int),.bool ru.op,.string ru.opath,.slice ru.so ru.sn ru.sc,.bool ru.hq,.string ru.q,.bool ru.hf,.string ru.fr] 54)).alloc (Obj.cells #[.string ⟨#[]⟩,.string ⟨#[]⟩,.string ⟨#[]⟩,.bool false,.string ⟨#[]⟩,.bool false,.int .i64 0,.bool false,.string ⟨#[]⟩,.slice none 0 0,.bool false,.string ⟨#[]⟩,.bool false,.string ⟨#[]⟩] 54))=w1 at *;obtain⟨a0,a1,a2,a3,a4,a5,a6,a7,a8,a9,a10,a11,a12,a13⟩:=HUB.out.cells;go_wp2_with fail
 refine(HMP.out _).mono ?_
 rintro e w2 ⟨rfl,hn2⟩;have HUB2:=Za (HUB.out.on hn2);have HZ2:=Za (HZ.out.on hn2);have HN2:=Za (HN.out.then hn2);have HR2:=Za (HR.out.on HN2.out);clear hn2 HUB HZ HN HMP;clear a0 a1 a2 a3 a4 a5 a6 a7 a8 a9 a10 a11 a12 a13;obtain⟨a0,a1,a2,a3,a4,a5,a6,a7,a8,a9,a10,a11,a12,a13⟩:=HUB2.out.cells;obtain⟨z0,z1,z2,z3,z4,z5,z6,z7,z8,z9,z10,z11,z12,z13⟩:=HZ2.out.cells;have zf0:=HZ2.out.free 0;have zf1:=HZ2.out.free 1;have zf2:=HZ2.out.free 2;have zf3:=HZ2.out.free 3;have zf4:=HZ2.out.free 4;have zf5:=HZ2.out.free 5;have zf6:=HZ2.out.free 6;have zf7:=HZ2.out.free 7;have zf8:=HZ2.out.free 8;have zf9:=HZ2.out.free 9;have zf10:=HZ2.out.free 10;have zf11:=HZ2.out.free 11;have zf12:=HZ2.out.free 12;have zf13:=HZ2.out.free 13
 cases b
 ·have HE:=Za (HD.out.trans (if_pos rfl))
  clear HD;go_wp2
  exact Zbl (rb:=w.heap.size+1) Tryz.results168 rfl (RecB.put HZ2.out _ _ _ _ _ _ _ _ _ _ _ _ _ _) rfl ⟨ru,rfl,by rw[HE.out];exact HR2.out.ks (Ks.then Ks.rfl (Zm HZ2.out.ty (by decide) _ _ _ _ _ _ _ _ _ _ _ _ _ _)),(Zd HN2.out (by omega) _ _ _ _ _ _ _ _ _ _ _ _ _ _)⟩
 ·have HD2:=Za (HD.out.trans (if_neg (by decide)))
  clear HD
  by_cases h0:s.size=0
  ·have HE:=Za (HD2.out.trans (if_pos (ZA h0)))
   have h0':=Zl h0;clear h0 HD2;go_wp2_with fail
   refine(ZeX ru _).mono ?_
   rintro e w3 ⟨r,rfl,hr,hn3⟩;have HA:=Za hr;have HZ3:=Za (HZ2.out.on hn3);have HN3:=Za (HN2.out.then hn3);have HR3:=Za (HR2.out.on hn3);clear hr hn3;clear a0 a1 a2 a3 a4 a5 a6 a7 a8 a9 a10 a11 a12 a13 z0 z1 z2 z3 z4 z5 z6 z7 z8 z9 z10 z11 z12 z13 zf0 zf1 zf2 zf3 zf4 zf5 zf6 zf7 zf8 zf9 zf10 zf11 zf12 zf13;obtain⟨z0,z1,z2,z3,z4,z5,z6,z7,z8,z9,z10,z11,z12,z13⟩:=HZ3.out.cells;have zf0:=HZ3.out.free 0;have zf1:=HZ3.out.free 1;have zf2:=HZ3.out.free 2;have zf3:=HZ3.out.free 3;have zf4:=HZ3.out.free 4;have zf5:=HZ3.out.free 5;have zf6:=HZ3.out.free 6;have zf7:=HZ3.out.free 7;have zf8:=HZ3.out.free 8;have zf9:=HZ3.out.free 9;have zf10:=HZ3.out.free 10;have zf11:=HZ3.out.free 11;have zf12:=HZ3.out.free 12;have zf13:=HZ3.out.free 13;go_wp2
   exact Zbl (rb:=w.heap.size+1) Tryz.results168 rfl (RecB.put HZ3.out _ _ _ _ _ _ _ _ _ _ _ _ _ _) rfl ⟨r,rfl,by rw[HE.out,HA.out];exact RcIs.ks { HR3.out with eq:=by rw[←HR3.out.eq];rfl,lport:=Nat.zero_le _ } (Ks.then Ks.rfl (Zm HZ3.out.ty (by decide) _ _ _ _ _ _ _ _ _ _ _ _ _ _)),(Zd HN3.out (by omega) _ _ _ _ _ _ _ _ _ _ _ _ _ _)⟩
  ·have HE:=Za (HD2.out.trans (if_neg (ZcX h0)))
   have h0':=Zh h0;clear h0 HD2;go_wp2_with fail
   refine(ZcM s _ (by omega)).mono ?_
   rintro e w3 ⟨x,rfl,hx,hn3⟩
   have hxl:x.size≤30000:=by have h1:=Za8 (tl s);rw[←hx,tl_length,tl_length]at h1;omega
   have HX:=Za hx;have HUB3:=Za (HUB2.out.on hn3);have HZ3:=Za (HZ2.out.on hn3);have HN3:=Za (HN2.out.then hn3);have HR3:=Za (HR2.out.on hn3);clear hx hn3;clear a0 a1 a2 a3 a4 a5 a6 a7 a8 a9 a10 a11 a12 a13 z0 z1 z2 z3 z4 z5 z6 z7 z8 z9 z10 z11 z12 z13 zf0 zf1 zf2 zf3 zf4 zf5 zf6 zf7 zf8 zf9 zf10 zf11 zf12 zf13;obtain⟨a0,a1,a2,a3,a4,a5,a6,a7,a8,a9,a10,a11,a12,a13⟩:=HUB3.out.cells;go_wp2_with fail
   refine(ZhQ ru u bs x _ HR3.out hxl).mono ?_
   rintro e w4 ⟨r,rfl,hr,hn4⟩;rw[HX.out,←HE.out]at hr;have HA:=Za hr;have HZ4:=Za (HZ3.out.on hn4);have HN4:=Za (HN3.out.then hn4);clear hr hn4;clear a0 a1 a2 a3 a4 a5 a6 a7 a8 a9 a10 a11 a12 a13;obtain⟨z0,z1,z2,z3,z4,z5,z6,z7,z8,z9,z10,z11,z12,z13⟩:=HZ4.out.cells;have zf0:=HZ4.out.free 0;have zf1:=HZ4.out.free 1;have zf2:=HZ4.out.free 2;have zf3:=HZ4.out.free 3;have zf4:=HZ4.out.free 4;have zf5:=HZ4.out.free 5;have zf6:=HZ4.out.free 6;have zf7:=HZ4.out.free 7;have zf8:=HZ4.out.free 8;have zf9:=HZ4.out.free 9;have zf10:=HZ4.out.free 10;have zf11:=HZ4.out.free 11;have zf12:=HZ4.out.free 12;have zf13:=HZ4.out.free 13;go_wp2
   exact Zbl (rb:=w.heap.size+1) Tryz.results168 rfl (RecB.put HZ4.out _ _ _ _ _ _ _ _ _ _ _ _ _ _) rfl ⟨r,rfl,HA.out.ks (Ks.then Ks.rfl (Zm HZ4.out.ty (by decide) _ _ _ _ _ _ _ _ _ _ _ _ _ _)),(Zd HN4.out (by omega) _ _ _ _ _ _ _ _ _ _ _ _ _ _)⟩
theorem Zjs(sp:Bool)(l:LB):(ZL sp l).length≤l.length:=by
 have h1:=Za8 l;have h2:=(Z7 (slB sp) (noBreaks l)).1;have h3:=(Z7 (isB 63) (bcut (slB sp) (noBreaks l)).1).1;have h4:=(Z7 (isB 35) (bcut (isB 63) (bcut (slB sp) (noBreaks l)).1).1).1;unfold ZL
 omega
theorem Zk5(s:BA)(sp:Bool)(w:World)(hs:s.size≤900000):Calls Tryz.prog 203 #[.string s,.bool sp] w fun e w'=>∃r:BA,e=.returned (.string r)∧tl r=ZL sp (tl s)∧Nx w w':=by
 go_enter Tryz.func203,Tryz.ntmps203
 go_wp2_with fail
 refine(ZcM s _ (by omega)).mono ?_
 rintro e w1 ⟨x,rfl,hx,hn1⟩
 have hxl:x.size≤900000:=by have h1:=Za8 (tl s);rw[←hx,tl_length,tl_length]at h1;omega
 have HX:=Za hx;have HN1:=Za hn1;clear hx hn1;go_wp2_with fail
 refine(ZcE x sp _ (Ze (by omega))).mono ?_
 rintro e w2 ⟨⟨a,b,rfl,ha,-⟩,hn2⟩
 have hal:a.size≤900000:=by have h1:=(Z7 (slB sp) (tl x)).1;rw[←ha,tl_length,tl_length]at h1;omega
 have HA:=Za ha;have HN2:=Za (HN1.out.then hn2);clear ha hn2;generalize (bcut (slB sp) (tl x)).2.2=f1 at *;go_wp2_with fail
 refine(ZdE a 63 _ (Ze (by omega))).mono ?_
 rintro e w3 ⟨⟨c,d,rfl,hc,-⟩,hn3⟩
 have hcl:c.size≤900000:=by have h1:=(Z7 (isB 63) (tl a)).1;rw[←hc,tl_length,tl_length]at h1;omega
 have HC:=Za hc;have HN3:=Za (HN2.out.then hn3);clear hc hn3;generalize (bcut (isB 63) (tl a)).2.2=f2 at *;go_wp2_with fail
 refine(ZdE c 35 _ (Ze (by omega))).mono ?_
 rintro e w4 ⟨⟨g,j,rfl,hg,-⟩,hn4⟩;have HG:=Za hg;have HN4:=Za (HN3.out.then hn4);clear hg hn4;generalize (bcut (isB 35) (tl c)).2.2=f3 at *;go_wp2;go_ret
 exact⟨g,rfl,by rw[HG.out,HC.out,HA.out,HX.out];rfl,HN4.out⟩
theorem Zk6(ru:Rc)(bs:LA)(s:BA)(ported:Bool)(w:World)(ht:Tb w)(hs:s.size≤29000):Calls Tryz.prog 164 #[.agg #[.string ru.sch,.string ru.nam,.string ru.pw,.bool ru.hh,.string ru.host,.bool ru.hp,.int .i64 (ru.port:Int),.bool ru.op,.string ru.opath,.slice ru.so ru.sn ru.sc,.bool ru.hq,.string ru.q,.bool ru.hf,.string ru.fr],.string s,.bool ported] w fun e w'=>∃a b:BA,e=.returned (.tuple #[.string a,.string b,.int .i64 (Z6 (ru.u bs) (tl s) ported).2.2])∧tl a=(Z6 (ru.u bs) (tl s) ported).1∧tl b=(Z6 (ru.u bs) (tl s) ported).2.1∧a.size≤300000∧b.size≤30000∧Nx w w':=by
 have HTB:=Za ht
 have HU:=Za (fun w'=>Zi6 ru bs w')
 have HD0:=Za (show Z6 (ru.u bs) (tl s) ported=if tl ru.sch=Zo then((Zz (ZL (Zb (tl ru.sch)) (tl s))).1,[],(Zz (ZL (Zb (tl ru.sch)) (tl s))).2)
  else if(Zr (ZL (Zb (tl ru.sch)) (tl s))).2.2=true∧ported=false then([],[],2)
  else if(Zr (ZL (Zb (tl ru.sch)) (tl s))).1=[]∧((Zr (ZL (Zb (tl ru.sch)) (tl s))).2.2=true∨Zb (tl ru.sch)=true∨Za2 (ru.u bs)=true∨ru.hp=true)then([],[],2)
  else if(ZO (Zr (ZL (Zb (tl ru.sch)) (tl s))).1 (Zb (tl ru.sch))).2≠0 then([],[],(ZO (Zr (ZL (Zb (tl ru.sch)) (tl s))).1 (Zb (tl ru.sch))).2)
  else((ZO (Zr (ZL (Zb (tl ru.sch)) (tl s))).1 (Zb (tl ru.sch))).1,(Zr (ZL (Zb (tl ru.sch)) (tl s))).2.1,0)from rfl)
 clear ht;obtain⟨sch,nam,pw,hh,host,hp,port,op,opath,so,sn,sc,hq,q,hf,fr⟩:=ru;simp only at *;generalize Za2 (Rc.u ⟨sch,nam,pw,hh,host,hp,port,op,opath,so,sn,sc,hq,q,hf,fr⟩ bs)=ub at *;generalize hsp:Zb (tl sch)=sp at *;have HSP:=Za hsp;clear hsp
 go_enter Tryz.func164,Tryz.ntmps164
 go_upto_region 1 with fail;have HUB0:=Za (ZP w ⟨sch,nam,pw,hh,host,hp,port,op,opath,so,sn,sc,hq,q,hf,fr⟩);have HN0:=Za (show Nx w (w.alloc (Obj.cells #[.string sch,.string nam,.string pw,.bool hh,.string host,.bool hp,.int .i64 (port:Int),.bool op,.string opath,.slice so sn sc,.bool hq,.string q,.bool hf,.string fr] 54))from Nx.rfl.alloc _);generalize (w.alloc (Obj.cells #[.string sch,.string nam,.string pw,.bool hh,.string host,.bool hp,.int .i64 (port:Int),.bool op,.string opath,.slice so sn sc,.bool hq,.string q,.bool hf,.string fr] 54))=w1 at *;obtain⟨a0,a1,a2,a3,a4,a5,a6,a7,a8,a9,a10,a11,a12,a13⟩:=HUB0.out.cells;simp only at a0 a1 a2 a3 a4 a5 a6 a7 a8 a9 a10 a11 a12 a13
 go_wp2_with (first|(go_at_call 112;refine(Zt _ _).mono ?_;rintro e w' ⟨rfl,rfl⟩;rw[HSP.out])|fail)
 refine(Zk5 s sp _ (by omega)).mono ?_
 rintro e w2 ⟨pl,rfl,hpl,hn2⟩
 have hpll:pl.size≤29000:=by have h1:=Zjs sp (tl s);rw[←hpl,tl_length,tl_length]at h1;omega
 rw[←hpl]at HD0;have HUB:=Za (HUB0.out.on hn2);have HNX:=Za (HN0.out.then hn2);clear hpl hn2 HUB0 HN0;clear a0 a1 a2 a3 a4 a5 a6 a7 a8 a9 a10 a11 a12 a13;obtain⟨a0,a1,a2,a3,a4,a5,a6,a7,a8,a9,a10,a11,a12,a13⟩:=HUB.out.cells;simp only at a0 a1 a2 a3 a4 a5 a6 a7 a8 a9 a10 a11 a12 a13
 by_cases hfq:tl sch=Zo
 ·have hf1:=eqB hfq
  unfold Zo at hf1;have HE:=Za (HD0.out.trans (if_pos hfq));clear HD0 hfq;go_wp2_with fail
  refine(Zhw pl _ (by omega) (HTB.out.on HNX.out)).mono ?_
  rintro e w3 ⟨r,rfl,hr,hn3⟩
  have hrl:r.size≤300000:=by rw[←tl_length,hr];exact Zey (by rw[tl_length];omega)
  have HR:=Za hr;have HNX3:=Za (HNX.out.then hn3);clear hr hn3;go_wp2
  go_ret3
  exact⟨r,⟨#[]⟩,by rw[HE.out];rfl,by rw[HE.out];exact HR.out,by rw[HE.out];rfl,hrl,by decide,HNX3.out⟩
 ·have hf1:=neB hfq
  unfold Zo at hf1;have HD1:=Za (HD0.out.trans (if_neg hfq));clear HD0 hfq;go_wp2_with fail
  refine(Ziy pl _ (by omega)).mono ?_
  rintro e w3 ⟨⟨x,y,rfl,hx,hy⟩,hn3⟩;have hcl:=Zf1 (tl pl);rw[←hx,←hy]at HD1 hcl;rw[tl_length,tl_length,tl_length]at hcl
  have hxl:x.size≤29000:=by omega
  have hyl:y.size≤29000:=by omega
  have HUB3:=Za (HUB.out.on hn3);have HNX2:=Za (HNX.out.then hn3);clear hx hy hn3 hcl HNX HUB;have HNX:=Za HNX2.out;clear HNX2;generalize (Zr (tl pl)).2.2=col at *;clear a0 a1 a2 a3 a4 a5 a6 a7 a8 a9 a10 a11 a12 a13;obtain⟨a0,a1,a2,a3,a4,a5,a6,a7,a8,a9,a10,a11,a12,a13⟩:=HUB3.out.cells;simp only at a0 a1 a2 a3 a4 a5 a6 a7 a8 a9 a10 a11 a12 a13
  cases col
  ·have HD2:=Za (HD1.out.trans (if_neg (by rintro⟨h,-⟩;cases h)))
   clear HD1
   by_cases h0:x.size=0
   ·have h0':=Zl h0
    have hxe:=ZA h0
    cases sp
    ·cases ub
     ·cases hp
      ·have HD:=Za (HD2.out.trans (if_neg (by rintro⟨-,h|h|h|h⟩<;>cases h)))
       clear HD2 h0 hxe;go_wp2_with fail
       refine(HU.out _).mono ?_
       rintro e w4 ⟨rfl,hn4⟩;have HUB4:=Za (HUB3.out.on hn4);have HNX4:=Za (HNX.out.then hn4);clear hn4 HNX;have HNX:=Za HNX4.out;clear HNX4;clear a0 a1 a2 a3 a4 a5 a6 a7 a8 a9 a10 a11 a12 a13;obtain⟨a0,a1,a2,a3,a4,a5,a6,a7,a8,a9,a10,a11,a12,a13⟩:=HUB4.out.cells;simp only at a0 a1 a2 a3 a4 a5 a6 a7 a8 a9 a10 a11 a12 a13;go_wp2_with fail
       refine(ZeT x false _ (by omega) (HTB.out.on HNX.out)).mono ?_
       rintro e w5 ⟨wr,rfl,hwr,hn5⟩
       have hwl:wr.size≤300000:=by rw[←tl_length,hwr];exact Zd8 (by rw[tl_length];omega)
       have HNX5:=Za (HNX.out.then hn5);rw[←hwr]at HD;clear hn5 hwr;generalize (ZO (tl x) false).2=err at *
       by_cases he:err=0
       ·subst he
        have HE:=Za (HD.out.trans (if_neg (by intro h;exact h rfl)))
        clear HD;go_wp2
        go_ret3
        exact⟨wr,y,by rw[HE.out];rfl,by rw[HE.out],by rw[HE.out],hwl,by omega,HNX5.out⟩
       ·have HE:=Za (HD.out.trans (if_pos he))
        have he':(err != 0)=true:=ZgP (beq_eq_false_iff_ne.2 he);clear HD he;go_wp2
        go_ret3
        exact⟨⟨#[]⟩,⟨#[]⟩,by rw[HE.out];rfl,by rw[HE.out];rfl,by rw[HE.out];rfl,by decide,by decide,HNX5.out⟩
      ·have HE:=Za (HD2.out.trans (if_pos ⟨hxe,Or.inr (Or.inr (Or.inr rfl))⟩))
       clear HD2 h0 hxe;go_wp2_with fail
       refine(HU.out _).mono ?_
       rintro e w4 ⟨rfl,hn4⟩;have HUB4:=Za (HUB3.out.on hn4);have HNX4:=Za (HNX.out.then hn4);clear hn4 HNX;have HNX:=Za HNX4.out;clear HNX4;clear a0 a1 a2 a3 a4 a5 a6 a7 a8 a9 a10 a11 a12 a13;obtain⟨a0,a1,a2,a3,a4,a5,a6,a7,a8,a9,a10,a11,a12,a13⟩:=HUB4.out.cells;simp only at a0 a1 a2 a3 a4 a5 a6 a7 a8 a9 a10 a11 a12 a13;go_wp2
       go_ret3
       exact⟨⟨#[]⟩,⟨#[]⟩,by rw[HE.out];rfl,by rw[HE.out];rfl,by rw[HE.out];rfl,by decide,by decide,HNX.out⟩
     ·have HE:=Za (HD2.out.trans (if_pos ⟨hxe,Or.inr (Or.inr (Or.inl rfl))⟩))
      clear HD2 h0 hxe;go_wp2_with fail
      refine(HU.out _).mono ?_
      rintro e w4 ⟨rfl,hn4⟩;have HNX4:=Za (HNX.out.then hn4);clear hn4 HNX;have HNX:=Za HNX4.out;clear HNX4;go_wp2
      go_ret3
      exact⟨⟨#[]⟩,⟨#[]⟩,by rw[HE.out];rfl,by rw[HE.out];rfl,by rw[HE.out];rfl,by decide,by decide,HNX.out⟩
    ·have HE:=Za (HD2.out.trans (if_pos ⟨hxe,Or.inr (Or.inl rfl)⟩))
     clear HD2 h0 hxe;go_wp2
     go_ret3
     exact⟨⟨#[]⟩,⟨#[]⟩,by rw[HE.out];rfl,by rw[HE.out];rfl,by rw[HE.out];rfl,by decide,by decide,HNX.out⟩
   ·have h0':=Zh h0
    have HD:=Za (HD2.out.trans (if_neg (fun h=>ZcX h0 h.1)))
    clear HD2 h0;go_wp2_with fail
    refine(ZeT x sp _ (by omega) (HTB.out.on HNX.out)).mono ?_
    rintro e w5 ⟨wr,rfl,hwr,hn5⟩
    have hwl:wr.size≤300000:=by rw[←tl_length,hwr];exact Zd8 (by rw[tl_length];omega)
    have HNX5:=Za (HNX.out.then hn5);rw[←hwr]at HD;clear hn5 hwr;generalize (ZO (tl x) sp).2=err at *
    by_cases he:err=0
    ·subst he
     have HE:=Za (HD.out.trans (if_neg (by intro h;exact h rfl)))
     clear HD;go_wp2
     go_ret3
     exact⟨wr,y,by rw[HE.out];rfl,by rw[HE.out],by rw[HE.out],hwl,by omega,HNX5.out⟩
    ·have HE:=Za (HD.out.trans (if_pos he))
     have he':(err != 0)=true:=ZgP (beq_eq_false_iff_ne.2 he);clear HD he;go_wp2
     go_ret3
     exact⟨⟨#[]⟩,⟨#[]⟩,by rw[HE.out];rfl,by rw[HE.out];rfl,by rw[HE.out];rfl,by decide,by decide,HNX5.out⟩
  ·cases ported
   ·have HE:=Za (HD1.out.trans (if_pos ⟨rfl,rfl⟩))
    clear HD1;go_wp2
    go_ret3
    exact⟨⟨#[]⟩,⟨#[]⟩,by rw[HE.out];rfl,by rw[HE.out];rfl,by rw[HE.out];rfl,by decide,by decide,HNX.out⟩
   ·have HD2:=Za (HD1.out.trans (if_neg (by rintro⟨-,h⟩;cases h)))
    clear HD1
    by_cases h0:x.size=0
    ·have h0':=Zl h0
     have HE:=Za (HD2.out.trans (if_pos ⟨ZA h0,Or.inl rfl⟩));clear HD2 h0;go_wp2
     go_ret3
     exact⟨⟨#[]⟩,⟨#[]⟩,by rw[HE.out];rfl,by rw[HE.out];rfl,by rw[HE.out];rfl,by decide,by decide,HNX.out⟩
    ·have h0':=Zh h0
     have HD:=Za (HD2.out.trans (if_neg (fun h=>ZcX h0 h.1)))
     clear HD2 h0;go_wp2_with fail
     refine(ZeT x sp _ (by omega) (HTB.out.on HNX.out)).mono ?_
     rintro e w5 ⟨wr,rfl,hwr,hn5⟩
     have hwl:wr.size≤300000:=by rw[←tl_length,hwr];exact Zd8 (by rw[tl_length];omega)
     have HNX5:=Za (HNX.out.then hn5);rw[←hwr]at HD;clear hn5 hwr;generalize (ZO (tl x) sp).2=err at *
     by_cases he:err=0
     ·subst he
      have HE:=Za (HD.out.trans (if_neg (by intro h;exact h rfl)))
      clear HD;go_wp2
      go_ret3
      exact⟨wr,y,by rw[HE.out];rfl,by rw[HE.out],by rw[HE.out],hwl,by omega,HNX5.out⟩
     ·have HE:=Za (HD.out.trans (if_pos he))
      have he':(err != 0)=true:=ZgP (beq_eq_false_iff_ne.2 he);clear HD he;go_wp2
      go_ret3
      exact⟨⟨#[]⟩,⟨#[]⟩,by rw[HE.out];rfl,by rw[HE.out];rfl,by rw[HE.out];rfl,by decide,by decide,HNX5.out⟩
theorem Zi7(ru:Rc)(u:U)(bs:LA)(s:BA)(ported:Bool)(w:World)(h:RcIs w ru u bs)(ht:Tb w)(hs:s.size≤29000):Calls Tryz.prog 122 #[.agg #[.string ru.sch,.string ru.nam,.string ru.pw,.bool ru.hh,.string ru.host,.bool ru.hp,.int .i64 (ru.port:Int),.bool ru.op,.string ru.opath,.slice ru.so ru.sn ru.sc,.bool ru.hq,.string ru.q,.bool ru.hf,.string ru.fr],.string s,.bool ported] w fun e w'=>Zd7 e w' (ZaW u (tl s) ported) bs.length∧Nx w w':=by
 have HR:=Za h;have HTB:=Za ht
 have HP:=Za (fun w' (hn:Nx w w')=>Zk6 ru bs s ported w' (ht.on hn) hs)
 have HD0:=Za (show ZaW u (tl s) ported=if ru.op=true then(u,0)else if(Z6 (ru.u bs) (tl s) ported).2.2=2 then(u,0)else if(Z6 (ru.u bs) (tl s) ported).2.2≠0 then(zeroU,(Z6 (ru.u bs) (tl s) ported).2.2)else(ZaF { u with hh:=true,host:=(Z6 (ru.u bs) (tl s) ported).1 } (Z6 (ru.u bs) (tl s) ported).2.1,0)by rw[h.eq,←h.eq];rfl)
 clear h ht;obtain⟨sch,nam,pw,hh,host,hp,port,op,opath,so,sn,sc,hq,q,hf,fr⟩:=ru;simp only at *
 cases op
 ·have HD1:=Za (HD0.out.trans (if_neg (by decide)))
  clear HD0;generalize Z6 (Rc.u ⟨sch,nam,pw,hh,host,hp,port,false,opath,so,sn,sc,hq,q,hf,fr⟩ bs) (tl s) ported=y at *;obtain⟨y1,y2,err⟩:=y;simp only at HD1 HP
  go_enter Tryz.func122,Tryz.ntmps122
  go_upto_region 1 with fail;obtain⟨g1,g2,g3⟩:=Zbe (w:=w) (ru:=⟨sch,nam,pw,hh,host,hp,port,false,opath,so,sn,sc,hq,q,hf,fr⟩) Nx.rfl;have HUB:=Za g1;have HZ:=Za g2;have HN:=Za g3;clear g1 g2 g3;generalize ((w.alloc (Obj.cells #[.string sch,.string nam,.string pw,.bool hh,.string host,.bool hp,.int .i64 (port:Int),.bool false,.string opath,.slice so sn sc,.bool hq,.string q,.bool hf,.string fr] 54)).alloc (Obj.cells #[.string ⟨#[]⟩,.string ⟨#[]⟩,.string ⟨#[]⟩,.bool false,.string ⟨#[]⟩,.bool false,.int .i64 0,.bool false,.string ⟨#[]⟩,.slice none 0 0,.bool false,.string ⟨#[]⟩,.bool false,.string ⟨#[]⟩] 54))=w1 at *;obtain⟨a0,a1,a2,a3,a4,a5,a6,a7,a8,a9,a10,a11,a12,a13⟩:=HUB.out.cells;simp only at a0 a1 a2 a3 a4 a5 a6 a7 a8 a9 a10 a11 a12 a13;go_wp2_with fail
  refine(HP.out _ HN.out).mono ?_
  rintro e w2 ⟨a,b,rfl,ha,hb,hal,hbl,hn2⟩;rw[←ha,←hb]at HD1;have HUB2:=Za (HUB.out.on hn2);have HZ2:=Za (HZ.out.on hn2);have HN2:=Za (HN.out.then hn2);have HR2:=Za (HR.out.on HN2.out);clear ha hb hn2 HUB HZ HN;clear a0 a1 a2 a3 a4 a5 a6 a7 a8 a9 a10 a11 a12 a13;obtain⟨a0,a1,a2,a3,a4,a5,a6,a7,a8,a9,a10,a11,a12,a13⟩:=HUB2.out.cells;have af3:=HUB2.out.free 3;have af4:=HUB2.out.free 4;obtain⟨z0,z1,z2,z3,z4,z5,z6,z7,z8,z9,z10,z11,z12,z13⟩:=HZ2.out.cells;have zf0:=HZ2.out.free 0;have zf1:=HZ2.out.free 1;have zf2:=HZ2.out.free 2;have zf3:=HZ2.out.free 3;have zf4:=HZ2.out.free 4;have zf5:=HZ2.out.free 5;have zf6:=HZ2.out.free 6;have zf7:=HZ2.out.free 7;have zf8:=HZ2.out.free 8;have zf9:=HZ2.out.free 9;have zf10:=HZ2.out.free 10;have zf11:=HZ2.out.free 11;have zf12:=HZ2.out.free 12;have zf13:=HZ2.out.free 13;simp only at a0 a1 a2 a3 a4 a5 a6 a7 a8 a9 a10 a11 a12 a13
  by_cases h2:err=2
  ·have HE:=Za (HD1.out.trans (if_pos h2))
   have h2':(err==2)=true:=by rw[h2];rfl
   clear HD1 h2;go_wp2
   exact Z5 (rb:=w.heap.size+1) Tryz.results122 rfl rfl (RecB.put HZ2.out _ _ _ _ _ _ _ _ _ _ _ _ _ _) rfl ⟨⟨⟨sch,nam,pw,hh,host,hp,port,false,opath,so,sn,sc,hq,q,hf,fr⟩,bs,(by rw[HE.out];first|done|rfl),(by rw[HE.out];exact HR2.out.ks (Ks.then Ks.rfl (Zm HZ2.out.ty (by decide) _ _ _ _ _ _ _ _ _ _ _ _ _ _))),by simp⟩,(Zd HN2.out (by omega) _ _ _ _ _ _ _ _ _ _ _ _ _ _)⟩
  ·have HD2:=Za (HD1.out.trans (if_neg h2))
   have h2':(err==2)=false:=beq_eq_false_iff_ne.2 h2;clear HD1 h2
   by_cases he:err=0
   ·subst he
    have HE:=Za (HD2.out.trans (if_neg (by intro x;exact x rfl)))
    clear HD2;go_wp2_with fail
    refine(ZhQ ⟨sch,nam,pw,true,a,hp,port,false,opath,so,sn,sc,hq,q,hf,fr⟩ { u with hh:=true,host:=tl a } bs b _ (RcIs.ks { HR2.out with eq:=by rw[←HR2.out.eq];rfl,lhost:=hal } (Ks.then (Ks.then Ks.rfl (ZZ HUB2.out.ty (by decide) 3 (.bool true))) (ZZ (HUB2.out.ty.set w.heap.size 3 (.bool true)) (by decide) 4 (.string a)))) hbl).mono ?_
    rintro e w3 ⟨r3,rfl,hr3,hn3⟩;have HR3:=Za hr3
    have HZ3:=Za ((HZ2.out.far (q:=w.heap.size) (by omega) 3 (.bool true)).far (q:=w.heap.size) (by omega) 4 (.string a) |>.on hn3)
    have HN3:=Za (show Nx w w3 from Nx.then (show Nx w _ from Below.setCell (p:=⟨w.heap.size,4,none⟩) (Below.setCell (p:=⟨w.heap.size,3,none⟩) HN2.out (Nat.le_refl _) (.bool true)) (Nat.le_refl _) (.string a)) hn3);clear hr3 hn3;clear a0 a1 a2 a3 a4 a5 a6 a7 a8 a9 a10 a11 a12 a13 af3 af4 z0 z1 z2 z3 z4 z5 z6 z7 z8 z9 z10 z11 z12 z13 zf0 zf1 zf2 zf3 zf4 zf5 zf6 zf7 zf8 zf9 zf10 zf11 zf12 zf13;obtain⟨z0,z1,z2,z3,z4,z5,z6,z7,z8,z9,z10,z11,z12,z13⟩:=HZ3.out.cells;have zf0:=HZ3.out.free 0;have zf1:=HZ3.out.free 1;have zf2:=HZ3.out.free 2;have zf3:=HZ3.out.free 3;have zf4:=HZ3.out.free 4;have zf5:=HZ3.out.free 5;have zf6:=HZ3.out.free 6;have zf7:=HZ3.out.free 7;have zf8:=HZ3.out.free 8;have zf9:=HZ3.out.free 9;have zf10:=HZ3.out.free 10;have zf11:=HZ3.out.free 11;have zf12:=HZ3.out.free 12;have zf13:=HZ3.out.free 13;go_wp2
    exact Z5 (rb:=w.heap.size+1) Tryz.results122 rfl rfl (RecB.put HZ3.out _ _ _ _ _ _ _ _ _ _ _ _ _ _) rfl ⟨⟨r3,bs,(by rw[HE.out];first|done|rfl),(by rw[HE.out];exact HR3.out.ks (Ks.then Ks.rfl (Zm HZ3.out.ty (by decide) _ _ _ _ _ _ _ _ _ _ _ _ _ _))),by simp⟩,(Zd HN3.out (by omega) _ _ _ _ _ _ _ _ _ _ _ _ _ _)⟩
   ·have HE:=Za (HD2.out.trans (if_pos he))
    have he':(err != 0)=true:=ZgP (beq_eq_false_iff_ne.2 he);clear HD2 he;go_wp2
    exact Z5 (rb:=w.heap.size+1) Tryz.results122 rfl rfl (RecB.put HZ2.out _ _ _ _ _ _ _ _ _ _ _ _ _ _) rfl ⟨⟨rz,[],(by rw[HE.out];first|done|rfl),(by rw[HE.out];exact Zew _),by simp⟩,(Zd HN2.out (by omega) _ _ _ _ _ _ _ _ _ _ _ _ _ _)⟩
 ·have HE:=Za (HD0.out.trans (if_pos rfl))
  clear HD0
  go_enter Tryz.func122,Tryz.ntmps122
  go_upto_region 1 with fail;obtain⟨g1,g2,g3⟩:=Zbe (w:=w) (ru:=⟨sch,nam,pw,hh,host,hp,port,true,opath,so,sn,sc,hq,q,hf,fr⟩) Nx.rfl;have HUB:=Za g1;have HZ:=Za g2;have HN:=Za g3;clear g1 g2 g3;generalize ((w.alloc (Obj.cells #[.string sch,.string nam,.string pw,.bool hh,.string host,.bool hp,.int .i64 (port:Int),.bool true,.string opath,.slice so sn sc,.bool hq,.string q,.bool hf,.string fr] 54)).alloc (Obj.cells #[.string ⟨#[]⟩,.string ⟨#[]⟩,.string ⟨#[]⟩,.bool false,.string ⟨#[]⟩,.bool false,.int .i64 0,.bool false,.string ⟨#[]⟩,.slice none 0 0,.bool false,.string ⟨#[]⟩,.bool false,.string ⟨#[]⟩] 54))=w1 at *;obtain⟨a0,a1,a2,a3,a4,a5,a6,a7,a8,a9,a10,a11,a12,a13⟩:=HUB.out.cells;obtain⟨z0,z1,z2,z3,z4,z5,z6,z7,z8,z9,z10,z11,z12,z13⟩:=HZ.out.cells;have zf0:=HZ.out.free 0;have zf1:=HZ.out.free 1;have zf2:=HZ.out.free 2;have zf3:=HZ.out.free 3;have zf4:=HZ.out.free 4;have zf5:=HZ.out.free 5;have zf6:=HZ.out.free 6;have zf7:=HZ.out.free 7;have zf8:=HZ.out.free 8;have zf9:=HZ.out.free 9;have zf10:=HZ.out.free 10;have zf11:=HZ.out.free 11;have zf12:=HZ.out.free 12;have zf13:=HZ.out.free 13;simp only at a0 a1 a2 a3 a4 a5 a6 a7 a8 a9 a10 a11 a12 a13;go_wp2
  exact Z5 (rb:=w.heap.size+1) Tryz.results122 rfl rfl (RecB.put HZ.out _ _ _ _ _ _ _ _ _ _ _ _ _ _) rfl ⟨⟨⟨sch,nam,pw,hh,host,hp,port,true,opath,so,sn,sc,hq,q,hf,fr⟩,bs,(by rw[HE.out];first|done|rfl),(by rw[HE.out];exact(HR.out.on HN.out).ks (Ks.then Ks.rfl (Zm HZ.out.ty (by decide) _ _ _ _ _ _ _ _ _ _ _ _ _ _))),by simp⟩,(Zd HN.out (by omega) _ _ _ _ _ _ _ _ _ _ _ _ _ _)⟩
theorem Zk8(ru:Rc)(u:U)(bs:LA)(s:BA)(w:World)(h:RcIs w ru u bs)(hb:bs.length≤30001)(hs:s.size≤29000):Calls Tryz.prog 123 #[.agg #[.string ru.sch,.string ru.nam,.string ru.pw,.bool ru.hh,.string ru.host,.bool ru.hp,.int .i64 (ru.port:Int),.bool ru.op,.string ru.opath,.slice ru.so ru.sn ru.sc,.bool ru.hq,.string ru.q,.bool ru.hf,.string ru.fr],.int .i64 6,.string s] w fun e w'=>ZqT e w w' (ZbI u (tl s)):=by
 have HP:Hid (∀w',Nx w w'→Calls Tryz.prog 168 #[.agg #[.string ru.sch,.string ru.nam,.string ru.pw,.bool ru.hh,.string ru.host,.bool ru.hp,.int .i64 (ru.port:Int),.bool ru.op,.string ru.opath,.slice ru.so ru.sn ru.sc,.bool ru.hq,.string ru.q,.bool ru.hf,.string ru.fr],.string s] w' fun e w''=>ZqT e w' w'' (ZbI u (tl s))):=Za (fun w' hn=>(ZnX ru u bs s w' (h.on hn) (by omega)).mono (by rintro e w2 ⟨r,he,hr,hn2⟩;exact⟨r,bs,he,hr,by omega,hn2⟩))
 clear h
 go_enter Tryz.func123,Tryz.ntmps123
 go_upto_region 1 with fail;obtain⟨g1,g2,g3⟩:=Zbe (w:=w) (ru:=ru) Nx.rfl;have HUB:=Za g1;have HZ:=Za g2;have HN:=Za g3;clear g1 g2 g3;generalize ((w.alloc (Obj.cells #[.string ru.sch,.string ru.nam,.string ru.pw,.bool ru.hh,.string ru.host,.bool ru.hp,.int .i64 (ru.port:Int),.bool ru.op,.string ru.opath,.slice ru.so ru.sn ru.sc,.bool ru.hq,.string ru.q,.bool ru.hf,.string ru.fr] 54)).alloc (Obj.cells #[.string ⟨#[]⟩,.string ⟨#[]⟩,.string ⟨#[]⟩,.bool false,.string ⟨#[]⟩,.bool false,.int .i64 0,.bool false,.string ⟨#[]⟩,.slice none 0 0,.bool false,.string ⟨#[]⟩,.bool false,.string ⟨#[]⟩] 54))=w1 at *;obtain⟨a0,a1,a2,a3,a4,a5,a6,a7,a8,a9,a10,a11,a12,a13⟩:=HUB.out.cells;go_wp2_with fail
 refine(HP.out _ HN.out).mono ?_
 rintro e w2 ⟨r,ds,rfl,hr,hdl,hn2⟩;have HR:=Za hr;have HZ2:=Za (HZ.out.on hn2);have HN2:=Za (HN.out.then hn2);clear hr hn2 HZ HN;clear a0 a1 a2 a3 a4 a5 a6 a7 a8 a9 a10 a11 a12 a13;obtain⟨z0,z1,z2,z3,z4,z5,z6,z7,z8,z9,z10,z11,z12,z13⟩:=HZ2.out.cells;have zf0:=HZ2.out.free 0;have zf1:=HZ2.out.free 1;have zf2:=HZ2.out.free 2;have zf3:=HZ2.out.free 3;have zf4:=HZ2.out.free 4;have zf5:=HZ2.out.free 5;have zf6:=HZ2.out.free 6;have zf7:=HZ2.out.free 7;have zf8:=HZ2.out.free 8;have zf9:=HZ2.out.free 9;have zf10:=HZ2.out.free 10;have zf11:=HZ2.out.free 11;have zf12:=HZ2.out.free 12;have zf13:=HZ2.out.free 13;go_wp2
 exact Zbl (rb:=w.heap.size+1) Tryz.results123 rfl (RecB.put HZ2.out _ _ _ _ _ _ _ _ _ _ _ _ _ _) rfl ⟨r,ds,rfl,HR.out.ks (Zm HZ2.out.ty (by decide) _ _ _ _ _ _ _ _ _ _ _ _ _ _),hdl,(Zd HN2.out (by omega) _ _ _ _ _ _ _ _ _ _ _ _ _ _)⟩
end Go.Proofs.YtchkhibgbnhjpaaGreatDoor
