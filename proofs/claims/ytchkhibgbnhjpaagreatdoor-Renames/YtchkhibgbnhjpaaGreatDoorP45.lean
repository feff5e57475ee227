import Derived.Test.YtchkhibgbnhjpaaGreatDoorP44
namespace Go.Proofs.YtchkhibgbnhjpaaGreatDoor
open Go.RowKit
set_option maxHeartbeats 8000000
theorem ZgK(ru:Rc)(bs:LA)(s:BA)(w:World):Calls Tryz.prog 210 #[.agg #[.string ru.sch,.string ru.nam,.string ru.pw,.bool ru.hh,.string ru.host,.bool ru.hp,.int .i64 (ru.port:Int),.bool ru.op,.string ru.opath,.slice ru.so ru.sn ru.sc,.bool ru.hq,.string ru.q,.bool ru.hf,.string ru.fr],.string s] w fun e w'=>e=.returned (.bool (Zx (ru.u bs) (tl s)))∧Nx w w':=by
 have HU:=Za (fun w'=>Zi6 ru bs w')
 have HD0:=Za (show Zx (ru.u bs) (tl s)=((Zb (tl ru.sch)==Zb (tl s)) && !(tl s==Zo&&(Za2 (ru.u bs)||ru.hp))&&(tl ru.sch != Zo || !(tl ru.host).isEmpty))from rfl);obtain⟨sch,nam,pw,hh,host,hp,port,op,opath,so,sn,sc,hq,q,hf,fr⟩:=ru;simp only at *;generalize hs1:Zb (tl sch)=s1 at *;generalize hs2:Zb (tl s)=s2 at *;have HS1:=Za hs1;have HS2:=Za hs2;clear hs1 hs2
 by_cases hfs:tl s=Zo
 ·have e2:s2=true:=by rw[←HS2.out,hfs];exact file_special
  subst e2;have hs1':=eqB hfs;unfold Zo at hs1'
  cases s1
  ·have HE:=Za (show Zx (Rc.u ⟨sch,nam,pw,hh,host,hp,port,op,opath,so,sn,sc,hq,q,hf,fr⟩ bs) (tl s)=false by rw[HD0.out];rfl)
   clear HD0 hfs
   go_enter Tryz.func210,Tryz.ntmps210
   go_upto_region 1 with fail;have HUB:=Za (ZP w ⟨sch,nam,pw,hh,host,hp,port,op,opath,so,sn,sc,hq,q,hf,fr⟩);have HN:=Za (show Nx w (w.alloc (Obj.cells #[.string sch,.string nam,.string pw,.bool hh,.string host,.bool hp,.int .i64 (port:Int),.bool op,.string opath,.slice so sn sc,.bool hq,.string q,.bool hf,.string fr] 54))from Nx.rfl.alloc _);generalize (w.alloc (Obj.cells #[.string sch,.string nam,.string pw,.bool hh,.string host,.bool hp,.int .i64 (port:Int),.bool op,.string opath,.slice so sn sc,.bool hq,.string q,.bool hf,.string fr] 54))=w1 at *;obtain⟨a0,a1,a2,a3,a4,a5,a6,a7,a8,a9,a10,a11,a12,a13⟩:=HUB.out.cells;simp only at a0 a1 a2 a3 a4 a5 a6 a7 a8 a9 a10 a11 a12 a13
   go_wp2_with (go_at_call 112;refine(Zt _ _).mono ?_;rintro e w' ⟨rfl,rfl⟩;first|rw[HS1.out]|rw[HS2.out])
   go_ret;exact⟨Zj HE.out.symm,HN.out⟩
  ·generalize hub:Za2 (Rc.u ⟨sch,nam,pw,hh,host,hp,port,op,opath,so,sn,sc,hq,q,hf,fr⟩ bs)=ub at *
   cases ub
   ·cases hp
    ·have HD:=Za (HD0.out.trans (by rw[hfs];rfl:_=(tl sch != Zo || !(tl host).isEmpty)))
     clear HD0 hfs hub
     by_cases hfq:tl sch=Zo
     ·have hf1:=eqB hfq
      unfold Zo at hf1
      have hf2:(sch.toList != [102,105,108,101])=false:=by simp only[bne,hf1];rfl
      by_cases h0:host.size=0
      ·have h0':=Zl h0
       have HE:=Za (show Zx (Rc.u ⟨sch,nam,pw,hh,host,false,port,op,opath,so,sn,sc,hq,q,hf,fr⟩ bs) (tl s)=false by rw[HD.out];simp[hfq,tl_isEmpty,h0])
       clear hfq h0 HD
       go_enter Tryz.func210,Tryz.ntmps210
       go_upto_region 1 with fail;have HUB:=Za (ZP w ⟨sch,nam,pw,hh,host,false,port,op,opath,so,sn,sc,hq,q,hf,fr⟩);have HN:=Za (show Nx w (w.alloc (Obj.cells #[.string sch,.string nam,.string pw,.bool hh,.string host,.bool false,.int .i64 (port:Int),.bool op,.string opath,.slice so sn sc,.bool hq,.string q,.bool hf,.string fr] 54))from Nx.rfl.alloc _);generalize (w.alloc (Obj.cells #[.string sch,.string nam,.string pw,.bool hh,.string host,.bool false,.int .i64 (port:Int),.bool op,.string opath,.slice so sn sc,.bool hq,.string q,.bool hf,.string fr] 54))=w1 at *;obtain⟨a0,a1,a2,a3,a4,a5,a6,a7,a8,a9,a10,a11,a12,a13⟩:=HUB.out.cells;simp only at a0 a1 a2 a3 a4 a5 a6 a7 a8 a9 a10 a11 a12 a13
       go_wp2_with (first|(go_at_call 112;refine(Zt _ _).mono ?_;rintro e w' ⟨rfl,rfl⟩;first|rw[HS1.out]|rw[HS2.out])|fail)
       refine(HU.out _).mono ?_
       rintro e w2 ⟨rfl,hn2⟩;have HUB2:=Za (HUB.out.on hn2);have HN2:=Za (HN.out.then hn2);clear hn2;clear a0 a1 a2 a3 a4 a5 a6 a7 a8 a9 a10 a11 a12 a13;obtain⟨a0,a1,a2,a3,a4,a5,a6,a7,a8,a9,a10,a11,a12,a13⟩:=HUB2.out.cells;simp only at a0 a1 a2 a3 a4 a5 a6 a7 a8 a9 a10 a11 a12 a13;go_wp2;go_ret;exact⟨Zj HE.out.symm,HN2.out⟩
      ·have h0':=Zh h0
       have HE:=Za (show Zx (Rc.u ⟨sch,nam,pw,hh,host,false,port,op,opath,so,sn,sc,hq,q,hf,fr⟩ bs) (tl s)=true by rw[HD.out];simp[hfq,tl_isEmpty,h0])
       clear hfq h0 HD
       go_enter Tryz.func210,Tryz.ntmps210
       go_upto_region 1 with fail;have HUB:=Za (ZP w ⟨sch,nam,pw,hh,host,false,port,op,opath,so,sn,sc,hq,q,hf,fr⟩);have HN:=Za (show Nx w (w.alloc (Obj.cells #[.string sch,.string nam,.string pw,.bool hh,.string host,.bool false,.int .i64 (port:Int),.bool op,.string opath,.slice so sn sc,.bool hq,.string q,.bool hf,.string fr] 54))from Nx.rfl.alloc _);generalize (w.alloc (Obj.cells #[.string sch,.string nam,.string pw,.bool hh,.string host,.bool false,.int .i64 (port:Int),.bool op,.string opath,.slice so sn sc,.bool hq,.string q,.bool hf,.string fr] 54))=w1 at *;obtain⟨a0,a1,a2,a3,a4,a5,a6,a7,a8,a9,a10,a11,a12,a13⟩:=HUB.out.cells;simp only at a0 a1 a2 a3 a4 a5 a6 a7 a8 a9 a10 a11 a12 a13
       go_wp2_with (first|(go_at_call 112;refine(Zt _ _).mono ?_;rintro e w' ⟨rfl,rfl⟩;first|rw[HS1.out]|rw[HS2.out])|fail)
       refine(HU.out _).mono ?_
       rintro e w2 ⟨rfl,hn2⟩;have HUB2:=Za (HUB.out.on hn2);have HN2:=Za (HN.out.then hn2);clear hn2;clear a0 a1 a2 a3 a4 a5 a6 a7 a8 a9 a10 a11 a12 a13;obtain⟨a0,a1,a2,a3,a4,a5,a6,a7,a8,a9,a10,a11,a12,a13⟩:=HUB2.out.cells;simp only at a0 a1 a2 a3 a4 a5 a6 a7 a8 a9 a10 a11 a12 a13;go_wp2;go_ret;exact⟨Zj HE.out.symm,HN2.out⟩
     ·have hf1:=neB hfq
      unfold Zo at hf1
      have hf2:(sch.toList != [102,105,108,101])=true:=by simp only[bne,hf1];rfl
      have HE:=Za (show Zx (Rc.u ⟨sch,nam,pw,hh,host,false,port,op,opath,so,sn,sc,hq,q,hf,fr⟩ bs) (tl s)=true by rw[HD.out];simp[hfq,tl_isEmpty])
      clear hfq HD
      go_enter Tryz.func210,Tryz.ntmps210
      go_upto_region 1 with fail;have HUB:=Za (ZP w ⟨sch,nam,pw,hh,host,false,port,op,opath,so,sn,sc,hq,q,hf,fr⟩);have HN:=Za (show Nx w (w.alloc (Obj.cells #[.string sch,.string nam,.string pw,.bool hh,.string host,.bool false,.int .i64 (port:Int),.bool op,.string opath,.slice so sn sc,.bool hq,.string q,.bool hf,.string fr] 54))from Nx.rfl.alloc _);generalize (w.alloc (Obj.cells #[.string sch,.string nam,.string pw,.bool hh,.string host,.bool false,.int .i64 (port:Int),.bool op,.string opath,.slice so sn sc,.bool hq,.string q,.bool hf,.string fr] 54))=w1 at *;obtain⟨a0,a1,a2,a3,a4,a5,a6,a7,a8,a9,a10,a11,a12,a13⟩:=HUB.out.cells;simp only at a0 a1 a2 a3 a4 a5 a6 a7 a8 a9 a10 a11 a12 a13
      go_wp2_with (first|(go_at_call 112;refine(Zt _ _).mono ?_;rintro e w' ⟨rfl,rfl⟩;first|rw[HS1.out]|rw[HS2.out])|fail)
      refine(HU.out _).mono ?_
      rintro e w2 ⟨rfl,hn2⟩;have HUB2:=Za (HUB.out.on hn2);have HN2:=Za (HN.out.then hn2);clear hn2;clear a0 a1 a2 a3 a4 a5 a6 a7 a8 a9 a10 a11 a12 a13;obtain⟨a0,a1,a2,a3,a4,a5,a6,a7,a8,a9,a10,a11,a12,a13⟩:=HUB2.out.cells;simp only at a0 a1 a2 a3 a4 a5 a6 a7 a8 a9 a10 a11 a12 a13;go_wp2;go_ret;exact⟨Zj HE.out.symm,HN2.out⟩
    ·have HE:=Za (show Zx (Rc.u ⟨sch,nam,pw,hh,host,true,port,op,opath,so,sn,sc,hq,q,hf,fr⟩ bs) (tl s)=false by rw[HD0.out,hfs];rfl)
     clear HD0 hfs hub
     go_enter Tryz.func210,Tryz.ntmps210
     go_upto_region 1 with fail;have HUB:=Za (ZP w ⟨sch,nam,pw,hh,host,true,port,op,opath,so,sn,sc,hq,q,hf,fr⟩);have HN:=Za (show Nx w (w.alloc (Obj.cells #[.string sch,.string nam,.string pw,.bool hh,.string host,.bool true,.int .i64 (port:Int),.bool op,.string opath,.slice so sn sc,.bool hq,.string q,.bool hf,.string fr] 54))from Nx.rfl.alloc _);generalize (w.alloc (Obj.cells #[.string sch,.string nam,.string pw,.bool hh,.string host,.bool true,.int .i64 (port:Int),.bool op,.string opath,.slice so sn sc,.bool hq,.string q,.bool hf,.string fr] 54))=w1 at *;obtain⟨a0,a1,a2,a3,a4,a5,a6,a7,a8,a9,a10,a11,a12,a13⟩:=HUB.out.cells;simp only at a0 a1 a2 a3 a4 a5 a6 a7 a8 a9 a10 a11 a12 a13
     go_wp2_with (first|(go_at_call 112;refine(Zt _ _).mono ?_;rintro e w' ⟨rfl,rfl⟩;first|rw[HS1.out]|rw[HS2.out])|fail)
     refine(HU.out _).mono ?_
     rintro e w2 ⟨rfl,hn2⟩;have HUB2:=Za (HUB.out.on hn2);have HN2:=Za (HN.out.then hn2);clear hn2;clear a0 a1 a2 a3 a4 a5 a6 a7 a8 a9 a10 a11 a12 a13;obtain⟨a0,a1,a2,a3,a4,a5,a6,a7,a8,a9,a10,a11,a12,a13⟩:=HUB2.out.cells;simp only at a0 a1 a2 a3 a4 a5 a6 a7 a8 a9 a10 a11 a12 a13;go_wp2;go_ret;exact⟨Zj HE.out.symm,HN2.out⟩
   ·have HE:=Za (show Zx (Rc.u ⟨sch,nam,pw,hh,host,hp,port,op,opath,so,sn,sc,hq,q,hf,fr⟩ bs) (tl s)=false by rw[HD0.out,hfs];rfl)
    clear HD0 hfs hub
    go_enter Tryz.func210,Tryz.ntmps210
    go_upto_region 1 with fail;have HUB:=Za (ZP w ⟨sch,nam,pw,hh,host,hp,port,op,opath,so,sn,sc,hq,q,hf,fr⟩);have HN:=Za (show Nx w (w.alloc (Obj.cells #[.string sch,.string nam,.string pw,.bool hh,.string host,.bool hp,.int .i64 (port:Int),.bool op,.string opath,.slice so sn sc,.bool hq,.string q,.bool hf,.string fr] 54))from Nx.rfl.alloc _);generalize (w.alloc (Obj.cells #[.string sch,.string nam,.string pw,.bool hh,.string host,.bool hp,.int .i64 (port:Int),.bool op,.string opath,.slice so sn sc,.bool hq,.string q,.bool hf,.string fr] 54))=w1 at *;obtain⟨a0,a1,a2,a3,a4,a5,a6,a7,a8,a9,a10,a11,a12,a13⟩:=HUB.out.cells;simp only at a0 a1 a2 a3 a4 a5 a6 a7 a8 a9 a10 a11 a12 a13
    go_wp2_with (first|(go_at_call 112;refine(Zt _ _).mono ?_;rintro e w' ⟨rfl,rfl⟩;first|rw[HS1.out]|rw[HS2.out])|fail)
    refine(HU.out _).mono ?_
    rintro e w2 ⟨rfl,hn2⟩;have HUB2:=Za (HUB.out.on hn2);have HN2:=Za (HN.out.then hn2);clear hn2;clear a0 a1 a2 a3 a4 a5 a6 a7 a8 a9 a10 a11 a12 a13;obtain⟨a0,a1,a2,a3,a4,a5,a6,a7,a8,a9,a10,a11,a12,a13⟩:=HUB2.out.cells;simp only at a0 a1 a2 a3 a4 a5 a6 a7 a8 a9 a10 a11 a12 a13;go_wp2;go_ret;exact⟨Zj HE.out.symm,HN2.out⟩
 ·have hs1':=neB hfs
  unfold Zo at hs1';have HNF:=Za (show(tl s==Zo)=false from beq_eq_false_iff_ne.2 hfs);clear hfs
  cases s1
  ·cases s2
   ·have HD:=Za (HD0.out.trans (by rw[HNF.out];rfl:_=(tl sch != Zo || !(tl host).isEmpty)))
    clear HD0
    by_cases hfq:tl sch=Zo
    ·have hf1:=eqB hfq
     unfold Zo at hf1
     have hf2:(sch.toList != [102,105,108,101])=false:=by simp only[bne,hf1];rfl
     by_cases h0:host.size=0
     ·have h0':=Zl h0
      have HE:=Za (show Zx (Rc.u ⟨sch,nam,pw,hh,host,hp,port,op,opath,so,sn,sc,hq,q,hf,fr⟩ bs) (tl s)=false by rw[HD.out];simp[hfq,tl_isEmpty,h0])
      clear hfq h0 HD
      go_enter Tryz.func210,Tryz.ntmps210
      go_upto_region 1 with fail;have HUB:=Za (ZP w ⟨sch,nam,pw,hh,host,hp,port,op,opath,so,sn,sc,hq,q,hf,fr⟩);have HN:=Za (show Nx w (w.alloc (Obj.cells #[.string sch,.string nam,.string pw,.bool hh,.string host,.bool hp,.int .i64 (port:Int),.bool op,.string opath,.slice so sn sc,.bool hq,.string q,.bool hf,.string fr] 54))from Nx.rfl.alloc _);generalize (w.alloc (Obj.cells #[.string sch,.string nam,.string pw,.bool hh,.string host,.bool hp,.int .i64 (port:Int),.bool op,.string opath,.slice so sn sc,.bool hq,.string q,.bool hf,.string fr] 54))=w1 at *;obtain⟨a0,a1,a2,a3,a4,a5,a6,a7,a8,a9,a10,a11,a12,a13⟩:=HUB.out.cells;simp only at a0 a1 a2 a3 a4 a5 a6 a7 a8 a9 a10 a11 a12 a13
      go_wp2_with (go_at_call 112;refine(Zt _ _).mono ?_;rintro e w' ⟨rfl,rfl⟩;first|rw[HS1.out]|rw[HS2.out])
      go_ret;exact⟨Zj HE.out.symm,HN.out⟩
     ·have h0':=Zh h0
      have HE:=Za (show Zx (Rc.u ⟨sch,nam,pw,hh,host,hp,port,op,opath,so,sn,sc,hq,q,hf,fr⟩ bs) (tl s)=true by rw[HD.out];simp[hfq,tl_isEmpty,h0])
      clear hfq h0 HD
      go_enter Tryz.func210,Tryz.ntmps210
      go_upto_region 1 with fail;have HUB:=Za (ZP w ⟨sch,nam,pw,hh,host,hp,port,op,opath,so,sn,sc,hq,q,hf,fr⟩);have HN:=Za (show Nx w (w.alloc (Obj.cells #[.string sch,.string nam,.string pw,.bool hh,.string host,.bool hp,.int .i64 (port:Int),.bool op,.string opath,.slice so sn sc,.bool hq,.string q,.bool hf,.string fr] 54))from Nx.rfl.alloc _);generalize (w.alloc (Obj.cells #[.string sch,.string nam,.string pw,.bool hh,.string host,.bool hp,.int .i64 (port:Int),.bool op,.string opath,.slice so sn sc,.bool hq,.string q,.bool hf,.string fr] 54))=w1 at *;obtain⟨a0,a1,a2,a3,a4,a5,a6,a7,a8,a9,a10,a11,a12,a13⟩:=HUB.out.cells;simp only at a0 a1 a2 a3 a4 a5 a6 a7 a8 a9 a10 a11 a12 a13
      go_wp2_with (go_at_call 112;refine(Zt _ _).mono ?_;rintro e w' ⟨rfl,rfl⟩;first|rw[HS1.out]|rw[HS2.out])
      go_ret;exact⟨Zj HE.out.symm,HN.out⟩
    ·have hf1:=neB hfq
     unfold Zo at hf1
     have hf2:(sch.toList != [102,105,108,101])=true:=by simp only[bne,hf1];rfl
     have HE:=Za (show Zx (Rc.u ⟨sch,nam,pw,hh,host,hp,port,op,opath,so,sn,sc,hq,q,hf,fr⟩ bs) (tl s)=true by rw[HD.out];simp[hfq,tl_isEmpty])
     clear hfq HD
     go_enter Tryz.func210,Tryz.ntmps210
     go_upto_region 1 with fail;have HUB:=Za (ZP w ⟨sch,nam,pw,hh,host,hp,port,op,opath,so,sn,sc,hq,q,hf,fr⟩);have HN:=Za (show Nx w (w.alloc (Obj.cells #[.string sch,.string nam,.string pw,.bool hh,.string host,.bool hp,.int .i64 (port:Int),.bool op,.string opath,.slice so sn sc,.bool hq,.string q,.bool hf,.string fr] 54))from Nx.rfl.alloc _);generalize (w.alloc (Obj.cells #[.string sch,.string nam,.string pw,.bool hh,.string host,.bool hp,.int .i64 (port:Int),.bool op,.string opath,.slice so sn sc,.bool hq,.string q,.bool hf,.string fr] 54))=w1 at *;obtain⟨a0,a1,a2,a3,a4,a5,a6,a7,a8,a9,a10,a11,a12,a13⟩:=HUB.out.cells;simp only at a0 a1 a2 a3 a4 a5 a6 a7 a8 a9 a10 a11 a12 a13
     go_wp2_with (go_at_call 112;refine(Zt _ _).mono ?_;rintro e w' ⟨rfl,rfl⟩;first|rw[HS1.out]|rw[HS2.out])
     go_ret;exact⟨Zj HE.out.symm,HN.out⟩
   ·have HE:=Za (show Zx (Rc.u ⟨sch,nam,pw,hh,host,hp,port,op,opath,so,sn,sc,hq,q,hf,fr⟩ bs) (tl s)=false by rw[HD0.out];rfl)
    clear HD0
    go_enter Tryz.func210,Tryz.ntmps210
    go_upto_region 1 with fail;have HUB:=Za (ZP w ⟨sch,nam,pw,hh,host,hp,port,op,opath,so,sn,sc,hq,q,hf,fr⟩);have HN:=Za (show Nx w (w.alloc (Obj.cells #[.string sch,.string nam,.string pw,.bool hh,.string host,.bool hp,.int .i64 (port:Int),.bool op,.string opath,.slice so sn sc,.bool hq,.string q,.bool hf,.string fr] 54))from Nx.rfl.alloc _);generalize (w.alloc (Obj.cells #[.string sch,.string nam,.string pw,.bool hh,.string host,.bool hp,.int .i64 (port:Int),.bool op,.string opath,.slice so sn sc,.bool hq,.string q,.bool hf,.string fr] 54))=w1 at *;obtain⟨a0,a1,a2,a3,a4,a5,a6,a7,a8,a9,a10,a11,a12,a13⟩:=HUB.out.cells;simp only at a0 a1 a2 a3 a4 a5 a6 a7 a8 a9 a10 a11 a12 a13
    go_wp2_with (go_at_call 112;refine(Zt _ _).mono ?_;rintro e w' ⟨rfl,rfl⟩;first|rw[HS1.out]|rw[HS2.out])
    go_ret;exact⟨Zj HE.out.symm,HN.out⟩
  ·cases s2
   ·have HE:=Za (show Zx (Rc.u ⟨sch,nam,pw,hh,host,hp,port,op,opath,so,sn,sc,hq,q,hf,fr⟩ bs) (tl s)=false by rw[HD0.out];rfl)
    clear HD0
    go_enter Tryz.func210,Tryz.ntmps210
    go_upto_region 1 with fail;have HUB:=Za (ZP w ⟨sch,nam,pw,hh,host,hp,port,op,opath,so,sn,sc,hq,q,hf,fr⟩);have HN:=Za (show Nx w (w.alloc (Obj.cells #[.string sch,.string nam,.string pw,.bool hh,.string host,.bool hp,.int .i64 (port:Int),.bool op,.string opath,.slice so sn sc,.bool hq,.string q,.bool hf,.string fr] 54))from Nx.rfl.alloc _);generalize (w.alloc (Obj.cells #[.string sch,.string nam,.string pw,.bool hh,.string host,.bool hp,.int .i64 (port:Int),.bool op,.string opath,.slice so sn sc,.bool hq,.string q,.bool hf,.string fr] 54))=w1 at *;obtain⟨a0,a1,a2,a3,a4,a5,a6,a7,a8,a9,a10,a11,a12,a13⟩:=HUB.out.cells;simp only at a0 a1 a2 a3 a4 a5 a6 a7 a8 a9 a10 a11 a12 a13
    go_wp2_with (go_at_call 112;refine(Zt _ _).mono ?_;rintro e w' ⟨rfl,rfl⟩;first|rw[HS1.out]|rw[HS2.out])
    go_ret;exact⟨Zj HE.out.symm,HN.out⟩
   ·have HD:=Za (HD0.out.trans (by rw[HNF.out];rfl:_=(tl sch != Zo || !(tl host).isEmpty)))
    clear HD0
    by_cases hfq:tl sch=Zo
    ·have hf1:=eqB hfq
     unfold Zo at hf1
     have hf2:(sch.toList != [102,105,108,101])=false:=by simp only[bne,hf1];rfl
     by_cases h0:host.size=0
     ·have h0':=Zl h0
      have HE:=Za (show Zx (Rc.u ⟨sch,nam,pw,hh,host,hp,port,op,opath,so,sn,sc,hq,q,hf,fr⟩ bs) (tl s)=false by rw[HD.out];simp[hfq,tl_isEmpty,h0])
      clear hfq h0 HD
      go_enter Tryz.func210,Tryz.ntmps210
      go_upto_region 1 with fail;have HUB:=Za (ZP w ⟨sch,nam,pw,hh,host,hp,port,op,opath,so,sn,sc,hq,q,hf,fr⟩);have HN:=Za (show Nx w (w.alloc (Obj.cells #[.string sch,.string nam,.string pw,.bool hh,.string host,.bool hp,.int .i64 (port:Int),.bool op,.string opath,.slice so sn sc,.bool hq,.string q,.bool hf,.string fr] 54))from Nx.rfl.alloc _);generalize (w.alloc (Obj.cells #[.string sch,.string nam,.string pw,.bool hh,.string host,.bool hp,.int .i64 (port:Int),.bool op,.string opath,.slice so sn sc,.bool hq,.string q,.bool hf,.string fr] 54))=w1 at *;obtain⟨a0,a1,a2,a3,a4,a5,a6,a7,a8,a9,a10,a11,a12,a13⟩:=HUB.out.cells;simp only at a0 a1 a2 a3 a4 a5 a6 a7 a8 a9 a10 a11 a12 a13
      go_wp2_with (go_at_call 112;refine(Zt _ _).mono ?_;rintro e w' ⟨rfl,rfl⟩;first|rw[HS1.out]|rw[HS2.out])
      go_ret;exact⟨Zj HE.out.symm,HN.out⟩
     ·have h0':=Zh h0
      have HE:=Za (show Zx (Rc.u ⟨sch,nam,pw,hh,host,hp,port,op,opath,so,sn,sc,hq,q,hf,fr⟩ bs) (tl s)=true by rw[HD.out];simp[hfq,tl_isEmpty,h0])
      clear hfq h0 HD
      go_enter Tryz.func210,Tryz.ntmps210
      go_upto_region 1 with fail;have HUB:=Za (ZP w ⟨sch,nam,pw,hh,host,hp,port,op,opath,so,sn,sc,hq,q,hf,fr⟩);have HN:=Za (show Nx w (w.alloc (Obj.cells #[.string sch,.string nam,.string pw,.bool hh,.string host,.bool hp,.int .i64 (port:Int),.bool op,.string opath,.slice so sn sc,.bool hq,.string q,.bool hf,.string fr] 54))from Nx.rfl.alloc _);generalize (w.alloc (Obj.cells #[.string sch,.string nam,.string pw,.bool hh,.string host,.bool hp,.int .i64 (port:Int),.bool op,.string opath,.slice so sn sc,.bool hq,.string q,.bool hf,.string fr] 54))=w1 at *;obtain⟨a0,a1,a2,a3,a4,a5,a6,a7,a8,a9,a10,a11,a12,a13⟩:=HUB.out.cells;simp only at a0 a1 a2 a3 a4 a5 a6 a7 a8 a9 a10 a11 a12 a13
      go_wp2_with (go_at_call 112;refine(Zt _ _).mono ?_;rintro e w' ⟨rfl,rfl⟩;first|rw[HS1.out]|rw[HS2.out])
      go_ret;exact⟨Zj HE.out.symm,HN.out⟩
    ·have hf1:=neB hfq
     unfold Zo at hf1
     have hf2:(sch.toList != [102,105,108,101])=true:=by simp only[bne,hf1];rfl
     have HE:=Za (show Zx (Rc.u ⟨sch,nam,pw,hh,host,hp,port,op,opath,so,sn,sc,hq,q,hf,fr⟩ bs) (tl s)=true by rw[HD.out];simp[hfq,tl_isEmpty])
     clear hfq HD
     go_enter Tryz.func210,Tryz.ntmps210
     go_upto_region 1 with fail;have HUB:=Za (ZP w ⟨sch,nam,pw,hh,host,hp,port,op,opath,so,sn,sc,hq,q,hf,fr⟩);have HN:=Za (show Nx w (w.alloc (Obj.cells #[.string sch,.string nam,.string pw,.bool hh,.string host,.bool hp,.int .i64 (port:Int),.bool op,.string opath,.slice so sn sc,.bool hq,.string q,.bool hf,.string fr] 54))from Nx.rfl.alloc _);generalize (w.alloc (Obj.cells #[.string sch,.string nam,.string pw,.bool hh,.string host,.bool hp,.int .i64 (port:Int),.bool op,.string opath,.slice so sn sc,.bool hq,.string q,.bool hf,.string fr] 54))=w1 at *;obtain⟨a0,a1,a2,a3,a4,a5,a6,a7,a8,a9,a10,a11,a12,a13⟩:=HUB.out.cells;simp only at a0 a1 a2 a3 a4 a5 a6 a7 a8 a9 a10 a11 a12 a13
     go_wp2_with (go_at_call 112;refine(Zt _ _).mono ?_;rintro e w' ⟨rfl,rfl⟩;first|rw[HS1.out]|rw[HS2.out])
     go_ret;exact⟨Zj HE.out.symm,HN.out⟩
theorem Zmz(ru:Rc)(u:U)(bs:LA)(s:BA)(w:World)(h:RcIs w ru u bs)(hs:s.size≤29000):Calls Tryz.prog 166 #[.agg #[.string ru.sch,.string ru.nam,.string ru.pw,.bool ru.hh,.string ru.host,.bool ru.hp,.int .i64 (ru.port:Int),.bool ru.op,.string ru.opath,.slice ru.so ru.sn ru.sc,.bool ru.hq,.string ru.q,.bool ru.hf,.string ru.fr],.string s] w fun e w'=>∃r:Rc,e=.returned (.agg #[.string r.sch,.string r.nam,.string r.pw,.bool r.hh,.string r.host,.bool r.hp,.int .i64 (r.port:Int),.bool r.op,.string r.opath,.slice r.so r.sn r.sc,.bool r.hq,.string r.q,.bool r.hf,.string r.fr])∧RcIs w' r (Za7 u (tl s)) bs∧Nx w w':=by
 have HR:=Za h
 have HD0:=Za (show Za7 u (tl s)=if(ZW (noBreaks (tl s)++[58])).2.2=false∨Zx (ru.u bs) (ZW (noBreaks (tl s)++[58])).1=false then u else if ru.hp=true then Zal { u with sch:=(ZW (noBreaks (tl s)++[58])).1 } ru.port else { u with sch:=(ZW (noBreaks (tl s)++[58])).1 }by rw[←h.eq];rfl)
 clear h;obtain⟨sch,nam,pw,hh,host,hp,port,op,opath,so,sn,sc,hq,q,hf,fr⟩:=ru;simp only at *
 cases hp
 ·have HD:=Za (HD0.out.trans (by rw[if_neg (by decide:¬false=true)]:_=if(ZW (noBreaks (tl s)++[58])).2.2=false∨Zx (Rc.u ⟨sch,nam,pw,hh,host,false,port,op,opath,so,sn,sc,hq,q,hf,fr⟩ bs) (ZW (noBreaks (tl s)++[58])).1=false then u else { u with sch:=(ZW (noBreaks (tl s)++[58])).1 }))
  clear HD0
  go_enter Tryz.func166,Tryz.ntmps166
  go_upto_region 1 with fail;obtain⟨g1,g2,g3⟩:=Zbe (w:=w) (ru:=⟨sch,nam,pw,hh,host,false,port,op,opath,so,sn,sc,hq,q,hf,fr⟩) Nx.rfl;have HUB:=Za g1;have HZ:=Za g2;have HN:=Za g3;clear g1 g2 g3;generalize ((w.alloc (Obj.cells #[.string sch,.string nam,.string pw,.bool hh,.string host,.bool false,.int .i64 (port:Int),.bool op,.string opath,.slice so sn sc,.bool hq,.string q,.bool hf,.string fr] 54)).alloc (Obj.cells #[.string ⟨#[]⟩,.string ⟨#[]⟩,.string ⟨#[]⟩,.bool false,.string ⟨#[]⟩,.bool false,.int .i64 0,.bool false,.string ⟨#[]⟩,.slice none 0 0,.bool false,.string ⟨#[]⟩,.bool false,.string ⟨#[]⟩] 54))=w1 at *;go_wp2_with fail
  refine(ZcM s _ (by omega)).mono ?_
  rintro e w2 ⟨x,rfl,hx,hn2⟩
  have hxl:x.size≤29000:=by have h1:=Za8 (tl s);rw[←hx,tl_length,tl_length]at h1;omega
  have HXC:=Za (show tl (x++(⟨#[58]⟩:BA))=noBreaks (tl s)++[58]by rw[Zg,hx];rfl)
  have hcz:(x++(⟨#[58]⟩:BA)).size≤29001:=by rw[Zi];show x.size+1≤_;omega
  have HUB2:=Za (HUB.out.on hn2);have HZ2:=Za (HZ.out.on hn2);have HN2:=Za (HN.out.then hn2);clear hx hn2 HUB HZ HN;go_wp2_with fail
  refine(Zg2 (x++(⟨#[58]⟩:BA)) _ (by omega)).mono ?_
  rintro e w3 ⟨⟨sc2,re,rfl,hsc,-⟩,hn3⟩;rw[HXC.out]at hsc
  have hscl:sc2.size≤29001:=by have h1:=(Zd9 (noBreaks (tl s)++[58])).1;rw[←hsc,tl_length,←HXC.out,tl_length]at h1;omega
  rw[HXC.out];rw[←hsc]at HD;have HUB3:=Za (HUB2.out.on hn3);have HZ3:=Za (HZ2.out.on hn3);have HN3:=Za (HN2.out.then hn3)
  have HMB:=Za (fun w'=>ZgK ⟨sch,nam,pw,hh,host,false,port,op,opath,so,sn,sc,hq,q,hf,fr⟩ bs sc2 w')
  clear hsc hn3 HUB2 HZ2 HN2 HXC;generalize (ZW (noBreaks (tl s)++[58])).2.2=fnd at *;generalize Zx (Rc.u ⟨sch,nam,pw,hh,host,false,port,op,opath,so,sn,sc,hq,q,hf,fr⟩ bs) (tl sc2)=mb at *;obtain⟨a0,a1,a2,a3,a4,a5,a6,a7,a8,a9,a10,a11,a12,a13⟩:=HUB3.out.cells;have af0:=HUB3.out.free 0;obtain⟨z0,z1,z2,z3,z4,z5,z6,z7,z8,z9,z10,z11,z12,z13⟩:=HZ3.out.cells;have zf0:=HZ3.out.free 0;have zf1:=HZ3.out.free 1;have zf2:=HZ3.out.free 2;have zf3:=HZ3.out.free 3;have zf4:=HZ3.out.free 4;have zf5:=HZ3.out.free 5;have zf6:=HZ3.out.free 6;have zf7:=HZ3.out.free 7;have zf8:=HZ3.out.free 8;have zf9:=HZ3.out.free 9;have zf10:=HZ3.out.free 10;have zf11:=HZ3.out.free 11;have zf12:=HZ3.out.free 12;have zf13:=HZ3.out.free 13;simp only at a0 a1 a2 a3 a4 a5 a6 a7 a8 a9 a10 a11 a12 a13
  cases fnd
  ·have HE:=Za (HD.out.trans (if_pos (Or.inl rfl)))
   clear HD;go_wp2
   exact Zbl (rb:=w.heap.size+1) Tryz.results166 rfl (RecB.put HZ3.out _ _ _ _ _ _ _ _ _ _ _ _ _ _) rfl ⟨⟨sch,nam,pw,hh,host,false,port,op,opath,so,sn,sc,hq,q,hf,fr⟩,rfl,by rw[HE.out];exact(HR.out.on HN3.out).ks (Ks.then Ks.rfl (Zm HZ3.out.ty (by decide) _ _ _ _ _ _ _ _ _ _ _ _ _ _)),(Zd HN3.out (by omega) _ _ _ _ _ _ _ _ _ _ _ _ _ _)⟩
  ·go_wp2_with fail
   refine(HMB.out _).mono ?_
   rintro e w4 ⟨rfl,hn4⟩;have HUB4:=Za (HUB3.out.on hn4);have HZ4:=Za (HZ3.out.on hn4);have HN4:=Za (HN3.out.then hn4);have HR4:=Za (HR.out.on HN4.out);clear hn4 HMB;clear a0 a1 a2 a3 a4 a5 a6 a7 a8 a9 a10 a11 a12 a13 af0 z0 z1 z2 z3 z4 z5 z6 z7 z8 z9 z10 z11 z12 z13 zf0 zf1 zf2 zf3 zf4 zf5 zf6 zf7 zf8 zf9 zf10 zf11 zf12 zf13;obtain⟨a0,a1,a2,a3,a4,a5,a6,a7,a8,a9,a10,a11,a12,a13⟩:=HUB4.out.cells;have af0:=HUB4.out.free 0;obtain⟨z0,z1,z2,z3,z4,z5,z6,z7,z8,z9,z10,z11,z12,z13⟩:=HZ4.out.cells;have zf0:=HZ4.out.free 0;have zf1:=HZ4.out.free 1;have zf2:=HZ4.out.free 2;have zf3:=HZ4.out.free 3;have zf4:=HZ4.out.free 4;have zf5:=HZ4.out.free 5;have zf6:=HZ4.out.free 6;have zf7:=HZ4.out.free 7;have zf8:=HZ4.out.free 8;have zf9:=HZ4.out.free 9;have zf10:=HZ4.out.free 10;have zf11:=HZ4.out.free 11;have zf12:=HZ4.out.free 12;have zf13:=HZ4.out.free 13;simp only at a0 a1 a2 a3 a4 a5 a6 a7 a8 a9 a10 a11 a12 a13
   cases mb
   ·have HE:=Za (HD.out.trans (if_pos (Or.inr rfl)))
    clear HD;go_wp2
    exact Zbl (rb:=w.heap.size+1) Tryz.results166 rfl (RecB.put HZ4.out _ _ _ _ _ _ _ _ _ _ _ _ _ _) rfl ⟨⟨sch,nam,pw,hh,host,false,port,op,opath,so,sn,sc,hq,q,hf,fr⟩,rfl,by rw[HE.out];exact HR4.out.ks (Ks.then Ks.rfl (Zm HZ4.out.ty (by decide) _ _ _ _ _ _ _ _ _ _ _ _ _ _)),(Zd HN4.out (by omega) _ _ _ _ _ _ _ _ _ _ _ _ _ _)⟩
   ·have HE:=Za (HD.out.trans (if_neg (by rintro(x|x)<;>cases x)))
    clear HD;go_wp2
    refine Zbl (rb:=w.heap.size+1) Tryz.results166 rfl (RecB.put (HZ4.out.far (by omega) 0 _) _ _ _ _ _ _ _ _ _ _ _ _ _ _) rfl ⟨⟨sc2,nam,pw,hh,host,false,port,op,opath,so,sn,sc,hq,q,hf,fr⟩,rfl,?_,(Zd (Below.setCell HN4.out (Nat.le_refl _) _) (by omega) _ _ _ _ _ _ _ _ _ _ _ _ _ _)⟩
    exact { HR4.out with eq:=by rw[HE.out,←HR4.out.eq];rfl,seg:=HR4.out.seg.ks (Ks.then (Ks.then Ks.rfl (ZZ HUB4.out.ty (by decide) 0 _)) (Zm (HZ4.out.ty.set w.heap.size 0 _) (by decide) _ _ _ _ _ _ _ _ _ _ _ _ _ _)),lsch:=by show sc2.size≤_;omega }
 ·have HD:=Za (HD0.out.trans (by rw[if_pos (rfl:true=true)]:_=if(ZW (noBreaks (tl s)++[58])).2.2=false∨Zx (Rc.u ⟨sch,nam,pw,hh,host,true,port,op,opath,so,sn,sc,hq,q,hf,fr⟩ bs) (ZW (noBreaks (tl s)++[58])).1=false then u else Zal { u with sch:=(ZW (noBreaks (tl s)++[58])).1 } port))
  clear HD0
  go_enter Tryz.func166,Tryz.ntmps166
  go_upto_region 1 with fail;obtain⟨g1,g2,g3⟩:=Zbe (w:=w) (ru:=⟨sch,nam,pw,hh,host,true,port,op,opath,so,sn,sc,hq,q,hf,fr⟩) Nx.rfl;have HUB:=Za g1;have HZ:=Za g2;have HN:=Za g3;clear g1 g2 g3;generalize ((w.alloc (Obj.cells #[.string sch,.string nam,.string pw,.bool hh,.string host,.bool true,.int .i64 (port:Int),.bool op,.string opath,.slice so sn sc,.bool hq,.string q,.bool hf,.string fr] 54)).alloc (Obj.cells #[.string ⟨#[]⟩,.string ⟨#[]⟩,.string ⟨#[]⟩,.bool false,.string ⟨#[]⟩,.bool false,.int .i64 0,.bool false,.string ⟨#[]⟩,.slice none 0 0,.bool false,.string ⟨#[]⟩,.bool false,.string ⟨#[]⟩] 54))=w1 at *;go_wp2_with fail
  refine(ZcM s _ (by omega)).mono ?_
  rintro e w2 ⟨x,rfl,hx,hn2⟩
  have hxl:x.size≤29000:=by have h1:=Za8 (tl s);rw[←hx,tl_length,tl_length]at h1;omega
  have HXC:=Za (show tl (x++(⟨#[58]⟩:BA))=noBreaks (tl s)++[58]by rw[Zg,hx];rfl)
  have hcz:(x++(⟨#[58]⟩:BA)).size≤29001:=by rw[Zi];show x.size+1≤_;omega
  have HUB2:=Za (HUB.out.on hn2);have HZ2:=Za (HZ.out.on hn2);have HN2:=Za (HN.out.then hn2);clear hx hn2 HUB HZ HN;go_wp2_with fail
  refine(Zg2 (x++(⟨#[58]⟩:BA)) _ (by omega)).mono ?_
  rintro e w3 ⟨⟨sc2,re,rfl,hsc,-⟩,hn3⟩;rw[HXC.out]at hsc
  have hscl:sc2.size≤29001:=by have h1:=(Zd9 (noBreaks (tl s)++[58])).1;rw[←hsc,tl_length,←HXC.out,tl_length]at h1;omega
  rw[HXC.out];rw[←hsc]at HD;have HUB3:=Za (HUB2.out.on hn3);have HZ3:=Za (HZ2.out.on hn3);have HN3:=Za (HN2.out.then hn3)
  have HMB:=Za (fun w'=>ZgK ⟨sch,nam,pw,hh,host,true,port,op,opath,so,sn,sc,hq,q,hf,fr⟩ bs sc2 w')
  clear hsc hn3 HUB2 HZ2 HN2 HXC;generalize (ZW (noBreaks (tl s)++[58])).2.2=fnd at *;generalize Zx (Rc.u ⟨sch,nam,pw,hh,host,true,port,op,opath,so,sn,sc,hq,q,hf,fr⟩ bs) (tl sc2)=mb at *;obtain⟨a0,a1,a2,a3,a4,a5,a6,a7,a8,a9,a10,a11,a12,a13⟩:=HUB3.out.cells;have af0:=HUB3.out.free 0;obtain⟨z0,z1,z2,z3,z4,z5,z6,z7,z8,z9,z10,z11,z12,z13⟩:=HZ3.out.cells;have zf0:=HZ3.out.free 0;have zf1:=HZ3.out.free 1;have zf2:=HZ3.out.free 2;have zf3:=HZ3.out.free 3;have zf4:=HZ3.out.free 4;have zf5:=HZ3.out.free 5;have zf6:=HZ3.out.free 6;have zf7:=HZ3.out.free 7;have zf8:=HZ3.out.free 8;have zf9:=HZ3.out.free 9;have zf10:=HZ3.out.free 10;have zf11:=HZ3.out.free 11;have zf12:=HZ3.out.free 12;have zf13:=HZ3.out.free 13;simp only at a0 a1 a2 a3 a4 a5 a6 a7 a8 a9 a10 a11 a12 a13
  cases fnd
  ·have HE:=Za (HD.out.trans (if_pos (Or.inl rfl)))
   clear HD;go_wp2
   exact Zbl (rb:=w.heap.size+1) Tryz.results166 rfl (RecB.put HZ3.out _ _ _ _ _ _ _ _ _ _ _ _ _ _) rfl ⟨⟨sch,nam,pw,hh,host,true,port,op,opath,so,sn,sc,hq,q,hf,fr⟩,rfl,by rw[HE.out];exact(HR.out.on HN3.out).ks (Ks.then Ks.rfl (Zm HZ3.out.ty (by decide) _ _ _ _ _ _ _ _ _ _ _ _ _ _)),(Zd HN3.out (by omega) _ _ _ _ _ _ _ _ _ _ _ _ _ _)⟩
  ·go_wp2_with fail
   refine(HMB.out _).mono ?_
   rintro e w4 ⟨rfl,hn4⟩;have HUB4:=Za (HUB3.out.on hn4);have HZ4:=Za (HZ3.out.on hn4);have HN4:=Za (HN3.out.then hn4);have HR4:=Za (HR.out.on HN4.out);clear hn4 HMB;clear a0 a1 a2 a3 a4 a5 a6 a7 a8 a9 a10 a11 a12 a13 af0 z0 z1 z2 z3 z4 z5 z6 z7 z8 z9 z10 z11 z12 z13 zf0 zf1 zf2 zf3 zf4 zf5 zf6 zf7 zf8 zf9 zf10 zf11 zf12 zf13;obtain⟨a0,a1,a2,a3,a4,a5,a6,a7,a8,a9,a10,a11,a12,a13⟩:=HUB4.out.cells;have af0:=HUB4.out.free 0;obtain⟨z0,z1,z2,z3,z4,z5,z6,z7,z8,z9,z10,z11,z12,z13⟩:=HZ4.out.cells;have zf0:=HZ4.out.free 0;have zf1:=HZ4.out.free 1;have zf2:=HZ4.out.free 2;have zf3:=HZ4.out.free 3;have zf4:=HZ4.out.free 4;have zf5:=HZ4.out.free 5;have zf6:=HZ4.out.free 6;have zf7:=HZ4.out.free 7;have zf8:=HZ4.out.free 8;have zf9:=HZ4.out.free 9;have zf10:=HZ4.out.free 10;have zf11:=HZ4.out.free 11;have zf12:=HZ4.out.free 12;have zf13:=HZ4.out.free 13;simp only at a0 a1 a2 a3 a4 a5 a6 a7 a8 a9 a10 a11 a12 a13
   cases mb
   ·have HE:=Za (HD.out.trans (if_pos (Or.inr rfl)))
    clear HD;go_wp2
    exact Zbl (rb:=w.heap.size+1) Tryz.results166 rfl (RecB.put HZ4.out _ _ _ _ _ _ _ _ _ _ _ _ _ _) rfl ⟨⟨sch,nam,pw,hh,host,true,port,op,opath,so,sn,sc,hq,q,hf,fr⟩,rfl,by rw[HE.out];exact HR4.out.ks (Ks.then Ks.rfl (Zm HZ4.out.ty (by decide) _ _ _ _ _ _ _ _ _ _ _ _ _ _)),(Zd HN4.out (by omega) _ _ _ _ _ _ _ _ _ _ _ _ _ _)⟩
   ·have HE:=Za (HD.out.trans (if_neg (by rintro(x|x)<;>cases x)))
    clear HD;go_wp2_with fail
    refine(Zde ⟨sc2,nam,pw,hh,host,true,port,op,opath,so,sn,sc,hq,q,hf,fr⟩ port _).mono ?_
    rintro e w5 ⟨r5,rfl,hr5,hn5⟩
    have HR5:=Za ((((show RcIs w4 ⟨sc2,nam,pw,hh,host,true,port,op,opath,so,sn,sc,hq,q,hf,fr⟩ { u with sch:=tl sc2 } bs from { HR4.out with eq:=by rw[←HR4.out.eq];rfl,lsch:=by show sc2.size≤_;omega }).ks (ZZ HUB4.out.ty (by decide) 0 (.string sc2))).on hn5).atPort HR4.out.lport)
    rw[←hr5]at HR5
    have HZ5:=Za ((HZ4.out.far (q:=w.heap.size) (by omega) 0 (.string sc2)).on hn5)
    have HN5:=Za (show Nx w w5 from Nx.then (show Nx w _ from Below.setCell (p:=⟨w.heap.size,0,none⟩) HN4.out (Nat.le_refl _) (.string sc2)) hn5);clear hr5 hn5;clear a0 a1 a2 a3 a4 a5 a6 a7 a8 a9 a10 a11 a12 a13 af0 z0 z1 z2 z3 z4 z5 z6 z7 z8 z9 z10 z11 z12 z13 zf0 zf1 zf2 zf3 zf4 zf5 zf6 zf7 zf8 zf9 zf10 zf11 zf12 zf13;obtain⟨z0,z1,z2,z3,z4,z5,z6,z7,z8,z9,z10,z11,z12,z13⟩:=HZ5.out.cells;have zf0:=HZ5.out.free 0;have zf1:=HZ5.out.free 1;have zf2:=HZ5.out.free 2;have zf3:=HZ5.out.free 3;have zf4:=HZ5.out.free 4;have zf5:=HZ5.out.free 5;have zf6:=HZ5.out.free 6;have zf7:=HZ5.out.free 7;have zf8:=HZ5.out.free 8;have zf9:=HZ5.out.free 9;have zf10:=HZ5.out.free 10;have zf11:=HZ5.out.free 11;have zf12:=HZ5.out.free 12;have zf13:=HZ5.out.free 13;go_wp2
    exact Zbl (rb:=w.heap.size+1) Tryz.results166 rfl (RecB.put HZ5.out _ _ _ _ _ _ _ _ _ _ _ _ _ _) rfl ⟨r5,rfl,by rw[HE.out];exact HR5.out.ks (Ks.then Ks.rfl (Zm HZ5.out.ty (by decide) _ _ _ _ _ _ _ _ _ _ _ _ _ _)),(Zd HN5.out (by omega) _ _ _ _ _ _ _ _ _ _ _ _ _ _)⟩
theorem Zk7(ru:Rc)(u:U)(bs:LA)(s:BA)(w:World)(h:RcIs w ru u bs)(hb:bs.length≤30001)(hs:s.size≤29000):Calls Tryz.prog 123 #[.agg #[.string ru.sch,.string ru.nam,.string ru.pw,.bool ru.hh,.string ru.host,.bool ru.hp,.int .i64 (ru.port:Int),.bool ru.op,.string ru.opath,.slice ru.so ru.sn ru.sc,.bool ru.hq,.string ru.q,.bool ru.hf,.string ru.fr],.int .i64 1,.string s] w fun e w'=>ZqT e w w' (Za7 u (tl s)):=by
 have HP:Hid (∀w',Nx w w'→Calls Tryz.prog 166 #[.agg #[.string ru.sch,.string ru.nam,.string ru.pw,.bool ru.hh,.string ru.host,.bool ru.hp,.int .i64 (ru.port:Int),.bool ru.op,.string ru.opath,.slice ru.so ru.sn ru.sc,.bool ru.hq,.string ru.q,.bool ru.hf,.string ru.fr],.string s] w' fun e w''=>ZqT e w' w'' (Za7 u (tl s))):=Za (fun w' hn=>(Zmz ru u bs s w' (h.on hn) hs).mono (by rintro e w2 ⟨r,he,hr,hn2⟩;exact⟨r,bs,he,hr,by omega,hn2⟩))
 clear h
 go_enter Tryz.func123,Tryz.ntmps123
 go_upto_region 1 with fail;obtain⟨g1,g2,g3⟩:=Zbe (w:=w) (ru:=ru) Nx.rfl;have HUB:=Za g1;have HZ:=Za g2;have HN:=Za g3;clear g1 g2 g3;generalize ((w.alloc (Obj.cells #[.string ru.sch,.string ru.nam,.string ru.pw,.bool ru.hh,.string ru.host,.bool ru.hp,.int .i64 (ru.port:Int),.bool ru.op,.string ru.opath,.slice ru.so ru.sn ru.sc,.bool ru.hq,.string ru.q,.bool ru.hf,.string ru.fr] 54)).alloc (Obj.cells #[.string ⟨#[]⟩,.string ⟨#[]⟩,.string ⟨#[]⟩,.bool false,.string ⟨#[]⟩,.bool false,.int .i64 0,.bool false,.string ⟨#[]⟩,.slice none 0 0,.bool false,.string ⟨#[]⟩,.bool false,.string ⟨#[]⟩] 54))=w1 at *;obtain⟨a0,a1,a2,a3,a4,a5,a6,a7,a8,a9,a10,a11,a12,a13⟩:=HUB.out.cells;go_wp2_with fail
 refine(HP.out _ HN.out).mono ?_
 rintro e w2 ⟨r,ds,rfl,hr,hdl,hn2⟩;have HR:=Za hr;have HZ2:=Za (HZ.out.on hn2);have HN2:=Za (HN.out.then hn2);clear hr hn2 HZ HN;clear a0 a1 a2 a3 a4 a5 a6 a7 a8 a9 a10 a11 a12 a13;obtain⟨z0,z1,z2,z3,z4,z5,z6,z7,z8,z9,z10,z11,z12,z13⟩:=HZ2.out.cells;have zf0:=HZ2.out.free 0;have zf1:=HZ2.out.free 1;have zf2:=HZ2.out.free 2;have zf3:=HZ2.out.free 3;have zf4:=HZ2.out.free 4;have zf5:=HZ2.out.free 5;have zf6:=HZ2.out.free 6;have zf7:=HZ2.out.free 7;have zf8:=HZ2.out.free 8;have zf9:=HZ2.out.free 9;have zf10:=HZ2.out.free 10;have zf11:=HZ2.out.free 11;have zf12:=HZ2.out.free 12;have zf13:=HZ2.out.free 13;go_wp2
 exact Zbl (rb:=w.heap.size+1) Tryz.results123 rfl (RecB.put HZ2.out _ _ _ _ _ _ _ _ _ _ _ _ _ _) rfl ⟨r,ds,rfl,HR.out.ks (Zm HZ2.out.ty (by decide) _ _ _ _ _ _ _ _ _ _ _ _ _ _),hdl,(Zd HN2.out (by omega) _ _ _ _ _ _ _ _ _ _ _ _ _ _)⟩
theorem Zvz(ru:Rc)(u:U)(bs:LA)(s:BA)(w:World)(h:RcIs w ru u bs)(_ht:Tb w)(hb:bs.length≤30001)(hs:s.size≤3000):Calls Tryz.prog 91 #[.agg #[.string ru.sch,.string ru.nam,.string ru.pw,.bool ru.hh,.string ru.host,.bool ru.hp,.int .i64 (ru.port:Int),.bool ru.op,.string ru.opath,.slice ru.so ru.sn ru.sc,.bool ru.hq,.string ru.q,.bool ru.hf,.string ru.fr],.int .i64 1,.string s] w fun e w'=>Zd7 e w' ((Za7 u (clean (tl s)),0)) 30002∧Nx w w':=by
 go_enter Tryz.func91,Tryz.ntmps91
 go_upto_region 1 with fail;obtain⟨g1,g2,g3⟩:=Zbe (w:=w) (ru:=ru) Nx.rfl;have HUB:=Za g1;have HZ:=Za g2;have HN:=Za g3;clear g1 g2 g3;generalize ((w.alloc (Obj.cells #[.string ru.sch,.string ru.nam,.string ru.pw,.bool ru.hh,.string ru.host,.bool ru.hp,.int .i64 (ru.port:Int),.bool ru.op,.string ru.opath,.slice ru.so ru.sn ru.sc,.bool ru.hq,.string ru.q,.bool ru.hf,.string ru.fr] 54)).alloc (Obj.cells #[.string ⟨#[]⟩,.string ⟨#[]⟩,.string ⟨#[]⟩,.bool false,.string ⟨#[]⟩,.bool false,.int .i64 0,.bool false,.string ⟨#[]⟩,.slice none 0 0,.bool false,.string ⟨#[]⟩,.bool false,.string ⟨#[]⟩] 54))=w1 at *;go_wp2_with fail
 refine(Zd1 s _ (by omega)).mono ?_
 rintro e w2 ⟨x,rfl,hx,hn2⟩
 have hxl:x.size≤9000:=by have:=Zca (tl s);rw[←hx,tl_length,tl_length]at this;omega
 have HP:Hid (∀w',Nx w w'→Calls Tryz.prog 123 #[.agg #[.string ru.sch,.string ru.nam,.string ru.pw,.bool ru.hh,.string ru.host,.bool ru.hp,.int .i64 (ru.port:Int),.bool ru.op,.string ru.opath,.slice ru.so ru.sn ru.sc,.bool ru.hq,.string ru.q,.bool ru.hf,.string ru.fr],.int .i64 1,.string x] w' fun e w''=>ZqT e w' w'' (Za7 u (tl x))):=Za (fun w' hn=>Zk7 ru u bs x w' (h.on hn) hb (by omega))
 rw[hx]at HP;have HUB2:=Za (HUB.out.on hn2);have HZ2:=Za (HZ.out.on hn2);have HN2:=Za (HN.out.then hn2);clear hx hn2 HUB HZ HN h _ht hb;obtain⟨a0,a1,a2,a3,a4,a5,a6,a7,a8,a9,a10,a11,a12,a13⟩:=HUB2.out.cells;go_wp2_with fail
 refine(HP.out _ HN2.out).mono ?_
 rintro e w3 ⟨r,ds,rfl,hr,hdl,hn3⟩;have HR:=Za hr;have HZ3:=Za (HZ2.out.on hn3);have HN3:=Za (HN2.out.then hn3);clear hr hn3 HZ2 HN2 HUB2;clear a0 a1 a2 a3 a4 a5 a6 a7 a8 a9 a10 a11 a12 a13;obtain⟨z0,z1,z2,z3,z4,z5,z6,z7,z8,z9,z10,z11,z12,z13⟩:=HZ3.out.cells;have zf0:=HZ3.out.free 0;have zf1:=HZ3.out.free 1;have zf2:=HZ3.out.free 2;have zf3:=HZ3.out.free 3;have zf4:=HZ3.out.free 4;have zf5:=HZ3.out.free 5;have zf6:=HZ3.out.free 6;have zf7:=HZ3.out.free 7;have zf8:=HZ3.out.free 8;have zf9:=HZ3.out.free 9;have zf10:=HZ3.out.free 10;have zf11:=HZ3.out.free 11;have zf12:=HZ3.out.free 12;have zf13:=HZ3.out.free 13;go_wp2
 exact Z5 (rb:=w.heap.size+1) Tryz.results91 rfl rfl (RecB.put HZ3.out _ _ _ _ _ _ _ _ _ _ _ _ _ _) rfl ⟨⟨r,ds,rfl,HR.out.ks (Zm HZ3.out.ty (by decide) _ _ _ _ _ _ _ _ _ _ _ _ _ _),hdl⟩,(Zd HN3.out (by omega) _ _ _ _ _ _ _ _ _ _ _ _ _ _)⟩
theorem Zi8(pb:Nat)(r:Rc)(u:U)(bs:LA)(s:BA)(w:World)(hu:UrlB w pb r)(hr:RcIs w r u bs)(ht:Tb w)(hb:bs.length≤30001):Calls Tryz.prog 64 #[.pointer (some ⟨pb,0,none⟩),.string s] w fun e w'=>ZqU e w w' pb (decide (160<s.size)) (Zk9 u 1 (tl s)):=by
 have HP:=Za (ZfB 1 pb r u bs s w hu hr (fun hs=>Zvz r u bs s w hr ht hb (by omega)))
 clear hu hr ht hb
 go_enter Tryz.func64,Tryz.ntmps64
 go_wp2_with fail
 refine HP.out.mono ?_
 intro e w1 h;rcases h with⟨h1,rfl,hn⟩|⟨h1,h2,rfl,hn⟩|⟨h1,h2,rfl,hx,hbu⟩
 ·have H1:=Za h1
  have HN:=Za hn;clear h1 hn;go_wp2;go_ret;exact Or.inl ⟨H1.out,rfl,HN.out⟩
 ·have H1:=Za h1
  have H2:=Za h2;have HN:=Za hn;clear h1 h2 hn;go_wp2;go_ret;exact Or.inr (Or.inl ⟨H1.out,H2.out,rfl,HN.out⟩)
 ·have H1:=Za h1
  have H2:=Za h2;have HX:=Za hx;have HB:=Za hbu;clear h1 h2 hx hbu;go_wp2;go_ret;exact Or.inr (Or.inr ⟨H1.out,H2.out,rfl,HX.out,HB.out⟩)
end Go.Proofs.YtchkhibgbnhjpaaGreatDoor
