import Derived.Test.YtchkhibgbnhjpabGreatDoorW02
import Derived.Deep.Cut
open Array renaming getElem?_modify→Xb,getElem?_eq_some_iff→Xc
open List renaming length_drop→Xe,length_cons→Xf
open Nat renaming le_refl→Xa,zero_le→Xd
open Or renaming inr→Xg,inl→Xh
open Go.Value renaming string→J,bool→C,int→I
open Go.IntKind renaming i64→X
open Go.Ending renaming returned→Y
open Go.Obj renaming cells→O
namespace Go.Proofs.YtchkhibgbnhjpabGreatDoor
open Tryz
open Go.RowKit
set_option maxHeartbeats 16000000
variable [Fl]
set_option linter.all false
theorem RecB.s1{w:World}{b:Nat}{r:Rc}(h:RecB w b r)(x:BA):RecB (w.setCell ⟨b,1,none⟩ (J x)) b { r with nam:=x }:=by
 unfold RecB at *
 simp[World.setCell,Xb,h]
theorem RecB.s2{w:World}{b:Nat}{r:Rc}(h:RecB w b r)(x:BA):RecB (w.setCell ⟨b,2,none⟩ (J x)) b { r with pw:=x }:=by
 unfold RecB at *
 simp[World.setCell,Xb,h]
theorem RecB.s3{w:World}{b:Nat}{r:Rc}(h:RecB w b r)(x:Bool):RecB (w.setCell ⟨b,3,none⟩ (C x)) b { r with hh:=x }:=by
 unfold RecB at *
 simp[World.setCell,Xb,h]
theorem RecB.s4{w:World}{b:Nat}{r:Rc}(h:RecB w b r)(x:BA):RecB (w.setCell ⟨b,4,none⟩ (J x)) b { r with host:=x }:=by
 unfold RecB at *
 simp[World.setCell,Xb,h]
theorem RecB.s5{w:World}{b:Nat}{r:Rc}(h:RecB w b r)(x:Bool):RecB (w.setCell ⟨b,5,none⟩ (C x)) b { r with hp:=x }:=by
 unfold RecB at *
 simp[World.setCell,Xb,h]
theorem RecB.s7{w:World}{b:Nat}{r:Rc}(h:RecB w b r)(x:Bool):RecB (w.setCell ⟨b,7,none⟩ (C x)) b { r with op:=x }:=by
 unfold RecB at *
 simp[World.setCell,Xb,h]
theorem RecB.s8{w:World}{b:Nat}{r:Rc}(h:RecB w b r)(x:BA):RecB (w.setCell ⟨b,8,none⟩ (J x)) b { r with opath:=x }:=by
 unfold RecB at *
 simp[World.setCell,Xb,h]
theorem RecB.s10{w:World}{b:Nat}{r:Rc}(h:RecB w b r)(x:Bool):RecB (w.setCell ⟨b,10,none⟩ (C x)) b { r with hq:=x }:=by
 unfold RecB at *
 simp[World.setCell,Xb,h]
theorem RecB.s11{w:World}{b:Nat}{r:Rc}(h:RecB w b r)(x:BA):RecB (w.setCell ⟨b,11,none⟩ (J x)) b { r with q:=x }:=by
 unfold RecB at *
 simp[World.setCell,Xb,h]
theorem RecB.s12{w:World}{b:Nat}{r:Rc}(h:RecB w b r)(x:Bool):RecB (w.setCell ⟨b,12,none⟩ (C x)) b { r with hf:=x }:=by
 unfold RecB at *
 simp[World.setCell,Xb,h]
theorem RecB.s6{w:World}{b:Nat}{r:Rc}(h:RecB w b r)(x:Nat):RecB (w.setCell ⟨b,6,none⟩ (I X (x:Int))) b { r with port:=x }:=by
 unfold RecB at *
 simp[World.setCell,Xb,h]
theorem RecB.s9{w:World}{b:Nat}{r:Rc}(h:RecB w b r)(ao:Option Addr)(n c:Nat):RecB (w.setCell ⟨b,9,none⟩ (.slice ao n c)) b { r with so:=ao,sn:=n,sc:=c }:=by
 unfold RecB at *
 simp[World.setCell,Xb,h]
def ZcK(rest:List UInt8)(hf:Bool)(base:U):U×Int:=if rest=[]/\hf=true then(base,0)else(zeroU,2)
theorem Zqs(rest:BA)(hf:Bool)(rb:Rc)(base:U)(cs:LA)(w:World)(h2:RcIs w rb base cs):Calls prog 188 #[J rest,C hf,.agg #[J rb.sch,J rb.nam,J rb.pw,C rb.hh,J rb.host,C rb.hp,I X (rb.port:Int),C rb.op,J rb.opath,.slice rb.so rb.sn rb.sc,C rb.hq,J rb.q,C rb.hf,J rb.fr]] w fun e w'=>ZhK e w' (ZcK (tl rest) hf base) cs.length/\Nx w w':=by
 have HBS:=A h2;clear h2
 by_cases h0:rest.size=0
 focus
  have h0':=Zo h0;have HT:=A (Zz h0);clear h0
  cases hf
  focus
   have HE:=A (show ZcK (tl rest) false base=(zeroU,2)from ifN (fun h=>by cases h.2))
  rotate_left
  .have HE:=A (show ZcK (tl rest) true base=(base,0)from ifP ⟨HT.o,rfl⟩)
   go_enter func188,ntmps188
   go_wp2;have HC:=A (ZbL (w.alloc (O #[J rb.sch,J rb.nam,J rb.pw,C rb.hh,J rb.host,C rb.hp,I X (rb.port:Int),C rb.op,J rb.opath,.slice rb.so rb.sn rb.sc,C rb.hq,J rb.q,C rb.hf,J rb.fr] 101)) rb)
   rw[show(w.alloc (O #[J rb.sch,J rb.nam,J rb.pw,C rb.hh,J rb.host,C rb.hp,I X (rb.port:Int),C rb.op,J rb.opath,.slice rb.so rb.sn rb.sc,C rb.hq,J rb.q,C rb.hf,J rb.fr] 101)).heap.size=w.heap.size+1 by simp]at HC
   exact ZaZ (rb:=w.heap.size+1) results188 rfl rfl HC.o rfl ⟨⟨rb,cs,by rw[HE.o],by rw[HE.o];exact HBS.o.on ((Nx.rfl.alloc _).alloc _),Xa _⟩,(Nx.rfl.alloc _).alloc _⟩
 rotate_left
 focus
  have h0':=Zj h0
  have HE:=A (show ZcK (tl rest) hf base=(zeroU,2)from ifN (fun h=>ZdF h0 h.1))
  clear h0
 all_goals
  go_enter func188,ntmps188
  go_wp2;have HC:=A (ZgI (w.alloc (O #[J rb.sch,J rb.nam,J rb.pw,C rb.hh,J rb.host,C rb.hp,I X (rb.port:Int),C rb.op,J rb.opath,.slice rb.so rb.sn rb.sc,C rb.hq,J rb.q,C rb.hf,J rb.fr] 101)))
  rw[show(w.alloc (O #[J rb.sch,J rb.nam,J rb.pw,C rb.hh,J rb.host,C rb.hp,I X (rb.port:Int),C rb.op,J rb.opath,.slice rb.so rb.sn rb.sc,C rb.hq,J rb.q,C rb.hf,J rb.fr] 101)).heap.size=w.heap.size+1 by simp]at HC
  exact ZaZ (rb:=w.heap.size+1) results188 rfl rfl HC.o rfl ⟨⟨rz,[],by rw[HE.o],by rw[HE.o];exact ZgH _,by simp⟩,(Nx.rfl.alloc _).alloc _⟩
def Zao(u:U)(t:List UInt8):U×Int:=
 if ZY (bcut (slB true) t).1=true then({ u with segs:=Zcb t u.sch },0)
 else if(Z2 (bcut (slB true) t).1).2≠0 then(zeroU,(Z2 (bcut (slB true) t).1).2)
 else({ u with host:=(Z2 (bcut (slB true) t).1).1,segs:=Zcb (bcut (slB true) t).2.1 u.sch },0)
theorem Zid{l:LB}{sp:Bool}(hl:l.length<=30000):(ZaP l sp).1.length<=300000:=by
 unfold ZaP
 split
 .unfold Zb1
  split
  .simp
  .split
   .have:=ZwY (ip6 ((l.take (l.length-1)).drop 1)).1 (ZW (ip6 ((l.take (l.length-1)).drop 1)).1).1 (ZW (ip6 ((l.take (l.length-1)).drop 1)).1).2 8 0
    simp only[List.length_append,Xf,List.length_nil];unfold Zi9
    omega
   .simp
 .split
  .unfold ZcJ Zhf
   have h1:=ZoZ l;have h2:=Zni (ZD l)
   split
   .simp
   .split
    .simp
    .split
     .show(lower (ZD l)).length<=300000;omega
     .split
      .have:=ZoY (ip4 (Zh6 (bsplit 46 (lower (ZD l))))).1.toNat 4
       show(Zng _ 4).length<=300000
       omega
      .simp
  .unfold Zft
   split
   .simp
   .exact Zcv _ _ hl
theorem Zgd{l:LB}(hl:l.length<=30000):(Z2 l).1.length<=300000:=by
 unfold Z2
 split
 .simp
 .split
  .simp
  .split
   .simp
   .exact Zid hl
theorem ZkD(ru:Rc)(u:U)(bs:LA)(t:BA)(w:World)(h1:RcIs w ru u bs)(ht:Tb w)(hl:t.size<=30000):Calls prog 254 #[.agg #[J ru.sch,J ru.nam,J ru.pw,C ru.hh,J ru.host,C ru.hp,I X (ru.port:Int),C ru.op,J ru.opath,.slice ru.so ru.sn ru.sc,C ru.hq,J ru.q,C ru.hf,J ru.fr],J t] w fun e w'=>ZhK e w' (Zao u (tl t)) 30001/\Nx w w':=by
 have HU:=A h1;have HTB:=A ht;have hcl:=Z9 (slB true) (tl t)
 have HD:=A (show Zao u (tl t)=if ZY (bcut (slB true) (tl t)).1=true then({ u with segs:=Zcb (tl t) u.sch },0)
  else if(Z2 (bcut (slB true) (tl t)).1).2≠0 then(zeroU,(Z2 (bcut (slB true) (tl t)).1).2)
  else({ u with host:=(Z2 (bcut (slB true) (tl t)).1).1,segs:=Zcb (bcut (slB true) (tl t)).2.1 u.sch },0)from rfl)
 clear h1 ht
 go_enter func254,ntmps254
 go_wp2_with fail
 refine(Zdq t true _ (Ze (by omega))).mono ?_
 rintro e w1 ⟨⟨x,y,rfl,hx,hy⟩,hn1⟩;rw[<-hx,<-hy]at HD hcl;rw[Za,Za,Za]at hcl
 have hxl:x.size<=30000:=by omega
 have hyl:y.size<=30000:=by omega
 obtain⟨g1,g2,g3⟩:=Zda hn1;have HUB:=A g1;have HZ:=A g2;have HN:=A g3;clear hx hy hn1 g1 g2 g3;generalize (bcut (slB true) (tl t)).2.2=fnd at *
 cases hd:ZY (tl x)
 .have HD2:=A (HD.o.trans (ifN (by rw[hd];decide)))
  have HDR:=A hd
  have hfl:=Zgd (l:=tl x) (by rw[Za];exact hxl)
  clear HD hd
  go_wp2_with (first|(go_at_call 288;refine(ZdT _ _).mono ?_;rintro e w' ⟨rfl,rfl⟩;rw[HDR.o])|fail)
  refine(Zlv x _ (by omega) (HTB.o.on HN.o)).mono ?_
  rintro e w2 ⟨fh,rfl,hfh,hn2⟩
  have hfs:fh.size<=300000:=by rw[<-Za,hfh];exact hfl
  rw[<-hfh]at HD2;have HUB2:=A (HUB.o.on hn2);have HZ2:=A (HZ.o.on hn2);have HN2:=A (HN.o.then hn2);clear hfh hn2 hfl HUB HZ HN;generalize (Z2 (tl x)).2=err at *
  by_cases he:err=0
  .subst he
   have HE:=A (HD2.o.trans (ifN (by decide)))
   clear HD2;obtain⟨a0,a1,a2,a3,a4,a5,a6,a7,a8,a9,a10,a11,a12,a13⟩:=HUB2.o.cells;have af4:=HUB2.o.free 4;go_wp2_with fail
   refine(ZbD y ru.sch _ (by omega)).mono ?_
   rintro e w3 ⟨v3,ds,rfl,ho,hds,hdl,hn3⟩;obtain⟨ao,n,cap,rfl⟩:=ZT ho
   have HO:=A (Zaz ho (by have:=HTB.o.2.2;have:=HN2.o.size;try simp[World.setCell];omega))
   have HDS:=A hds
   have HSH:=A (ZbG hds (ZaS (by rw[Za];exact hyl)))
   have HUB3:=A ((HUB2.o.s4 fh).on hn3)
   have HZ3:=A ((HZ2.o.far (q:=w.heap.size) (by omega) 4 (J fh)).on hn3)
   have HN3:=A (Nx.then (show Nx w _ from Below.setCell (p:=⟨w.heap.size,4,none⟩) HN2.o (Xa _) (J fh)) hn3);clear ho hds hn3 HUB2 HZ2 HN2;clear a0 a1 a2 a3 a4 a5 a6 a7 a8 a9 a10 a11 a12 a13 af4;obtain⟨a0,a1,a2,a3,a4,a5,a6,a7,a8,a9,a10,a11,a12,a13⟩:=HUB3.o.cells;have af9:=HUB3.o.free 9;obtain⟨z0,z1,z2,z3,z4,z5,z6,z7,z8,z9,z10,z11,z12,z13⟩:=HZ3.o.cells;obtain⟨zf0,zf1,zf2,zf3,zf4,zf5,zf6,zf7,zf8,zf9,zf10,zf11,zf12,zf13⟩:=ZaF HZ3.o.free;go_wp2
   refine ZaZ (rb:=w.heap.size+1) results254 rfl rfl (RecB.put (HZ3.o.far (by omega) 9 _) _ _ _ _ _ _ _ _ _ _ _ _ _ _) rfl ⟨⟨{ ru with host:=fh,so:=ao,sn:=n,sc:=cap },ds,by rw[HE.o],?_,by omega⟩,(Zi (Below.setCell HN3.o (Xa _) _) (by omega) _ _ _ _ _ _ _ _ _ _ _ _ _ _)⟩
   exact { eq:=by rw[HE.o,<-HU.o.eq];simp only[Rc.u];rw[HDS.o]
           seg:=HO.o.ks (Ks.then (Ks.then Ks.rfl (Zae HUB3.o.ty (by decide) 9 _)) (ZH (HZ3.o.ty.set w.heap.size 9 _) (by decide) _ _ _ _ _ _ _ _ _ _ _ _ _ _))
           lsch:=HU.o.lsch
           lnam:=HU.o.lnam
           lpw:=HU.o.lpw
           lhost:=hfs
           lport:=HU.o.lport
           lopath:=HU.o.lopath
           lsegs:=by omega
           lseg:=HSH.o
           lq:=HU.o.lq
           lfr:=HU.o.lfr }
  .have HE:=A (HD2.o.trans (ifP he))
   have he':(err != 0)=true:=Zjv (beq_eq_false_iff_ne.2 he);clear HD2 he;obtain⟨z0,z1,z2,z3,z4,z5,z6,z7,z8,z9,z10,z11,z12,z13⟩:=HZ2.o.cells;obtain⟨zf0,zf1,zf2,zf3,zf4,zf5,zf6,zf7,zf8,zf9,zf10,zf11,zf12,zf13⟩:=ZaF HZ2.o.free;go_wp2
   refine ZaZ (rb:=w.heap.size+1) results254 rfl rfl (RecB.put HZ2.o _ _ _ _ _ _ _ _ _ _ _ _ _ _) rfl ⟨⟨rz,[],by rw[HE.o];rfl,by rw[HE.o];exact ZgH _,by simp⟩,(Zi HN2.o (by omega) _ _ _ _ _ _ _ _ _ _ _ _ _ _)⟩
 .have HE:=A (HD.o.trans (ifP hd))
  have HDR:=A hd;clear HD hd;obtain⟨a0,a1,a2,a3,a4,a5,a6,a7,a8,a9,a10,a11,a12,a13⟩:=HUB.o.cells;have af9:=HUB.o.free 9
  go_wp2_with (first|(go_at_call 288;refine(ZdT _ _).mono ?_;rintro e w' ⟨rfl,rfl⟩;rw[HDR.o])|fail)
  refine(ZbD t ru.sch _ (by omega)).mono ?_
  rintro e w3 ⟨v3,ds,rfl,ho,hds,hdl,hn3⟩;obtain⟨ao,n,cap,rfl⟩:=ZT ho
  have HO:=A (Zaz ho (by have:=HTB.o.2.2;have:=HN.o.size;try simp[World.setCell];omega))
  have HDS:=A hds
  have HSH:=A (ZbG hds (ZaS (by rw[Za];exact hl)))
  have HUB3:=A (HUB.o.on hn3);have HZ3:=A (HZ.o.on hn3);have HN3:=A (HN.o.then hn3);clear ho hds hn3 HUB HZ HN;clear a0 a1 a2 a3 a4 a5 a6 a7 a8 a9 a10 a11 a12 a13 af9;obtain⟨a0,a1,a2,a3,a4,a5,a6,a7,a8,a9,a10,a11,a12,a13⟩:=HUB3.o.cells;have af9:=HUB3.o.free 9;obtain⟨z0,z1,z2,z3,z4,z5,z6,z7,z8,z9,z10,z11,z12,z13⟩:=HZ3.o.cells;obtain⟨zf0,zf1,zf2,zf3,zf4,zf5,zf6,zf7,zf8,zf9,zf10,zf11,zf12,zf13⟩:=ZaF HZ3.o.free;go_wp2
  refine ZaZ (rb:=w.heap.size+1) results254 rfl rfl (RecB.put (HZ3.o.far (by omega) 9 _) _ _ _ _ _ _ _ _ _ _ _ _ _ _) rfl ⟨⟨{ ru with so:=ao,sn:=n,sc:=cap },ds,by rw[HE.o],?_,by omega⟩,(Zi (Below.setCell HN3.o (Xa _) _) (by omega) _ _ _ _ _ _ _ _ _ _ _ _ _ _)⟩
  exact { eq:=by rw[HE.o,<-HU.o.eq];simp only[Rc.u];rw[HDS.o]
          seg:=HO.o.ks (Ks.then (Ks.then Ks.rfl (Zae HUB3.o.ty (by decide) 9 _)) (ZH (HZ3.o.ty.set w.heap.size 9 _) (by decide) _ _ _ _ _ _ _ _ _ _ _ _ _ _))
          lsch:=HU.o.lsch
          lnam:=HU.o.lnam
          lpw:=HU.o.lpw
          lhost:=HU.o.lhost
          lport:=HU.o.lport
          lopath:=HU.o.lopath
          lsegs:=by omega
          lseg:=HSH.o
          lq:=HU.o.lq
          lfr:=HU.o.lfr }
theorem RcIs.whh{w:World}{r:Rc}{u:U}{bs:LA}(h:RcIs w r u bs)(x:Bool):RcIs w { r with hh:=x } { u with hh:=x } bs:={ h with eq:=by rw[<-h.eq];rfl }
theorem RcIs.whost{w:World}{r:Rc}{u:U}{bs:LA}(h:RcIs w r u bs)(x:BA)(hx:x.size<=300000):RcIs w { r with host:=x } { u with host:=tl x } bs:={ h with eq:=by rw[<-h.eq];rfl,lhost:=hx }
theorem Zzc{s:BA}{l:LB}(h:(s.toList==l)=false):(s.toList != l)=true:=by simp only[bne,h];rfl
theorem Zzd{s:BA}{l:LB}(h:(s.toList==l)=true):(s.toList != l)=false:=by simp only[bne,h];rfl
def ZdU(u:U)(left:List UInt8)(base:U):U×Int:=
 if 1<countSl true left then Zao { u with hh:=true } (left.drop 2)
 else if base.sch≠ZE then({ u with hh:=true,segs:=Zcb (left.drop (countSl true left)) u.sch },0)
 else if countSl true left=1 then({ u with hh:=true,host:=base.host,segs:=ZaR base.segs (left.drop 1) },0)
 else if Z3 left=true then({ u with hh:=true,host:=base.host,segs:=Zcb left u.sch },0)
 else(Zak { u with hh:=true,host:=base.host } left base,0)
theorem Zly(ru rb:Rc)(u base:U)(bs cs:LA)(left:BA)(w:World)(h1:RcIs w ru u bs)(h2:RcIs w rb base cs)(hcs:cs.length<=60000)(hl:left.size<=30000)(ht:Tb w):Calls prog 224 #[.agg #[J ru.sch,J ru.nam,J ru.pw,C ru.hh,J ru.host,C ru.hp,I X (ru.port:Int),C ru.op,J ru.opath,.slice ru.so ru.sn ru.sc,C ru.hq,J ru.q,C ru.hf,J ru.fr],J left,.agg #[J rb.sch,J rb.nam,J rb.pw,C rb.hh,J rb.host,C rb.hp,I X (rb.port:Int),C rb.op,J rb.opath,.slice rb.so rb.sn rb.sc,C rb.hq,J rb.q,C rb.hf,J rb.fr]] w fun e w'=>ZhK e w' (ZdU u (tl left) base) (cs.length+30002)/\Nx w w':=by
 have HU:=A h1;have HBS:=A h2;have HTB:=A ht;have hk:=Ze5 true (tl left);rw[Za]at hk
 have HD:=A (show ZdU u (tl left) base=if 1<countSl true (tl left)then Zao { u with hh:=true } ((tl left).drop 2)
  else if tl rb.sch≠ZE then({ u with hh:=true,segs:=Zcb ((tl left).drop (countSl true (tl left))) u.sch },0)
  else if countSl true (tl left)=1 then({ u with hh:=true,host:=base.host,segs:=ZaR base.segs ((tl left).drop 1) },0)
  else if Z3 (tl left)=true then({ u with hh:=true,host:=base.host,segs:=Zcb (tl left) u.sch },0)
  else(Zak { u with hh:=true,host:=base.host } (tl left) base,0)by rw[h2.usch];rfl)
 clear h1 h2 ht;generalize hkk:countSl true (tl left)=k at *;have HK:=A hkk;clear hkk
 by_cases hk1:1<k
 .have HE:=A (HD.o.trans (ifP hk1))
  have hki:1<(k:Int):=by omega
  have hl2:2<=left.size:=by omega
  have HFH:=A (fun w1 (hn:Nx w w1)=>ZkD { ru with hh:=true } { u with hh:=true } bs (left.extract 2 left.size) w1 ((HU.o.on hn).whh true) (HTB.o.on hn) (by rw[Zam];omega))
  rw[tl_from]at HFH;clear HD
  go_enter func224,ntmps224
  go_wp2_with (go_at_call 226;refine(Zs _ _ _ (Ze (by omega))).mono ?_;rintro e w' ⟨rfl,rfl⟩;rw[HK.o])
  go_region_with (go_at_call 254;refine(HFH.o _ (((Nx.rfl.alloc _).alloc _).alloc _).drew).mono ?_;rintro e w1 ⟨⟨r,ds,rfl,hr,hdl⟩,hn⟩;have HR:=A hr;clear hr;obtain⟨g1,g2,g3,g4⟩:=Zan (ru:={ ru with hh:=true }) (Nx.then (show Nx _ _ from Nx.rfl.drew) hn);have HUB:=A g1;have HBB:=A g2;have HZ:=A g3;have HN:=A g4;clear g1 g2 g3 g4 hn;obtain⟨z0,z1,z2,z3,z4,z5,z6,z7,z8,z9,z10,z11,z12,z13⟩:=HZ.o.cells;obtain⟨zf0,zf1,zf2,zf3,zf4,zf5,zf6,zf7,zf8,zf9,zf10,zf11,zf12,zf13⟩:=ZaF HZ.o.free)
  all_goals go_wp2
  all_goals exact ZaZ (rb:=w.heap.size+1+1) results224 rfl rfl (RecB.put HZ.o _ _ _ _ _ _ _ _ _ _ _ _ _ _) rfl ⟨⟨r,ds,by rw[HE.o],by rw[HE.o];exact HR.o.ks (Ks.then Ks.rfl (ZH HZ.o.ty (by decide) _ _ _ _ _ _ _ _ _ _ _ _ _ _)),by omega⟩,(Zi HN.o (by omega) _ _ _ _ _ _ _ _ _ _ _ _ _ _)⟩
 .have HD2:=A (HD.o.trans (ifN hk1))
  have hki:(k:Int)<=1:=by omega
  clear HD
  by_cases hf:tl rb.sch=ZE
  .have HD3:=A (HD2.o.trans (ifN (fun h=>h hf)))
   have hfe:=eqB hf;unfold ZE at hfe;have hfn:=Zzd hfe;clear HD2 hf
   by_cases hke:k=1
   .have HE:=A (HD3.o.trans (ifP hke))
    have hkb:((k:Int)==1)=true:=by rw[hke];rfl
    have hl1:1<=left.size:=by omega
    have HPR:=A (fun w1 (hn:Nx w w1)=>Znm _ cs (left.extract 1 left.size) w1 (HBS.o.seg.on hn).1 (by rw[Zam];omega))
    rw[tl_from,HBS.o.segs]at HPR;clear HD3 hke
    go_enter func224,ntmps224
    go_wp2_with (go_at_call 226;refine(Zs _ _ _ (Ze (by omega))).mono ?_;rintro e w' ⟨rfl,rfl⟩;rw[HK.o])
    go_region_with (go_at_call 255;refine(HPR.o _ (((Nx.rfl.alloc _).alloc _).alloc _).drew).mono ?_;rintro e w1 ⟨v3,ds,rfl,ho,hds,hdl,hn⟩;obtain⟨ao,n,cap,rfl⟩:=ZT ho;have HO:=A (Zaz ho (by have:=HTB.o.2.2;try simp[World.setCell];omega));have HDS:=A hds;have HSH:=A (ZbG hds (Zje HBS.o.short (by rw[Xe,Za];omega)));rw[Zam]at hdl;clear ho hds;obtain⟨g1,g2,g3,g4⟩:=Zan (ru:={ ru with hh:=true,host:=rb.host }) (Nx.then (show Nx _ _ from Nx.rfl.drew) hn);have HUB:=A g1;have HBB:=A g2;have HZ:=A g3;have HN:=A g4;clear g1 g2 g3 g4 hn;obtain⟨a0,a1,a2,a3,a4,a5,a6,a7,a8,a9,a10,a11,a12,a13⟩:=HUB.o.cells;have af9:=HUB.o.free 9;obtain⟨z0,z1,z2,z3,z4,z5,z6,z7,z8,z9,z10,z11,z12,z13⟩:=HZ.o.cells;obtain⟨zf0,zf1,zf2,zf3,zf4,zf5,zf6,zf7,zf8,zf9,zf10,zf11,zf12,zf13⟩:=ZaF HZ.o.free)
    all_goals go_wp2
    all_goals (
     refine ZaZ (rb:=w.heap.size+1+1) results224 rfl rfl (RecB.put (HZ.o.far (by omega) 9 _) _ _ _ _ _ _ _ _ _ _ _ _ _ _) rfl ⟨⟨{ ru with hh:=true,host:=rb.host,so:=ao,sn:=n,sc:=cap },ds,by rw[HE.o],?_,by omega⟩,(Zi (Below.setCell HN.o (Xa _) _) (by omega) _ _ _ _ _ _ _ _ _ _ _ _ _ _)⟩
     exact { eq:=by rw[HE.o,<-HU.o.eq,<-HBS.o.eq];simp only[Rc.u];rw[HDS.o,<-HBS.o.eq];rfl
             seg:=HO.o.ks (Ks.then (Ks.then Ks.rfl (Zae HUB.o.ty (by decide) 9 _)) (ZH (HZ.o.ty.set w.heap.size 9 _) (by decide) _ _ _ _ _ _ _ _ _ _ _ _ _ _))
             lsch:=HU.o.lsch
             lnam:=HU.o.lnam
             lpw:=HU.o.lpw
             lhost:=HBS.o.lhost
             lport:=HU.o.lport
             lopath:=HU.o.lopath
             lsegs:=by omega
             lseg:=HSH.o
             lq:=HU.o.lq
             lfr:=HU.o.lfr })
   .have HD4:=A (HD3.o.trans (ifN hke))
    have hkb:((k:Int)==1)=false:=beq_eq_false_iff_ne.2 (by omega)
    clear HD3 hke
    go_enter func224,ntmps224
    go_wp2_with (first|(go_at_call 226;refine(Zs _ _ _ (Ze (by omega))).mono ?_;rintro e w' ⟨rfl,rfl⟩;rw[HK.o])|fail)
    refine(ZdI left _ (Ze (by omega))).mono ?_
    rintro e w0 ⟨rfl,hn⟩
    obtain⟨g1,g2,g3,g4⟩:=Zan (ru:={ ru with hh:=true,host:=rb.host }) (Nx.then (show Nx _ _ from Nx.rfl) hn)
    have HUB:=A g1;have HBB:=A g2;have HZ:=A g3;have HN:=A g4;clear g1 g2 g3 g4 hn;obtain⟨a0,a1,a2,a3,a4,a5,a6,a7,a8,a9,a10,a11,a12,a13⟩:=HUB.o.cells;have af9:=HUB.o.free 9;obtain⟨z0,z1,z2,z3,z4,z5,z6,z7,z8,z9,z10,z11,z12,z13⟩:=HZ.o.cells;obtain⟨zf0,zf1,zf2,zf3,zf4,zf5,zf6,zf7,zf8,zf9,zf10,zf11,zf12,zf13⟩:=ZaF HZ.o.free;obtain⟨b0,b1,b2,b3,b4,b5,b6,b7,b8,b9,b10,b11,b12,b13⟩:=HBB.o.cells
    cases hd:Z3 (tl left)
    .have HE:=A (HD4.o.trans (ifN (by rw[hd];decide)))
     have HRC:=A (((HU.o.on HN.o).whh true).whost rb.host HBS.o.lhost);have HBC:=A (HBS.o.on HN.o);clear HD4 hd;go_wp2_with fail
     refine(ZjD { ru with hh:=true,host:=rb.host } rb _ base bs cs left _ HRC.o HBC.o hcs hl (HTB.o.on HN.o)).mono ?_
     rintro e w1 ⟨r,ds,rfl,hr,hdl,hn1⟩;have HR:=A hr;have HUB1:=A (HUB.o.on hn1);have HZ1:=A (HZ.o.on hn1);have HN1:=A (HN.o.then hn1)
     have HEB:=A (show base.host=tl rb.host by rw[<-HBS.o.eq];rfl)
     clear hr hn1;clear a0 a1 a2 a3 a4 a5 a6 a7 a8 a9 a10 a11 a12 a13 b0 b1 b2 b3 b4 b5 b6 b7 b8 b9 b10 b11 b12 b13 z0 z1 z2 z3 z4 z5 z6 z7 z8 z9 z10 z11 z12 z13 zf0 zf1 zf2 zf3 zf4 zf5 zf6 zf7 zf8 zf9 zf10 zf11 zf12 zf13 af9;obtain⟨z0,z1,z2,z3,z4,z5,z6,z7,z8,z9,z10,z11,z12,z13⟩:=HZ1.o.cells;obtain⟨zf0,zf1,zf2,zf3,zf4,zf5,zf6,zf7,zf8,zf9,zf10,zf11,zf12,zf13⟩:=ZaF HZ1.o.free;go_wp2
     exact ZaZ (rb:=w.heap.size+1+1) results224 rfl rfl (RecB.put HZ1.o _ _ _ _ _ _ _ _ _ _ _ _ _ _) rfl ⟨⟨r,ds,by rw[HE.o],by rw[HE.o,HEB.o];exact HR.o.ks (Ks.then Ks.rfl (ZH HZ1.o.ty (by decide) _ _ _ _ _ _ _ _ _ _ _ _ _ _)),by omega⟩,(Zi HN1.o (by omega) _ _ _ _ _ _ _ _ _ _ _ _ _ _)⟩
    .have HE:=A (HD4.o.trans (ifP hd))
     clear HD4 hd;go_wp2_with fail
     refine(ZbD left ru.sch _ (by omega)).mono ?_
     rintro e w3 ⟨v3,ds,rfl,ho,hds,hdl,hn3⟩;obtain⟨ao,n,cap,rfl⟩:=ZT ho
     have HO:=A (Zaz ho (by have:=HTB.o.2.2;have:=HN.o.size;try simp[World.setCell];omega))
     have HDS:=A hds
     have HSH:=A (ZbG hds (ZaS (by rw[Za];exact hl)))
     have HUB3:=A (HUB.o.on hn3);have HZ3:=A (HZ.o.on hn3);have HN3:=A (HN.o.then hn3);clear ho hds hn3;clear a0 a1 a2 a3 a4 a5 a6 a7 a8 a9 a10 a11 a12 a13 b0 b1 b2 b3 b4 b5 b6 b7 b8 b9 b10 b11 b12 b13 z0 z1 z2 z3 z4 z5 z6 z7 z8 z9 z10 z11 z12 z13 zf0 zf1 zf2 zf3 zf4 zf5 zf6 zf7 zf8 zf9 zf10 zf11 zf12 zf13 af9;obtain⟨a0,a1,a2,a3,a4,a5,a6,a7,a8,a9,a10,a11,a12,a13⟩:=HUB3.o.cells;have af9:=HUB3.o.free 9;obtain⟨z0,z1,z2,z3,z4,z5,z6,z7,z8,z9,z10,z11,z12,z13⟩:=HZ3.o.cells;obtain⟨zf0,zf1,zf2,zf3,zf4,zf5,zf6,zf7,zf8,zf9,zf10,zf11,zf12,zf13⟩:=ZaF HZ3.o.free;go_wp2
     refine ZaZ (rb:=w.heap.size+1+1) results224 rfl rfl (RecB.put (HZ3.o.far (by omega) 9 _) _ _ _ _ _ _ _ _ _ _ _ _ _ _) rfl ⟨⟨{ ru with hh:=true,host:=rb.host,so:=ao,sn:=n,sc:=cap },ds,by rw[HE.o],?_,by omega⟩,(Zi (Below.setCell HN3.o (Xa _) _) (by omega) _ _ _ _ _ _ _ _ _ _ _ _ _ _)⟩
     exact { eq:=by rw[HE.o,<-HU.o.eq,<-HBS.o.eq];simp only[Rc.u];rw[HDS.o]
             seg:=HO.o.ks (Ks.then (Ks.then Ks.rfl (Zae HUB3.o.ty (by decide) 9 _)) (ZH (HZ3.o.ty.set w.heap.size 9 _) (by decide) _ _ _ _ _ _ _ _ _ _ _ _ _ _))
             lsch:=HU.o.lsch
             lnam:=HU.o.lnam
             lpw:=HU.o.lpw
             lhost:=HBS.o.lhost
             lport:=HU.o.lport
             lopath:=HU.o.lopath
             lsegs:=by omega
             lseg:=HSH.o
             lq:=HU.o.lq
             lfr:=HU.o.lfr }
  .have HE:=A (HD2.o.trans (ifP hf))
   have hfe:=neB hf;unfold ZE at hfe;have hfn:=Zzc hfe
   have HPR:=A (fun w1=>ZbD (left.extract k left.size) ru.sch w1 (by rw[Zam];omega))
   rw[tl_from]at HPR;clear HD2 hf
   go_enter func224,ntmps224
   go_wp2_with (go_at_call 226;refine(Zs _ _ _ (Ze (by omega))).mono ?_;rintro e w' ⟨rfl,rfl⟩;rw[HK.o])
   go_region_with (go_at_call 227;refine(HPR.o _).mono ?_;rintro e w1 ⟨v3,ds,rfl,ho,hds,hdl,hn⟩;obtain⟨ao,n,cap,rfl⟩:=ZT ho;have HO:=A (Zaz ho (by have:=HTB.o.2.2;try simp[World.setCell];omega));have HDS:=A hds;have HSH:=A (ZbG hds (ZaS (by rw[Xe,Za];omega)));rw[Zam]at hdl;clear ho hds;obtain⟨g1,g2,g3,g4⟩:=Zan (ru:={ ru with hh:=true }) (Nx.then (show Nx _ _ from Nx.rfl.drew) hn);have HUB:=A g1;have HBB:=A g2;have HZ:=A g3;have HN:=A g4;clear g1 g2 g3 g4 hn;obtain⟨a0,a1,a2,a3,a4,a5,a6,a7,a8,a9,a10,a11,a12,a13⟩:=HUB.o.cells;have af9:=HUB.o.free 9;obtain⟨z0,z1,z2,z3,z4,z5,z6,z7,z8,z9,z10,z11,z12,z13⟩:=HZ.o.cells;obtain⟨zf0,zf1,zf2,zf3,zf4,zf5,zf6,zf7,zf8,zf9,zf10,zf11,zf12,zf13⟩:=ZaF HZ.o.free)
   all_goals go_wp2
   all_goals (
    refine ZaZ (rb:=w.heap.size+1+1) results224 rfl rfl (RecB.put (HZ.o.far (by omega) 9 _) _ _ _ _ _ _ _ _ _ _ _ _ _ _) rfl ⟨⟨{ ru with hh:=true,so:=ao,sn:=n,sc:=cap },ds,by rw[HE.o],?_,by omega⟩,(Zi (Below.setCell HN.o (Xa _) _) (by omega) _ _ _ _ _ _ _ _ _ _ _ _ _ _)⟩
    exact { eq:=by rw[HE.o,<-HU.o.eq];simp only[Rc.u];rw[HDS.o]
            seg:=HO.o.ks (Ks.then (Ks.then Ks.rfl (Zae HUB.o.ty (by decide) 9 _)) (ZH (HZ.o.ty.set w.heap.size 9 _) (by decide) _ _ _ _ _ _ _ _ _ _ _ _ _ _))
            lsch:=HU.o.lsch
            lnam:=HU.o.lnam
            lpw:=HU.o.lpw
            lhost:=HU.o.lhost
            lport:=HU.o.lport
            lopath:=HU.o.lopath
            lsegs:=by omega
            lseg:=HSH.o
            lq:=HU.o.lq
            lfr:=HU.o.lfr })
def Zbq(l:List UInt8):Int×Bool:=if(Zp l 10 65535).2=false∨65535<(Zp l 10 65535).1 then(0,false)else((Zp l 10 65535).1,true)
theorem Zhm(l:LB):0<=(Zbq l).1/\(Zbq l).1<=65535:=by
 have h:=ZdS l 10 65535 (by decide) (by decide)
 unfold Zbq
 split
 .exact⟨by decide,by decide⟩
 .next hn=>exact⟨h.1,Int.not_lt.1 (fun hh=>hn (Xg hh))⟩
theorem Zhn(s:BA)(w:World)(hs:s.size<=1000000):Calls prog 278 #[J s] w fun e w'=>e=Y (.tuple #[I X (Zbq (tl s)).1,C (Zbq (tl s)).2])/\w=w':=by
 have HD:=A (show Zbq (tl s)=if(Zp (tl s) 10 65535).2=false∨65535<(Zp (tl s) 10 65535).1 then(0,false)else((Zp (tl s) 10 65535).1,true)from rfl)
 have hrg:=ZdS (tl s) 10 65535 (by decide) (by decide)
 generalize hq:Zp (tl s) 10 65535=nq at *;have HQ:=A hq;clear hq;obtain⟨nv,nok⟩:=nq;simp only at HD hrg
 by_cases hnb:nok=false∨65535<nv
 focus
  have HE:=A (HD.o.trans (ifP hnb));clear HD
  cases nok
  focus
   clear hnb
  rotate_left
  focus
   have hnv:65535<nv:=by rcases hnb with h|h;cases h;exact h
   clear hnb
 rotate_left 2
 focus
  have hok:nok=true:=by cases nok;exact absurd (Xh rfl) hnb;rfl
  subst hok
  have hnv:nv<=65535:=Int.not_lt.1 (fun h=>hnb (Xg h))
  have HE:=A (HD.o.trans (ifN hnb));clear HD hnb
 all_goals
  go_enter func278,ntmps278
  go_wp2_with (go_at_call 301;refine(Zdr _ _ _ hs (by decide) (by decide)).mono ?_;rintro e w' ⟨rfl,rfl⟩;rw[HQ.o])
  go_ret2
  exact⟨by rw[HE.o];rfl,rfl⟩
def Rc.noPort(r:Rc):Rc:={ r with hp:=false,port:=0 }
theorem Zie(ru:Rc)(w:World):Calls prog 282 #[.agg #[J ru.sch,J ru.nam,J ru.pw,C ru.hh,J ru.host,C ru.hp,I X (ru.port:Int),C ru.op,J ru.opath,.slice ru.so ru.sn ru.sc,C ru.hq,J ru.q,C ru.hf,J ru.fr]] w fun e w'=>∃r:Rc,e=Y (.agg #[J r.sch,J r.nam,J r.pw,C r.hh,J r.host,C r.hp,I X (r.port:Int),C r.op,J r.opath,.slice r.so r.sn r.sc,C r.hq,J r.q,C r.hf,J r.fr])/\r=ru.noPort/\Nx w w':=by
 go_enter func282,ntmps282
 go_upto_region 1 with fail;obtain⟨g1,g2,g3⟩:=Zda (w:=w) (ru:=ru) Nx.rfl;have HUB:=A g1;have HZ:=A g2;have HN:=A g3;clear g1 g2 g3;generalize ((w.alloc (O #[J ru.sch,J ru.nam,J ru.pw,C ru.hh,J ru.host,C ru.hp,I X (ru.port:Int),C ru.op,J ru.opath,.slice ru.so ru.sn ru.sc,C ru.hq,J ru.q,C ru.hf,J ru.fr] 101)).alloc (O #[J ⟨#[]⟩,J ⟨#[]⟩,J ⟨#[]⟩,C false,J ⟨#[]⟩,C false,I X 0,C false,J ⟨#[]⟩,.slice none 0 0,C false,J ⟨#[]⟩,C false,J ⟨#[]⟩] 101))=w1 at *;obtain⟨a0,a1,a2,a3,a4,a5,a6,a7,a8,a9,a10,a11,a12,a13⟩:=HUB.o.cells;have af5:=HUB.o.free 5;have af6:=HUB.o.free 6;obtain⟨z0,z1,z2,z3,z4,z5,z6,z7,z8,z9,z10,z11,z12,z13⟩:=HZ.o.cells;obtain⟨zf0,zf1,zf2,zf3,zf4,zf5,zf6,zf7,zf8,zf9,zf10,zf11,zf12,zf13⟩:=ZaF HZ.o.free;go_wp2
 refine Zfv (rb:=w.heap.size+1) results282 rfl (RecB.put ((HZ.o.far (by omega) 5 _).far (by omega) 6 _) _ _ _ _ _ _ _ _ _ _ _ _ _ _) rfl ⟨ru.noPort,rfl,rfl,(Zi (Below.setCell (Below.setCell HN.o (Xa _) _) (Xa _) _) (by omega) _ _ _ _ _ _ _ _ _ _ _ _ _ _)⟩
def Rc.atPort(r:Rc)(p:Nat):Rc:=if(ZC (tl r.sch)).2=true/\(p:Int)=(ZC (tl r.sch)).1 then r.noPort else { r with hp:=true,port:=p }
def Zby(u:U)(p:Int):U:=if(ZC u.sch).2=true/\p=(ZC u.sch).1 then { u with hp:=false,port:=0 }else { u with hp:=true,port:=p.toNat }
theorem Zqt(ru:Rc)(p:Nat)(w:World):Calls prog 279 #[.agg #[J ru.sch,J ru.nam,J ru.pw,C ru.hh,J ru.host,C ru.hp,I X (ru.port:Int),C ru.op,J ru.opath,.slice ru.so ru.sn ru.sc,C ru.hq,J ru.q,C ru.hf,J ru.fr],I X (p:Int)] w fun e w'=>∃r:Rc,e=Y (.agg #[J r.sch,J r.nam,J r.pw,C r.hh,J r.host,C r.hp,I X (r.port:Int),C r.op,J r.opath,.slice r.so r.sn r.sc,C r.hq,J r.q,C r.hf,J r.fr])/\r=ru.atPort p/\Nx w w':=by
 have HD:=A (show ru.atPort p=if(ZC (tl ru.sch)).2=true/\(p:Int)=(ZC (tl ru.sch)).1 then ru.noPort else { ru with hp:=true,port:=p }from rfl)
 generalize ho:ZC (tl ru.sch)=op at *;have HOP:=A ho;clear ho;obtain⟨ov,ook⟩:=op;simp only at HD
 go_enter func279,ntmps279
 go_upto_region 1 with fail;obtain⟨g1,g2,g3⟩:=Zda (w:=w) (ru:=ru) Nx.rfl;have HUB:=A g1;have HZ:=A g2;have HN:=A g3;clear g1 g2 g3;generalize ((w.alloc (O #[J ru.sch,J ru.nam,J ru.pw,C ru.hh,J ru.host,C ru.hp,I X (ru.port:Int),C ru.op,J ru.opath,.slice ru.so ru.sn ru.sc,C ru.hq,J ru.q,C ru.hf,J ru.fr] 101)).alloc (O #[J ⟨#[]⟩,J ⟨#[]⟩,J ⟨#[]⟩,C false,J ⟨#[]⟩,C false,I X 0,C false,J ⟨#[]⟩,.slice none 0 0,C false,J ⟨#[]⟩,C false,J ⟨#[]⟩] 101))=w1 at *;obtain⟨a0,a1,a2,a3,a4,a5,a6,a7,a8,a9,a10,a11,a12,a13⟩:=HUB.o.cells;have af5:=HUB.o.free 5;have af6:=HUB.o.free 6;obtain⟨z0,z1,z2,z3,z4,z5,z6,z7,z8,z9,z10,z11,z12,z13⟩:=HZ.o.cells;obtain⟨zf0,zf1,zf2,zf3,zf4,zf5,zf6,zf7,zf8,zf9,zf10,zf11,zf12,zf13⟩:=ZaF HZ.o.free
 cases ook
 focus
  have HE:=A (HD.o.trans (ifN (by rintro⟨h,-⟩;cases h)))
  clear HD
 rotate_left
 focus
  by_cases hov:(p:Int)=ov
  .have HE:=A (HD.o.trans (ifP ⟨rfl,hov⟩))
   have hov':((p:Int)==ov)=true:=by rw[hov];simp
   clear HD hov
   go_wp2_with (first|(go_at_call 223;refine(ZfC _ _).mono ?_;rintro e w' ⟨rfl,rfl⟩;rw[HOP.o])|fail)
   refine(Zie ru _).mono ?_
   rintro e w2 ⟨r,rfl,hr,hn⟩;have HR:=A hr;have HZ2:=A (HZ.o.on hn);have HN2:=A (HN.o.then hn);clear hr hn z0 z1 z2 z3 z4 z5 z6 z7 z8 z9 z10 z11 z12 z13 zf0 zf1 zf2 zf3 zf4 zf5 zf6 zf7 zf8 zf9 zf10 zf11 zf12 zf13;obtain⟨z0,z1,z2,z3,z4,z5,z6,z7,z8,z9,z10,z11,z12,z13⟩:=HZ2.o.cells;obtain⟨zf0,zf1,zf2,zf3,zf4,zf5,zf6,zf7,zf8,zf9,zf10,zf11,zf12,zf13⟩:=ZaF HZ2.o.free;go_wp2
   exact Zfv (rb:=w.heap.size+1) results279 rfl (RecB.put HZ2.o _ _ _ _ _ _ _ _ _ _ _ _ _ _) rfl ⟨r,rfl,by rw[HE.o];exact HR.o,(Zi HN2.o (by omega) _ _ _ _ _ _ _ _ _ _ _ _ _ _)⟩
  focus
   have HE:=A (HD.o.trans (ifN (by rintro⟨-,h⟩;exact hov h)))
   have hov':((p:Int)==ov)=false:=beq_eq_false_iff_ne.2 hov;clear HD hov
 all_goals
  go_wp2_with (go_at_call 223;refine(ZfC _ _).mono ?_;rintro e w' ⟨rfl,rfl⟩;rw[HOP.o])
  refine Zfv (rb:=w.heap.size+1) results279 rfl (RecB.put ((HZ.o.far (by omega) 5 _).far (by omega) 6 _) _ _ _ _ _ _ _ _ _ _ _ _ _ _) rfl ⟨{ ru with hp:=true,port:=p },rfl,HE.o.symm,(Zi (Below.setCell (Below.setCell HN.o (Xa _) _) (Xa _) _) (by omega) _ _ _ _ _ _ _ _ _ _ _ _ _ _)⟩
theorem RcIs.atPort{w:World}{r:Rc}{u:U}{bs:LA}{p:Nat}(h:RcIs w r u bs)(hp:p<=65535):RcIs w (r.atPort p) (Zby u p) bs:=by
 have e:Zby u p=if(ZC (tl r.sch)).2=true/\(p:Int)=(ZC (tl r.sch)).1 then { u with hp:=false,port:=0 }else { u with hp:=true,port:=p }:=by rw[h.usch];rfl
 rw[e];unfold Rc.atPort
 split
 .exact { h with eq:=by rw[<-h.eq];rfl,lport:=Xd _ }
 .exact { h with eq:=by rw[<-h.eq];rfl,lport:=hp }
def ZgJ(u:U)(port:List UInt8):U×Int:=if(Zbq port).2=false then(zeroU,2)else(Zby u (Zbq port).1,0)
def Zbx(u:U)(place:List UInt8):U×Int:=
 if(Zw place).1=[]/\(Zc u.sch=true∨(Zw place).2.2=true)then(zeroU,2)
 else if(ZaP (Zw place).1 (Zc u.sch)).2≠0 then(zeroU,(ZaP (Zw place).1 (Zc u.sch)).2)
 else if(Zw place).2.1=[]then({ u with hh:=true,host:=(ZaP (Zw place).1 (Zc u.sch)).1 },0)
 else ZgJ { u with hh:=true,host:=(ZaP (Zw place).1 (Zc u.sch)).1 } (Zw place).2.1
theorem ZkE(l:LB):∀inb q,cutPortGo inb l=some q->q.1.length<=l.length/\q.2.length<=l.length:=by
 induction l with
 | nil=>intro inb q h;cases h
 | cons c r ih=>
  intro inb q h;rw[cutPortGo]at h
  have key:∀b,(cutPortGo b r).map (fun q=>(c::q.1,q.2))=some q->q.1.length<=(c::r).length/\q.2.length<=(c::r).length:=by
   intro b hb
   cases hq:cutPortGo b r with
   | none=>rw[hq]at hb;cases hb
   | some x=>
    rw[hq]at hb;simp only[Option.map_some,Option.some.injEq]at hb;subst hb;have:=ih b x hq;simp only[Xf]
    omega
  split at h
  .exact key _ h
  .split at h
   .exact key _ h
   .split at h
    .cases h
     simp
    .exact key _ h
theorem Zif(l:LB):(Zw l).1.length<=l.length/\(Zw l).2.1.length<=l.length:=by
 unfold Zw
 cases h:cutPortGo false l with
 | none=>simp
 | some q=>exact ZkE l false q h
theorem Zqu(ru:Rc)(u:U)(bs:LA)(p:BA)(w:World)(h1:RcIs w ru u bs)(ht:Tb w)(hl:p.size<=30000):Calls prog 262 #[.agg #[J ru.sch,J ru.nam,J ru.pw,C ru.hh,J ru.host,C ru.hp,I X (ru.port:Int),C ru.op,J ru.opath,.slice ru.so ru.sn ru.sc,C ru.hq,J ru.q,C ru.hf,J ru.fr],J p] w fun e w'=>ZhK e w' (Zbx u (tl p)) bs.length/\Nx w w':=by
 have HU:=A h1;have HTB:=A ht;have hcl:=Zif (tl p)
 have HD:=A (show Zbx u (tl p)=if(Zw (tl p)).1=[]/\(Zc (tl ru.sch)=true∨(Zw (tl p)).2.2=true)then(zeroU,2)
  else if(ZaP (Zw (tl p)).1 (Zc (tl ru.sch))).2≠0 then(zeroU,(ZaP (Zw (tl p)).1 (Zc (tl ru.sch))).2)
  else if(Zw (tl p)).2.1=[]then({ u with hh:=true,host:=(ZaP (Zw (tl p)).1 (Zc (tl ru.sch))).1 },0)
  else ZgJ { u with hh:=true,host:=(ZaP (Zw (tl p)).1 (Zc (tl ru.sch))).1 } (Zw (tl p)).2.1 by rw[h1.usch];rfl)
 clear h1 ht;generalize hsp:Zc (tl ru.sch)=sp at *;have HSP:=A hsp;clear hsp
 go_enter func262,ntmps262
 go_wp2_with (first|(go_at_call 189;refine(Zaj _ _).mono ?_;rintro e w' ⟨rfl,rfl⟩;rw[HSP.o])|fail)
 refine(Znn p _ (by omega)).mono ?_
 rintro e w1 ⟨⟨x,y,rfl,hx,hy⟩,hn1⟩;rw[<-hx,<-hy]at HD hcl;rw[Za,Za,Za]at hcl
 have hxl:x.size<=30000:=by omega
 have hyl:y.size<=30000:=by omega
 obtain⟨g1,g2,g3⟩:=Zda hn1;have HUB:=A g1;have HZ:=A g2;have HN:=A g3;clear hx hy hn1 g1 g2 g3 hcl;generalize (Zw (tl p)).2.2=col at *
 by_cases hbad:x.size=0/\(sp=true∨col=true)
 .have HE:=A (HD.o.trans (ifP ⟨Zz hbad.1,hbad.2⟩))
  obtain⟨hx0,hsc⟩:=hbad;have hx0':=Zo hx0;clear HD hx0;obtain⟨z0,z1,z2,z3,z4,z5,z6,z7,z8,z9,z10,z11,z12,z13⟩:=HZ.o.cells;obtain⟨zf0,zf1,zf2,zf3,zf4,zf5,zf6,zf7,zf8,zf9,zf10,zf11,zf12,zf13⟩:=ZaF HZ.o.free
  cases sp
  focus
   have hcol:col=true:=by rcases hsc with h|h;cases h;exact h
   subst hcol
  rotate_left
  all_goals
   clear hsc;go_wp2
   refine ZaZ (rb:=w.heap.size+1) results262 rfl rfl (RecB.put HZ.o _ _ _ _ _ _ _ _ _ _ _ _ _ _) rfl ⟨⟨rz,[],(by rw[HE.o];first|done|rfl),(by rw[HE.o];exact ZgH _),by simp⟩,(Zi HN.o (by omega) _ _ _ _ _ _ _ _ _ _ _ _ _ _)⟩
 .have HD2:=A (HD.o.trans (ifN (fun h=>hbad ⟨by have:=congrArg List.length h.1;rw[Za]at this;simpa using this,h.2⟩)))
  have HHL:=A (Zid (l:=tl x) (sp:=sp) (by rw[Za];exact hxl))
  clear HD
  have step:(x.toList.isEmpty=false)∨(x.toList.isEmpty=true/\sp=false/\col=false):=by
   by_cases hx0:x.size=0
   .refine Xg ⟨Zo hx0,?_,?_⟩
    .cases sp
     .rfl
     .exact absurd ⟨hx0,Xh rfl⟩ hbad
    .cases col
     .rfl
     .exact absurd ⟨hx0,Xg rfl⟩ hbad
   .exact Xh (Zj hx0)
  have STEP:=A step;clear step hbad
  have main:Hid (∀(K:Ending->World->Prop),(∀(fh:BA) (w2:World),fh.size<=300000->tl fh=(ZaP (tl x) sp).1->Nx w1 w2->K (Y (.tuple #[J fh,I X (ZaP (tl x) sp).2])) w2)->Calls prog 277 #[J x,C sp] w1 K):=A (fun K hK=>(Zlr x sp w1 (by omega) (HTB.o.on HN.o)).mono (by
   rintro e w2 ⟨r,rfl,hr,hn⟩
   exact hK r w2 (by rw[<-Za,hr];exact HHL.o) hr hn))
  rcases STEP.o with hxe|⟨hxe,rfl,rfl⟩
  focus
   go_wp2_with fail
   refine main.o _ ?_
   intro fh w2 hfs hfh hn2;rw[<-hfh]at HD2;have HUB2:=A (HUB.o.on hn2);have HZ2:=A (HZ.o.on hn2);have HN2:=A (HN.o.then hn2);have HU2:=A (HU.o.on HN2.o);clear hfh hn2 main HHL HUB HZ HN;generalize (ZaP (tl x) sp).2=err at *
  rotate_left
  focus
   go_wp2_with fail
   refine main.o _ ?_
   intro fh w2 hfs hfh hn2;rw[<-hfh]at HD2;have HUB2:=A (HUB.o.on hn2);have HZ2:=A (HZ.o.on hn2);have HN2:=A (HN.o.then hn2);have HU2:=A (HU.o.on HN2.o);clear hfh hn2 main HHL HUB HZ HN;generalize (ZaP (tl x) false).2=err at *
  all_goals
   by_cases he:err=0
   .subst he
    have HD3:=A (HD2.o.trans (ifN (by decide)))
    clear HD2;obtain⟨a0,a1,a2,a3,a4,a5,a6,a7,a8,a9,a10,a11,a12,a13⟩:=HUB2.o.cells;have af3:=HUB2.o.free 3;have af4:=HUB2.o.free 4;have af5:=HUB2.o.free 5;have af6:=HUB2.o.free 6;obtain⟨z0,z1,z2,z3,z4,z5,z6,z7,z8,z9,z10,z11,z12,z13⟩:=HZ2.o.cells;obtain⟨zf0,zf1,zf2,zf3,zf4,zf5,zf6,zf7,zf8,zf9,zf10,zf11,zf12,zf13⟩:=ZaF HZ2.o.free
    by_cases hy0:y.size=0
    .have HE:=A (HD3.o.trans (ifP (Zz hy0)))
     have hy0':=Zo hy0;clear HD3 hy0;go_wp2
     refine ZaZ (rb:=w.heap.size+1) results262 rfl rfl (RecB.put ((HZ2.o.far (by omega) 3 _).far (by omega) 4 _) _ _ _ _ _ _ _ _ _ _ _ _ _ _) rfl ⟨⟨{ ru with hh:=true,host:=fh },bs,(by rw[HE.o];first|done|rfl),?_,Xa _⟩,(Zi (Below.setCell (Below.setCell HN2.o (Xa _) _) (Xa _) _) (by omega) _ _ _ _ _ _ _ _ _ _ _ _ _ _)⟩
     exact { eq:=by rw[HE.o,<-HU.o.eq];rfl
             seg:=HU2.o.seg.ks (Ks.then (Ks.then (Ks.then Ks.rfl (Zae HUB2.o.ty (by decide) 3 _)) (Zae (HUB2.o.ty.set w.heap.size 3 _) (by decide) 4 _)) (ZH ((HZ2.o.ty.set w.heap.size 3 _).set w.heap.size 4 _) (by decide) _ _ _ _ _ _ _ _ _ _ _ _ _ _))
             lsch:=HU2.o.lsch
             lnam:=HU2.o.lnam
             lpw:=HU2.o.lpw
             lhost:=hfs
             lport:=HU2.o.lport
             lopath:=HU2.o.lopath
             lsegs:=HU2.o.lsegs
             lseg:=HU2.o.lseg
             lq:=HU2.o.lq
             lfr:=HU2.o.lfr }
    .have HD4:=A (HD3.o.trans (ifN (ZdF hy0)))
     have hy0':=Zj hy0;clear HD3 hy0
     have HPD:=A (show ZgJ { u with hh:=true,host:=tl fh } (tl y)=if(Zbq (tl y)).2=false then(zeroU,2)else(Zby { u with hh:=true,host:=tl fh } (Zbq (tl y)).1,0)from rfl)
     have hrg:=Zhm (tl y);generalize hq:Zbq (tl y)=nq at *;have HQ:=A hq;clear hq;obtain⟨nv,nok⟩:=nq;simp only at HPD hrg
     cases nok
     .have HE:=A (HD4.o.trans (HPD.o.trans (ifP rfl)))
      clear HD4 HPD
      go_wp2_with (go_at_call 278;refine(Zhn _ _ (by omega)).mono ?_;rintro e w' ⟨rfl,rfl⟩;rw[HQ.o])
      refine ZaZ (rb:=w.heap.size+1) results262 rfl rfl (RecB.put ((HZ2.o.far (by omega) 3 _).far (by omega) 4 _) _ _ _ _ _ _ _ _ _ _ _ _ _ _) rfl ⟨⟨rz,[],(by rw[HE.o];first|done|rfl),by rw[HE.o];exact ZgH _,by simp⟩,(Zi (Below.setCell (Below.setCell HN2.o (Xa _) _) (Xa _) _) (by omega) _ _ _ _ _ _ _ _ _ _ _ _ _ _)⟩
     .have HE:=A (HD4.o.trans (HPD.o.trans (ifN (by decide))))
      clear HD4 HPD
      obtain⟨pn,rfl⟩:∃pn:Nat,nv=(pn:Int):=⟨nv.toNat,by omega⟩
      have hpn:pn<=65535:=by omega
      go_wp2_with (first|(go_at_call 278;refine(Zhn _ _ (by omega)).mono ?_;rintro e w' ⟨rfl,rfl⟩;rw[HQ.o])|fail)
      refine(Zqt { ru with hh:=true,host:=fh } pn _).mono ?_
      rintro e w3 ⟨r3,rfl,hr3,hn3⟩
      have HR3:=A ((((show RcIs w2 { ru with hh:=true,host:=fh } { u with hh:=true,host:=tl fh } bs from { HU2.o with eq:=by rw[<-HU2.o.eq];rfl,lhost:=hfs }).ks (Ks.then (Ks.then Ks.rfl (Zae HUB2.o.ty (by decide) 3 (C true))) (Zae (HUB2.o.ty.set w.heap.size 3 (C true)) (by decide) 4 (J fh)))).on hn3).atPort hpn)
      rw[<-hr3]at HR3
      have HZ3:=A ((HZ2.o.far (q:=w.heap.size) (by omega) 3 (C true)).far (q:=w.heap.size) (by omega) 4 (J fh) |>.on hn3)
      have HN3:=A ((Below.setCell (p:=⟨w.heap.size,4,none⟩) (Below.setCell (p:=⟨w.heap.size,3,none⟩) HN2.o (Xa _) (C true)) (Xa _) (J fh) |> fun h=>Nx.then h hn3):Nx w w3)
      clear hr3 hn3;clear a0 a1 a2 a3 a4 a5 a6 a7 a8 a9 a10 a11 a12 a13 z0 z1 z2 z3 z4 z5 z6 z7 z8 z9 z10 z11 z12 z13 zf0 zf1 zf2 zf3 zf4 zf5 zf6 zf7 zf8 zf9 zf10 zf11 zf12 zf13 af3 af4 af5 af6;obtain⟨z0,z1,z2,z3,z4,z5,z6,z7,z8,z9,z10,z11,z12,z13⟩:=HZ3.o.cells;obtain⟨zf0,zf1,zf2,zf3,zf4,zf5,zf6,zf7,zf8,zf9,zf10,zf11,zf12,zf13⟩:=ZaF HZ3.o.free;go_wp2
      exact ZaZ (rb:=w.heap.size+1) results262 rfl rfl (RecB.put HZ3.o _ _ _ _ _ _ _ _ _ _ _ _ _ _) rfl ⟨⟨r3,bs,(by rw[HE.o];first|done|rfl),(by rw[HE.o];exact HR3.o.ks (Ks.then Ks.rfl (ZH HZ3.o.ty (by decide) _ _ _ _ _ _ _ _ _ _ _ _ _ _))),Xa _⟩,(Zi HN3.o (by omega) _ _ _ _ _ _ _ _ _ _ _ _ _ _)⟩
   .have HE:=A (HD2.o.trans (ifP he))
    have he':(err != 0)=true:=Zjv (beq_eq_false_iff_ne.2 he);clear HD2 he;obtain⟨z0,z1,z2,z3,z4,z5,z6,z7,z8,z9,z10,z11,z12,z13⟩:=HZ2.o.cells;obtain⟨zf0,zf1,zf2,zf3,zf4,zf5,zf6,zf7,zf8,zf9,zf10,zf11,zf12,zf13⟩:=ZaF HZ2.o.free;go_wp2
    refine ZaZ (rb:=w.heap.size+1) results262 rfl rfl (RecB.put HZ2.o _ _ _ _ _ _ _ _ _ _ _ _ _ _) rfl ⟨⟨rz,[],(by rw[HE.o];first|done|rfl),(by rw[HE.o];exact ZgH _),by simp⟩,(Zi HN2.o (by omega) _ _ _ _ _ _ _ _ _ _ _ _ _ _)⟩
theorem Zho(n:Int)(l:LB):(bcutLast n l).1.length<=l.length/\(bcutLast n l).2.1.length<=l.length:=by
 induction l with
 | nil=>simp[bcutLast]
 | cons c r ih=>
  rw[bcutLast]
  split
  .simp only[Xf];omega
  .split
   .simp
   .simp
def ZfY(l:List UInt8):List UInt8:=encB (tl (Zbo 5)) (clean l)
def ZdJ(p:U×Int)(sch behind:List UInt8)(b:Bool):U×Int:=
 if p.2≠0 then(zeroU,p.2)else if b=true then({ p.1 with segs:=Zcb behind sch },0)else(p.1,0)
def Zx(u:U)(t:List UInt8):U×Int:=
 if(bcutLast 64 (bcut (slB (Zc u.sch)) t).1).2.2=true/\(bcutLast 64 (bcut (slB (Zc u.sch)) t).1).2.1=[]then(zeroU,2)
 else ZdJ (Zbx { u with nam:=ZfY (bcut (isB 58) (bcutLast 64 (bcut (slB (Zc u.sch)) t).1).1).1,pw:=ZfY (bcut (isB 58) (bcutLast 64 (bcut (slB (Zc u.sch)) t).1).1).2.1 } (bcutLast 64 (bcut (slB (Zc u.sch)) t).1).2.1)
  u.sch (bcut (slB (Zc u.sch)) t).2.1 (Zc u.sch||(bcut (slB (Zc u.sch)) t).2.2)
theorem Zcp(ru:Rc)(u:U)(bs:LA)(t:BA)(w:World)(h1:RcIs w ru u bs)(ht:Tb w)(hl:t.size<=30000):Calls prog 228 #[.agg #[J ru.sch,J ru.nam,J ru.pw,C ru.hh,J ru.host,C ru.hp,I X (ru.port:Int),C ru.op,J ru.opath,.slice ru.so ru.sn ru.sc,C ru.hq,J ru.q,C ru.hf,J ru.fr],J t] w fun e w'=>ZhK e w' (Zx u (tl t)) (bs.length+30001)/\Nx w w':=by
 have HU:=A h1;have HTB:=A ht
 have HD:=A (show Zx u (tl t)=if(bcutLast 64 (bcut (slB (Zc (tl ru.sch))) (tl t)).1).2.2=true/\(bcutLast 64 (bcut (slB (Zc (tl ru.sch))) (tl t)).1).2.1=[]then(zeroU,2)
  else ZdJ (Zbx { u with nam:=ZfY (bcut (isB 58) (bcutLast 64 (bcut (slB (Zc (tl ru.sch))) (tl t)).1).1).1,pw:=ZfY (bcut (isB 58) (bcutLast 64 (bcut (slB (Zc (tl ru.sch))) (tl t)).1).1).2.1 } (bcutLast 64 (bcut (slB (Zc (tl ru.sch))) (tl t)).1).2.1)
  (tl ru.sch) (bcut (slB (Zc (tl ru.sch))) (tl t)).2.1 (Zc (tl ru.sch)||(bcut (slB (Zc (tl ru.sch))) (tl t)).2.2)by rw[h1.usch];rfl)
 clear h1 ht;generalize hsp:Zc (tl ru.sch)=sp at *;have HSP:=A hsp;clear hsp;have hc1:=Z9 (slB sp) (tl t)
 go_enter func228,ntmps228
 go_wp2_with (first|(go_at_call 189;refine(Zaj _ _).mono ?_;rintro e w' ⟨rfl,rfl⟩;rw[HSP.o])|fail)
 refine(Zdq t sp _ (Ze (by omega))).mono ?_
 rintro e w1 ⟨⟨ah,be,rfl,hah,hbe⟩,hn1⟩;rw[<-hah,<-hbe]at HD hc1;rw[Za,Za,Za]at hc1
 have hal:ah.size<=30000:=by omega
 have hbl:be.size<=30000:=by omega
 obtain⟨g1,g2,g3⟩:=Zda hn1;have HUB:=A g1;have HZ:=A g2;have HN:=A g3;clear hah hbe hn1 g1 g2 g3 hc1;generalize (bcut (slB sp) (tl t)).2.2=sl at *;have hc2:=Zho 64 (tl ah);go_wp2_with fail
 refine(Zlg ah 64 _ (Ze (by omega))).mono ?_
 rintro e w2 ⟨⟨us,pl,rfl,hus,hpl⟩,hn2⟩;rw[<-hus,<-hpl]at HD hc2;rw[Za,Za,Za]at hc2
 have hul:us.size<=30000:=by omega
 have hpll:pl.size<=30000:=by omega
 have HUB2:=A (HUB.o.on hn2);have HZ2:=A (HZ.o.on hn2);have HN2:=A (HN.o.then hn2);clear hus hpl hn2 hc2 HUB HZ HN;generalize (bcutLast 64 (tl ah)).2.2=at_ at *
 by_cases hbad:at_=true/\pl.size=0
 .have HE:=A (HD.o.trans (ifP ⟨hbad.1,Zz hbad.2⟩))
  obtain⟨rfl,hp0⟩:=hbad;have hp0':=Zo hp0;clear HD hp0;obtain⟨z0,z1,z2,z3,z4,z5,z6,z7,z8,z9,z10,z11,z12,z13⟩:=HZ2.o.cells;obtain⟨zf0,zf1,zf2,zf3,zf4,zf5,zf6,zf7,zf8,zf9,zf10,zf11,zf12,zf13⟩:=ZaF HZ2.o.free;go_wp2
  refine ZaZ (rb:=w.heap.size+1) results228 rfl rfl (RecB.put HZ2.o _ _ _ _ _ _ _ _ _ _ _ _ _ _) rfl ⟨⟨rz,[],(by rw[HE.o];first|done|rfl),(by rw[HE.o];exact ZgH _),by simp⟩,(Zi HN2.o (by omega) _ _ _ _ _ _ _ _ _ _ _ _ _ _)⟩
 .have HD2:=A (HD.o.trans (ifN (fun h=>hbad ⟨h.1,by have:=congrArg List.length h.2;rw[Za]at this;simpa using this⟩)))
  clear HD
  have step:at_=false∨(at_=true/\pl.toList.isEmpty=false):=by
   cases at_
   .exact Xh rfl
   .exact Xg ⟨rfl,Zj (fun h=>hbad ⟨rfl,h⟩)⟩
  have STEP:=A step;clear step hbad;have hc3:=Z9 (isB 58) (tl us)
  have main:Hid (∀(K:Ending->World->Prop),(∀(nm pw:BA) (c:Bool) (w3:World),nm.size<=30000->pw.size<=30000->tl nm=(bcut (isB 58) (tl us)).1->tl pw=(bcut (isB 58) (tl us)).2.1->Nx w2 w3->K (Y (.tuple #[J nm,J pw,C c])) w3)->Calls prog 141 #[J us,.int .u8 58] w2 K):=A (fun K hK=>(Zd9 us 58 w2 (Ze (by omega))).mono (by
   rintro e w3 ⟨⟨a,b,rfl,ha,hb⟩,hn⟩;rw[<-ha,<-hb,Za,Za,Za]at hc3
   exact hK a b _ w3 (by omega) (by omega) ha hb hn))
  rcases STEP.o with rfl|⟨rfl,hp0'⟩
  rotate_left
  all_goals
   go_wp2_with fail
   refine main.o _ ?_
   intro nm pw cb w3 hnl hpl hnm hpw hn3;rw[<-hnm,<-hpw]at HD2;have HUB3:=A (HUB2.o.on hn3);have HZ3:=A (HZ2.o.on hn3);have HN3:=A (HN2.o.then hn3);clear hnm hpw hn3 main HUB2 HZ2 HN2 hc3;go_wp2_with fail
   refine(Za1 nm 5 _ (by omega)).mono ?_
   rintro e w4 ⟨en,rfl,hen,hn4⟩
   have hel:en.size<=300000:=by rw[<-Za,hen];exact Zcv _ _ (by rw[Za];exact hnl)
   have HEN:=A (show ZfY (tl nm)=tl en from hen.symm);have HUB4:=A (HUB3.o.on hn4);have HZ4:=A (HZ3.o.on hn4);have HN4:=A (HN3.o.then hn4);clear hen hn4 HUB3 HZ3 HN3;rw[HEN.o]at HD2;obtain⟨a0,a1,a2,a3,a4,a5,a6,a7,a8,a9,a10,a11,a12,a13⟩:=HUB4.o.cells;have af1:=HUB4.o.free 1;go_wp2_with fail
   refine(Za1 pw 5 _ (by omega)).mono ?_
   rintro e w5 ⟨ep,rfl,hep,hn5⟩
   have hepl:ep.size<=300000:=by rw[<-Za,hep];exact Zcv _ _ (by rw[Za];exact hpl)
   have HEP:=A (show ZfY (tl pw)=tl ep from hep.symm);have HUB5:=A ((HUB4.o.s1 en).on hn5)
   have HZ5:=A ((HZ4.o.far (q:=w.heap.size) (by omega) 1 (J en)).on hn5)
   have HN5:=A (Nx.then (show Nx w _ from Below.setCell (p:=⟨w.heap.size,1,none⟩) HN4.o (Xa _) (J en)) hn5);clear a0 a1 a2 a3 a4 a5 a6 a7 a8 a9 a10 a11 a12 a13 af1;clear hep hn5 HUB4 HZ4 HN4;rw[HEP.o]at HD2;obtain⟨a0,a1,a2,a3,a4,a5,a6,a7,a8,a9,a10,a11,a12,a13⟩:=HUB5.o.cells;have af2:=HUB5.o.free 2;have HUB6:=A (HUB5.o.s2 ep)
   have HZ6:=A (HZ5.o.far (q:=w.heap.size) (by omega) 2 (J ep))
   have HN6:=A (show Nx w (w5.setCell ⟨w.heap.size,2,none⟩ (J ep))from Below.setCell (p:=⟨w.heap.size,2,none⟩) HN5.o (Xa _) (J ep))
   have HRC:=A (show RcIs (w5.setCell ⟨w.heap.size,2,none⟩ (J ep)) { ru with nam:=en,pw:=ep } { u with nam:=tl en,pw:=tl ep } bs from { HU.o.on HN6.o with eq:=by rw[<-HU.o.eq];rfl,lnam:=hel,lpw:=hepl })
   go_wp2_with fail
   refine(Zqu { ru with nam:=en,pw:=ep } _ bs pl _ HRC.o (HTB.o.on HN6.o) hpll).mono ?_
   rintro e w7 ⟨⟨rp,ps,rfl,hrp,hpsl⟩,hn7⟩;have HUB7:=A (HUB6.o.on hn7);have HZ7:=A (HZ6.o.on hn7);have HN7:=A (HN6.o.then hn7);have HP:=A hrp;clear a0 a1 a2 a3 a4 a5 a6 a7 a8 a9 a10 a11 a12 a13 af2;clear hrp hn7 HUB5 HZ5 HN5 HUB6 HZ6 HN6 HRC;have hlz:w.heap.size+1<w7.heap.size:=(Xc.1 HZ7.o).1
   have hlu:w.heap.size<w7.heap.size:=by omega
   generalize Zbx { u with nam:=tl en,pw:=tl ep } (tl pl)=pq at *
   obtain⟨pu,err⟩:=pq;simp only at HP
   have HPD:=A (show ZdJ (pu,err) (tl ru.sch) (tl be) (sp||sl)=if err≠0 then(zeroU,err)else if(sp||sl)=true then({ pu with segs:=Zcb (tl be) (tl ru.sch) },0)else(pu,0)from rfl)
   obtain⟨a0,a1,a2,a3,a4,a5,a6,a7,a8,a9,a10,a11,a12,a13⟩:=HUB7.o.cells;obtain⟨z0,z1,z2,z3,z4,z5,z6,z7,z8,z9,z10,z11,z12,z13⟩:=HZ7.o.cells;obtain⟨zf0,zf1,zf2,zf3,zf4,zf5,zf6,zf7,zf8,zf9,zf10,zf11,zf12,zf13⟩:=ZaF HZ7.o.free
   by_cases he:err=0
   .subst he
    have HD3:=A (HD2.o.trans (HPD.o.trans (ifN (by decide))))
    clear HD2 HPD
    by_cases hsl:(sp||sl)=true
    .have HE:=A (HD3.o.trans (ifP hsl))
     clear HD3
     have two:sp=true∨(sp=false/\sl=true):=by
      cases sp
      .exact Xg ⟨rfl,by simpa using hsl⟩
      .exact Xh rfl
     clear hsl;rcases two with rfl|⟨rfl,rfl⟩
     .go_wp2_with fail
      refine(ZbD be ru.sch _ (by omega)).mono ?_
      rintro e w8 ⟨v8,ds,rfl,ho,hds,hdl,hn8⟩;obtain⟨ao,n,cap,rfl⟩:=ZT ho
      have HO:=A (Zaz ho (by have:=HTB.o.2.2;have:=HN7.o.size;try simp[World.setCell];omega))
      have HDS:=A hds
      have HSH:=A (ZbG hds (ZaS (by rw[Za];exact hbl)))
      have HPB:=A ((ZbL w7 rp).on hn8);have HZ8:=A ((HZ7.o.on (Nx.rfl.alloc _)).on hn8);have HN8:=A ((HN7.o.alloc _).then hn8);clear a0 a1 a2 a3 a4 a5 a6 a7 a8 a9 a10 a11 a12 a13 z0 z1 z2 z3 z4 z5 z6 z7 z8 z9 z10 z11 z12 z13 zf0 zf1 zf2 zf3 zf4 zf5 zf6 zf7 zf8 zf9 zf10 zf11 zf12 zf13;clear ho hds hn8;obtain⟨a0,a1,a2,a3,a4,a5,a6,a7,a8,a9,a10,a11,a12,a13⟩:=HPB.o.cells;have af9:=HPB.o.free 9;obtain⟨z0,z1,z2,z3,z4,z5,z6,z7,z8,z9,z10,z11,z12,z13⟩:=HZ8.o.cells;obtain⟨zf0,zf1,zf2,zf3,zf4,zf5,zf6,zf7,zf8,zf9,zf10,zf11,zf12,zf13⟩:=ZaF HZ8.o.free;go_wp2
      refine ZaZ (rb:=w.heap.size+1) results228 rfl rfl (RecB.put (HZ8.o.far (by omega) 9 _) _ _ _ _ _ _ _ _ _ _ _ _ _ _) rfl ⟨⟨{ rp with so:=ao,sn:=n,sc:=cap },ds,(by rw[HE.o];first|done|rfl),?_,by omega⟩,(Zi (Below.setCell HN8.o (by show w.heap.size<=w7.heap.size;omega) _) (by omega) _ _ _ _ _ _ _ _ _ _ _ _ _ _)⟩
      exact { eq:=by rw[HE.o,<-HP.o.eq];simp only[Rc.u];rw[HDS.o]
              seg:=HO.o.ks (Ks.then (Ks.then Ks.rfl (Zae HPB.o.ty (by decide) 9 _)) (ZH (HZ8.o.ty.set w7.heap.size 9 _) (by decide) _ _ _ _ _ _ _ _ _ _ _ _ _ _))
              lsch:=HP.o.lsch
              lnam:=HP.o.lnam
              lpw:=HP.o.lpw
              lhost:=HP.o.lhost
              lport:=HP.o.lport
              lopath:=HP.o.lopath
              lsegs:=by omega
              lseg:=HSH.o
              lq:=HP.o.lq
              lfr:=HP.o.lfr }
     .go_wp2_with fail
      refine(ZbD be ru.sch _ (by omega)).mono ?_
      rintro e w8 ⟨v8,ds,rfl,ho,hds,hdl,hn8⟩;obtain⟨ao,n,cap,rfl⟩:=ZT ho
      have HO:=A (Zaz ho (by have:=HTB.o.2.2;have:=HN7.o.size;try simp[World.setCell];omega))
      have HDS:=A hds
      have HSH:=A (ZbG hds (ZaS (by rw[Za];exact hbl)))
      have HPB:=A ((ZbL w7 rp).on hn8);have HZ8:=A ((HZ7.o.on (Nx.rfl.alloc _)).on hn8);have HN8:=A ((HN7.o.alloc _).then hn8);clear a0 a1 a2 a3 a4 a5 a6 a7 a8 a9 a10 a11 a12 a13 z0 z1 z2 z3 z4 z5 z6 z7 z8 z9 z10 z11 z12 z13 zf0 zf1 zf2 zf3 zf4 zf5 zf6 zf7 zf8 zf9 zf10 zf11 zf12 zf13;clear ho hds hn8;obtain⟨a0,a1,a2,a3,a4,a5,a6,a7,a8,a9,a10,a11,a12,a13⟩:=HPB.o.cells;have af9:=HPB.o.free 9;obtain⟨z0,z1,z2,z3,z4,z5,z6,z7,z8,z9,z10,z11,z12,z13⟩:=HZ8.o.cells;obtain⟨zf0,zf1,zf2,zf3,zf4,zf5,zf6,zf7,zf8,zf9,zf10,zf11,zf12,zf13⟩:=ZaF HZ8.o.free;go_wp2
      refine ZaZ (rb:=w.heap.size+1) results228 rfl rfl (RecB.put (HZ8.o.far (by omega) 9 _) _ _ _ _ _ _ _ _ _ _ _ _ _ _) rfl ⟨⟨{ rp with so:=ao,sn:=n,sc:=cap },ds,(by rw[HE.o];first|done|rfl),?_,by omega⟩,(Zi (Below.setCell HN8.o (by show w.heap.size<=w7.heap.size;omega) _) (by omega) _ _ _ _ _ _ _ _ _ _ _ _ _ _)⟩
      exact { eq:=by rw[HE.o,<-HP.o.eq];simp only[Rc.u];rw[HDS.o]
              seg:=HO.o.ks (Ks.then (Ks.then Ks.rfl (Zae HPB.o.ty (by decide) 9 _)) (ZH (HZ8.o.ty.set w7.heap.size 9 _) (by decide) _ _ _ _ _ _ _ _ _ _ _ _ _ _))
              lsch:=HP.o.lsch
              lnam:=HP.o.lnam
              lpw:=HP.o.lpw
              lhost:=HP.o.lhost
              lport:=HP.o.lport
              lopath:=HP.o.lopath
              lsegs:=by omega
              lseg:=HSH.o
              lq:=HP.o.lq
              lfr:=HP.o.lfr }
    .have HE:=A (HD3.o.trans (ifN hsl))
     clear HD3
     obtain⟨rfl,rfl⟩:sp=false/\sl=false:=by cases sp<;>cases sl<;>simp_all
     clear hsl;go_wp2
     exact ZaZ (rb:=w.heap.size+1) results228 rfl rfl ((RecB.put HZ7.o _ _ _ _ _ _ _ _ _ _ _ _ _ _).on (Nx.rfl.alloc _)) rfl ⟨⟨rp,ps,(by rw[HE.o];first|done|rfl),(by rw[HE.o];exact HP.o.ks (Ks.then (ZH HZ7.o.ty (by decide) _ _ _ _ _ _ _ _ _ _ _ _ _ _) (Nx.ks (Nx.rfl.alloc _)))),by omega⟩,Nx.alloc (Zi HN7.o (by omega) _ _ _ _ _ _ _ _ _ _ _ _ _ _) _⟩
   .have HE:=A (HD2.o.trans (HPD.o.trans (ifP he)))
    have he':(err != 0)=true:=Zjv (beq_eq_false_iff_ne.2 he);clear HD2 HPD he;go_wp2
    exact ZaZ (rb:=w.heap.size+1) results228 rfl rfl ((RecB.put HZ7.o _ _ _ _ _ _ _ _ _ _ _ _ _ _).on (Nx.rfl.alloc _)) rfl ⟨⟨rz,[],(by rw[HE.o];first|done|rfl),(by rw[HE.o];exact ZgH _),by simp⟩,Nx.alloc (Zi HN7.o (by omega) _ _ _ _ _ _ _ _ _ _ _ _ _ _) _⟩
def kept(u base:U):U:={ u with nam:=base.nam,pw:=base.pw,hh:=base.hh,host:=base.host,hp:=base.hp,port:=base.port }
def ZV(u:U)(left:List UInt8)(base:U):U×Int:=
 if u.sch=ZE then ZdU u left base
 else if 1<countSl (Zc u.sch) left then Zx u (left.drop (if Zc u.sch=true then countSl (Zc u.sch) left else 2))
 else if countSl (Zc u.sch) left=1 then({ kept u base with segs:=Zcb (left.drop 1) u.sch },0)
 else(Zak (kept u base) left base,0)
theorem RcIs.kept{w:World}{ru rb:Rc}{u base:U}{bs cs:LA}(h1:RcIs w ru u bs)(h2:RcIs w rb base cs):RcIs w { ru with nam:=rb.nam,pw:=rb.pw,hh:=rb.hh,host:=rb.host,hp:=rb.hp,port:=rb.port } (kept u base) bs:=
 { h1 with eq:=by rw[<-h1.eq,<-h2.eq];rfl,lnam:=h2.lnam,lpw:=h2.lpw,lhost:=h2.lhost,lport:=h2.lport }
theorem Zhp(ru rb:Rc)(u base:U)(bs cs:LA)(left:BA)(w:World)(h1:RcIs w ru u bs)(h2:RcIs w rb base cs)(hcs:cs.length<=60000)(hbs:bs.length<=0)(hl:left.size<=30000)(ht:Tb w):Calls prog 192 #[.agg #[J ru.sch,J ru.nam,J ru.pw,C ru.hh,J ru.host,C ru.hp,I X (ru.port:Int),C ru.op,J ru.opath,.slice ru.so ru.sn ru.sc,C ru.hq,J ru.q,C ru.hf,J ru.fr],J left,.agg #[J rb.sch,J rb.nam,J rb.pw,C rb.hh,J rb.host,C rb.hp,I X (rb.port:Int),C rb.op,J rb.opath,.slice rb.so rb.sn rb.sc,C rb.hq,J rb.q,C rb.hf,J rb.fr]] w fun e w'=>ZhK e w' (ZV u (tl left) base) (cs.length+30002)/\Nx w w':=by
 have HU:=A h1;have HBS:=A h2;have HTB:=A ht
 have HD:=A (show ZV u (tl left) base=if tl ru.sch=ZE then ZdU u (tl left) base
  else if 1<countSl (Zc (tl ru.sch)) (tl left)then Zx u ((tl left).drop (if Zc (tl ru.sch)=true then countSl (Zc (tl ru.sch)) (tl left)else 2))
  else if countSl (Zc (tl ru.sch)) (tl left)=1 then({ kept u base with segs:=Zcb ((tl left).drop 1) (tl ru.sch) },0)
  else(Zak (kept u base) (tl left) base,0)by rw[h1.usch];rfl)
 clear h1 h2 ht
 by_cases hf:tl ru.sch=ZE
 focus
  have HE:=A (HD.o.trans (ifP hf));have hfe:=eqB hf;unfold ZE at hfe;clear HD hf
  go_enter func192,ntmps192
  go_wp2_with fail
  refine(Zly ru rb u base bs cs left _ (HU.o.on (((Nx.rfl.alloc _).alloc _).alloc _)) (HBS.o.on (((Nx.rfl.alloc _).alloc _).alloc _)) hcs hl (HTB.o.on (((Nx.rfl.alloc _).alloc _).alloc _))).mono ?_
  rintro e w1 ⟨⟨r,ds,rfl,hr,hdl⟩,hn⟩;have HR:=A hr;clear hr;obtain⟨g1,g2,g3,g4⟩:=Zan (ru:=ru) (Nx.then (show Nx _ _ from Nx.rfl) hn)
 rotate_left
 focus
  have HD2:=A (HD.o.trans (ifN hf));have hfe:=neB hf;unfold ZE at hfe;clear HD hf;generalize hsp:Zc (tl ru.sch)=sp at *;have HSP:=A hsp;clear hsp;have hk:=Ze5 sp (tl left);rw[Za]at hk;generalize hkk:countSl sp (tl left)=k at *;have HK:=A hkk;clear hkk
  by_cases hk1:1<k
  .have HD3:=A (HD2.o.trans (ifP hk1))
   have hki:1<(k:Int):=by omega
   have hl2:2<=left.size:=by omega
   clear HD2
   cases sp
   focus
    have HE:Hid (ZV u (tl left) base=Zx u ((tl left).drop 2)):=A HD3.o
    have HFH:=A (fun w1 (hn:Nx w w1)=>Zcp ru u bs (left.extract 2 left.size) w1 (HU.o.on hn) (HTB.o.on hn) (by rw[Zam];omega))
   rotate_left
   focus
    have HE:Hid (ZV u (tl left) base=Zx u ((tl left).drop k)):=A HD3.o
    have HFH:=A (fun w1 (hn:Nx w w1)=>Zcp ru u bs (left.extract k left.size) w1 (HU.o.on hn) (HTB.o.on hn) (by rw[Zam];omega))
   all_goals
    rw[tl_from]at HFH;clear HD3
    go_enter func192,ntmps192
    go_wp2_with (first|(go_at_call 189;refine(Zaj _ _).mono ?_;rintro e w' ⟨rfl,rfl⟩;rw[HSP.o])|(go_at_call 226;refine(Zs _ _ _ (Ze (by omega))).mono ?_;rintro e w' ⟨rfl,rfl⟩;rw[HK.o]))
    go_region_with (go_at_call 228;refine(HFH.o _ (((Nx.rfl.alloc _).alloc _).alloc _).drew).mono ?_;rintro e w1 ⟨⟨r,ds,rfl,hr,hdl⟩,hn⟩;have HR:=A hr;clear hr;obtain⟨g1,g2,g3,g4⟩:=Zan (ru:=ru) (Nx.then (show Nx _ _ from Nx.rfl.drew) hn);have HUB:=A g1;have HBB:=A g2;have HZ:=A g3;have HN:=A g4;clear g1 g2 g3 g4 hn;obtain⟨z0,z1,z2,z3,z4,z5,z6,z7,z8,z9,z10,z11,z12,z13⟩:=HZ.o.cells;obtain⟨zf0,zf1,zf2,zf3,zf4,zf5,zf6,zf7,zf8,zf9,zf10,zf11,zf12,zf13⟩:=ZaF HZ.o.free)
    all_goals go_wp2
    all_goals exact ZaZ (rb:=w.heap.size+1+1) results192 rfl rfl (RecB.put HZ.o _ _ _ _ _ _ _ _ _ _ _ _ _ _) rfl ⟨⟨r,ds,(by rw[HE.o];first|done|rfl),(by rw[HE.o];exact HR.o.ks (Ks.then Ks.rfl (ZH HZ.o.ty (by decide) _ _ _ _ _ _ _ _ _ _ _ _ _ _))),by omega⟩,(Zi HN.o (by omega) _ _ _ _ _ _ _ _ _ _ _ _ _ _)⟩
  focus
   have HD3:=A (HD2.o.trans (ifN hk1))
   have hki:(k:Int)<=1:=by omega
   clear HD2
   by_cases hke:k=1
   .have HE:=A (HD3.o.trans (ifP hke))
    have hkb:((k:Int)==1)=true:=by rw[hke];rfl
    have hl1:1<=left.size:=by omega
    have HPR:=A (fun w1=>ZbD (left.extract 1 left.size) ru.sch w1 (by rw[Zam];omega))
    rw[tl_from]at HPR;clear HD3 hke
    go_enter func192,ntmps192
    go_wp2_with (first|(go_at_call 189;refine(Zaj _ _).mono ?_;rintro e w' ⟨rfl,rfl⟩;rw[HSP.o])|(go_at_call 226;refine(Zs _ _ _ (Ze (by omega))).mono ?_;rintro e w' ⟨rfl,rfl⟩;rw[HK.o]))
    go_region_with (go_at_call 227;refine(HPR.o _).mono ?_;rintro e w1 ⟨v3,ds,rfl,ho,hds,hdl,hn⟩;obtain⟨ao,n,cap,rfl⟩:=ZT ho;have HO:=A (Zaz ho (by have:=HTB.o.2.2;try simp[World.setCell];omega));have HDS:=A hds;have HSH:=A (ZbG hds (ZaS (by rw[Xe,Za];omega)));rw[Zam]at hdl;clear ho hds;obtain⟨g1,g2,g3,g4⟩:=Zan (ru:={ ru with nam:=rb.nam,pw:=rb.pw,hh:=rb.hh,host:=rb.host,hp:=rb.hp,port:=rb.port }) (Nx.then (show Nx _ _ from Nx.rfl.drew) hn);have HUB:=A g1;have HBB:=A g2;have HZ:=A g3;have HN:=A g4;clear g1 g2 g3 g4 hn;obtain⟨a0,a1,a2,a3,a4,a5,a6,a7,a8,a9,a10,a11,a12,a13⟩:=HUB.o.cells;have af9:=HUB.o.free 9;obtain⟨z0,z1,z2,z3,z4,z5,z6,z7,z8,z9,z10,z11,z12,z13⟩:=HZ.o.cells;obtain⟨zf0,zf1,zf2,zf3,zf4,zf5,zf6,zf7,zf8,zf9,zf10,zf11,zf12,zf13⟩:=ZaF HZ.o.free)
    all_goals go_wp2
    all_goals (
     refine ZaZ (rb:=w.heap.size+1+1) results192 rfl rfl (RecB.put (HZ.o.far (by omega) 9 _) _ _ _ _ _ _ _ _ _ _ _ _ _ _) rfl ⟨⟨{ ru with nam:=rb.nam,pw:=rb.pw,hh:=rb.hh,host:=rb.host,hp:=rb.hp,port:=rb.port,so:=ao,sn:=n,sc:=cap },ds,(by rw[HE.o];first|done|rfl),?_,by omega⟩,(Zi (Below.setCell HN.o (Xa _) _) (by omega) _ _ _ _ _ _ _ _ _ _ _ _ _ _)⟩
     exact { eq:=by rw[HE.o,<-HU.o.eq,<-HBS.o.eq];simp only[Rc.u,kept];rw[HDS.o]
             seg:=HO.o.ks (Ks.then (Ks.then Ks.rfl (Zae HUB.o.ty (by decide) 9 _)) (ZH (HZ.o.ty.set w.heap.size 9 _) (by decide) _ _ _ _ _ _ _ _ _ _ _ _ _ _))
             lsch:=HU.o.lsch
             lnam:=HBS.o.lnam
             lpw:=HBS.o.lpw
             lhost:=HBS.o.lhost
             lport:=HBS.o.lport
             lopath:=HU.o.lopath
             lsegs:=by omega
             lseg:=HSH.o
             lq:=HU.o.lq
             lfr:=HU.o.lfr })
   focus
    have HE:=A (HD3.o.trans (ifN hke))
    have hkb:((k:Int)==1)=false:=beq_eq_false_iff_ne.2 (by omega)
    clear HD3 hke
    go_enter func192,ntmps192
    go_wp2_with (first|(go_at_call 189;refine(Zaj _ _).mono ?_;rintro e w' ⟨rfl,rfl⟩;rw[HSP.o])|(go_at_call 226;refine(Zs _ _ _ (Ze (by omega))).mono ?_;rintro e w' ⟨rfl,rfl⟩;rw[HK.o])|fail)
    refine(ZjD { ru with nam:=rb.nam,pw:=rb.pw,hh:=rb.hh,host:=rb.host,hp:=rb.hp,port:=rb.port } rb (kept u base) base bs cs left _ (RcIs.kept (HU.o.on (((Nx.rfl.alloc _).alloc _).alloc _)) (HBS.o.on (((Nx.rfl.alloc _).alloc _).alloc _))) (HBS.o.on (((Nx.rfl.alloc _).alloc _).alloc _)) hcs hl (HTB.o.on (((Nx.rfl.alloc _).alloc _).alloc _))).mono ?_
    rintro e w1 ⟨r,ds,rfl,hr,hdl,hn⟩;have HR:=A hr;clear hr
    obtain⟨g1,g2,g3,g4⟩:=Zan (ru:={ ru with nam:=rb.nam,pw:=rb.pw,hh:=rb.hh,host:=rb.host,hp:=rb.hp,port:=rb.port }) (Nx.then (show Nx _ _ from Nx.rfl) hn)
 all_goals
  have HUB:=A g1;have HBB:=A g2;have HZ:=A g3;have HN:=A g4;clear g1 g2 g3 g4 hn;obtain⟨z0,z1,z2,z3,z4,z5,z6,z7,z8,z9,z10,z11,z12,z13⟩:=HZ.o.cells;obtain⟨zf0,zf1,zf2,zf3,zf4,zf5,zf6,zf7,zf8,zf9,zf10,zf11,zf12,zf13⟩:=ZaF HZ.o.free;go_wp2
  exact ZaZ (rb:=w.heap.size+1+1) results192 rfl rfl (RecB.put HZ.o _ _ _ _ _ _ _ _ _ _ _ _ _ _) rfl ⟨⟨r,ds,(by rw[HE.o];first|done|rfl),(by rw[HE.o];exact HR.o.ks (Ks.then Ks.rfl (ZH HZ.o.ty (by decide) _ _ _ _ _ _ _ _ _ _ _ _ _ _))),by omega⟩,(Zi HN.o (by omega) _ _ _ _ _ _ _ _ _ _ _ _ _ _)⟩
theorem Zzk{s t:BA}(h:tl s=tl t):(s.toList==t.toList)=true:=by rw[ByteArray.toList_eq,ByteArray.toList_eq];show(tl s==tl t)=true;rw[h];simp
theorem Zzl{s t:BA}(h:¬tl s=tl t):(s.toList==t.toList)=false:=by rw[ByteArray.toList_eq,ByteArray.toList_eq];show(tl s==tl t)=false;simpa using h
def Za5(u:U)(left:List UInt8)(base:U):U×Int:=if base.sch=u.sch/\countSl false left<2 then ZV u left base else Zx u (left.drop (countSl true left))
theorem Zlz(ru rb:Rc)(u base:U)(bs cs:LA)(left:BA)(w:World)(h1:RcIs w ru u bs)(h2:RcIs w rb base cs)(hcs:cs.length<=60000)(hbs:bs.length<=0)(hl:left.size<=30000)(ht:Tb w):Calls prog 225 #[.agg #[J ru.sch,J ru.nam,J ru.pw,C ru.hh,J ru.host,C ru.hp,I X (ru.port:Int),C ru.op,J ru.opath,.slice ru.so ru.sn ru.sc,C ru.hq,J ru.q,C ru.hf,J ru.fr],J left,.agg #[J rb.sch,J rb.nam,J rb.pw,C rb.hh,J rb.host,C rb.hp,I X (rb.port:Int),C rb.op,J rb.opath,.slice rb.so rb.sn rb.sc,C rb.hq,J rb.q,C rb.hf,J rb.fr]] w fun e w'=>ZhK e w' (Za5 u (tl left) base) (cs.length+30002)/\Nx w w':=by
 have HU:=A h1;have HBS:=A h2;have HTB:=A ht
 have HD:=A (show Za5 u (tl left) base=if tl rb.sch=tl ru.sch/\countSl false (tl left)<2 then ZV u (tl left) base else Zx u ((tl left).drop (countSl true (tl left)))by rw[h1.usch,h2.usch];rfl)
 clear h1 h2 ht;have hk:=Ze5 true (tl left);rw[Za]at hk;generalize hkk:countSl true (tl left)=k at *;have HK:=A hkk;clear hkk;generalize hjj:countSl false (tl left)=j at *;have HJ:=A hjj;clear hjj
 have HFH:=A (fun w1 (hn:Nx w w1)=>Zcp ru u bs (left.extract k left.size) w1 (HU.o.on hn) (HTB.o.on hn) (by rw[Zam];omega))
 rw[tl_from]at HFH
 by_cases hq:tl rb.sch=tl ru.sch
 focus
  have hq':=Zzk hq
  by_cases hj:j<2
  .have HE:=A (HD.o.trans (ifP ⟨hq,hj⟩))
   have hji:(j:Int)<2:=by omega
   clear HD hq
   go_enter func225,ntmps225
   go_wp2_with (first|(go_at_call 226;refine(Zs _ _ _ (Ze (by omega))).mono ?_;rintro e w' ⟨rfl,rfl⟩;rw[HJ.o])|fail)
   refine(Zhp ru rb u base bs cs left _ (HU.o.on (((Nx.rfl.alloc _).alloc _).alloc _)) (HBS.o.on (((Nx.rfl.alloc _).alloc _).alloc _)) hcs hbs hl (HTB.o.on (((Nx.rfl.alloc _).alloc _).alloc _))).mono ?_
   rintro e w1 ⟨⟨r,ds,rfl,hr,hdl⟩,hn⟩;have HR:=A hr;clear hr;obtain⟨g1,g2,g3,g4⟩:=Zan (ru:=ru) (Nx.then (show Nx _ _ from Nx.rfl) hn);have HUB:=A g1;have HBB:=A g2;have HZ:=A g3;have HN:=A g4;clear g1 g2 g3 g4 hn;obtain⟨z0,z1,z2,z3,z4,z5,z6,z7,z8,z9,z10,z11,z12,z13⟩:=HZ.o.cells;obtain⟨zf0,zf1,zf2,zf3,zf4,zf5,zf6,zf7,zf8,zf9,zf10,zf11,zf12,zf13⟩:=ZaF HZ.o.free;go_wp2
   exact ZaZ (rb:=w.heap.size+1+1) results225 rfl rfl (RecB.put HZ.o _ _ _ _ _ _ _ _ _ _ _ _ _ _) rfl ⟨⟨r,ds,(by rw[HE.o];first|done|rfl),(by rw[HE.o];exact HR.o.ks (Ks.then Ks.rfl (ZH HZ.o.ty (by decide) _ _ _ _ _ _ _ _ _ _ _ _ _ _))),by omega⟩,(Zi HN.o (by omega) _ _ _ _ _ _ _ _ _ _ _ _ _ _)⟩
  focus
   have HE:=A (HD.o.trans (ifN (fun h=>hj h.2)))
   have hji:2<=(j:Int):=by omega
   clear HD hq
   go_enter func225,ntmps225
   go_wp2_with fail
   refine(Zs left false _ (Ze (by omega))).mono ?_
   rintro e w' ⟨rfl,rfl⟩;rw[HJ.o]
   go_wp2_with (go_at_call 226;refine(Zs left true _ (Ze (by omega))).mono ?_;rintro e w' ⟨rfl,rfl⟩;rw[HK.o])
 rotate_left
 focus
  have hq':=Zzl hq
  have HE:=A (HD.o.trans (ifN (fun h=>hq h.1)))
  clear HD hq
  go_enter func225,ntmps225
  go_wp2_with (go_at_call 226;refine(Zs _ true _ (Ze (by omega))).mono ?_;rintro e w' ⟨rfl,rfl⟩;rw[HK.o])
 all_goals
  go_region_with (go_at_call 228;refine(HFH.o _ (((Nx.rfl.alloc _).alloc _).alloc _).drew).mono ?_;rintro e w1 ⟨⟨r,ds,rfl,hr,hdl⟩,hn⟩;have HR:=A hr;clear hr;obtain⟨g1,g2,g3,g4⟩:=Zan (ru:=ru) (Nx.then (show Nx _ _ from Nx.rfl.drew) hn);have HUB:=A g1;have HBB:=A g2;have HZ:=A g3;have HN:=A g4;clear g1 g2 g3 g4 hn;obtain⟨z0,z1,z2,z3,z4,z5,z6,z7,z8,z9,z10,z11,z12,z13⟩:=HZ.o.cells;obtain⟨zf0,zf1,zf2,zf3,zf4,zf5,zf6,zf7,zf8,zf9,zf10,zf11,zf12,zf13⟩:=ZaF HZ.o.free)
  all_goals go_wp2
  all_goals exact ZaZ (rb:=w.heap.size+1+1) results225 rfl rfl (RecB.put HZ.o _ _ _ _ _ _ _ _ _ _ _ _ _ _) rfl ⟨⟨r,ds,(by rw[HE.o];first|done|rfl),(by rw[HE.o];exact HR.o.ks (Ks.then Ks.rfl (ZH HZ.o.ty (by decide) _ _ _ _ _ _ _ _ _ _ _ _ _ _))),by omega⟩,(Zi HN.o (by omega) _ _ _ _ _ _ _ _ _ _ _ _ _ _)⟩
def Zar(u:U)(left:List UInt8)(base:U):U×Int:=
 if u.sch=ZE then ZdU u left base else if Zc u.sch=true then Za5 u left base
 else if countSl false left=0 then({ u with op:=true,opath:=encB (tl (Zbo 0)) (clean left) },0)
 else if countSl false left=1 then({ u with segs:=Zcb (left.drop 1) u.sch },0)else Zx u (left.drop 2)
theorem ZlA(ru rb:Rc)(u base:U)(bs cs:LA)(left:BA)(w:World)(h1:RcIs w ru u bs)(h2:RcIs w rb base cs)(hcs:cs.length<=60000)(hbs:bs.length<=0)(hl:left.size<=30000)(ht:Tb w):Calls prog 191 #[.agg #[J ru.sch,J ru.nam,J ru.pw,C ru.hh,J ru.host,C ru.hp,I X (ru.port:Int),C ru.op,J ru.opath,.slice ru.so ru.sn ru.sc,C ru.hq,J ru.q,C ru.hf,J ru.fr],J left,.agg #[J rb.sch,J rb.nam,J rb.pw,C rb.hh,J rb.host,C rb.hp,I X (rb.port:Int),C rb.op,J rb.opath,.slice rb.so rb.sn rb.sc,C rb.hq,J rb.q,C rb.hf,J rb.fr]] w fun e w'=>ZhK e w' (Zar u (tl left) base) (cs.length+30002)/\Nx w w':=by
 have HU:=A h1;have HBS:=A h2;have HTB:=A ht
 have HD:=A (show Zar u (tl left) base=if tl ru.sch=ZE then ZdU u (tl left) base else if Zc (tl ru.sch)=true then Za5 u (tl left) base
  else if countSl false (tl left)=0 then({ u with op:=true,opath:=encB (tl (Zbo 0)) (clean (tl left)) },0)
  else if countSl false (tl left)=1 then({ u with segs:=Zcb ((tl left).drop 1) (tl ru.sch) },0)else Zx u ((tl left).drop 2)by rw[h1.usch];rfl)
 clear h1 h2 ht
 by_cases hf:tl ru.sch=ZE
 focus
  have HE:=A (HD.o.trans (ifP hf));have hfe:=eqB hf;unfold ZE at hfe;clear HD hf
  go_enter func191,ntmps191
  go_wp2_with fail
  refine(Zly ru rb u base bs cs left _ (HU.o.on (((Nx.rfl.alloc _).alloc _).alloc _)) (HBS.o.on (((Nx.rfl.alloc _).alloc _).alloc _)) hcs hl (HTB.o.on (((Nx.rfl.alloc _).alloc _).alloc _))).mono ?_
 rotate_left
 focus
  have HD2:=A (HD.o.trans (ifN hf));have hfe:=neB hf;unfold ZE at hfe;clear HD hf
  cases hsp:Zc (tl ru.sch)
  .have HD3:=A (HD2.o.trans (ifN (by rw[hsp];decide)))
   have HSP:=A hsp;clear HD2 hsp;have hk:=Ze5 false (tl left);rw[Za]at hk;generalize hkk:countSl false (tl left)=k at *;have HK:=A hkk;clear hkk
   by_cases hk0:k=0
   .have HE:=A (HD3.o.trans (ifP hk0))
    have hkb:((k:Int)==0)=true:=by rw[hk0];rfl
    clear HD3 hk0
    go_enter func191,ntmps191
    go_wp2_with (first|(go_at_call 189;refine(Zaj _ _).mono ?_;rintro e w' ⟨rfl,rfl⟩;rw[HSP.o])|(go_at_call 226;refine(Zs _ _ _ (Ze (by omega))).mono ?_;rintro e w' ⟨rfl,rfl⟩;rw[HK.o])|fail)
    refine(Za1 left 0 _ (by omega)).mono ?_
    rintro e w1 ⟨en,rfl,hen,hn⟩
    have hel:en.size<=300000:=by rw[<-Za,hen];exact Zcv _ _ (by rw[Za];exact hl)
    have HEN:=A hen;clear hen
    obtain⟨g1,g2,g3,g4⟩:=Zan (ru:={ ru with op:=true }) (Nx.then (show Nx _ _ from Nx.rfl) hn)
    have HUB:=A g1;have HBB:=A g2;have HZ:=A g3;have HN:=A g4;clear g1 g2 g3 g4 hn;obtain⟨a0,a1,a2,a3,a4,a5,a6,a7,a8,a9,a10,a11,a12,a13⟩:=HUB.o.cells;have af8:=HUB.o.free 8;obtain⟨z0,z1,z2,z3,z4,z5,z6,z7,z8,z9,z10,z11,z12,z13⟩:=HZ.o.cells;obtain⟨zf0,zf1,zf2,zf3,zf4,zf5,zf6,zf7,zf8,zf9,zf10,zf11,zf12,zf13⟩:=ZaF HZ.o.free;have HU2:=A (HU.o.on HN.o);go_wp2
    refine ZaZ (rb:=w.heap.size+1+1) results191 rfl rfl (RecB.put (HZ.o.far (by omega) 8 _) _ _ _ _ _ _ _ _ _ _ _ _ _ _) rfl ⟨⟨{ ru with op:=true,opath:=en },bs,(by rw[HE.o];first|done|rfl),?_,by omega⟩,(Zi (Below.setCell HN.o (Xa _) _) (by omega) _ _ _ _ _ _ _ _ _ _ _ _ _ _)⟩
    exact { eq:=by rw[HE.o,<-HU.o.eq];simp only[Rc.u];rw[HEN.o]
            seg:=HU2.o.seg.ks (Ks.then (Ks.then Ks.rfl (Zae HUB.o.ty (by decide) 8 _)) (ZH (HZ.o.ty.set w.heap.size 8 _) (by decide) _ _ _ _ _ _ _ _ _ _ _ _ _ _))
            lsch:=HU2.o.lsch
            lnam:=HU2.o.lnam
            lpw:=HU2.o.lpw
            lhost:=HU2.o.lhost
            lport:=HU2.o.lport
            lopath:=hel
            lsegs:=HU2.o.lsegs
            lseg:=HU2.o.lseg
            lq:=HU2.o.lq
            lfr:=HU2.o.lfr }
   .have HD4:=A (HD3.o.trans (ifN hk0))
    have hkb:((k:Int)==0)=false:=beq_eq_false_iff_ne.2 (by omega)
    clear HD3
    by_cases hke:k=1
    .have HE:=A (HD4.o.trans (ifP hke))
     have hkb1:((k:Int)==1)=true:=by rw[hke];rfl
     have hl1:1<=left.size:=by omega
     have HPR:=A (fun w1=>ZbD (left.extract 1 left.size) ru.sch w1 (by rw[Zam];omega))
     rw[tl_from]at HPR;clear HD4 hke hk0
     go_enter func191,ntmps191
     go_wp2_with (first|(go_at_call 189;refine(Zaj _ _).mono ?_;rintro e w' ⟨rfl,rfl⟩;rw[HSP.o])|(go_at_call 226;refine(Zs _ _ _ (Ze (by omega))).mono ?_;rintro e w' ⟨rfl,rfl⟩;rw[HK.o]))
     go_region_with (go_at_call 227;refine(HPR.o _).mono ?_;rintro e w1 ⟨v3,ds,rfl,ho,hds,hdl,hn⟩;obtain⟨ao,n,cap,rfl⟩:=ZT ho;have HO:=A (Zaz ho (by have:=HTB.o.2.2;try simp[World.setCell];omega));have HDS:=A hds;have HSH:=A (ZbG hds (ZaS (by rw[Xe,Za];omega)));rw[Zam]at hdl;clear ho hds;obtain⟨g1,g2,g3,g4⟩:=Zan (ru:=ru) (Nx.then (show Nx _ _ from Nx.rfl.drew) hn);have HUB:=A g1;have HBB:=A g2;have HZ:=A g3;have HN:=A g4;clear g1 g2 g3 g4 hn;obtain⟨a0,a1,a2,a3,a4,a5,a6,a7,a8,a9,a10,a11,a12,a13⟩:=HUB.o.cells;have af9:=HUB.o.free 9;obtain⟨z0,z1,z2,z3,z4,z5,z6,z7,z8,z9,z10,z11,z12,z13⟩:=HZ.o.cells;obtain⟨zf0,zf1,zf2,zf3,zf4,zf5,zf6,zf7,zf8,zf9,zf10,zf11,zf12,zf13⟩:=ZaF HZ.o.free)
     all_goals go_wp2
     all_goals (
      refine ZaZ (rb:=w.heap.size+1+1) results191 rfl rfl (RecB.put (HZ.o.far (by omega) 9 _) _ _ _ _ _ _ _ _ _ _ _ _ _ _) rfl ⟨⟨{ ru with so:=ao,sn:=n,sc:=cap },ds,(by rw[HE.o];first|done|rfl),?_,by omega⟩,(Zi (Below.setCell HN.o (Xa _) _) (by omega) _ _ _ _ _ _ _ _ _ _ _ _ _ _)⟩
      exact { eq:=by rw[HE.o,<-HU.o.eq];simp only[Rc.u];rw[HDS.o]
              seg:=HO.o.ks (Ks.then (Ks.then Ks.rfl (Zae HUB.o.ty (by decide) 9 _)) (ZH (HZ.o.ty.set w.heap.size 9 _) (by decide) _ _ _ _ _ _ _ _ _ _ _ _ _ _))
              lsch:=HU.o.lsch
              lnam:=HU.o.lnam
              lpw:=HU.o.lpw
              lhost:=HU.o.lhost
              lport:=HU.o.lport
              lopath:=HU.o.lopath
              lsegs:=by omega
              lseg:=HSH.o
              lq:=HU.o.lq
              lfr:=HU.o.lfr })
    .have HE:=A (HD4.o.trans (ifN hke))
     have hkb1:((k:Int)==1)=false:=beq_eq_false_iff_ne.2 (by omega)
     have hl2:2<=left.size:=by omega
     have HFH:=A (fun w1 (hn:Nx w w1)=>Zcp ru u bs (left.extract 2 left.size) w1 (HU.o.on hn) (HTB.o.on hn) (by rw[Zam];omega))
     rw[tl_from]at HFH;clear HD4 hke hk0
     go_enter func191,ntmps191
     go_wp2_with (first|(go_at_call 189;refine(Zaj _ _).mono ?_;rintro e w' ⟨rfl,rfl⟩;rw[HSP.o])|(go_at_call 226;refine(Zs _ _ _ (Ze (by omega))).mono ?_;rintro e w' ⟨rfl,rfl⟩;rw[HK.o]))
     go_region_with (go_at_call 228;refine(HFH.o _ (((Nx.rfl.alloc _).alloc _).alloc _).drew).mono ?_;rintro e w1 ⟨⟨r,ds,rfl,hr,hdl⟩,hn⟩;have HR:=A hr;clear hr;obtain⟨g1,g2,g3,g4⟩:=Zan (ru:=ru) (Nx.then (show Nx _ _ from Nx.rfl.drew) hn);have HUB:=A g1;have HBB:=A g2;have HZ:=A g3;have HN:=A g4;clear g1 g2 g3 g4 hn;obtain⟨z0,z1,z2,z3,z4,z5,z6,z7,z8,z9,z10,z11,z12,z13⟩:=HZ.o.cells;obtain⟨zf0,zf1,zf2,zf3,zf4,zf5,zf6,zf7,zf8,zf9,zf10,zf11,zf12,zf13⟩:=ZaF HZ.o.free)
     all_goals go_wp2
     all_goals exact ZaZ (rb:=w.heap.size+1+1) results191 rfl rfl (RecB.put HZ.o _ _ _ _ _ _ _ _ _ _ _ _ _ _) rfl ⟨⟨r,ds,(by rw[HE.o];first|done|rfl),(by rw[HE.o];exact HR.o.ks (Ks.then Ks.rfl (ZH HZ.o.ty (by decide) _ _ _ _ _ _ _ _ _ _ _ _ _ _))),by omega⟩,(Zi HN.o (by omega) _ _ _ _ _ _ _ _ _ _ _ _ _ _)⟩
  focus
   have HE:=A (HD2.o.trans (ifP hsp));have HSP:=A hsp;clear HD2 hsp
   go_enter func191,ntmps191
   go_wp2_with (first|(go_at_call 189;refine(Zaj _ _).mono ?_;rintro e w' ⟨rfl,rfl⟩;rw[HSP.o])|fail)
   refine(Zlz ru rb u base bs cs left _ (HU.o.on (((Nx.rfl.alloc _).alloc _).alloc _)) (HBS.o.on (((Nx.rfl.alloc _).alloc _).alloc _)) hcs hbs hl (HTB.o.on (((Nx.rfl.alloc _).alloc _).alloc _))).mono ?_
 all_goals
  rintro e w1 ⟨⟨r,ds,rfl,hr,hdl⟩,hn⟩;have HR:=A hr;clear hr;obtain⟨g1,g2,g3,g4⟩:=Zan (ru:=ru) (Nx.then (show Nx _ _ from Nx.rfl) hn);have HUB:=A g1;have HBB:=A g2;have HZ:=A g3;have HN:=A g4;clear g1 g2 g3 g4 hn;obtain⟨z0,z1,z2,z3,z4,z5,z6,z7,z8,z9,z10,z11,z12,z13⟩:=HZ.o.cells;obtain⟨zf0,zf1,zf2,zf3,zf4,zf5,zf6,zf7,zf8,zf9,zf10,zf11,zf12,zf13⟩:=ZaF HZ.o.free;go_wp2
  exact ZaZ (rb:=w.heap.size+1+1) results191 rfl rfl (RecB.put HZ.o _ _ _ _ _ _ _ _ _ _ _ _ _ _) rfl ⟨⟨r,ds,(by rw[HE.o];first|done|rfl),(by rw[HE.o];exact HR.o.ks (Ks.then Ks.rfl (ZH HZ.o.ty (by decide) _ _ _ _ _ _ _ _ _ _ _ _ _ _))),by omega⟩,(Zi HN.o (by omega) _ _ _ _ _ _ _ _ _ _ _ _ _ _)⟩
theorem ZgK(l:LB):(ZbF l).1.length<=l.length/\(ZbF l).2.1.length<=l.length:=by
 unfold ZbF;have h:=Z9 (isB 58) l
 split
 .exact⟨by show(lower (bcut (isB 58) l).1).length<=_;rw[Zni];omega,by show(bcut (isB 58) l).2.1.length<=_;omega⟩
 .exact⟨by simp,Xa _⟩
def Zcw(sch:List UInt8)(hq:Bool)(q:List UInt8):U:={ zeroU with sch:=sch,hq:=hq,q:=encB (tl (Zbo (Zbp sch))) (clean q) }
def ZdK(sch rest:List UInt8)(found:Bool)(base:U):U×Int:=
 if sch=[]then(zeroU,2)
 else if found=true then Zar (Zcw sch (bcut (isB 63) rest).2.2 (bcut (isB 63) rest).2.1) (bcut (isB 63) rest).1 base
 else ZV (Zcw sch (bcut (isB 63) rest).2.2 (bcut (isB 63) rest).2.1) (bcut (isB 63) rest).1 base
def Zcd(l:List UInt8)(hf:Bool)(base:U):U×Int:=
 if(ZbF l).2.2=true then ZdK (ZbF l).1 (ZbF l).2.1 true base
 else if base.op=true then ZcK (ZbF l).2.1 hf base else ZdK base.sch (ZbF l).2.1 false base
theorem ZlB{w:World}{sc q:BA}{l:LB}(hq:Bool)(h:tl q=encB (tl (Zbo (Zbp (tl sc)))) (clean l))(h1:sc.size<=300000)(h2:q.size<=300000):RcIs w { rz with sch:=sc,hq:=hq,q:=q } (Zcw (tl sc) hq l) []:=
 ⟨by unfold Zcw;rw[<-h];rfl,Sg.nil w,h1,Xd _,Xd _,Xd _,Xd _,Xd _,Xd _,(fun b hb=>by cases hb),h2,Xd _⟩
theorem ZjE(w:World)(sc:BA)(hq:Bool):RecB (w.alloc (O #[J sc,J ⟨#[]⟩,J ⟨#[]⟩,C false,J ⟨#[]⟩,C false,I X 0,C false,J ⟨#[]⟩,.slice none 0 0,C hq,J ⟨#[]⟩,C false,J ⟨#[]⟩] 101)) w.heap.size { rz with sch:=sc,hq:=hq }:=heap_alloc_new w _
theorem Zqv(s:BA)(hf:Bool)(rb:Rc)(base:U)(cs:LA)(w:World)(h2:RcIs w rb base cs)(hcs:cs.length<=60000)(hl:s.size<=30000)(ht:Tb w):Calls prog 142 #[J s,C hf,.agg #[J rb.sch,J rb.nam,J rb.pw,C rb.hh,J rb.host,C rb.hp,I X (rb.port:Int),C rb.op,J rb.opath,.slice rb.so rb.sn rb.sc,C rb.hq,J rb.q,C rb.hf,J rb.fr]] w fun e w'=>ZhK e w' (Zcd (tl s) hf base) (cs.length+30002)/\Nx w w':=by
 have HBS:=A h2;have HTB:=A ht;have hc:=ZgK (tl s)
 have HD:=A (show Zcd (tl s) hf base=if(ZbF (tl s)).2.2=true then ZdK (ZbF (tl s)).1 (ZbF (tl s)).2.1 true base
  else if rb.op=true then ZcK (ZbF (tl s)).2.1 hf base else ZdK (tl rb.sch) (ZbF (tl s)).2.1 false base by rw[h2.usch,show rb.op=base.op by rw[<-h2.eq];rfl];rfl)
 clear h2 ht
 go_enter func142,ntmps142
 go_wp2_with fail
 refine(Zqr s _ (by omega)).mono ?_
 rintro e w1 ⟨⟨sc,re,rfl,hsc,hre⟩,hn1⟩;rw[<-hsc,<-hre]at HD hc;rw[Za,Za,Za]at hc
 have hscl:sc.size<=30000:=by omega
 have hrel:re.size<=30000:=by omega
 obtain⟨g1,g2,g3⟩:=Zda hn1;have HBB:=A g1;have HZ:=A g2;have HN:=A g3;have HB1:=A (HBS.o.on HN.o);clear hsc hre hn1 g1 g2 g3 hc;generalize (ZbF (tl s)).2.2=found at *;obtain⟨b0,b1,b2,b3,b4,b5,b6,b7,b8,b9,b10,b11,b12,b13⟩:=HBB.o.cells;obtain⟨z0,z1,z2,z3,z4,z5,z6,z7,z8,z9,z10,z11,z12,z13⟩:=HZ.o.cells;obtain⟨zf0,zf1,zf2,zf3,zf4,zf5,zf6,zf7,zf8,zf9,zf10,zf11,zf12,zf13⟩:=ZaF HZ.o.free
 cases found
 focus
  have HD1:=A (HD.o.trans (ifN (by decide)))
  clear HD
  cases hop:rb.op
  focus
   have HD2:=A (HD1.o.trans (ifN (by rw[hop];decide)))
   have hrs:=HBS.o.lsch;rw[hop]at b7;clear HD1 hop
   have HRD:=A (show ZdK (tl rb.sch) (tl re) false base=if tl rb.sch=[]then(zeroU,2)else if false=true then Zar (Zcw (tl rb.sch) (bcut (isB 63) (tl re)).2.2 (bcut (isB 63) (tl re)).2.1) (bcut (isB 63) (tl re)).1 base else ZV (Zcw (tl rb.sch) (bcut (isB 63) (tl re)).2.2 (bcut (isB 63) (tl re)).2.1) (bcut (isB 63) (tl re)).1 base from rfl)
   by_cases hs0:(rb.sch).size=0
   .have HE:=A (HD2.o.trans (HRD.o.trans (ifP (Zz hs0))))
    have hs0':=Zo hs0;clear HD2 HRD hs0;go_wp2
    refine ZaZ (rb:=w.heap.size+1) results142 rfl rfl (RecB.put HZ.o _ _ _ _ _ _ _ _ _ _ _ _ _ _) rfl ⟨⟨rz,[],(by rw[HE.o];first|done|rfl),(by rw[HE.o];exact ZgH _),by simp⟩,(Zi HN.o (by omega) _ _ _ _ _ _ _ _ _ _ _ _ _ _)⟩
   focus
    have HD3:=A (HD2.o.trans (HRD.o.trans (ifN (ZdF hs0))));have hs0':=Zj hs0;clear HD2 HRD hs0;have hc2:=Z9 (isB 63) (tl re);go_wp2_with fail
    refine(Zd9 re 63 _ (Ze (by omega))).mono ?_
    rintro e w2 ⟨⟨lf,qu,rfl,hlf,hqu⟩,hn2⟩;rw[<-hlf,<-hqu]at HD3 hc2;rw[Za,Za,Za]at hc2
    have hlfl:lf.size<=30000:=by omega
    have hqul:qu.size<=30000:=by omega
    have HBB2:=A (HBB.o.on hn2);have HZ2:=A (HZ.o.on hn2);have HN2:=A (HN.o.then hn2);clear hlf hqu hn2 hc2;generalize (bcut (isB 63) (tl re)).2.2=hasq at *;clear b0 b1 b2 b3 b4 b5 b6 b7 b8 b9 b10 b11 b12 b13 z0 z1 z2 z3 z4 z5 z6 z7 z8 z9 z10 z11 z12 z13 zf0 zf1 zf2 zf3 zf4 zf5 zf6 zf7 zf8 zf9 zf10 zf11 zf12 zf13;have hlb:w.heap.size<w2.heap.size:=(Xc.1 HBB2.o).1;have hlz:w.heap.size+1<w2.heap.size:=(Xc.1 HZ2.o).1
    go_wp2_with (first|(go_at_call 189;refine(Zaj _ _).mono ?_;rintro e w' ⟨rfl,rfl⟩)|(go_at_call 190;refine(Zhj _ _).mono ?_;rintro e w' ⟨rfl,rfl⟩)|fail)
    refine(Za1 qu (Zbp (tl rb.sch)) _ (by omega)).mono ?_
    rintro e w3 ⟨en,rfl,hen,hn3⟩
    have hel:en.size<=300000:=by rw[<-Za,hen];exact Zcv _ _ (by rw[Za];exact hqul)
    have HEN:=A hen;have HU3:=A ((ZjE w2 rb.sch hasq).on hn3);have HBB3:=A ((HBB2.o.on (Nx.rfl.alloc _)).on hn3);have HZ3:=A ((HZ2.o.on (Nx.rfl.alloc _)).on hn3);have HN3:=A ((HN2.o.alloc _).then hn3);clear hen hn3;obtain⟨a0,a1,a2,a3,a4,a5,a6,a7,a8,a9,a10,a11,a12,a13⟩:=HU3.o.cells;have af11:=HU3.o.free 11;obtain⟨b0,b1,b2,b3,b4,b5,b6,b7,b8,b9,b10,b11,b12,b13⟩:=HBB3.o.cells
    have HZ4:=A (HZ3.o.far (q:=w2.heap.size) (by omega) 11 (J en))
    have HN4:=A (show Nx w (w3.setCell ⟨w2.heap.size,11,none⟩ (J en))from Below.setCell (p:=⟨w2.heap.size,11,none⟩) HN3.o (by show w.heap.size<=w2.heap.size;omega) (J en))
    have HRC:=A (show RcIs (w3.setCell ⟨w2.heap.size,11,none⟩ (J en)) { rz with sch:=rb.sch,hq:=hasq,q:=en } (Zcw (tl rb.sch) hasq (tl qu)) []from ZlB hasq HEN.o (by omega) hel)
    have HE:=A (HD3.o.trans (ifN (by decide)))
    clear HD3;go_wp2_with fail
    refine(Zhp { rz with sch:=rb.sch,hq:=hasq,q:=en } rb _ base [] cs lf _ HRC.o (HBS.o.on HN4.o) hcs (by simp) hlfl (HTB.o.on HN4.o)).mono ?_
    rintro e w5 ⟨⟨r,ds,rfl,hr,hdl⟩,hn5⟩;have HR:=A hr;have HZ5:=A (HZ4.o.on hn5);have HN5:=A (HN4.o.then hn5);clear hr hn5;clear a0 a1 a2 a3 a4 a5 a6 a7 a8 a9 a10 a11 a12 a13 af11 b0 b1 b2 b3 b4 b5 b6 b7 b8 b9 b10 b11 b12 b13
  rotate_left
  focus
   have HE:=A (HD1.o.trans (ifP hop));have HOA:=A (Zqs re hf rb base cs w1 HB1.o);rw[hop]at b7 HOA;clear HD1;go_wp2_with fail
   refine HOA.o.mono ?_
   rintro e w5 ⟨⟨r,ds,rfl,hr,hdl⟩,hn5⟩;have HR:=A hr;have HZ5:=A (HZ.o.on hn5);have HN5:=A (HN.o.then hn5);clear hr hn5;clear z0 z1 z2 z3 z4 z5 z6 z7 z8 z9 z10 z11 z12 z13 zf0 zf1 zf2 zf3 zf4 zf5 zf6 zf7 zf8 zf9 zf10 zf11 zf12 zf13 b0 b1 b2 b3 b4 b5 b6 b7 b8 b9 b10 b11 b12 b13
 rotate_left 2
 focus
  have HD2:=A (HD.o.trans (ifP rfl));clear HD
  have HRD:=A (show ZdK (tl sc) (tl re) true base=if tl sc=[]then(zeroU,2)else if true=true then Zar (Zcw (tl sc) (bcut (isB 63) (tl re)).2.2 (bcut (isB 63) (tl re)).2.1) (bcut (isB 63) (tl re)).1 base else ZV (Zcw (tl sc) (bcut (isB 63) (tl re)).2.2 (bcut (isB 63) (tl re)).2.1) (bcut (isB 63) (tl re)).1 base from rfl)
  by_cases hs0:(sc).size=0
  .have HE:=A (HD2.o.trans (HRD.o.trans (ifP (Zz hs0))))
   have hs0':=Zo hs0;clear HD2 HRD hs0;go_wp2
   refine ZaZ (rb:=w.heap.size+1) results142 rfl rfl (RecB.put HZ.o _ _ _ _ _ _ _ _ _ _ _ _ _ _) rfl ⟨⟨rz,[],(by rw[HE.o];first|done|rfl),(by rw[HE.o];exact ZgH _),by simp⟩,(Zi HN.o (by omega) _ _ _ _ _ _ _ _ _ _ _ _ _ _)⟩
  focus
   have HD3:=A (HD2.o.trans (HRD.o.trans (ifN (ZdF hs0))));have hs0':=Zj hs0;clear HD2 HRD hs0;have hc2:=Z9 (isB 63) (tl re);go_wp2_with fail
   refine(Zd9 re 63 _ (Ze (by omega))).mono ?_
   rintro e w2 ⟨⟨lf,qu,rfl,hlf,hqu⟩,hn2⟩;rw[<-hlf,<-hqu]at HD3 hc2;rw[Za,Za,Za]at hc2
   have hlfl:lf.size<=30000:=by omega
   have hqul:qu.size<=30000:=by omega
   have HBB2:=A (HBB.o.on hn2);have HZ2:=A (HZ.o.on hn2);have HN2:=A (HN.o.then hn2);clear hlf hqu hn2 hc2;generalize (bcut (isB 63) (tl re)).2.2=hasq at *;clear b0 b1 b2 b3 b4 b5 b6 b7 b8 b9 b10 b11 b12 b13 z0 z1 z2 z3 z4 z5 z6 z7 z8 z9 z10 z11 z12 z13 zf0 zf1 zf2 zf3 zf4 zf5 zf6 zf7 zf8 zf9 zf10 zf11 zf12 zf13;have hlb:w.heap.size<w2.heap.size:=(Xc.1 HBB2.o).1;have hlz:w.heap.size+1<w2.heap.size:=(Xc.1 HZ2.o).1
   go_wp2_with (first|(go_at_call 189;refine(Zaj _ _).mono ?_;rintro e w' ⟨rfl,rfl⟩)|(go_at_call 190;refine(Zhj _ _).mono ?_;rintro e w' ⟨rfl,rfl⟩)|fail)
   refine(Za1 qu (Zbp (tl sc)) _ (by omega)).mono ?_
   rintro e w3 ⟨en,rfl,hen,hn3⟩
   have hel:en.size<=300000:=by rw[<-Za,hen];exact Zcv _ _ (by rw[Za];exact hqul)
   have HEN:=A hen;have HU3:=A ((ZjE w2 sc hasq).on hn3);have HBB3:=A ((HBB2.o.on (Nx.rfl.alloc _)).on hn3);have HZ3:=A ((HZ2.o.on (Nx.rfl.alloc _)).on hn3);have HN3:=A ((HN2.o.alloc _).then hn3);clear hen hn3;obtain⟨a0,a1,a2,a3,a4,a5,a6,a7,a8,a9,a10,a11,a12,a13⟩:=HU3.o.cells;have af11:=HU3.o.free 11;obtain⟨b0,b1,b2,b3,b4,b5,b6,b7,b8,b9,b10,b11,b12,b13⟩:=HBB3.o.cells
   have HZ4:=A (HZ3.o.far (q:=w2.heap.size) (by omega) 11 (J en))
   have HN4:=A (show Nx w (w3.setCell ⟨w2.heap.size,11,none⟩ (J en))from Below.setCell (p:=⟨w2.heap.size,11,none⟩) HN3.o (by show w.heap.size<=w2.heap.size;omega) (J en))
   have HRC:=A (show RcIs (w3.setCell ⟨w2.heap.size,11,none⟩ (J en)) { rz with sch:=sc,hq:=hasq,q:=en } (Zcw (tl sc) hasq (tl qu)) []from ZlB hasq HEN.o (by omega) hel)
   have HE:=A (HD3.o.trans (ifP (by decide)))
   clear HD3;go_wp2_with fail
   refine(ZlA { rz with sch:=sc,hq:=hasq,q:=en } rb _ base [] cs lf _ HRC.o (HBS.o.on HN4.o) hcs (by simp) hlfl (HTB.o.on HN4.o)).mono ?_
   rintro e w5 ⟨⟨r,ds,rfl,hr,hdl⟩,hn5⟩;have HR:=A hr;have HZ5:=A (HZ4.o.on hn5);have HN5:=A (HN4.o.then hn5);clear hr hn5;clear a0 a1 a2 a3 a4 a5 a6 a7 a8 a9 a10 a11 a12 a13 af11 b0 b1 b2 b3 b4 b5 b6 b7 b8 b9 b10 b11 b12 b13
 all_goals
  obtain⟨z0,z1,z2,z3,z4,z5,z6,z7,z8,z9,z10,z11,z12,z13⟩:=HZ5.o.cells;obtain⟨zf0,zf1,zf2,zf3,zf4,zf5,zf6,zf7,zf8,zf9,zf10,zf11,zf12,zf13⟩:=ZaF HZ5.o.free;go_wp2
  exact ZaZ (rb:=w.heap.size+1) results142 rfl rfl (RecB.put HZ5.o _ _ _ _ _ _ _ _ _ _ _ _ _ _) rfl ⟨⟨r,ds,(by rw[HE.o];first|done|rfl),(by rw[HE.o];exact HR.o.ks (Ks.then Ks.rfl (ZH HZ5.o.ty (by decide) _ _ _ _ _ _ _ _ _ _ _ _ _ _))),by omega⟩,(Zi HN5.o (by omega) _ _ _ _ _ _ _ _ _ _ _ _ _ _)⟩
def ZI(l:List UInt8):List UInt8:=ZbM (Zgb (clean l))
def ZgL(r:U×Int)(hf:Bool)(f:List UInt8):U×Int:=if r.2≠0 then(zeroU,r.2)else({ r.1 with hf:=hf,fr:=encB (tl (Zbo 1)) (clean f) },0)
def Zaa(l:List UInt8)(base:U):U×Int:=
 ZgL (Zcd (bcut (isB 35) (ZI l)).1 (bcut (isB 35) (ZI l)).2.2 base) (bcut (isB 35) (ZI l)).2.2 (bcut (isB 35) (ZI l)).2.1
theorem Zhq(s:BA)(rb:Rc)(base:U)(cs:LA)(w:World)(h2:RcIs w rb base cs)(hcs:cs.length<=60000)(hl:s.size<=9000)(ht:Tb w):Calls prog 79 #[J s,.agg #[J rb.sch,J rb.nam,J rb.pw,C rb.hh,J rb.host,C rb.hp,I X (rb.port:Int),C rb.op,J rb.opath,.slice rb.so rb.sn rb.sc,C rb.hq,J rb.q,C rb.hf,J rb.fr]] w fun e w'=>ZhK e w' (Zaa (tl s) base) (cs.length+30002)/\Nx w w':=by
 have HBS:=A h2;have HTB:=A ht;clear h2 ht
 go_enter func79,ntmps79
 go_wp2_with fail
 refine(ZbZ s _ (by omega)).mono ?_
 rintro e w1 ⟨cl,rfl,hcl,hn1⟩
 have hcll:cl.size<=27000:=by have:=ZaJ (tl s);rw[<-hcl,Za,Za]at this;omega
 obtain⟨g1,g2,g3⟩:=Zda hn1;have HBB:=A g1;have HZ:=A g2;have HN:=A g3;have HCL:=A hcl;clear hcl hn1 g1 g2 g3
 go_wp2_with (first|(go_at_call 139;refine(Zve _ _ (by omega)).mono ?_;rintro e w' ⟨tr,rfl,htr,htl,rfl⟩;have HTR:=A htr;clear htr)|fail)
 refine(Zlu tr _ (by omega)).mono ?_
 rintro e w2 ⟨nb,rfl,hnb,hn2⟩
 have hnbl:nb.size<=27000:=by have:=ZeK (tl tr);rw[<-hnb,Za,Za]at this;omega
 have HWT:=A (show ZI (tl s)=tl nb by unfold ZI;rw[<-HCL.o,<-HTR.o,<-hnb])
 have HBB2:=A (HBB.o.on hn2);have HZ2:=A (HZ.o.on hn2);have HN2:=A (HN.o.then hn2);clear hnb hn2 HBB HZ HN;have hc:=Z9 (isB 35) (tl nb);go_wp2_with fail
 refine(Zd9 nb 35 _ (Ze (by omega))).mono ?_
 rintro e w3 ⟨⟨ah,fg,rfl,hah,hfg⟩,hn3⟩;rw[<-hah,<-hfg,Za,Za,Za]at hc
 have HD:=A (show Zaa (tl s) base=ZgL (Zcd (tl ah) (bcut (isB 35) (tl nb)).2.2 base) (bcut (isB 35) (tl nb)).2.2 (tl fg)by unfold Zaa;rw[HWT.o,hah,hfg])
 have HBB3:=A (HBB2.o.on hn3);have HZ3:=A (HZ2.o.on hn3);have HN3:=A (HN2.o.then hn3)
 have hahl:ah.size<=30000:=by omega
 have hfgl:fg.size<=30000:=by omega
 clear hah hfg hn3 hc HBB2 HZ2 HN2;generalize (bcut (isB 35) (tl nb)).2.2=hf at *;obtain⟨b0,b1,b2,b3,b4,b5,b6,b7,b8,b9,b10,b11,b12,b13⟩:=HBB3.o.cells;go_wp2_with fail
 refine(Zqv ah hf rb base cs _ (HBS.o.on HN3.o) hcs hahl (HTB.o.on HN3.o)).mono ?_
 rintro e w4 ⟨⟨r,ds,rfl,hr,hdl⟩,hn4⟩;have HR:=A hr;have HZ4:=A (HZ3.o.on hn4);have HN4:=A (HN3.o.then hn4);clear hr hn4 HZ3 HN3;clear b0 b1 b2 b3 b4 b5 b6 b7 b8 b9 b10 b11 b12 b13;obtain⟨z0,z1,z2,z3,z4,z5,z6,z7,z8,z9,z10,z11,z12,z13⟩:=HZ4.o.cells;obtain⟨zf0,zf1,zf2,zf3,zf4,zf5,zf6,zf7,zf8,zf9,zf10,zf11,zf12,zf13⟩:=ZaF HZ4.o.free;have hlz:w.heap.size+1<w4.heap.size:=(Xc.1 HZ4.o).1;generalize Zcd (tl ah) hf base=q at *;obtain⟨qu,err⟩:=q;simp only at HR
 have HED:=A (show ZgL (qu,err) hf (tl fg)=if err≠0 then(zeroU,err)else({ qu with hf:=hf,fr:=encB (tl (Zbo 1)) (clean (tl fg)) },0)from rfl)
 by_cases he:err=0
 .subst he
  have HE:=A (HD.o.trans (HED.o.trans (ifN (by decide))))
  clear HD HED;go_wp2_with fail
  refine(Za1 fg 1 _ (by omega)).mono ?_
  rintro e w5 ⟨en,rfl,hen,hn5⟩
  have hel:en.size<=300000:=by rw[<-Za,hen];exact Zcv _ _ (by rw[Za];exact hfgl)
  have HEN:=A hen
  have HP5:=A (((ZbL w4 { r with hf:=hf })).on hn5)
  have HZ5:=A ((HZ4.o.on (Nx.rfl.alloc _)).on hn5);have HN5:=A ((HN4.o.alloc _).then hn5);have HR5:=A ((HR.o.on (Nx.rfl.alloc _)).on hn5);clear hen hn5;clear z0 z1 z2 z3 z4 z5 z6 z7 z8 z9 z10 z11 z12 z13 zf0 zf1 zf2 zf3 zf4 zf5 zf6 zf7 zf8 zf9 zf10 zf11 zf12 zf13;obtain⟨a0,a1,a2,a3,a4,a5,a6,a7,a8,a9,a10,a11,a12,a13⟩:=HP5.o.cells;have af13:=HP5.o.free 13;obtain⟨z0,z1,z2,z3,z4,z5,z6,z7,z8,z9,z10,z11,z12,z13⟩:=HZ5.o.cells;obtain⟨zf0,zf1,zf2,zf3,zf4,zf5,zf6,zf7,zf8,zf9,zf10,zf11,zf12,zf13⟩:=ZaF HZ5.o.free;go_wp2
  refine ZaZ (rb:=w.heap.size+1) results79 rfl rfl (RecB.put (HZ5.o.far (by omega) 13 _) _ _ _ _ _ _ _ _ _ _ _ _ _ _) rfl ⟨⟨{ r with hf:=hf,fr:=en },ds,(by rw[HE.o];first|done|rfl),?_,by omega⟩,(Zi (Below.setCell HN5.o (by show w.heap.size<=w4.heap.size;omega) _) (by omega) _ _ _ _ _ _ _ _ _ _ _ _ _ _)⟩
  exact { eq:=by rw[HE.o,<-HR.o.eq];simp only[Rc.u];rw[HEN.o]
          seg:=HR5.o.seg.ks (Ks.then (Ks.then Ks.rfl (Zae HP5.o.ty (by decide) 13 _)) (ZH (HZ5.o.ty.set w4.heap.size 13 _) (by decide) _ _ _ _ _ _ _ _ _ _ _ _ _ _))
          lsch:=HR.o.lsch
          lnam:=HR.o.lnam
          lpw:=HR.o.lpw
          lhost:=HR.o.lhost
          lport:=HR.o.lport
          lopath:=HR.o.lopath
          lsegs:=HR.o.lsegs
          lseg:=HR.o.lseg
          lq:=HR.o.lq
          lfr:=hel }
 .have HE:=A (HD.o.trans (HED.o.trans (ifP he)))
  have he':(err != 0)=true:=Zjv (beq_eq_false_iff_ne.2 he);clear HD HED he;go_wp2
  exact ZaZ (rb:=w.heap.size+1) results79 rfl rfl ((RecB.put HZ4.o _ _ _ _ _ _ _ _ _ _ _ _ _ _).on (Nx.rfl.alloc _)) rfl ⟨⟨rz,[],(by rw[HE.o];first|done|rfl),(by rw[HE.o];exact ZgH _),by simp⟩,Nx.alloc (Zi HN4.o (by omega) _ _ _ _ _ _ _ _ _ _ _ _ _ _) _⟩
def ZbN(l:List UInt8):U×Int:=Zaa l zeroU
theorem ZlC(s:BA)(w:World)(hl:s.size<=9000)(ht:Tb w):Calls prog 137 #[J s] w fun e w'=>ZhK e w' (ZbN (tl s)) 30002/\Nx w w':=by
 have HTB:=A ht;clear ht
 go_enter func137,ntmps137
 go_wp2_with fail
 refine(Zhq s rz zeroU [] _ (ZgH _) (by simp) hl (HTB.o.on (Nx.rfl.alloc _))).mono ?_
 rintro e w1 ⟨⟨r,ds,rfl,hr,hdl⟩,hn⟩;have HR:=A hr;have HZ:=A ((ZgI w).on hn);have HN:=A (show Nx w w1 from(Nx.rfl.alloc _).then hn);clear hr hn;obtain⟨z0,z1,z2,z3,z4,z5,z6,z7,z8,z9,z10,z11,z12,z13⟩:=HZ.o.cells;obtain⟨zf0,zf1,zf2,zf3,zf4,zf5,zf6,zf7,zf8,zf9,zf10,zf11,zf12,zf13⟩:=ZaF HZ.o.free;go_wp2
 exact ZaZ (rb:=w.heap.size) results137 rfl rfl (RecB.put HZ.o _ _ _ _ _ _ _ _ _ _ _ _ _ _) rfl ⟨⟨r,ds,rfl,HR.o.ks (Ks.then Ks.rfl (ZH HZ.o.ty (by decide) _ _ _ _ _ _ _ _ _ _ _ _ _ _)),by simpa using hdl⟩,(Zi HN.o (Xa _) _ _ _ _ _ _ _ _ _ _ _ _ _ _)⟩
def ZcO(l:List UInt8)(based:Bool):U×Int:=if based=false then(zeroU,0)else if(ZbN l).2=2 then(zeroU,4)else ZbN l
theorem ZsB(s:BA)(based:Bool)(w:World)(hl:based=true->s.size<=9000)(ht:Tb w):Calls prog 78 #[J s,C based] w fun e w'=>ZhK e w' (ZcO (tl s) based) 30002/\Nx w w':=by
 have HTB:=A ht;clear ht
 cases based
 .have HE:=A (show ZcO (tl s) false=(zeroU,0)from ifP rfl)
  clear hl
  go_enter func78,ntmps78
  go_wp2
  exact ZaZ (rb:=w.heap.size) results78 rfl rfl (ZgI w) rfl ⟨⟨rz,[],(by rw[HE.o];first|done|rfl),(by rw[HE.o];exact ZgH _),by simp⟩,Nx.rfl.alloc _⟩
 .have HD:=A (show ZcO (tl s) true=if(ZbN (tl s)).2=2 then(zeroU,4)else ZbN (tl s)from ifN (by decide))
  have hs:=hl rfl;clear hl
  go_enter func78,ntmps78
  go_wp2_with fail
  refine(ZlC s _ hs (HTB.o.on (Nx.rfl.alloc _))).mono ?_
  rintro e w1 ⟨⟨r,ds,rfl,hr,hdl⟩,hn⟩;have HR:=A hr;have HZ:=A ((ZgI w).on hn);have HN:=A (show Nx w w1 from(Nx.rfl.alloc _).then hn);clear hr hn;have hlz:w.heap.size<w1.heap.size:=(Xc.1 HZ.o).1;obtain⟨z0,z1,z2,z3,z4,z5,z6,z7,z8,z9,z10,z11,z12,z13⟩:=HZ.o.cells;obtain⟨zf0,zf1,zf2,zf3,zf4,zf5,zf6,zf7,zf8,zf9,zf10,zf11,zf12,zf13⟩:=ZaF HZ.o.free;generalize ZbN (tl s)=q at *;obtain⟨qu,err⟩:=q;simp only at HR HD
  by_cases he:err=2
  .have HE:=A (HD.o.trans (ifP he))
   have he':(err==2)=true:=by rw[he];rfl
   clear HD he;go_wp2
   exact ZaZ (rb:=w.heap.size) results78 rfl rfl ((RecB.put HZ.o _ _ _ _ _ _ _ _ _ _ _ _ _ _).on (Nx.rfl.alloc _)) rfl ⟨⟨rz,[],(by rw[HE.o];first|done|rfl),(by rw[HE.o];exact ZgH _),by simp⟩,Nx.alloc (Zi HN.o (Xa _) _ _ _ _ _ _ _ _ _ _ _ _ _ _) _⟩
  .have HE:=A (HD.o.trans (ifN he))
   have he':(err==2)=false:=beq_eq_false_iff_ne.2 he;clear HD he;go_wp2
   exact ZaZ (rb:=w.heap.size) results78 rfl rfl ((RecB.put HZ.o _ _ _ _ _ _ _ _ _ _ _ _ _ _).on (Nx.rfl.alloc _)) rfl ⟨⟨r,ds,(by rw[HE.o];first|done|rfl),(by rw[HE.o];exact HR.o.ks (Ks.then (ZH HZ.o.ty (by decide) _ _ _ _ _ _ _ _ _ _ _ _ _ _) (Nx.ks (Nx.rfl.alloc _)))),hdl⟩,Nx.alloc (Zi HN.o (Xa _) _ _ _ _ _ _ _ _ _ _ _ _ _ _) _⟩
def UrlB(w:World)(b:Nat)(r:Rc):Prop:=w.heap[b]?=some (O #[J r.sch,J r.nam,J r.pw,C r.hh,J r.host,C r.hp,I X (r.port:Int),C r.op,J r.opath,.slice r.so r.sn r.sc,C r.hq,J r.q,C r.hf,J r.fr] 106 (0,0))
theorem UrlB.on{w w':World}{b:Nat}{r:Rc}(h:UrlB w b r)(hb:Nx w w'):UrlB w' b r:=(hb.block b (Xc.1 h).1).trans h
theorem Zvh(w:World)(r:Rc):UrlB (w.alloc (O #[J r.sch,J r.nam,J r.pw,C r.hh,J r.host,C r.hp,I X (r.port:Int),C r.op,J r.opath,.slice r.so r.sn r.sc,C r.hq,J r.q,C r.hf,J r.fr] 106)) w.heap.size r:=heap_alloc_new w _
theorem UrlB.cells{w:World}{b:Nat}{r:Rc}(h:UrlB w b r):w.cell? ⟨b,0,none⟩=some (J r.sch)/\w.cell? ⟨b,1,none⟩=some (J r.nam)/\w.cell? ⟨b,2,none⟩=some (J r.pw)/\w.cell? ⟨b,3,none⟩=some (C r.hh)/\w.cell? ⟨b,4,none⟩=some (J r.host)/\w.cell? ⟨b,5,none⟩=some (C r.hp)/\w.cell? ⟨b,6,none⟩=some (I X (r.port:Int))/\w.cell? ⟨b,7,none⟩=some (C r.op)/\w.cell? ⟨b,8,none⟩=some (J r.opath)/\w.cell? ⟨b,9,none⟩=some (.slice r.so r.sn r.sc)/\w.cell? ⟨b,10,none⟩=some (C r.hq)/\w.cell? ⟨b,11,none⟩=some (J r.q)/\w.cell? ⟨b,12,none⟩=some (C r.hf)/\w.cell? ⟨b,13,none⟩=some (J r.fr):=by
 unfold UrlB at h
 refine⟨?_,?_,?_,?_,?_,?_,?_,?_,?_,?_,?_,?_,?_,?_⟩<;>simp[World.cell?,h]
def ZcN(l base:List UInt8)(based:Bool):U×Int:=
 if 160<l.length∨(based=true/\160<base.length)then(zeroU,1)
 else if(ZcO base based).2≠0 then(zeroU,(ZcO base based).2)else Zaa l (ZcO base based).1
theorem Zig(pb:Nat)(r:Rc)(u:U)(bs:LA)(w:World)(h0:UrlB w pb r)(h:RcIs w r u bs)(ht:Tb w):Calls prog 53 #[.pointer (some ⟨pb,0,none⟩)] w fun e w'=>∃t:BA,e=Y (J t)/\tl t=Zjc u/\Nx w w':=by
 have HRC:=A h;have HTB:=A ht;obtain⟨a0,a1,a2,a3,a4,a5,a6,a7,a8,a9,a10,a11,a12,a13⟩:=h0.cells;clear h ht h0
 go_enter func53,ntmps53
 go_wp2_with fail
 refine(Zo0 r u bs _ HRC.o HTB.o).mono ?_
 rintro e w1 ⟨t,rfl,ht,hn⟩;have HT:=A ht;have HN:=A hn;clear ht hn a0 a1 a2 a3 a4 a5 a6 a7 a8 a9 a10 a11 a12 a13;go_wp2;go_ret;exact⟨t,rfl,HT.o,HN.o⟩
end Go.Proofs.YtchkhibgbnhjpabGreatDoor
