import Derived.Test.YtchkhibgbnhjpabGreatDoorT02
import Derived.Deep.CutBlock
import Derived.Deep.CutRange
open Array renaming getElem?_modify→Xa,getElem?_eq_some_iff→Xb
open List renaming length_nil→Xc,mem_of_mem_take→Xf,length_take→Xi,length_drop→Xj,eq_nil_of_length_eq_zero→Xk,drop_of_length_le→Xl,dropWhile_sublist→Xm,dropWhile_cons→Xn
open Nat renaming le_refl→Xg,le_trans→Xh,eq_zero_or_pos→Xo
open Or renaming inl→Xd,inr→Xe
open Go.Value renaming string→J,bool→C,int→I
open Go.IntKind renaming i64→X
open Go.Ending renaming returned→Y
open Go.Obj renaming cells→O
namespace Go.Proofs.YtchkhibgbnhjpabGreatDoor
open Tryz
open Go.RowKit
set_option maxHeartbeats 8000000
set_option maxRecDepth 8000
variable [Fl]
set_option linter.all false
structure RR where
 sch:ByteArray
 user:ByteArray
 pass:ByteArray
 his:Bool
 htx:ByteArray
 port:Int
 po:Option Addr
 pn:Nat
 pc:Nat
 op:Bool
 bl:ByteArray
 hq:Bool
 q:ByteArray
 hf:Bool
 fr:ByteArray
structure RU where
 sch:List UInt8
 user:List UInt8
 pass:List UInt8
 his:Bool
 htx:List UInt8
 port:Int
 path:List (List UInt8)
 op:Bool
 bl:List UInt8
 hq:Bool
 q:List UInt8
 hf:Bool
 fr:List UInt8
def RR.u(R:RR)(bs:List ByteArray):RU:=⟨tl R.sch,tl R.user,tl R.pass,R.his,tl R.htx,R.port,bs.map tl,R.op,tl R.bl,R.hq,tl R.q,R.hf,tl R.fr⟩
def RB(w:World)(b:Nat)(R:RR):Prop:=w.heap[b]?=some (O #[J R.sch,J R.user,J R.pass,C R.his,J R.htx,I X R.port,.slice R.po R.pn R.pc,C R.op,J R.bl,C R.hq,J R.q,C R.hf,J R.fr] 130 (0,0))
structure RIs (w:World) (R:RR) (u:RU) (bs:List ByteArray):Prop where
 eq:R.u bs=u
 seg:Sg w (.slice R.po R.pn R.pc) bs
 lsch:R.sch.size<=1000000
 lsegs:bs.length<=100000
 lseg:∀b∈bs,b.size<=1000000
 fw:Fl.n<=w.heap.size
theorem RIs.on{w w':World}{R:RR}{u:RU}{bs:LA}(h:RIs w R u bs)(hb:Nx w w'):RIs w' R u bs:={ h with seg:=h.seg.on hb,fw:=Xh h.fw hb.size }
theorem RIs.kp{w w':World}{R:RR}{u:RU}{bs:LA}(h:RIs w R u bs)(hb:Kp 130 w w'):RIs w' R u bs:={ h with seg:=h.seg.kp hb (by decide),fw:=Xh h.fw hb.1 }
theorem RB.on{w w':World}{b:Nat}{R:RR}(h:RB w b R)(hb:Nx w w'):RB w' b R:=(hb.block b (Xb.1 h).1).trans h
theorem RB.but{w w':World}{b rb:Nat}{R:RR}(h:RB w b R)(hb:But rb w w')(hn:b≠rb):RB w' b R:=(hb.block b (Xb.1 h).1 hn).trans h
theorem RB.lt{w:World}{b:Nat}{R:RR}(h:RB w b R):b<w.heap.size:=(Xb.1 h).1
theorem RB.free{w:World}{b:Nat}{R:RR}(h:RB w b R)(i:Nat):w.frozen? ⟨b,i,none⟩=false:=by
 unfold RB at h
 simp[World.frozen?,h]
theorem RB.sch{w:World}{b:Nat}{R:RR}(h:RB w b R):SchAt w b R.sch:=⟨_,_,h,rfl⟩
theorem But.kp{w w':World}{rb:Nat}{R:RR}(hb:But rb w w')(h:RB w rb R):Kp 130 w w':=by
 refine⟨hb.size,fun k cs e fz hk he=>?_⟩
 refine(hb.block k (Xb.1 hk).1 ?_).trans hk
 intro e';subst e';unfold RB at h;rw[hk]at h;simp only[Option.some.injEq,Obj.cells.injEq]at h;exact he h.2.1
theorem RB.cells{w:World}{b:Nat}{R:RR}(h:RB w b R):w.cell? ⟨b,0,none⟩=some (J R.sch)/\w.cell? ⟨b,1,none⟩=some (J R.user)/\w.cell? ⟨b,2,none⟩=some (J R.pass)/\w.cell? ⟨b,3,none⟩=some (C R.his)/\w.cell? ⟨b,4,none⟩=some (J R.htx)/\w.cell? ⟨b,5,none⟩=some (I X R.port)/\w.cell? ⟨b,6,none⟩=some (.slice R.po R.pn R.pc)/\w.cell? ⟨b,7,none⟩=some (C R.op)/\w.cell? ⟨b,8,none⟩=some (J R.bl)/\w.cell? ⟨b,9,none⟩=some (C R.hq)/\w.cell? ⟨b,10,none⟩=some (J R.q)/\w.cell? ⟨b,11,none⟩=some (C R.hf)/\w.cell? ⟨b,12,none⟩=some (J R.fr):=by
 unfold RB at h
 refine⟨?_,?_,?_,?_,?_,?_,?_,?_,?_,?_,?_,?_,?_⟩<;>simp[World.cell?,h]
theorem RB.s0{w:World}{b:Nat}{R:RR}(h:RB w b R)(x:BA):RB (w.setCell ⟨b,0,none⟩ (J x)) b { R with sch:=x }:=by
 unfold RB at *;simp only[World.setCell,Xa,ifP,h]
 rfl
theorem RB.s1{w:World}{b:Nat}{R:RR}(h:RB w b R)(x:BA):RB (w.setCell ⟨b,1,none⟩ (J x)) b { R with user:=x }:=by
 unfold RB at *;simp only[World.setCell,Xa,ifP,h]
 rfl
theorem RB.s2{w:World}{b:Nat}{R:RR}(h:RB w b R)(x:BA):RB (w.setCell ⟨b,2,none⟩ (J x)) b { R with pass:=x }:=by
 unfold RB at *;simp only[World.setCell,Xa,ifP,h]
 rfl
theorem RB.s3{w:World}{b:Nat}{R:RR}(h:RB w b R)(x:Bool):RB (w.setCell ⟨b,3,none⟩ (C x)) b { R with his:=x }:=by
 unfold RB at *;simp only[World.setCell,Xa,ifP,h]
 rfl
theorem RB.s4{w:World}{b:Nat}{R:RR}(h:RB w b R)(x:BA):RB (w.setCell ⟨b,4,none⟩ (J x)) b { R with htx:=x }:=by
 unfold RB at *;simp only[World.setCell,Xa,ifP,h]
 rfl
theorem RB.s5{w:World}{b:Nat}{R:RR}(h:RB w b R)(x:Int):RB (w.setCell ⟨b,5,none⟩ (I X x)) b { R with port:=x }:=by
 unfold RB at *;simp only[World.setCell,Xa,ifP,h]
 rfl
theorem RB.s6{w:World}{b:Nat}{R:RR}(h:RB w b R)(ao:Option Addr)(n c:Nat):RB (w.setCell ⟨b,6,none⟩ (.slice ao n c)) b { R with po:=ao,pn:=n,pc:=c }:=by
 unfold RB at *;simp only[World.setCell,Xa,ifP,h]
 rfl
theorem RB.s7{w:World}{b:Nat}{R:RR}(h:RB w b R)(x:Bool):RB (w.setCell ⟨b,7,none⟩ (C x)) b { R with op:=x }:=by
 unfold RB at *;simp only[World.setCell,Xa,ifP,h]
 rfl
theorem RB.s8{w:World}{b:Nat}{R:RR}(h:RB w b R)(x:BA):RB (w.setCell ⟨b,8,none⟩ (J x)) b { R with bl:=x }:=by
 unfold RB at *;simp only[World.setCell,Xa,ifP,h]
 rfl
theorem RB.s9{w:World}{b:Nat}{R:RR}(h:RB w b R)(x:Bool):RB (w.setCell ⟨b,9,none⟩ (C x)) b { R with hq:=x }:=by
 unfold RB at *;simp only[World.setCell,Xa,ifP,h]
 rfl
theorem RB.s10{w:World}{b:Nat}{R:RR}(h:RB w b R)(x:BA):RB (w.setCell ⟨b,10,none⟩ (J x)) b { R with q:=x }:=by
 unfold RB at *;simp only[World.setCell,Xa,ifP,h]
 rfl
theorem RB.s11{w:World}{b:Nat}{R:RR}(h:RB w b R)(x:Bool):RB (w.setCell ⟨b,11,none⟩ (C x)) b { R with hf:=x }:=by
 unfold RB at *;simp only[World.setCell,Xa,ifP,h]
 rfl
theorem RB.s12{w:World}{b:Nat}{R:RR}(h:RB w b R)(x:BA):RB (w.setCell ⟨b,12,none⟩ (J x)) b { R with fr:=x }:=by
 unfold RB at *;simp only[World.setCell,Xa,ifP,h]
 rfl
def ZMj(sch:List UInt8)(n:Int):Int:=if n=(ZdM sch).1 then -1 else n
theorem ZLc(rb:Nat)(R:RR)(n:Int)(w:World)(h:RB w rb R):Calls prog 173 #[.pointer (some ⟨rb,0,none⟩),I X n] w fun e w'=>e=Y (I X (ZMj (tl R.sch) n))/\Nx w w':=by
 obtain⟨c0,-⟩:=h.cells;clear h
 go_enter func173,ntmps173
 go_wp2_with fail
 refine(Zpb R.sch _).mono ?_
 rintro e w1 ⟨rfl,hn⟩;have HN:=A hn
 have HD:=A (show ZMj (tl R.sch) n=if n=(ZdM (tl R.sch)).1 then -1 else n from rfl)
 clear hn c0;generalize ZdM (tl R.sch)=q at *;obtain⟨p,ok⟩:=q;simp only at HD
 cases he:(n==p)
 .have HE:=A (HD.o.trans (ifN (by simpa using he)))
  go_wp2;go_ret
  exact⟨by rw[HE.o];rfl,HN.o⟩
 .have HE:=A (HD.o.trans (ifP (by simpa using he)))
  go_wp2;go_ret
  exact⟨by rw[HE.o];rfl,HN.o⟩
def ZHn:List UInt8:=[108,111,99,97,108,104,111,115,116]
def ZzK(u:RU)(l:List Int):RU×Int:=
 if l=[]then({ u with his:=true,htx:=[] },0)else if(hostOf l true).2.2≠0 then({ u with his:=true,htx:=[] },(hostOf l true).2.2)
 else if(hostOf l true).2.1=ZHn then({ u with his:=true,htx:=[] },0)else({ u with his:=(hostOf l true).1,htx:=(hostOf l true).2.1 },0)
theorem ZFh(rb:Nat)(R:RR)(u:RU)(bs:LA)(v:Value)(l:LI)(w:World)(h:RB w rb R)(hr:RIs w R u bs)(hv:IntsAt w v l)(hl:l.length<=20000)(hp:∀c∈l,Pt c):Calls prog 178 #[.pointer (some ⟨rb,0,none⟩),v] w fun e w'=>e=Y (I X (ZzK u l).2)/\(∃R',RB w' rb R'/\RIs w' R' (ZzK u l).1 bs)/\But rb w w':=by
 obtain⟨c0,c1,c2,c3,c4,c5,c6,c7,c8,c9,c10,c11,c12⟩:=h.cells;have f3:=h.free 3;have f4:=h.free 4;have HB:=A ((h.s3 true).s4 ⟨#[]⟩);have HBT:Hid (But rb w ((w.setCell ⟨rb,3,none⟩ (C true)).setCell ⟨rb,4,none⟩ (J ⟨#[]⟩))):=A (((But.refl rb w).set 3 _).set 4 _);have HK:=A (HBT.o.kp h)
 have HV:=A (hv.kp HK.o (by decide))
 have HR:=A (show RIs _ { R with his:=true,htx:=⟨#[]⟩ } { u with his:=true,htx:=[] } bs from { hr.kp HK.o with eq:=by rw[<-hr.eq];rfl })
 have HPP:=A hp;clear h hr hp HK;obtain⟨ao,cap,hve,-⟩:=hv;subst hve
 go_enter func178,ntmps178
 go_upto_region 2 with fail;clear c0 c1 c2 c3 c4 c5 c6 c7 c8 c9 c10 c11 c12 f3 f4;generalize ((w.setCell ⟨rb,3,none⟩ (C true)).setCell ⟨rb,4,none⟩ (J ⟨#[]⟩))=w1 at *;rcases Xo l.length with h0|hpos
 .have h0':((l.length:Int)==0)=true:=by rw[h0];rfl
  have HE:=A (show ZzK u l=({ u with his:=true,htx:=[] },0)from ifP (Xk h0))
  clear h0;go_wp2;go_ret
  exact⟨by rw[HE.o];rfl,⟨_,HB.o,by rw[HE.o];exact HR.o⟩,HBT.o⟩
 .have h0':((l.length:Int)==0)=false:=beq_eq_false_iff_ne.2 (by omega)
  have HD:=A (show ZzK u l=if(hostOf l true).2.2≠0 then({ u with his:=true,htx:=[] },(hostOf l true).2.2)else if(hostOf l true).2.1=ZHn then({ u with his:=true,htx:=[] },0)else({ u with his:=(hostOf l true).1,htx:=(hostOf l true).2.1 },0)from ifN (fun e=>by rw[e]at hpos;simp at hpos))
  clear hpos;go_wp2_with fail
  refine(ZCw _ l true _ HV.o hl HPP.o).mono ?_
  rintro e w2 ⟨t,rfl,ht,hn⟩;have HH:=A (show(w2.alloc (O #[C (hostOf l true).1,J t] 128)).heap[w2.heap.size]?=some (O #[C (hostOf l true).1,J t] 128 (0,0))from heap_alloc_new w2 _);have HB2:=A ((HB.o.on hn).on (Nx.rfl.alloc (O #[C (hostOf l true).1,J t] 128)));have HR2:=A ((HR.o.on hn).on (Nx.rfl.alloc (O #[C (hostOf l true).1,J t] 128)));have HBT2:=A (HBT.o.then (But.nx (hn.alloc (O #[C (hostOf l true).1,J t] 128))));have HT:=A ht;have hrl:rb<w2.heap.size:=Nat.lt_of_lt_of_le HB.o.lt hn.size;clear hn ht HB HR HBT HV HPP;generalize hostOf l true=y at *;obtain⟨is,tx,err⟩:=y;simp only at HD HT HB2 HR2 HBT2 HH;go_upto_region 5 with fail;obtain⟨hb,hhb⟩:∃hb,hb=w2.heap.size:=⟨_,rfl⟩;rw[<-hhb]at HH hrl ⊢;generalize (w2.alloc (O #[C is,J t] 128))=w3 at *;clear hhb
  have hc0:w3.cell? ⟨hb,0,none⟩=some (C is):=by have h:=HH.o;simp[World.cell?,h]
  have hc1:w3.cell? ⟨hb,1,none⟩=some (J t):=by have h:=HH.o;simp[World.cell?,h]
  by_cases he:err=0
  focus
   subst he
   have HD2:=A (HD.o.trans (ifN (by intro x;exact x rfl)))
   clear HD
   by_cases hloc:tx=ZHn
   focus
    have HE:=A (HD2.o.trans (ifP hloc))
    have hl':t.toList=[108,111,99,97,108,104,111,115,116]:=by rw[ByteArray.toList_eq];exact HT.o.trans hloc
    have hl1:=eqB (s:=t) (l:=[108,111,99,97,108,104,111,115,116]) (HT.o.trans hloc);clear hloc hl'
   rotate_left
   .have HE:=A (HD2.o.trans (ifN hloc))
    have hl1:=neB (s:=t) (l:=[108,111,99,97,108,104,111,115,116]) (fun e=>hloc (HT.o.symm.trans e))
    clear hloc;obtain⟨c0,c1,c2,c3,c4,c5,c6,c7,c8,c9,c10,c11,c12⟩:=HB2.o.cells;have f3:=HB2.o.free 3;have f4:=HB2.o.free 4;have HB3:=A ((HB2.o.s3 is).s4 t);have HBT3:=A ((HBT2.o.set 3 (C is)).set 4 (J t));have HK:=A (show Kp 130 w3 ((w3.setCell ⟨rb,3,none⟩ (C is)).setCell ⟨rb,4,none⟩ (J t))from But.kp (((But.refl rb w3).set 3 _).set 4 _) HB2.o);have HR3:=A (HR2.o.kp HK.o);clear HR2 HBT2 HK;go_wp2;go_ret
    refine⟨by rw[HE.o];rfl,⟨_,HB3.o,?_⟩,HBT3.o⟩
    rw[HE.o]
    exact { HR3.o with eq:=by rw[<-HT.o];have h:=HR3.o.eq;simp only[RR.u,RU.mk.injEq]at h ⊢;simp[h] }
  rotate_left
  focus
   have he1:(err==0)=false:=beq_eq_false_iff_ne.2 he;have he2:(err != 0)=true:=bne_iff_ne.2 he;have HE:=A (HD.o.trans (ifP he));clear he HD
  all_goals
   go_wp2;go_ret
   exact⟨by rw[HE.o];rfl,⟨_,HB2.o,by rw[HE.o];exact HR2.o⟩,HBT2.o⟩
def ZGi(e:Ending)(w w':World)(rb:Nat)(x:RU×Int):Prop:=e=Y (I X x.2)/\(∃R bs,RB w' rb R/\RIs w' R x.1 bs)/\But rb w w'
theorem RIs.setPath{w:World}{rb:Nat}{R:RR}{u:RU}{bs bs':LA}{v:Value}(hB:RB w rb R)(hR:RIs w R u bs)(ho:Sg w v bs')(hl:bs'.length<=100000)(hb:∀x∈bs',x.size<=1000000):∃ao n c,v=.slice ao n c/\RB (w.setCell ⟨rb,6,none⟩ (.slice ao n c)) rb { R with po:=ao,pn:=n,pc:=c }/\RIs (w.setCell ⟨rb,6,none⟩ (.slice ao n c)) { R with po:=ao,pn:=n,pc:=c } { u with path:=bs'.map tl } bs':=by
 obtain⟨⟨ao,cap,rfl,h1,h2,h3,h4⟩,hfl⟩:=ho;have hk:Kp 130 w (w.setCell ⟨rb,6,none⟩ (.slice ao bs'.length cap)):=But.kp ((But.refl rb w).set 6 _) hB
 refine⟨ao,_,cap,rfl,hB.s6 _ _ _,?_⟩
 exact { eq:=by rw[<-hR.eq];rfl,seg:=⟨SlAt.kp (⟨ao,cap,rfl,h1,h2,h3,h4⟩:ZbP w (.slice ao bs'.length cap) bs') hk (by decide),hfl⟩,lsch:=hR.lsch,lsegs:=hl,lseg:=hb,fw:=Xh hR.fw hk.1 }
theorem RIs.usch{w:World}{R:RR}{u:RU}{bs:LA}(h:RIs w R u bs):tl R.sch=u.sch:=by rw[<-h.eq];rfl
theorem ZD0{α:Type}{e:TypeId}{f:α->Value}{w:World}{b off cap:Nat}{l:List α}(hr:RowAt e f w b off l)(hlc:l.length<=cap)(hcap:cap<=maxLen)(k:Nat)(hk:k<=l.length):SlAt e f w (.slice (if cap=k then some ⟨b,off,none⟩else some ⟨b,off+k,none⟩) (l.length-k) (cap-k)) (l.drop k):=by
 split
 .exact Zjm hr k _ (by omega) (by omega)
 .exact Zfz hr hlc hcap k hk
def driven(l:List Int):Bool:=if l.length<2 then false else letter (l.take 2)&&(decide (l.length=2)||Zq l 2 Zzu)
theorem ZBQ(v:Value)(l:LI)(w:World)(hv:IntsAt w v l):Calls prog 271 #[v] w fun e w'=>e=Y (C (driven l))/\Nx w w':=by
 have HV:=A hv
 by_cases hl:l.length<2
 .have HE:=A (show driven l=false from ifP hl)
  obtain⟨ao,cap,rfl,hlc,hcap,-,-⟩:=hv;unfold maxLen at hcap
  go_enter func271,ntmps271
  go_wp2;go_ret
  exact⟨by rw[HE.o];rfl,Nx.rfl⟩
 .have HD:=A (show driven l=(letter (l.take 2)&&(decide (l.length=2)||Zq l 2 Zzu))from ifN hl)
  obtain⟨b,off,cap,rfl,hlc,hcap,hr⟩:=hv.open_ (k:=0) (by omega)
  have HT:=A (ZdB hr hlc hcap 2 (by omega))
  unfold maxLen at hcap;clear hr hv
  go_enter func271,ntmps271
  go_wp2_with fail
  refine(Zbr _ (l.take 2) _ HT.o).mono ?_
  rintro e w1 ⟨rfl,rfl⟩;go_wp2_with fail
  refine(Zbd _ l 2 ⟨#[102,105,108,101]⟩ _ HV.o).mono ?_
  rintro e w1 ⟨rfl,hn⟩;have HN:=A hn;clear hn;rw[show tl (⟨#[102,105,108,101]⟩:BA)=Zzu from rfl];generalize letter (l.take 2)=a at *;generalize Zq l 2 Zzu=c at *
  cases a
  .go_wp2
   go_ret
   exact⟨by rw[HD.o];rfl,HN.o⟩
  .by_cases h2:l.length=2
   .have h2':((l.length:Int)==2)=true:=by rw[h2];rfl
    have HE:=A (show driven l=true by rw[HD.o,decide_eq_true h2];rfl)
    clear h2 HD;go_wp2;go_ret
    exact⟨by rw[HE.o];rfl,HN.o⟩
   .have h2':((l.length:Int)==2)=false:=beq_eq_false_iff_ne.2 (by omega)
    have HE:=A (show driven l=c by rw[HD.o,decide_eq_false h2];rfl)
    clear h2 HD
    cases c
    all_goals go_wp2
    all_goals go_ret
    all_goals exact⟨by rw[HE.o];rfl,HN.o⟩
def ZAS(u:RU)(l:List Int):RU×Int:=
 if letter (cut l [47,92]).1=true then({ u with path:=walked u.sch [] l },0)
 else if(ZzK u (cut l [47,92]).1).2≠0 then ZzK u (cut l [47,92]).1
 else({ (ZzK u (cut l [47,92]).1).1 with path:=walked u.sch [] (cut l [47,92]).2.1 },0)
theorem ZFi(u:RU)(l:LI):(ZzK u l).1.sch=u.sch:=by
 unfold ZzK
 split
 .rfl
 .split
  .rfl
  .split<;>rfl
theorem ZBp(rb:Nat)(R:RR)(u:RU)(bs:LA)(v:Value)(l:LI)(w:World)(h:RB w rb R)(hr:RIs w R u bs)(hv:IntsAt w v l)(hl:l.length<=20000)(hp:∀c∈l,Pt c):Calls prog 270 #[.pointer (some ⟨rb,0,none⟩),v] w fun e w'=>ZGi e w w' rb (ZAS u l):=by
 have HB:=A h;have HR:=A hr;have HV:=A hv;have HP:=A hp;have HLC:=A (Zbc l [47,92])
 have HPC:=A (fun c (h:c∈(cut l [47,92]).1)=>hp c (Zy (Xd h)))
 have HPD:=A (fun c (h:c∈(cut l [47,92]).2.1)=>hp c (Zy (Xe h)))
 have HD:=A (show ZAS u l=if letter (cut l [47,92]).1=true then({ u with path:=walked u.sch [] l },0)else if(ZzK u (cut l [47,92]).1).2≠0 then ZzK u (cut l [47,92]).1 else({ (ZzK u (cut l [47,92]).1).1 with path:=walked u.sch [] (cut l [47,92]).2.1 },0)from rfl)
 clear h hr hv hp
 go_enter func270,ntmps270
 go_wp2_with fail
 refine(ZbY v l ⟨#[47,92]⟩ _ (Ze (by decide)) HV.o).mono ?_
 rintro e w1 ⟨v1,v2,rfl,h1,h2,hn1⟩;rw[show tl (⟨#[47,92]⟩:BA)=[47,92]from rfl]at *;generalize cut l [47,92]=c at *;obtain⟨c1,c2,ok⟩:=c;simp only at *;have H1:=A h1;have H2:=A h2;have HN1:=A hn1;clear h1 h2 hn1;go_wp2_with fail
 refine(Zbr v1 c1 _ H1.o).mono ?_
 rintro e w1' ⟨rfl,rfl⟩
 cases hlt:letter c1
 focus
  have HD1:=A (HD.o.trans (ifN (by rw[hlt];decide)))
  clear HD hlt;have hcl:=HLC.o.1;go_wp2_with fail
  refine(ZFh rb R u bs v1 c1 _ (HB.o.on HN1.o) (HR.o.on HN1.o) H1.o (by omega) HPC.o).mono ?_
  rintro e w2 ⟨rfl,⟨R2,hB2,hR2⟩,hbt⟩;have HKP:=A (hbt.kp (HB.o.on HN1.o))
  have H22:=A (H2.o.kp HKP.o (by decide))
  have HSC:=A (ZFi u c1);have HB2:=A hB2;have HR2:=A hR2;have HBT:=A ((But.nx HN1.o).then hbt);clear hB2 hR2 hbt H1 H2 HKP;generalize ZzK u c1=y at *;obtain⟨y,err⟩:=y;simp only at HD1 HR2 HSC
  by_cases he:err=0
  focus
   subst he
   have HE:=A (HD1.o.trans (ifN (by intro x;exact x rfl)))
   clear HD1;go_wp2_with fail
   refine(Zzw rb R2.sch (.slice none 0 0) [] v2 c2 w2.heap.size _ HB2.o.sch (Xg _) (ZzQ _ _) (by simp) (by simp) H22.o (by omega) HPD.o).mono ?_
   rintro e w3 ⟨v',bs',rfl,ho,hwe,hbl,hbs,hbel,-⟩;have hnx:Nx w2 w3:=hbel
   obtain⟨ao,n,cp,rfl,hB3,hR3⟩:=RIs.setPath (HB2.o.on hnx) (HR2.o.on hnx) (Zaz ho HR2.o.fw) (by simp only[Xc]at hbl;omega) hbs
   have HB3:=A hB3;have HR3:=A hR3
   have HWE:=A (show bs'.map tl=walked u.sch [] c2 by rw[hwe,HR2.o.usch,HSC.o];rfl)
   have HBT3:=A (show But rb w (w3.setCell ⟨rb,6,none⟩ (.slice ao n cp))from(HBT.o.then (But.nx hnx)).set 6 _);obtain⟨-,-,-,-,-,-,k6,-⟩:=(HB2.o.on hnx).cells;have f6:=(HB2.o.on hnx).free 6
  rotate_left
  .have he1:(err==0)=false:=beq_eq_false_iff_ne.2 he
   have he2:(err != 0)=true:=bne_iff_ne.2 he;have HE:=A (HD1.o.trans (ifP he));clear he HD1;go_wp2;go_ret
   exact⟨by rw[HE.o];rfl,⟨_,_,HB2.o,by rw[HE.o];exact HR2.o⟩,HBT.o⟩
 rotate_left
 focus
  have HE:=A (HD.o.trans (ifP (by rw[hlt])))
  clear HD hlt;go_wp2_with fail
  refine(Zzw rb R.sch (.slice none 0 0) [] v l w1.heap.size _ (HB.o.on HN1.o).sch (Xg _) (ZzQ _ _) (by simp) (by simp) (HV.o.on HN1.o) (by omega) HP.o).mono ?_
  rintro e w3 ⟨v',bs',rfl,ho,hwe,hbl,hbs,hbel,-⟩;have hnx:Nx w w3:=HN1.o.then hbel
  obtain⟨ao,n,cp,rfl,hB3,hR3⟩:=RIs.setPath (HB.o.on hnx) (HR.o.on hnx) (Zaz ho (Xh HR.o.fw HN1.o.size)) (by simp only[Xc]at hbl;omega) hbs
  have HB3:=A hB3;have HR3:=A hR3
  have HWE:=A (show bs'.map tl=walked u.sch [] l by rw[hwe,HR.o.usch];rfl)
  have HBT3:=A (show But rb w (w3.setCell ⟨rb,6,none⟩ (.slice ao n cp))from(But.nx hnx).set 6 _);obtain⟨-,-,-,-,-,-,k6,-⟩:=(HB.o.on hnx).cells;have f6:=(HB.o.on hnx).free 6
 all_goals
  clear ho hwe hbl hbs hbel hnx hB3 hR3;go_wp2;go_ret
  exact⟨by rw[HE.o];rfl,⟨_,bs',HB3.o,by rw[HE.o];have h:=HR3.o;rw[HWE.o]at h;exact h⟩,HBT3.o⟩
theorem ZB5(l:LI):∀(inb:Bool) (i:Nat),ZM inb i l=-1∨((i:Int)<=ZM inb i l/\ZM inb i l<(i:Int)+l.length):=by
 induction l with
 | nil=>intro inb i;exact Xd rfl
 | cons c r ih=>
  intro inb i;rw[ZM];simp only[List.length_cons]
  split
  .rcases ih true (i+1)with h|h
   .exact Xd h
   .exact Xe (by omega)
  .split
   .rcases ih false (i+1)with h|h
    .exact Xd h
    .exact Xe (by omega)
   .split
    .exact Xe (by omega)
    .rcases ih inb (i+1)with h|h
     .exact Xd h
     .exact Xe (by omega)
theorem ZFj(l:LI):colon l=-1∨∃k:Nat,colon l=(k:Int)/\k<l.length:=by
 rcases ZB5 l false 0 with h|h
 .exact Xd h
 .exact Xe ⟨(colon l).toNat,by unfold colon;omega,by unfold colon;omega⟩
def ZB6(u:RU)(name:List Int):RU:={ u with his:=(hostOf name (Zg u.sch)).1,htx:=(hostOf name (Zg u.sch)).2.1 }
def ZzO(u:RU)(l:List Int):RU×Int:=
 if colon l=-1 then
  (if l=[]/\Zg u.sch=true then(u,2)else if(hostOf l (Zg u.sch)).2.2≠0 then(u,(hostOf l (Zg u.sch)).2.2)else(ZB6 u l,0))
 else
  (if l.take (colon l).toNat=[]then(u,2)else if(hostOf (l.take (colon l).toNat) (Zg u.sch)).2.2≠0 then(u,(hostOf (l.take (colon l).toNat) (Zg u.sch)).2.2)
  else if l.drop ((colon l).toNat+1)=[]then(ZB6 u (l.take (colon l).toNat),0)
  else if ZP (l.drop ((colon l).toNat+1))=false∨65535<value (l.drop ((colon l).toNat+1))then(ZB6 u (l.take (colon l).toNat),2)
  else({ ZB6 u (l.take (colon l).toNat)with port:=ZMj u.sch (value (l.drop ((colon l).toNat+1))) },0))
theorem RIs.setHost{w:World}{rb:Nat}{R:RR}{u:RU}{bs:LA}(hB:RB w rb R)(hR:RIs w R u bs)(is:Bool)(t:BA):RB ((w.setCell ⟨rb,3,none⟩ (C is)).setCell ⟨rb,4,none⟩ (J t)) rb { R with his:=is,htx:=t }/\RIs ((w.setCell ⟨rb,3,none⟩ (C is)).setCell ⟨rb,4,none⟩ (J t)) { R with his:=is,htx:=t } { u with his:=is,htx:=tl t } bs:=by
 have hk:Kp 130 w ((w.setCell ⟨rb,3,none⟩ (C is)).setCell ⟨rb,4,none⟩ (J t)):=But.kp (((But.refl rb w).set 3 _).set 4 _) hB
 exact⟨(hB.s3 is).s4 t,{ hR.kp hk with eq:=by rw[<-hR.eq];rfl }⟩
theorem RIs.setPort{w:World}{rb:Nat}{R:RR}{u:RU}{bs:LA}(hB:RB w rb R)(hR:RIs w R u bs)(n:Int):RB (w.setCell ⟨rb,5,none⟩ (I X n)) rb { R with port:=n }/\RIs (w.setCell ⟨rb,5,none⟩ (I X n)) { R with port:=n } { u with port:=n } bs:=by
 have hk:Kp 130 w (w.setCell ⟨rb,5,none⟩ (I X n)):=But.kp ((But.refl rb w).set 5 _) hB
 exact⟨hB.s5 n,{ hR.kp hk with eq:=by rw[<-hR.eq];rfl }⟩
def HostC(w:World)(hb:Nat)(is:Bool)(t:ByteArray):Prop:=w.heap[hb]?=some (O #[C is,J t] 128 (0,0))
theorem HostC.cells{w:World}{hb:Nat}{is:Bool}{t:BA}(h:HostC w hb is t):w.cell? ⟨hb,0,none⟩=some (C is)/\w.cell? ⟨hb,1,none⟩=some (J t):=by
 unfold HostC at h
 constructor<;>simp[World.cell?,h]
theorem ZFk(rb:Nat)(R:RR)(u:RU)(bs:LA)(v:Value)(l:LI)(w:World)(h:RB w rb R)(hr:RIs w R u bs)(hv:IntsAt w v l)(hl:l.length<=20000)(hp:∀c∈l,Pt c)(hc:colon l=-1):Calls prog 269 #[.pointer (some ⟨rb,0,none⟩),v] w fun e w'=>ZGi e w w' rb (ZzO u l):=by
 have HB:=A h;have HR:=A hr;have HV:=A hv;have HP:=A hp
 have HD:=A (show ZzO u l=if l=[]/\Zg (tl R.sch)=true then(u,2)else if(hostOf l (Zg (tl R.sch))).2.2≠0 then(u,(hostOf l (Zg (tl R.sch))).2.2)else({ u with his:=(hostOf l (Zg (tl R.sch))).1,htx:=(hostOf l (Zg (tl R.sch))).2.1 },0)by
  unfold ZzO ZB6;rw[ifP hc,hr.usch])
 obtain⟨c0,-⟩:=h.cells;obtain⟨ao,cap,hve,-⟩:=hv;subst hve;clear h hr hp
 go_enter func269,ntmps269
 go_wp2_with fail
 refine(ZO R.sch _).mono ?_
 rintro e w1 ⟨rfl,hn1⟩;have HN1:=A hn1;clear hn1 c0;generalize Zg (tl R.sch)=sp at *;go_wp2_with fail
 refine(ZlR _ l _ (HV.o.on HN1.o)).mono ?_
 rintro e w1' ⟨rfl,rfl⟩;rw[hc];clear hc
 by_cases h0:l=[]/\sp=true
 .have HE:=A (HD.o.trans (ifP h0))
  obtain⟨rfl,rfl⟩:=h0;clear HD;go_wp2;go_ret
  exact⟨by rw[HE.o];rfl,⟨_,bs,HB.o.on HN1.o,by rw[HE.o];exact HR.o.on HN1.o⟩,But.nx HN1.o⟩
 .have HD1:=A (HD.o.trans (ifN h0))
  have hcase:((l.length:Int)==0)=false∨(((l.length:Int)==0)=true/\sp=false):=by
   by_cases hl0:l=[]
   .right
    refine⟨by rw[hl0];rfl,?_⟩
    cases sp
    .rfl
    .exact absurd ⟨hl0,rfl⟩ h0
   .left
    exact beq_eq_false_iff_ne.2 (fun e=>hl0 (Xk (by omega)))
  clear HD h0;rcases hcase with hl0|⟨hl0,rfl⟩
  all_goals go_wp2_with fail
  all_goals refine(ZCw _ l _ _ (HV.o.on HN1.o) hl HP.o).mono ?_
  all_goals rintro e w2 ⟨t,rfl,ht,hn⟩
  all_goals have HT:=A ht
  all_goals have hN2:=HN1.o.then hn
  all_goals have hrl:rb<w2.heap.size:=(HB.o.on hN2).lt
  all_goals clear ht hn
  all_goals generalize hostOf l _=y at *
  all_goals obtain⟨is,tx,err⟩:=y
  all_goals simp only at HD1 HT
  all_goals go_upto_region 9 with fail
  all_goals have HH:=A (show HostC (w2.alloc (O #[C is,J t] 128)) w2.heap.size is t from heap_alloc_new w2 _)
  all_goals have HB2:=A (HB.o.on (hN2.alloc (O #[C is,J t] 128)))
  all_goals have HR2:=A (HR.o.on (hN2.alloc (O #[C is,J t] 128)))
  all_goals have HN2:=A (hN2.alloc (O #[C is,J t] 128))
  all_goals clear hN2
  all_goals (obtain⟨hb,hhb⟩:∃hb,hb=w2.heap.size:=⟨_,rfl⟩;rw[<-hhb]at HH hrl ⊢;generalize (w2.alloc (O #[C is,J t] 128))=w3 at *;clear hhb)
  all_goals obtain⟨hc0,hc1⟩:=HH.o.cells
  all_goals by_cases he:err=0
  all_goals first
   | (subst he
      have HE:=A (HD1.o.trans (ifN (by intro x;exact x rfl)))
      clear HD1;obtain⟨c0,c1,c2,c3,c4,c5,c6,c7,c8,c9,c10,c11,c12⟩:=HB2.o.cells;have f3:=HB2.o.free 3;have f4:=HB2.o.free 4;obtain⟨hB3,hR3⟩:=RIs.setHost HB2.o HR2.o is t;have HB3:=A hB3;have HR3:=A hR3;have HBT:=A (show But rb w ((w3.setCell ⟨rb,3,none⟩ (C is)).setCell ⟨rb,4,none⟩ (J t))from((But.nx HN2.o).set 3 _).set 4 _);clear hB3 hR3;go_wp2;go_ret
      exact⟨by rw[HE.o];rfl,⟨_,bs,HB3.o,by rw[HE.o,<-HT.o];exact HR3.o⟩,HBT.o⟩)
   | (have he1:(err==0)=false:=beq_eq_false_iff_ne.2 he
      have he2:(err != 0)=true:=bne_iff_ne.2 he;have HE:=A (HD1.o.trans (ifP he));clear he HD1;go_wp2;go_ret
      exact⟨by rw[HE.o];rfl,⟨_,bs,HB2.o,by rw[HE.o];exact HR2.o⟩,But.nx HN2.o⟩)
theorem ZFl(rb:Nat)(R:RR)(u:RU)(bs:LA)(v:Value)(l:LI)(k:Nat)(w:World)(h:RB w rb R)(hr:RIs w R u bs)(hv:IntsAt w v l)(hl:l.length<=20000)(hp:∀c∈l,Pt c)(hc:colon l=(k:Int))(hk:k<l.length):Calls prog 269 #[.pointer (some ⟨rb,0,none⟩),v] w fun e w'=>ZGi e w w' rb (ZzO u l):=by
 have HB:=A h;have HR:=A hr;have HV:=A hv
 have HP:=A (fun c (hc:c∈l.take k)=>hp c (Xf hc))
 have HUS:=A hr.usch
 have HD:=A (show ZzO u l=(if l.take k=[]then(u,2)else if(hostOf (l.take k) (Zg (tl R.sch))).2.2≠0 then(u,(hostOf (l.take k) (Zg (tl R.sch))).2.2)
  else if l.drop (k+1)=[]then({ u with his:=(hostOf (l.take k) (Zg (tl R.sch))).1,htx:=(hostOf (l.take k) (Zg (tl R.sch))).2.1 },0)
  else if ZP (l.drop (k+1))=false∨65535<value (l.drop (k+1))then({ u with his:=(hostOf (l.take k) (Zg (tl R.sch))).1,htx:=(hostOf (l.take k) (Zg (tl R.sch))).2.1 },2)
  else({ u with his:=(hostOf (l.take k) (Zg (tl R.sch))).1,htx:=(hostOf (l.take k) (Zg (tl R.sch))).2.1,port:=ZMj (tl R.sch) (value (l.drop (k+1))) },0))by
  unfold ZzO ZB6;rw[ifN (by omega),hc,hr.usch];rfl)
 obtain⟨c0,-⟩:=h.cells;obtain⟨b,off,cap,rfl,hlc,hcap,hrow⟩:=hv.open_ hk
 have HTK:=A (ZdB hrow hlc hcap k (by omega))
 have HDR:=A (ZD0 hrow hlc hcap (k+1) (by omega))
 unfold maxLen at hcap;clear h hr hp hv hrow
 go_enter func269,ntmps269
 go_wp2_with fail
 refine(ZO R.sch _).mono ?_
 rintro e w1 ⟨rfl,hn1⟩;have HN1:=A hn1;clear hn1 c0;generalize Zg (tl R.sch)=sp at *;go_wp2_with fail
 refine(ZlR _ l _ (HV.o.on HN1.o)).mono ?_
 rintro e w1' ⟨rfl,rfl⟩;rw[hc];clear hc;rcases Xo k with h0|hpos
 .have HE:=A (HD.o.trans (ifP (by rw[h0];rfl)))
  have h0':((k:Int)==0)=true:=by rw[h0];rfl
  clear HD h0
  cases sp
  all_goals go_wp2
  all_goals go_ret
  all_goals exact⟨by rw[HE.o];rfl,⟨_,bs,HB.o.on HN1.o,by rw[HE.o];exact HR.o.on HN1.o⟩,But.nx HN1.o⟩
 .have h0':((k:Int)==0)=false:=beq_eq_false_iff_ne.2 (by omega)
  have HD1:=A (HD.o.trans (ifN (fun e=>by have:=congrArg List.length e;rw[Xi,Xc]at this;omega)))
  clear HD;go_wp2_with fail
  refine(ZCw _ (l.take k) _ _ (HTK.o.on HN1.o) (by rw[Xi];omega) HP.o).mono ?_
  rintro e w2 ⟨t,rfl,ht,hn⟩;have HT:=A ht;have hN2:=HN1.o.then hn;have hrl:rb<w2.heap.size:=(HB.o.on hN2).lt;clear ht hn;generalize hostOf (l.take k) _=y at *;obtain⟨is,tx,err⟩:=y;simp only at HD1 HT;go_upto_region 9 with fail;have HH:=A (show HostC (w2.alloc (O #[C is,J t] 128)) w2.heap.size is t from heap_alloc_new w2 _);have HB2:=A (HB.o.on (hN2.alloc (O #[C is,J t] 128)));have HR2:=A (HR.o.on (hN2.alloc (O #[C is,J t] 128)));have HN2:=A (hN2.alloc (O #[C is,J t] 128));clear hN2;obtain⟨hb,hhb⟩:∃hb,hb=w2.heap.size:=⟨_,rfl⟩;rw[<-hhb]at HH hrl ⊢;generalize (w2.alloc (O #[C is,J t] 128))=w3 at *;clear hhb;obtain⟨hc0,hc1⟩:=HH.o.cells
  by_cases he:err=0
  .subst he
   have HD2:=A (HD1.o.trans (ifN (by intro x;exact x rfl)))
   clear HD1;obtain⟨c0,c1,c2,c3,c4,c5,c6,c7,c8,c9,c10,c11,c12⟩:=HB2.o.cells;have f3:=HB2.o.free 3;have f4:=HB2.o.free 4;obtain⟨hB3,hR3⟩:=RIs.setHost HB2.o HR2.o is t;have HB3:=A hB3
   have HR3:=A (show RIs _ _ { u with his:=is,htx:=tx } bs by rw[<-HT.o];exact hR3)
   have HBT:=A (show But rb w ((w3.setCell ⟨rb,3,none⟩ (C is)).setCell ⟨rb,4,none⟩ (J t))from((But.nx HN2.o).set 3 _).set 4 _);have HKP:=A (show Kp 130 w ((w3.setCell ⟨rb,3,none⟩ (C is)).setCell ⟨rb,4,none⟩ (J t))from HBT.o.kp HB.o);clear hB3 hR3;go_upto_region 12 with fail;generalize ((w3.setCell ⟨rb,3,none⟩ (C is)).setCell ⟨rb,4,none⟩ (J t))=w4 at *;clear c0 c1 c2 c3 c4 c5 c6 c7 c8 c9 c10 c11 c12 f3 f4 hc0 hc1 HH
   have HDR4:=A (HDR.o.kp HKP.o (by decide))
   by_cases hend:k+1=l.length
   focus
    have HE:=A (HD2.o.trans (ifP (Xl (by omega))))
    have hend':((k:Int)+1==(l.length:Int))=true:=by rw[<-hend];simp
    clear hend HD2
   rotate_left
   focus
    have HD3:=A (HD2.o.trans (ifN (fun e=>by have:=congrArg List.length e;rw[Xj,Xc]at this;omega)))
    have hend':((k:Int)+1==(l.length:Int))=false:=beq_eq_false_iff_ne.2 (by omega)
    have hcne:¬cap=k+1:=by omega
    have HDR5:=A (show IntsAt w4 (.slice (some ⟨b,off+(k+1),none⟩) (l.length-(k+1)) (cap-(k+1))) (l.drop (k+1))by have h:=HDR4.o;rw[ifN hcne]at h;exact h)
    have HSH:=A HR3.o.usch;simp only at HSH;clear HD2 HDR HDR4 HTK HV;go_wp2_with fail
    refine(ZaN _ (l.drop (k+1)) _ HDR5.o).mono ?_
    rintro e w4' ⟨rfl,rfl⟩;go_wp2_with fail
    refine(ZsU _ (l.drop (k+1)) _ HDR5.o).mono ?_
    rintro e w4' ⟨n,rfl,hn,rfl⟩
    have HNV:=A (show ZP (l.drop (k+1))=true->n=value (l.drop (k+1))from fun ha=>hn (by unfold ZP at ha;simp only[Bool.and_eq_true]at ha;exact ha.1))
    clear hn
    cases ha:ZP (l.drop (k+1))
    focus
     have HE:=A (HD3.o.trans (ifP (Xd ha)));clear HD3 ha
    rotate_left
    focus
     have HNV2:=A (HNV.o ha)
     by_cases h6:65535<n
     focus
      have HE:=A (HD3.o.trans (ifP (Xe (by rw[<-HNV2.o];exact h6))))
      clear HD3 ha
     rotate_left
     .have HE:=A (HD3.o.trans (ifN (by rintro(x|x);rw[ha]at x;cases x;rw[<-HNV2.o]at x;exact h6 x)))
      clear HD3 ha;go_wp2_with fail
      refine(ZLc rb _ n _ HB3.o).mono ?_
      rintro e w5 ⟨rfl,hn5⟩;have HB5:=A (HB3.o.on hn5);have HR5:=A (HR3.o.on hn5);have HBT5:=A (HBT.o.then (But.nx hn5));clear hn5 HB3 HR3 HBT;obtain⟨-,-,-,-,-,c5,-⟩:=HB5.o.cells;have f5:=HB5.o.free 5;simp only at c5;rw[HNV2.o]at *;obtain⟨hB6,hR6⟩:=RIs.setPort HB5.o HR5.o (ZMj (tl R.sch) (value (l.drop (k+1))));have HB6:=A hB6;have HR6:=A hR6;have HBT6:=A (HBT5.o.set 5 (I X (ZMj (tl R.sch) (value (l.drop (k+1))))));clear hB6 hR6;go_wp2;go_ret
      exact⟨by rw[HE.o];rfl,⟨_,bs,HB6.o,by rw[HE.o];exact HR6.o⟩,HBT6.o⟩
   all_goals
    go_wp2;go_ret
    exact⟨by rw[HE.o];rfl,⟨_,bs,HB3.o,by rw[HE.o];exact HR3.o⟩,HBT.o⟩
  .have he1:(err==0)=false:=beq_eq_false_iff_ne.2 he
   have he2:(err != 0)=true:=bne_iff_ne.2 he;have HE:=A (HD1.o.trans (ifP he));clear he HD1;go_wp2;go_ret
   exact⟨by rw[HE.o];rfl,⟨_,bs,HB2.o,by rw[HE.o];exact HR2.o⟩,But.nx HN2.o⟩
theorem ZEB(rb:Nat)(R:RR)(u:RU)(bs:LA)(v:Value)(l:LI)(w:World)(h:RB w rb R)(hr:RIs w R u bs)(hv:IntsAt w v l)(hl:l.length<=20000)(hp:∀c∈l,Pt c):Calls prog 269 #[.pointer (some ⟨rb,0,none⟩),v] w fun e w'=>ZGi e w w' rb (ZzO u l):=by
 rcases ZFj l with hc|⟨k,hc,hk⟩
 .exact ZFk rb R u bs v l w h hr hv hl hp hc
 .exact ZFl rb R u bs v l k w h hr hv hl hp hc hk
def ZC0:List UInt8:=[32,34,35,60,62,63,94,96,123,125,47,58,59,61,64,91,92,93,124]
def ZAJ(sch:List UInt8)(l:List Int):List Int:=if Zg sch=true then l.dropWhile (fun c=>among c (tl (Zn sch)))else l
def ZBf(l:List Int):Nat->Int
 | 0=>-1
 | k+1=>if l[k]?=some 64 then(k:Int)else ZBf l k
theorem ZH8(l:LI):∀k,ZBf l k=-1∨∃j:Nat,ZBf l k=(j:Int)/\j<k:=by
 intro k
 induction k with
 | zero=>exact Xd rfl
 | succ k ih=>
  rw[ZBf]
  split
  .exact Xe ⟨k,rfl,by omega⟩
  .rcases ih with h|⟨j,h,hj⟩
   .exact Xd h
   .exact Xe ⟨j,h,by omega⟩
def ZAf(who:List Int):Int:=ZBf who who.length
def ZI5(u:RU)(who:List Int):RU:=if ZAf who=-1 then u else { u with user:=encoded (cut (who.take (ZAf who).toNat) [58]).1 ZC0,pass:=encoded (cut (who.take (ZAf who).toNat) [58]).2.1 ZC0 }
def Zz1(who:List Int):List Int:=if ZAf who=-1 then who else who.drop ((ZAf who).toNat+1)
def ZC2(q:RU×Int)(sch:List UInt8)(rest:List Int)(b:Bool):RU×Int:=if q.2≠0 then q else if b=true then({ q.1 with path:=walked sch [] rest },0)else(q.1,0)
def ZzE(u:RU)(l:List Int):RU×Int:=
 if ZAf (cut (ZAJ u.sch l) (tl (Zn u.sch))).1≠-1/\Zz1 (cut (ZAJ u.sch l) (tl (Zn u.sch))).1=[]then(ZI5 u (cut (ZAJ u.sch l) (tl (Zn u.sch))).1,2)
 else ZC2 (ZzO (ZI5 u (cut (ZAJ u.sch l) (tl (Zn u.sch))).1) (Zz1 (cut (ZAJ u.sch l) (tl (Zn u.sch))).1)) u.sch (cut (ZAJ u.sch l) (tl (Zn u.sch))).2.1 ((cut (ZAJ u.sch l) (tl (Zn u.sch))).2.2||Zg u.sch)
theorem ZEC(u:RU)(l:LI):(ZzO u l).1.sch=u.sch:=by
 unfold ZzO
 repeat (first|rfl|split)
theorem ZLd(u:RU)(l:LI):(ZI5 u l).sch=u.sch:=by
 unfold ZI5
 split<;>rfl
theorem ZJx(sch:LB)(l:LI):(ZAJ sch l).length<=l.length:=by
 unfold ZAJ
 split
 .exact(Xm _).length_le
 .exact Xg _
theorem ZFm{sch:LB}{l:LI}{c:Int}(h:c∈ZAJ sch l):c∈l:=by
 unfold ZAJ at h
 split at h
 .exact(Xm _).subset h
 .exact h
theorem ZA8(rb:Nat)(R:RR)(u:RU)(bs:LA)(v:Value)(l:LI)(w:World)(h:RB w rb R)(hr:RIs w R u bs)(hv:IntsAt w v l)(hl:l.length<=20000)(hp:∀c∈l,Pt c):Calls prog 231 #[.pointer (some ⟨rb,0,none⟩),v] w fun e w'=>ZGi e w w' rb (ZzE u l):=by
 have HUS:=A hr.usch;have HB:=A h;have HR:=A hr;have HV:=A hv;have HP:=A hp;obtain⟨c0,-⟩:=h.cells;clear h hr hp hv
 go_enter func231,ntmps231
 go_wp2_with fail
 refine(ZO R.sch _).mono ?_
 rintro e w1 ⟨rfl,hn1⟩;have HN1:=A hn1;clear hn1 c0;obtain⟨sp,hsp⟩:∃sp,sp=Zg (tl R.sch):=⟨_,rfl⟩;rw[<-hsp];have HSP:=A hsp;clear hsp
 have HPD:=A (show ∀m,ZAJ (tl R.sch) m=if sp=true then m.dropWhile (fun c=>among c (tl (Zn (tl R.sch))))else m from fun m=>by rw[HSP.o];rfl)
 go_upto_block 0 with fail
 go_cut [1,6]from 22 to 37 (fun x _ wx=>∃m,IntsAt wx x m/\ZAJ (tl R.sch) l=m/\Nx w wx)
 case first=>
  go_wp2_with fail
  go_loopw [1,6] (fun x _ wr=>∃m,IntsAt wr x m/\ZAJ (tl R.sch) l=ZAJ (tl R.sch) m/\Nx w wr) (fun x _ _=>Zbl x)
  case atStart=>exact⟨l,HV.o.on HN1.o,rfl,HN1.o⟩
  case round=>
   obtain⟨m,hm,hE,hnx⟩:=hrel;have HM:=A hm;have HE:=A hE;have HN:=A hnx;clear hE hnx
   cases sp
   .have HQ:=A (HE.o.trans ((HPD.o m).trans (ifN (by decide))))
    clear hm;go_wp2
    go_meet
    case rel=>exact⟨m,HM.o,HQ.o,HN.o⟩
   .match m,hm,HM,HE with
    | [],hm,HM,HE=>
     obtain⟨ao,cap,rfl,hlc,hcap,-,-⟩:=hm
     have HQ:=A (HE.o.trans ((HPD.o []).trans (ifP (by trivial))))
     unfold maxLen at hcap;go_wp2
     go_meet
     case rel=>exact⟨[],HM.o,HQ.o,HN.o⟩
    | c::r,hm,HM,HE=>
     obtain⟨b,off,cap,rfl,hlc,hcap,hrow⟩:=hm.open_ (k:=0) (by simp)
     have HQ:=A (HPD.o (c::r));have HTL:=A (Zjo hrow hlc hcap);have HC0:=A ((HB.o.on HN.o).cells.1);have c0:=HC0.o
     have hlc':r.length+1<=cap:=by simpa using hlc
     unfold maxLen at hcap;clear hrow hm;go_wp2_with fail
     refine(Zbd _ (c::r) 0 R.sch _ HM.o).mono ?_
     rintro e w2 ⟨rfl,hn2⟩;have HN2:=A (HN.o.then hn2);have HM2:=A (HM.o.on hn2);have HTL2:=A (HTL.o.on hn2);clear hn2 c0;rw[show Zq (c::r) 0 (tl R.sch)=among c (tl (Zn (tl R.sch)))from rfl]
     cases ha:among c (tl (Zn (tl R.sch)))
     .have HR1:=A (show ZAJ (tl R.sch) l=c::r by rw[HE.o,HQ.o,ifP (by trivial),Xn,ifN (by rw[ha];decide)])
      clear ha;go_wp2
      go_meet
      case rel=>exact⟨_,HM2.o,HR1.o,HN2.o⟩
     .have HR1:=A (show ZAJ (tl R.sch) l=ZAJ (tl R.sch) r by rw[HE.o,HQ.o,HPD.o r,ifP (by trivial),ifP (by trivial),Xn,ifP ha])
      clear ha;go_wp2
      go_roundw
      exact⟨r,by simpa using HTL2.o,HR1.o,HN2.o⟩
      simp[Zbl]
 case rest=>
  obtain⟨m,hm,hE,hn2⟩:=hcut;have hml:=ZJx (tl R.sch) l
  have HMP:=A (fun c (h:c∈m)=>HP.o c (ZFm (sch:=tl R.sch) (by rw[hE];exact h)))
  have HD:=A (show ZzE u l=if ZAf (cut m (tl (Zn (tl R.sch)))).1≠-1/\Zz1 (cut m (tl (Zn (tl R.sch)))).1=[]then(ZI5 u (cut m (tl (Zn (tl R.sch)))).1,2)
   else ZC2 (ZzO (ZI5 u (cut m (tl (Zn (tl R.sch)))).1) (Zz1 (cut m (tl (Zn (tl R.sch)))).1)) (tl R.sch) (cut m (tl (Zn (tl R.sch)))).2.1 ((cut m (tl (Zn (tl R.sch)))).2.2||sp)by
   rw[<-hE,HSP.o,HUS.o];rfl)
  rw[hE]at hml;have HM:=A hm;have HN2:=A hn2;clear hm hE hn2 HPD HN1;have c0:=(HB.o.on HN2.o).cells.1;go_wp2_with fail
  refine(Zeg R.sch _).mono ?_
  rintro e w3 ⟨rfl,hn3⟩;have hsl:=Zef (tl R.sch);have HN3:=A (HN2.o.then hn3);have HM3:=A (HM.o.on hn3);clear hn3 c0 HM HN2;generalize Zn (tl R.sch)=sl at *
  have HMC:=A (fun c (h:c∈(cut m (tl sl)).1)=>HMP.o c (Zy (Xd h)))
  have HMD:=A (fun c (h:c∈(cut m (tl sl)).2.1)=>HMP.o c (Zy (Xe h)))
  have hcl:=(Zbc m (tl sl)).1;go_wp2_with fail
  refine(ZbY _ m sl _ (Ze (by omega)) HM3.o).mono ?_
  rintro e w4 ⟨v1,v2,rfl,h1,h2,hn4⟩;generalize cut m (tl sl)=cc at *;obtain⟨who,rest,ok⟩:=cc;simp only at *;have H2:=A h2;have HN4:=A (HN3.o.then hn4);clear h2 hn4 HN3 HM3;have H1:=A h1;obtain⟨ao,cap,hve,hlc,hcap,hnone,hsome⟩:=h1;subst hve;unfold maxLen at hcap;go_wp2
  go_loopw [11,12] (fun x i wr=>∃k:Nat,k<=who.length/\i=I X k/\x=I X (ZBf who k)/\wr=w4) (fun _ i _=>who.length-(intOf i).toNat)
  case atStart=>exact⟨0,Nat.zero_le _,rfl,rfl,rfl⟩
  case round=>
   obtain⟨k,hk,rfl,rfl,rfl⟩:=hrel
   by_cases hlt:k<who.length
   .obtain⟨a,ha⟩:=Zv hlt hnone
    subst ha;obtain⟨b,off,rfl,hrow⟩:=hsome a rfl;have hck:=hrow.cell hlt;clear hnone hsome hrow
    have HLS:=A (show ZBf who (k+1)=if who[k]=64 then(k:Int)else ZBf who k by rw[ZBf,List.getElem?_eq_getElem hlt];simp)
    cases h64:(who[k]==64)
    focus
     have HL2:=A (HLS.o.trans (ifN (by simpa using h64)))
    rotate_left
    focus
     have HL2:=A (HLS.o.trans (ifP (by simpa using h64)))
    all_goals
     go_wp2
     go_roundw
     exact⟨k+1,by omega,by go_num,by rw[HL2.o],by trivial⟩
     simp[intOf];omega
   .have hk2:k=who.length:=by omega
    subst hk2;clear hlt hnone hsome hk;rw[show ZBf who who.length=ZAf who from rfl];have HAT:=A (show ZAf who=-1∨∃j:Nat,ZAf who=(j:Int)/\j<who.length from ZH8 who who.length);obtain⟨w4,hw4⟩:∃w4,w4=wr:=⟨_,rfl⟩;subst hw4
    go_upto_if 63 with fail
    go_cut [8,11,13,14,15]from 17 (fun x _ _ _ _ wx=>(∃R',RB wx rb R'/\RIs wx R' (ZI5 u who) bs)/\IntsAt wx x (Zz1 who)/\IntsAt wx v2 rest/\But rb w wx/\¬(ZAf who≠-1/\Zz1 who=[]))
    case first=>
     rcases HAT.o with hat|⟨j,hat,hj⟩
     .have HQ1:=A (show ZI5 u who=u from ifP hat)
      have HQ2:=A (show Zz1 who=who from ifP hat)
      have HQ3:=A (show ¬(ZAf who≠-1/\Zz1 who=[])from fun x=>x.1 hat)
      rw[hat];clear hat;go_wp2
      go_meet
      case rel=>exact⟨⟨R,HB.o.on HN4.o,by rw[HQ1.o];exact HR.o.on HN4.o⟩,by rw[HQ2.o];exact H1.o,H2.o,But.nx HN4.o,HQ3.o⟩
     .have HQ1:=A (show ZI5 u who={ u with user:=encoded (cut (who.take j) [58]).1 ZC0,pass:=encoded (cut (who.take j) [58]).2.1 ZC0 }by unfold ZI5;rw[ifN (by omega),hat];rfl)
      have HQ2:=A (show Zz1 who=who.drop (j+1)by unfold Zz1;rw[ifN (by omega),hat];rfl)
      have HQ3:=A (show ZAf who≠-1 by omega)
      rw[hat];obtain⟨b,off,cap',he,hlc',hcap',hrow⟩:=H1.o.open_ hj;simp only[Value.slice.injEq]at he;obtain⟨rfl,-,rfl⟩:=he
      have HTK:=A (ZdB hrow hlc' hcap' j (by omega))
      have HDR:=A (ZD0 hrow hlc' hcap' (j+1) (by omega))
      have HPT:=A (fun c (h:c∈(cut (who.take j) [58]).1)=>HMC.o c (Xf (Zy (Xd h))))
      have HPU:=A (fun c (h:c∈(cut (who.take j) [58]).2.1)=>HMC.o c (Xf (Zy (Xe h))))
      have hcl2:=(Zbc (who.take j) [58]).1;rw[Xi]at hcl2;clear hat hrow hcap' hlc';go_wp2_with fail
      refine(ZbY _ (who.take j) ⟨#[58]⟩ _ (Ze (by decide)) HTK.o).mono ?_
      rintro e w5 ⟨n1,n2,rfl,h1,h2,hn5⟩;rw[show tl (⟨#[58]⟩:BA)=[58]from rfl]at *;generalize cut (who.take j) [58]=cc at *;obtain⟨cn,cp,okc⟩:=cc;simp only at *;have K1:=A h1;have K2:=A h2;have HN5:=A (HN4.o.then hn5);have HR5:=A (H2.o.on hn5);have HDR5:=A (HDR.o.on hn5);clear h1 h2 hn5 HTK HDR;go_wp2_with fail
      refine(Z5 _ cn _ _ K1.o (Ze (by decide)) (by omega) HPT.o).mono ?_
      rintro e w6 ⟨nt,rfl,hnt,hn6⟩;have HNT:=A (show tl nt=encoded cn ZC0 from hnt);have hN6:=HN5.o.then hn6;have K26:=A (K2.o.on hn6);have HR6:=A (HR5.o.on hn6);have HDR6:=A (HDR5.o.on hn6);have HB6:=A (HB.o.on hN6);have HI6:=A (HR.o.on hN6);have HN6:=A hN6;clear hnt hn6 hN6 K1 K2 HR5 HDR5 HN5;obtain⟨-,c1,-⟩:=HB6.o.cells;have f1:=HB6.o.free 1;go_upto_region 17 with fail;have HB7:=A (HB6.o.s1 nt);have HBT7:=A (show But rb w (w6.setCell ⟨rb,1,none⟩ (J nt))from(But.nx HN6.o).set 1 _);have hkp:Kp 130 w6 (w6.setCell ⟨rb,1,none⟩ (J nt)):=But.kp ((But.refl rb w6).set 1 _) HB6.o
      have HI7:=A (show RIs (w6.setCell ⟨rb,1,none⟩ (J nt)) { R with user:=nt } { u with user:=encoded cn ZC0 } bs from { HI6.o.kp hkp with eq:=by rw[<-HNT.o,<-HI6.o.eq];rfl })
      have K27:=A (K26.o.kp hkp (by decide))
      have HR7:=A (HR6.o.kp hkp (by decide))
      have HDR7:=A (HDR6.o.kp hkp (by decide))
      clear c1 f1 hkp K26 HR6 HDR6 HB6 HI6 HN6;generalize w6.setCell ⟨rb,1,none⟩ (J nt)=w7 at *;go_wp2_with fail
      refine(Z5 _ cp _ _ K27.o (Ze (by decide)) (by omega) HPU.o).mono ?_
      rintro e w8 ⟨pt,rfl,hpt,hn8⟩;have HPT8:=A (show tl pt=encoded cp ZC0 from hpt);have HB8:=A (HB7.o.on hn8);have HI8:=A (HI7.o.on hn8);have HR8:=A (HR7.o.on hn8);have HDR8:=A (HDR7.o.on hn8);have HBT8:=A (HBT7.o.then (But.nx hn8));clear hpt hn8 K27 HR7 HDR7 HB7 HI7 HBT7;obtain⟨-,-,c2,-⟩:=HB8.o.cells;have f2:=HB8.o.free 2;go_upto_region 18 with fail;have HB9:=A (HB8.o.s2 pt);have HBT9:=A (show But rb w (w8.setCell ⟨rb,2,none⟩ (J pt))from HBT8.o.set 2 _);have hkp:Kp 130 w8 (w8.setCell ⟨rb,2,none⟩ (J pt)):=But.kp ((But.refl rb w8).set 2 _) HB8.o
      have HI9:=A (show RIs (w8.setCell ⟨rb,2,none⟩ (J pt)) { R with user:=nt,pass:=pt } { u with user:=encoded cn ZC0,pass:=encoded cp ZC0 } bs from { HI8.o.kp hkp with eq:=by rw[<-HPT8.o,<-HNT.o,<-(HR.o).eq];rfl })
      have HR9:=A (HR8.o.kp hkp (by decide))
      have HDR9:=A (HDR8.o.kp hkp (by decide))
      clear c2 f2 hkp HR8 HDR8 HB8 HI8 HBT8;generalize w8.setCell ⟨rb,2,none⟩ (J pt)=w9 at *
      by_cases hend:j+1=who.length
      .have HE:=A (HD.o.trans (ifP ⟨HQ3.o,by rw[HQ2.o];exact Xl (by omega)⟩))
       have hl0:((who.length:Int)-((j:Int)+1)==0)=true:=by rw[<-hend];simp
       have hl1:(((who.length-(j+1):Nat):Int)==0)=true:=by rw[<-hend];simp
       clear hend HD;go_wp2
       all_goals go_ret
       all_goals exact⟨by rw[HE.o];rfl,⟨_,bs,HB9.o,by rw[HE.o,HQ1.o];exact HI9.o⟩,HBT9.o⟩
      .have hcne:¬cap=j+1:=by omega
       have HQ4:=A (show ¬(ZAf who≠-1/\Zz1 who=[])from fun x=>by have h:=x.2;rw[HQ2.o]at h;have:=congrArg List.length h;rw[Xj,Xc]at this;omega)
       have hl0:((who.length:Int)-((j:Int)+1)==0)=false:=beq_eq_false_iff_ne.2 (by omega)
       have hl1:(((who.length-(j+1):Nat):Int)==0)=false:=beq_eq_false_iff_ne.2 (by omega)
       have HDR10:=A (show IntsAt w9 (.slice (some ⟨b,off+(j+1),none⟩) (who.length-(j+1)) (cap-(j+1))) (who.drop (j+1))by have h:=HDR9.o;rw[ifN hcne]at h;exact h)
       clear hend HDR9;go_wp2
       go_meet
       case rel=>exact⟨⟨_,HB9.o,by rw[HQ1.o];exact HI9.o⟩,by rw[HQ2.o];exact HDR10.o,HR9.o,HBT9.o,HQ4.o⟩
    case rest=>
     obtain⟨⟨R',hB,hR⟩,hx,h2,hbt,hne⟩:=hcut;have HE:=A (HD.o.trans (ifN hne));have HB2:=A hB;have HR2:=A hR;have HX:=A hx;have HRE:=A h2;have HBT:=A hbt
     have hwl:(Zz1 who).length<=20000:=by
      unfold Zz1
      split
      .omega
      .rw[Xj];omega
     have HWP:=A (show ∀c∈Zz1 who,Pt c from fun c hc=>HMC.o c (by unfold Zz1 at hc;split at hc;exact hc;exact List.mem_of_mem_drop hc))
     have HSC:=A (ZLd u who);clear hB hR hx h2 hbt hne HD HAT HMC H1 H2 HN4;generalize ZI5 u who=uw at *;generalize Zz1 who=wr2 at *;go_wp2_with fail
     refine(ZEB rb R' uw bs _ wr2 _ HB2.o HR2.o HX.o hwl HWP.o).mono ?_
     rintro e w10 ⟨rfl,⟨R3,bs3,hB3,hR3⟩,hbt3⟩;have hkp:=hbt3.kp HB2.o
     have HRE3:=A (HRE.o.kp hkp (by decide))
     have HSC3:=A ((ZEC uw wr2).trans HSC.o);have HB3:=A hB3;have HR3:=A hR3;have HBT3:=A (HBT.o.then hbt3);clear hB3 hR3 hbt3 hkp HB2 HR2 HX HRE HBT HWP HSC;generalize ZzO uw wr2=y at *;obtain⟨y,err⟩:=y;simp only at HR3 HSC3
     have HD2:=A (show ZzE u l=if err≠0 then(y,err)else if(ok||sp)=true then({ y with path:=walked (tl R.sch) [] rest },0)else(y,0)from HE.o)
     clear HE
     by_cases he:err=0
     focus
      subst he
      have HD3:=A (HD2.o.trans (ifN (by intro x;exact x rfl)))
      clear HD2
      cases hb:(ok||sp)
      focus
       have HE:=A (HD3.o.trans (ifN (by rw[hb];decide)))
       rw[Bool.or_eq_false_iff]at hb;obtain⟨rfl,rfl⟩:=hb;clear HD3
      rotate_left
      .have HE:=A (HD3.o.trans (ifP hb))
       rw[Bool.or_eq_true]at hb
       have hok:ok=true∨(ok=false/\sp=true):=by
        rcases hb with h|h
        .exact Xd h
        .cases ok
         .exact Xe ⟨rfl,h⟩
         .exact Xd rfl
       clear HD3 hb
       have hrl:rest.length<=20000:=by omega
       rcases hok with rfl|⟨rfl,rfl⟩
       all_goals
        go_wp2_with fail
        refine(Zzw rb R3.sch (.slice none 0 0) [] v2 rest w10.heap.size _ HB3.o.sch (Xg _) (ZzQ _ _) (by simp) (by simp) HRE3.o (by omega) HMD.o).mono ?_
        rintro e w11 ⟨v',bs',rfl,ho,hwe,hbl,hbs,hbel,-⟩;have hnx:Nx w10 w11:=hbel
        obtain⟨ao2,n2,cp2,rfl,hB4,hR4⟩:=RIs.setPath (HB3.o.on hnx) (HR3.o.on hnx) (Zaz ho HR3.o.fw) (by simp only[Xc]at hbl;omega) hbs
        have HB4:=A hB4;have HR4:=A hR4
        have HWE:=A (show bs'.map tl=walked (tl R.sch) [] rest by rw[hwe,HR3.o.usch,HSC3.o,HUS.o];rfl)
        have HBT4:=A (show But rb w (w11.setCell ⟨rb,6,none⟩ (.slice ao2 n2 cp2))from(HBT3.o.then (But.nx hnx)).set 6 _);obtain⟨-,-,-,-,-,-,k6,-⟩:=(HB3.o.on hnx).cells;have f6:=(HB3.o.on hnx).free 6;clear ho hwe hbl hbs hbel hnx hB4 hR4;go_wp2;go_ret
        exact⟨by rw[HE.o];rfl,⟨_,bs',HB4.o,by rw[HE.o];have h:=HR4.o;rw[HWE.o]at h;exact h⟩,HBT4.o⟩
     rotate_left
     focus
      have he1:(err==0)=false:=beq_eq_false_iff_ne.2 he;have he2:(err != 0)=true:=bne_iff_ne.2 he;have HE:=A (HD2.o.trans (ifP he));clear he HD2
     all_goals
      go_wp2;go_ret
      exact⟨by rw[HE.o];rfl,⟨_,bs3,HB3.o,by rw[HE.o];exact HR3.o⟩,HBT3.o⟩
def ZDl(u base:RU):RU:={ u with path:=base.path,hq:=u.hq||base.hq,q:=if u.hq=true then u.q else base.q }
theorem RIs.seg'{w:World}{R:RR}{u:RU}{bs:LA}(h:RIs w R u bs):(R.po=none/\R.pn=0/\R.pc=0/\bs=[])∨∃b off,R.po=some ⟨b,off,none⟩/\R.pn=bs.length/\bs.length<=R.pc/\R.pc<=maxLen/\RowAt 9 Value.string w b off bs:=by
 obtain⟨ao,cap,he,h1,h2,h3,h4⟩:=h.seg.1;simp only[Value.slice.injEq]at he;obtain⟨e1,e2,e3⟩:=he;subst e1 e3
 cases hp:R.po with
 | none=>
  obtain⟨k1,k2⟩:=h3 hp
  exact Xd ⟨rfl,by rw[e2,k1];rfl,k2,k1⟩
 | some a=>
  obtain⟨b,off,rfl,hr⟩:=h4 a hp;exact Xe ⟨b,off,rfl,e2,h1,h2,hr⟩
theorem RIs.setQuery{w:World}{rb:Nat}{R:RR}{u:RU}{bs:LA}(hB:RB w rb R)(hR:RIs w R u bs)(x:Bool)(t:BA):RB ((w.setCell ⟨rb,9,none⟩ (C x)).setCell ⟨rb,10,none⟩ (J t)) rb { R with hq:=x,q:=t }/\RIs ((w.setCell ⟨rb,9,none⟩ (C x)).setCell ⟨rb,10,none⟩ (J t)) { R with hq:=x,q:=t } { u with hq:=x,q:=tl t } bs:=by
 have hk:Kp 130 w ((w.setCell ⟨rb,9,none⟩ (C x)).setCell ⟨rb,10,none⟩ (J t)):=But.kp (((But.refl rb w).set 9 _).set 10 _) hB
 exact⟨(hB.s9 x).s10 t,{ hR.kp hk with eq:=by rw[<-hR.eq];rfl }⟩
theorem ZFn(rb qb:Nat)(R Q:RR)(u base:RU)(bs cs:LA)(w:World)(h:RB w rb R)(hr:RIs w R u bs)(hq:RB w qb Q)(hqr:RIs w Q base cs)(hne:qb≠rb):Calls prog 233 #[.pointer (some ⟨rb,0,none⟩),.pointer (some ⟨qb,0,none⟩)] w fun e w'=>e=Y (.tuple #[])/\(∃R',RB w' rb R'/\RIs w' R' (ZDl u base) cs)/\But rb w w':=by
 have HB:=A h;have HR:=A hr;have HQ:=A hq;have HQR:=A hqr
 have HD:=A (show ZDl u base={ u with path:=base.path,hq:=R.hq||Q.hq,q:=if R.hq=true then tl R.q else tl Q.q }by unfold ZDl;rw[<-hr.eq,<-hqr.eq];rfl)
 obtain⟨c0,c1,c2,c3,c4,c5,c6,c7,c8,c9,c10,c11,c12⟩:=h.cells;obtain⟨d0,d1,d2,d3,d4,d5,d6,d7,d8,d9,d10,d11,d12⟩:=hq.cells;have f6:=h.free 6;have hlen:=hqr.lsegs;have HLS:=A hqr.lseg
 have key:∀(w2:World) (v':Value),ZbK w2 w.heap.size v' cs->Nx w w2->∃ao n c,v'=.slice ao n c/\RB (w2.setCell ⟨rb,6,none⟩ (.slice ao n c)) rb { R with po:=ao,pn:=n,pc:=c }/\RIs (w2.setCell ⟨rb,6,none⟩ (.slice ao n c)) { R with po:=ao,pn:=n,pc:=c } { u with path:=base.path } cs/\But rb w (w2.setCell ⟨rb,6,none⟩ (.slice ao n c))/\RB (w2.setCell ⟨rb,6,none⟩ (.slice ao n c)) qb Q/\w2.frozen? ⟨rb,6,none⟩=false/\∃x,w2.cell? ⟨rb,6,none⟩=some x:=by
  intro w2 v' ho hn
  obtain⟨ao,n,c,rfl,k1,k2⟩:=RIs.setPath (HB.o.on hn) (HR.o.on hn) (Zaz ho HR.o.fw) (by omega) HLS.o
  have hbt:But rb w (w2.setCell ⟨rb,6,none⟩ (.slice ao n c)):=(But.nx hn).set 6 _
  refine⟨ao,n,c,rfl,k1,?_,hbt,HQ.o.but hbt hne,(HB.o.on hn).free 6,_,(HB.o.on hn).cells.2.2.2.2.2.2.1⟩
  have e:base.path=cs.map tl:=by rw[<-HQR.o.eq];rfl
  rw[e];exact k2
 have KEY:=A key;clear key;rcases hqr.seg' with⟨e1,e2,e3,rfl⟩|⟨b,off,e1,e2,hlc,hcap,hrow⟩
 focus
  rw[e1,e2,e3]at d6;obtain⟨ao,n,cp,hve,hB2,hR2,hbt2,hQ2,ff6,x6,cc6⟩:=KEY.o w (.slice none 0 0) (ZzQ _ _) Nx.rfl;simp only[Value.slice.injEq]at hve;obtain⟨rfl,rfl,rfl⟩:=hve;obtain⟨i0,hi0,-,-,-⟩:=info_parts Zgz;have HB2:=A hB2;have HR2:=A hR2;have HBT2:=A hbt2;have HQ2:=A hQ2;clear h hr hq hqr hB2 hR2 hbt2 hQ2 e1 e2 e3 KEY
  go_enter func233,ntmps233
  go_upto_region 1 with(at_builtin;go_must (refine wpList_append_own_none rfl _ _ 78 rfl w.heap.size 9 i0 1 underlying78 hi0 (.slice none 0 0) 0 [] rfl (World.ownsRow_nil _ _ _ _) rfl ?_))
  clear c0 c1 c2 c3 c4 c5 c6 c7 c8 c9 c10 c11 c12 d0 d1 d2 d3 d4 d5 d6 d7 d8 d9 d10 d11 d12 f6 ff6 cc6;generalize (w.setCell ⟨rb,6,none⟩ (.slice none 0 0))=w3 at *
 rotate_left
 focus
  rw[e1,e2]at d6;have HARM:=A (show ∀j u,(cs.map Value.string)[j]?=some u->w.cell? ((⟨b,off,none⟩:Addr).add j)=some u from ZHb hrow)
  have HLM:=A (show(cs.map Value.string).length=cs.length by rw[List.length_map])
  have HONE:=A (show ∀u∈cs.map Value.string,u.oneCell'=true by intro u hu;obtain⟨x,_,rfl⟩:=List.mem_map.1 hu;rfl)
  unfold maxLen at hcap;clear h hr hq hqr e1 e2 hrow
  go_enter func233,ntmps233
  go_upto_region 1 with(at_builtin;go_must (refine ZdC w 78 9 (J ByteArray.empty) 16 underlying78 Zgz rfl rfl _ _ rfl w.heap.size (.slice none 0 0) 0 [] rfl (World.ownsRow_nil _ _ _ _) ⟨b,off,none⟩ cs.length Q.pc (cs.map Value.string) rfl HLM.o HARM.o HONE.o (by omega) (by decide) (Xg _) ?_;intro v' w2 ho2 hb2 _;rw[Nat.zero_add,List.nil_append]at ho2;obtain⟨ao,n,cp,rfl,hB2,hR2,hbt2,hQ2,ff6,x6,cc6⟩:=KEY.o w2 v' ho2 hb2;have HB2:=A hB2;have HR2:=A hR2;have HBT2:=A hbt2;have HQ2:=A hQ2;clear hB2 hR2 hbt2 hQ2 ho2 hb2))
  clear c0 c1 c2 c3 c4 c5 c6 c7 c8 c9 c10 c11 c12 d0 d1 d2 d3 d4 d5 d6 d7 d8 d9 d10 d11 d12 f6 ff6 cc6 KEY;generalize (w2.setCell ⟨rb,6,none⟩ (.slice ao n cp))=w3 at *
 all_goals
  obtain⟨c0,c1,c2,c3,c4,c5,c6,c7,c8,c9,c10,c11,c12⟩:=HB2.o.cells;obtain⟨d0,d1,d2,d3,d4,d5,d6,d7,d8,d9,d10,d11,d12⟩:=HQ2.o.cells;have f9:=HB2.o.free 9;have f10:=HB2.o.free 10;simp only at c0 c1 c2 c3 c4 c5 c6 c7 c8 c9 c10 c11 c12
  cases hh:R.hq
  .rw[hh]at c9
   have HE:=A (show ZDl u base={ u with path:=base.path,hq:=Q.hq,q:=tl Q.q }by rw[HD.o,hh];rfl)
   obtain⟨hB4,hR4⟩:=RIs.setQuery HB2.o HR2.o Q.hq Q.q;have HB4:=A hB4;have HR4:=A hR4;have HBT4:=A ((HBT2.o.set 9 (C Q.hq)).set 10 (J Q.q))
   have hqb:(w3.setCell ⟨rb,9,none⟩ (C Q.hq)).cell? ⟨qb,10,none⟩=some (J Q.q):=by have h:=(HQ2.o.but ((But.refl rb w3).set 9 (C Q.hq)) hne).cells.2.2.2.2.2.2.2.2.2.2.1;exact h
   clear hh hB4 hR4 HD;go_wp2
   exact bodyPost_end (results_none rfl _ _ _) rfl ⟨rfl,⟨_,HB4.o,by rw[HE.o];exact HR4.o⟩,HBT4.o⟩
  .rw[hh]at c9
   have HE:=A (show ZDl u base={ u with path:=base.path }by rw[HD.o,hh,<-HR.o.eq];simp only[RR.u,hh];rfl)
   clear hh HD;go_wp2
   exact bodyPost_end (results_none rfl _ _ _) rfl ⟨rfl,⟨_,HB2.o,by rw[HE.o];exact HR2.o⟩,HBT2.o⟩
end Go.Proofs.YtchkhibgbnhjpabGreatDoor
