import Derived.Test.YtchkhibgbnhjpabGreatDoorB42
import Derived.Test.YtchkhibgbnhjpabGreatDoorB45
open Array renaming getElem?_eq_some_iff→Xa
namespace Go.Proofs.YtchkhibgbnhjpabGreatDoor
open Go.RowKit
set_option maxHeartbeats 8000000
set_option maxRecDepth 8000
def ZxF(e:Ending)(w w':World)(ub rb:Nat)(long:Bool)(x:RU×Int)(ls:List (List UInt8×List UInt8)):Prop:=
 (long=true∧e=.returned (.int .i64 1)∧Nx w w')∨(long=false∧ZxE e w w' ub rb x ls)
theorem ZnV{w:World}{pp pb ub qb:Nat}{r:Rc}(h:PairB w pp pb ub)(hu:UrlB w qb r):pp≠qb:=by
 rintro rfl;unfold PairB at h;unfold UrlB at hu;rw[h]at hu;simp only[Option.some.injEq,Obj.cells.injEq]at hu
 exact absurd hu.2.1 (by decide)
theorem ZnW{w:World}{pp pb ub qb rb:Nat}{v:Value}(h:PairB w pp pb ub)(hu:URB w qb rb v):pp≠qb:=by
 rintro rfl;unfold PairB at h;unfold URB at hu;rw[h]at hu;simp only[Option.some.injEq,Obj.cells.injEq]at hu
 exact absurd hu.2.1 (by decide)
theorem ZnX{w:World}{pp pb ub qb:Nat}{R:RR}(h:PairB w pp pb ub)(hu:RB w qb R):pp≠qb:=by
 rintro rfl;unfold PairB at h;unfold RB at hu;rw[h]at hu;simp only[Option.some.injEq,Obj.cells.injEq]at hu
 exact absurd hu.2.1 (by decide)
theorem Zj1{w:World}{pb qb rb:Nat}{r:Rc}{v:Value}(h:UrlB w pb r)(hu:URB w qb rb v):pb≠qb:=by
 rintro rfl;unfold UrlB at h;unfold URB at hu;rw[h]at hu;simp only[Option.some.injEq,Obj.cells.injEq]at hu
 exact absurd hu.2.1 (by decide)
theorem Zj2{w:World}{pb qb:Nat}{r:Rc}{R:RR}(h:UrlB w pb r)(hu:RB w qb R):pb≠qb:=by
 rintro rfl;unfold UrlB at h;unfold RB at hu;rw[h]at hu;simp only[Option.some.injEq,Obj.cells.injEq]at hu
 exact absurd hu.2.1 (by decide)
theorem But.kpP{w w':World}{pb:Nat}{r:Rc}(hb:But pb w w')(h:UrlB w pb r):Kp 106 w w':=by
 intro k cs e fz hk he
 refine(hb.block k (Xa.1 hk).1 ?_).trans hk
 intro e';subst e';unfold UrlB at h;rw[hk]at h;simp only[Option.some.injEq,Obj.cells.injEq]at h;exact he h.2.1
structure Mid (w w1:World) (u u1:U) (pp pb ub rb:Nat) (r1:Rc) (ds:List ByteArray) (R:RR) (rs:List ByteArray) (v:Value) (ps:List Pq):Prop where
 url:UrlB w1 pb r1
 rc:RcIs w1 r1 u1 ds
 ref:URB w1 ub rb v
 rcd:RB w1 rb R
 ris:RIs w1 R (toR u) rs
 pl:PlAt w1 v ps
 pair:PairB w1 pp pb ub
 but:But pb w w1
theorem ZiO{w w1:World}{u:U}{pp pb ub rb:Nat}{r:Rc}{bs:LA}{R:RR}{rs:LA}{v:Value}{ps:List Pq}{e:Ending}{long:Bool}{x:U×Int}
  (hp:PairB w pp pb ub) (hb:Both w u pb ub rb r bs R rs v ps) (hs:Ztt e w w1 pb long x):
  ∃r1 ds,e=.returned (.int .i64 (if long=true then 1 else x.2))∧Mid w w1 u (if long=false∧x.2=0 then x.1 else u) pp pb ub rb r1 ds R rs v ps:=by
 rcases hs with⟨hl,he,hn⟩|⟨hl,hx,he,hn⟩|⟨hl,hx,he,⟨r1,ds,h1,h2,-⟩,hbt⟩
 ·refine⟨r,bs,by rw[he,if_pos hl],?_⟩
  rw[if_neg (by rintro⟨g,-⟩;rw[hl]at g;cases g)]
  exact⟨hb.url.on hn,hb.rc.on hn,hb.ref.on hn,hb.rcd.on hn,hb.ris.on hn,hb.pl.on hn,hp.on hn,But.nx hn⟩
 ·refine⟨r,bs,by rw[he,if_neg (by rw[hl];decide)],?_⟩
  rw[if_neg (fun g=>hx g.2)]
  exact⟨hb.url.on hn,hb.rc.on hn,hb.ref.on hn,hb.rcd.on hn,hb.ris.on hn,hb.pl.on hn,hp.on hn,But.nx hn⟩
 ·refine⟨r1,ds,by rw[he,if_neg (by rw[hl];decide),hx],?_⟩
  rw[if_pos ⟨hl,hx⟩];have hk:=hbt.kpP hb.url
  exact⟨h1,h2,hb.ref.but hbt (Ne.symm (Zj1 hb.url hb.ref)),hb.rcd.but hbt (Ne.symm (Zj2 hb.url hb.rcd)),{ hb.ris with seg:=hb.ris.seg.kp hk (by decide) },hb.pl.kp hk (by decide),(hbt.block pp hp.lt (ZnV hp hb.url)).trans hp,hbt⟩
def ZvM(w w':World)(pp pb ub rb:Nat):Prop:=
 ∃u' rb' r' bs' R' rs' v' ps',PairB w' pp pb ub∧Both w' u' pb ub rb' r' bs' R' rs' v' ps'∧(rb'=rb∨w.heap.size≤rb')∧∀B,B≤pb→B≤ub→B≤rb→B≤w.heap.size→Below B w w'
theorem ZiP{w w1 w2:World}{u:U}{pp pb ub rb:Nat}{r1:Rc}{ds:LA}{R:RR}{rs:LA}{v:Value}{ps:List Pq}{e:Ending}{long:Bool}{x:U×Int}{y:RU×Int}{ls:List (LB×LB)}{l:LB}
  (hwk:Wk u) (hls:ps.map tl2=Zba u.q) (hm:Mid w w1 u (if long=false∧x.2=0 then x.1 else u) pp pb ub rb r1 ds R rs v ps) (hs:long=false→ZvL u l x y ls) (hy:ZxF e w1 w2 ub rb long y ls):
  e=.returned (.int .i64 (if long=true then 1 else x.2))∧ZvM w w2 pp pb ub rb:=by
 rcases hy with⟨hl,he,hn⟩|⟨hl,he,⟨qb,Q,cs,v',qs,h1,h2,h3,h4,h5,h6⟩,ht⟩
 ·refine⟨by rw[he,if_pos hl],u,rb,r1,ds,R,rs,v,ps,hm.pair.on hn,?_,Or.inl rfl,fun B b1 b2 b3 b4=>(((hm.but.then (But.nx hn)).below b1 b4))⟩
  have hm2:=hm.rc
  rw[if_neg (by rintro⟨g,-⟩;rw[hl]at g;cases g)]at hm2
  exact⟨hm.url.on hn,hm2.on hn,hm.ref.on hn,hm.rcd.on hn,hm.ris.on hn,hm.pl.on hn,hls,hwk⟩
 ·have hS:=hs hl
  refine⟨by rw[he,if_neg (by rw[hl];decide),hS.err],?_⟩
  have hne1:pb≠ub:=Zj1 hm.url hm.ref;have hne2:pb≠rb:=Zj2 hm.url hm.rcd;have hlt:pb<w1.heap.size:=(Xa.1 hm.url).1;have hU:UrlB w2 pb r1:=(ht.block pb hlt hne1 hne2).trans hm.url;have hP:PairB w2 pp pb ub:=(ht.block pp hm.pair.lt (ZnW hm.pair hm.ref) (ZnX hm.pair hm.rcd)).trans hm.pair
  have hK:Ks w1 w2:=fun k cs fz hk=>by
   refine(ht.block k (Xa.1 hk).1 ?_ ?_).trans hk
   ·rintro rfl
    have hr:=hm.ref;unfold URB at hr;rw[hk]at hr;simp only[Option.some.injEq,Obj.cells.injEq]at hr
    exact absurd hr.2.1 (by decide)
   ·rintro rfl
    have hr:=hm.rcd;unfold RB at hr;rw[hk]at hr;simp only[Option.some.injEq,Obj.cells.injEq]at hr
    exact absurd hr.2.1 (by decide)
  have hR:=hm.rc.ks hK
  have hfr:∀B,B≤pb→B≤ub→B≤rb→B≤w.heap.size→Below B w w2:=fun B b1 b2 b3 b4=>(hm.but.below b1 b4).trans (ht.below b2 b3 (Nat.le_trans b4 hm.but.size))
  have hqb:qb=rb∨w.heap.size≤qb:=h6.imp id (fun g=>Nat.le_trans hm.but.size g)
  by_cases h0:x.2=0
  ·rw[if_pos ⟨hl,h0⟩]at hR
   obtain⟨g1,g2,g3⟩:=hS.ok h0;rw[g1]at h3
   exact⟨x.1,qb,r1,ds,Q,cs,v',qs,hP,⟨hU,hR,h1,h2,h3,h4,by rw[h5,g3],g2⟩,hqb,hfr⟩
  ·rw[if_neg (fun g=>h0 g.2)]at hR
   obtain⟨g1,g2⟩:=hS.no h0;rw[g1]at h3
   exact⟨u,qb,r1,ds,Q,cs,v',qs,hP,⟨hU,hR,h1,h2,h3,h4,by rw[h5,g2],hwk⟩,hqb,hfr⟩
def Zvs(k:Nat):Prop:=
 ∀(pp pb ub rb:Nat) (r:Rc) (u:U) (bs:List ByteArray) (R:RR) (rs:List ByteArray) (v:Value) (ps:List Pq) (s:ByteArray) (w:World),PairB w pp pb ub→Both w u pb ub rb r bs R rs v ps→Tb w→s.size≤maxLen →
  Calls Tryz.prog 27 #[.pointer (some ⟨pp,0,none⟩),.int .i64 (k:Int),.string s] w fun e w'=>e=.returned (.bool true)∧ZvM w w' pp pb ub rb
theorem Zpl(lo hi:Nat)(hh:hi≤10)(hlh:lo≤hi)(HS:∀k,lo≤k→k≤hi→Zvs k)(s v:BA)(w:World)(hs:s.size≤maxLen)(hv:v.size≤maxLen)(ht:Tb w):Calls Tryz.prog 10 #[.string s,.string v,.int .i64 (lo:Int),.int .i64 (hi:Int)] w fun e w'=>e=.returned (.bool true)∧Nx w w':=by
 have HTB:=Za ht;have HSK:=Za HS;have HVL:=Za hv;clear ht HS
 go_enter Tryz.func10,Tryz.ntmps10
 go_wp2_with fail
 refine(Ztn s v _ hs hv).mono ?_
 rintro e w' ⟨rfl,rfl⟩;generalize (decide (65536<s.size)||decide (65536<v.size))=b
 cases b
 ·go_wp2_with fail
  refine(ZqI s ⟨#[]⟩ false _ hs (Zf (by decide)) HTB.out).mono ?_
  rintro e w1 hx;clear hs hv;rcases hx with⟨-,rfl,hn⟩|⟨-,pp,pb,ub,rb,r,bs,R,rs,vv,ps,rfl,hP,hB,-,b2,b3,b4,hn⟩
  ·have HN:=Za hn
   clear hn;go_wp2;go_ret;exact⟨rfl,HN.out⟩
  ·generalize (Zci (tl s) (tl (⟨#[]⟩:BA)) false).1=u at *
   have HST:=Za (show ∃u rb r bs R rs v ps,PairB w1 pp pb ub∧Both w1 u pb ub rb r bs R rs v ps∧w.heap.size≤rb from⟨u,rb,r,bs,R,rs,vv,ps,hP,hB,b4⟩);have HB2:=Za b2;have HB3:=Za b3;have HN:=Za hn;clear hP hB b2 b3 b4 hn;go_wp2
   go_loopw [11,12,13] (fun o i _ wr=>∃k:Nat,lo≤k∧k≤hi+1∧i=.int .i64 (k:Int)∧o=.bool true∧(∃u rb r bs R rs v ps,PairB wr pp pb ub∧Both wr u pb ub rb r bs R rs v ps∧w.heap.size≤rb)∧Nx w wr) (fun _ i _ _=>hi+1-(intOf i).toNat)
   case atStart=>exact⟨lo,Nat.le_refl _,by omega,rfl,rfl,HST.out,HN.out⟩
   case round=>
    obtain⟨k,hk1,hk2,rfl,rfl,hst,hnx⟩:=hrel;have HNX:=Za hnx;clear HST
    by_cases hk:k≤hi
    ·obtain⟨u,rb,r,bs,R,rs,vv,ps,hP,hB,hrb⟩:=hst
     have HP:=Za hP;have HB:=Za hB;have HRB:=Za hrb;have HK:=Za (HSK.out k hk1 hk);clear hP hB hrb hnx;go_wp2_with fail
     refine(HK.out pp pb ub rb r u bs R rs vv ps v _ HP.out HB.out (HTB.out.on HNX.out) HVL.out).mono ?_
     rintro e w2 ⟨rfl,u',rb',r',bs',R',rs',v',ps',hP2,hB2,hrb2,hfr⟩;have HP2:=Za hP2;have HB2':=Za hB2;have HN2:=Za (show Nx w w2 from Below.trans HNX.out (hfr _ HB2.out HB3.out HRB.out HNX.out.size))
     have HRB2:=Za (show w.heap.size≤rb' by
      rcases hrb2 with g|g
      ·rw[g];exact HRB.out
      ·exact Nat.le_trans HNX.out.size g)
     clear hP2 hB2 hrb2 hfr HP HB;go_wp2_with fail
     refine(Zpf pp pb ub rb' r' u' bs' R' rs' v' ps' _ HP2.out HB2'.out (HTB.out.on HN2.out)).mono ?_
     rintro e w3 ⟨rfl,hn3⟩;have HN3:=Za hn3;clear hn3;go_wp2
     go_roundw
     case rel=>exact⟨k+1,by omega,by omega,by go_num,rfl,⟨u',rb',r',bs',R',rs',v',ps',HP2.out.on HN3.out,HB2'.out.on HN3.out,HRB2.out⟩,HN2.out.then HN3.out⟩
     case measure=>simp[intOf];omega
    ·clear hst hnx
     go_wp2;go_ret;exact⟨rfl,HNX.out⟩
 ·go_wp2
  go_ret;exact⟨rfl,Nx.rfl⟩
end Go.Proofs.YtchkhibgbnhjpabGreatDoor
