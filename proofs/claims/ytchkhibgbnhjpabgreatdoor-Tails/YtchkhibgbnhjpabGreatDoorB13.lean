import Derived.Test.YtchkhibgbnhjpabGreatDoorB12
import Derived.Deep.RegionWith
open List renaming append_nil→Xa,length_take→Xb,take_succ_eq_append_getElem→Xc,dropWhile_append_of_pos→Xd,dropWhile_cons_of_neg→Xe,take_append_drop→Xf,reverse_append→Xh,all_eq_true→Xk,length_drop→Xl,length_map→Xm,drop_drop→Xn,drop_take→Xo
open Nat renaming zero_le→Xg,le_refl→Xi,eq_zero_or_pos→Xj,add_zero→Xp
namespace Go.Proofs.YtchkhibgbnhjpabGreatDoor
open Go.RowKit
set_option maxHeartbeats 8000000
theorem Zm1(w:World)(f s:Bool)(v:Value):PthAt (w.alloc (Obj.cells #[.bool f,.bool s,v] 223)) w.heap.size f s v:=heap_alloc_new w _
theorem ZF{w:World}{base:Nat}{v:Value}{bs:LA}(h:Zds w base v bs):∃ao n cap,v=.slice ao n cap:=by
 obtain⟨h1,⟨h2,h3⟩|⟨g',cap',cur,h2,h4⟩⟩:=h
 ·exact⟨_,_,_,h2⟩
 ·exact⟨_,_,_,h2⟩
def Zbe(t sch:List UInt8):List (List UInt8):=Za4 (sch==Zv) (Zc sch) [] t
theorem Zao(t sch:BA)(w:World)(ht:t.size≤100000):Calls Tryz.prog 227 #[.string t,.string sch] w fun e w'=>∃v bs,e=.returned v∧Zds w' w.heap.size v bs∧bs.map tl=Zbe (tl t) (tl sch)∧bs.length≤t.size+1∧Nx w w':=by
 go_enter Tryz.func227,Tryz.ntmps227
 go_wp2_with fail
 refine(Zh8 _ [] sch w (SlAt.nil w) (by simp)).mono ?_
 rintro e w1 ⟨v1,rfl,ho,hn⟩;obtain⟨ao,n,cap,rfl⟩:=ZF ho;have hz:=hn.size;have HP:=Za (Zm1 w1 (tl sch==Zv) (Zc (tl sch)) (.slice ao n cap));have HO:=Za (show Zds (w1.alloc (Obj.cells #[.bool (tl sch==Zv),.bool (Zc (tl sch)),.slice ao n cap] 223)) w.heap.size (.slice ao n cap) []from World.ownsRow.alloc ho _);have HN:=Za (show Nx w (w1.alloc (Obj.cells #[.bool (tl sch==Zv),.bool (Zc (tl sch)),.slice ao n cap] 223))from hn.alloc _);clear ho hn;go_wp2_with fail
 refine(ZfR w1.heap.size w.heap.size _ _ _ [] t _ HP.out HO.out hz (by simp;omega) (by simp) ht).mono ?_
 rintro e w2 ⟨x,v2,bs,rfl,h1,h2,h3,h4,h5⟩;obtain⟨ao2,n2,cap2,rfl⟩:=ZF h2;obtain⟨-,-,hc2,-⟩:=h1.facts;have H2:=Za h2;have H3:=Za h3;have H4:=Za h4;have H5:=Za (show Nx w w2 from HN.out.trans h5);clear h1 h2 h3 h4 h5 HP HO HN;go_wp2;go_ret
 exact⟨_,_,rfl,H2.out,H3.out,by have:=H4.out;simpa using this,H5.out⟩
def ZcQ(base:List (List UInt8))(t sch:List UInt8):List (List UInt8):=Za4 (sch==Zv) (Zc sch) (ZaK (sch==Zv) base) t
theorem Zm2(v:Value)(cs:LA)(t sch:BA)(w:World)(hv:Zcv w v cs)(hl:cs.length≤100000)(ht:t.size≤100000):Calls Tryz.prog 263 #[v,.string t,.string sch] w fun e w'=>∃v bs,e=.returned v∧Zds w' w.heap.size v bs∧bs.map tl=ZcQ (cs.map tl) (tl t) (tl sch)∧bs.length≤cs.length+t.size+1∧Nx w w':=by
 go_enter Tryz.func263,Tryz.ntmps263
 go_wp2_with fail
 refine(Zh8 _ cs sch w hv (by omega)).mono ?_
 rintro e w1 ⟨v1,rfl,ho,hn⟩;obtain⟨ao,n,cap,rfl⟩:=ZF ho;have hz:=hn.size;have HP:=Za (Zm1 w1 (tl sch==Zv) (Zc (tl sch)) (.slice ao n cap));have HO:=Za (show Zds (w1.alloc (Obj.cells #[.bool (tl sch==Zv),.bool (Zc (tl sch)),.slice ao n cap] 223)) w.heap.size (.slice ao n cap) cs from World.ownsRow.alloc ho _);have HN:=Za (show Nx w (w1.alloc (Obj.cells #[.bool (tl sch==Zv),.bool (Zc (tl sch)),.slice ao n cap] 223))from hn.alloc _);clear ho hn hv;go_wp2_with fail
 refine(ZfQ w1.heap.size w.heap.size _ _ _ cs _ HP.out HO.out hz (by omega)).mono ?_
 rintro e w3 ⟨x,v3,bs3,rfl,h1,h2,h3,h5⟩;have hl3:=Zct h3
 have hz3:w.heap.size≤w3.heap.size:=Nat.le_trans (by simp;omega) h5.size
 have H1:=Za h1;have H2:=Za h2;have H3:=Za h3;have H5:=Za (show Nx w w3 from HN.out.trans h5);clear h1 h2 h3 h5 HP HO HN;go_wp2_with fail
 refine(ZfR w1.heap.size w.heap.size _ _ _ bs3 t _ H1.out H2.out hz hz3 (by omega) ht).mono ?_
 rintro e w2 ⟨x,v2,bs,rfl,h1,h2,h3,h4,h5⟩;obtain⟨ao2,n2,cap2,rfl⟩:=ZF h2;obtain⟨-,-,hc2,-⟩:=h1.facts;have G2:=Za h2;have G3:=Za h3;have G4:=Za h4;have G5:=Za (show Nx w w2 from H5.out.trans h5);clear h1 h2 h3 h4 h5;go_wp2;go_ret
 exact⟨_,_,rfl,G2.out,by rw[G3.out,H3.out];rfl,by have:=G4.out;omega,G5.out⟩
def ZaN(base:List (List UInt8))(t:List UInt8):List (List UInt8):=
 if base=[]∨Zar (base.getD 0 [])=false∨Zai t=true then Zbe t Zv else Za4 true true (base.take 1) t
theorem file_special:Zc Zv=true:=by decide
theorem Zek{base:List LB}{t:LB}(h:base=[]∨Zar (base.getD 0 [])=false∨Zai t=true):ZaN base t=Zbe t Zv:=if_pos h
theorem Zm3{base:List LB}{t:LB}(h1:base≠[])(h2:Zar (base.getD 0 [])=true)(h3:Zai t=false):ZaN base t=Za4 true true (base.take 1) t:=
 if_neg (by rintro(h|h|h);exact h1 h;rw[h2]at h;cases h;rw[h3]at h;cases h)
theorem Zm4(v:Value)(cs:LA)(t:BA)(w:World)(hv:Zcv w v cs)(ht:t.size≤100000):Calls Tryz.prog 255 #[v,.string t] w fun e w'=>∃v bs,e=.returned v∧Zds w' w.heap.size v bs∧bs.map tl=ZaN (cs.map tl) (tl t)∧bs.length≤t.size+2∧Nx w w':=by
 have HV:=Za hv;obtain⟨ao,cap,rfl,hlc,hcap,hnone,hsome⟩:=hv;have HCAP:=Za hcap;unfold maxLen at hcap;have HRD:Hid (tl (⟨#[102,105,108,101]⟩:BA)=Zv):=Za rfl;rcases Xj cs.length with h0|hpos
 ·have e0:cs=[]:=List.eq_nil_of_length_eq_zero h0
  subst e0;have HE:=Za (Zek (base:=([]:LA).map tl) (t:=tl t) (Or.inl rfl));clear h0 hnone hsome
  go_enter Tryz.func255,Tryz.ntmps255
  go_wp2_with fail
  refine(Zao t _ w ht).mono ?_
  rintro e w1 ⟨v1,bs,rfl,h1,h2,h3,h4⟩;have H1:=Za h1;have H2:=Za h2;have H3:=Za h3;have H4:=Za h4;clear h1 h2 h3 h4;go_wp2;go_ret
  exact⟨_,_,rfl,H1.out,by rw[HE.out,H2.out];rfl,by have:=H3.out;omega,H4.out⟩
 ·obtain⟨a,ha⟩:=ZR (k:=0) hpos hnone
  subst ha;obtain⟨b,off,rfl,hr⟩:=hsome a rfl;have hck:=hr.cell (i:=0) hpos;rw[Xp]at hck;have HM:=Za (Zkf cs hpos)
  have HNE:=Za (show cs.map tl≠[]from fun h=>by have:=congrArg List.length h;rw[Xm]at this;simp at this;subst this;simp at hpos)
  have hn0:((cs.length:Int)==0)=false:=beq_eq_false_iff_ne.2 (by omega)
  have HS1:=Za (ZdH hr hlc HCAP.out 1 hpos);clear hnone hsome hr
  cases hw:Zar (tl cs[0])
  ·have HW:=Za hw
   have HE:=Za (Zek (base:=cs.map tl) (t:=tl t) (Or.inr (Or.inl (by rw[HM.out];exact hw))))
   clear hw
   go_enter Tryz.func255,Tryz.ntmps255
   go_wp2_with (first|(go_at_call 289;refine(ZcB _ _).mono ?_;rintro e w' ⟨rfl,rfl⟩;rw[HW.out])|fail)
   refine(Zao t _ w ht).mono ?_
   rintro e w1 ⟨v1,bs,rfl,h1,h2,h3,h4⟩;have H1:=Za h1;have H2:=Za h2;have H3:=Za h3;have H4:=Za h4;clear h1 h2 h3 h4;go_wp2;go_ret
   exact⟨_,_,rfl,H1.out,by rw[HE.out,H2.out];rfl,by have:=H3.out;omega,H4.out⟩
  ·have HW:=Za hw
   clear hw
   cases hd:Zai (tl t)
   ·have HD:=Za hd
    have HE:=Za (Zm3 (base:=cs.map tl) (t:=tl t) HNE.out (by rw[HM.out];exact HW.out) hd)
    clear hd
    go_enter Tryz.func255,Tryz.ntmps255
    go_wp2_with (first|(go_at_call 289;refine(ZcB _ _).mono ?_;rintro e w' ⟨rfl,rfl⟩;rw[HW.out])|fail)
    refine(ZdL t _ (Zf (by omega))).mono ?_
    rintro e w0 ⟨rfl,hn0⟩;rw[HD.out];have HN0:=Za hn0;have HS2:=Za (HS1.out.on hn0);clear hn0;go_wp2_with fail
    refine(Zh8 _ (cs.take 1) _ w0 HS2.out (by rw[Xb];omega)).mono ?_
    rintro e w1 ⟨v1,rfl,ho,hn⟩;rw[HRD.out,file_special,show(Zv==Zv)=true from rfl];obtain⟨ao,n,cap,rfl⟩:=ZF ho;have hz0:=HN0.out.size;have hz:=hn.size;have HP:=Za (Zm1 w1 true true (.slice ao n cap));have HO:=Za (show Zds (w1.alloc (Obj.cells #[.bool true,.bool true,.slice ao n cap] 223)) w.heap.size (.slice ao n cap) (cs.take 1)from World.ownsRow.alloc (Zkh ho hz0) _);have HN:=Za (show Nx w (w1.alloc (Obj.cells #[.bool true,.bool true,.slice ao n cap] 223))from(HN0.out.then hn).alloc _);clear ho hn;go_wp2_with fail
    refine(ZfR w1.heap.size w.heap.size _ _ _ (cs.take 1) t _ HP.out HO.out (by omega) (by simp;omega) (by rw[Xb];omega) ht).mono ?_
    rintro e w2 ⟨x,v2,bs,rfl,h1,h2,h3,h4,h5⟩;obtain⟨ao2,n2,cap2,rfl⟩:=ZF h2;obtain⟨-,-,hc2,-⟩:=h1.facts;have G2:=Za h2;have G3:=Za h3;have G4:=Za h4;have G5:=Za (show Nx w w2 from HN.out.trans h5);clear h1 h2 h3 h4 h5 HP HO HN;go_wp2;go_ret
    exact⟨_,_,rfl,G2.out,by rw[G3.out,HE.out,List.map_take],by have:=G4.out;rw[Xb]at this;omega,G5.out⟩
   ·have HD:=Za hd
    have HE:=Za (Zek (base:=cs.map tl) (t:=tl t) (Or.inr (Or.inr hd)));clear hd
    go_enter Tryz.func255,Tryz.ntmps255
    go_wp2_with (first|(go_at_call 289;refine(ZcB _ _).mono ?_;rintro e w' ⟨rfl,rfl⟩;rw[HW.out])|fail)
    refine(ZdL t _ (Zf (by omega))).mono ?_
    rintro e w0 ⟨rfl,hn0⟩;rw[HD.out];have HN0:=Za hn0;clear hn0;go_wp2_with fail
    refine(Zao t _ w0 ht).mono ?_
    rintro e w1 ⟨v1,bs,rfl,h1,h2,h3,h4⟩;have H1:=Za (Zkh h1 HN0.out.size);have H2:=Za h2;have H3:=Za h3;have H4:=Za (HN0.out.then h4);clear h1 h2 h3 h4;go_wp2;go_ret
    exact⟨_,_,rfl,H1.out,by rw[HE.out,H2.out];rfl,by have:=H3.out;omega,H4.out⟩
structure Rc where
 sch:ByteArray
 nam:ByteArray
 pw:ByteArray
 hh:Bool
 host:ByteArray
 hp:Bool
 port:Nat
 op:Bool
 opath:ByteArray
 so:Option Addr
 sn:Nat
 sc:Nat
 hq:Bool
 q:ByteArray
 hf:Bool
 fr:ByteArray
structure U where
 sch:List UInt8
 nam:List UInt8
 pw:List UInt8
 hh:Bool
 host:List UInt8
 hp:Bool
 port:Nat
 op:Bool
 opath:List UInt8
 segs:List (List UInt8)
 hq:Bool
 q:List UInt8
 hf:Bool
 fr:List UInt8
 deriving DecidableEq
def Rc.u(r:Rc)(bs:List ByteArray):U:=⟨tl r.sch,tl r.nam,tl r.pw,r.hh,tl r.host,r.hp,r.port,r.op,tl r.opath,bs.map tl,r.hq,tl r.q,r.hf,tl r.fr⟩
structure RcIs (w:World) (r:Rc) (u:U) (bs:List ByteArray):Prop where
 eq:r.u bs=u
 seg:Zcv w (.slice r.so r.sn r.sc) bs
 lsch:r.sch.size≤300000
 lnam:r.nam.size≤300000
 lpw:r.pw.size≤300000
 lhost:r.host.size≤300000
 lport:r.port≤65535
 lopath:r.opath.size≤300000
 lsegs:bs.length≤300000
 lseg:∀b∈bs,b.size≤300000
 lq:r.q.size≤300000
 lfr:r.fr.size≤300000
theorem RcIs.on{w w':World}{r:Rc}{u:U}{bs:LA}(h:RcIs w r u bs)(hb:Nx w w'):RcIs w' r u bs:={ h with seg:=h.seg.on hb }
theorem RcIs.sn{w:World}{r:Rc}{u:U}{bs:LA}(h:RcIs w r u bs):r.sn=bs.length:=by obtain⟨ao,cap,he,-⟩:=h.seg;simp only[Value.slice.injEq]at he;exact he.2.1
def RecB(w:World)(b:Nat)(r:Rc):Prop:=w.heap[b]?=some (Obj.cells #[.string r.sch,.string r.nam,.string r.pw,.bool r.hh,.string r.host,.bool r.hp,.int .i64 (r.port:Int),.bool r.op,.string r.opath,.slice r.so r.sn r.sc,.bool r.hq,.string r.q,.bool r.hf,.string r.fr] 101 (0,0))
theorem RecB.on{w w':World}{b:Nat}{r:Rc}(h:RecB w b r)(hb:Nx w w'):RecB w' b r:=(hb.block b (Array.getElem?_eq_some_iff.1 h).1).trans h
theorem Za5(w:World)(r:Rc):RecB (w.alloc (Obj.cells #[.string r.sch,.string r.nam,.string r.pw,.bool r.hh,.string r.host,.bool r.hp,.int .i64 (r.port:Int),.bool r.op,.string r.opath,.slice r.so r.sn r.sc,.bool r.hq,.string r.q,.bool r.hf,.string r.fr] 101)) w.heap.size r:=heap_alloc_new w _
theorem RecB.cells{w:World}{b:Nat}{r:Rc}(h:RecB w b r):w.cell? ⟨b,0,none⟩=some (.string r.sch)∧w.cell? ⟨b,1,none⟩=some (.string r.nam)∧w.cell? ⟨b,2,none⟩=some (.string r.pw)∧w.cell? ⟨b,3,none⟩=some (.bool r.hh)∧w.cell? ⟨b,4,none⟩=some (.string r.host)∧w.cell? ⟨b,5,none⟩=some (.bool r.hp)∧w.cell? ⟨b,6,none⟩=some (.int .i64 (r.port:Int))∧w.cell? ⟨b,7,none⟩=some (.bool r.op)∧w.cell? ⟨b,8,none⟩=some (.string r.opath)∧w.cell? ⟨b,9,none⟩=some (.slice r.so r.sn r.sc)∧w.cell? ⟨b,10,none⟩=some (.bool r.hq)∧w.cell? ⟨b,11,none⟩=some (.string r.q)∧w.cell? ⟨b,12,none⟩=some (.bool r.hf)∧w.cell? ⟨b,13,none⟩=some (.string r.fr):=by
 unfold RecB at h
 refine⟨?_,?_,?_,?_,?_,?_,?_,?_,?_,?_,?_,?_,?_,?_⟩<;>simp[World.cell?,h]
theorem RecB.free{w:World}{b:Nat}{r:Rc}(h:RecB w b r)(i:Nat):w.frozen? ⟨b,i,none⟩=false:=by
 unfold RecB at h
 simp[World.frozen?,h]
def ZcC(u:U):List UInt8:=u.sch++[58]
theorem Zha(r:Rc)(u:U)(bs:LA)(w:World)(h:RcIs w r u bs):Calls Tryz.prog 83 #[.agg #[.string r.sch,.string r.nam,.string r.pw,.bool r.hh,.string r.host,.bool r.hp,.int .i64 (r.port:Int),.bool r.op,.string r.opath,.slice r.so r.sn r.sc,.bool r.hq,.string r.q,.bool r.hf,.string r.fr]] w fun e w'=>∃t:BA,e=.returned (.string t)∧tl t=ZcC u∧Nx w w':=by
 have hs:=h.lsch
 have HE:=Za (show ZcC u=tl r.sch++[58]by rw[←h.eq];rfl)
 clear h
 go_enter Tryz.func83,Tryz.ntmps83
 go_wp2;go_ret
 exact⟨r.sch++(⟨#[58]⟩:BA),rfl,by rw[HE.out,Zg];rfl,Nx.rfl.alloc _⟩
def ZfS(m t:List UInt8):List UInt8:=if t=[]then []else m++t
theorem Zjm(m t:BA)(w:World)(hm:m.size≤1000000)(ht:t.size≤1000000):Calls Tryz.prog 148 #[.string m,.string t] w fun e w'=>∃x:BA,e=.returned (.string x)∧tl x=ZfS (tl m) (tl t)∧w=w':=by
 by_cases h0:t.size=0
 ·have HE:=Za (show ZfS (tl m) (tl t)=[]from if_pos (Zw h0))
  have h0':=Zl h0;clear h0
  go_enter Tryz.func148,Tryz.ntmps148
  go_wp2;go_ret;exact⟨⟨#[]⟩,rfl,HE.out.symm,rfl⟩
 ·have HE:=Za (show ZfS (tl m) (tl t)=tl m++tl t from if_neg (ZcO h0))
  have h0':=Zh h0;clear h0
  go_enter Tryz.func148,Tryz.ntmps148
  go_wp2;go_ret
  exact⟨m++t,rfl,by rw[HE.out,Zg],rfl⟩
def Zki(u:U):List UInt8:=ZfS [63] u.q
def Zt5(u:U):List UInt8:=ZfS [35] u.fr
theorem ZpN(r:Rc)(u:U)(bs:LA)(w:World)(h:RcIs w r u bs):Calls Tryz.prog 87 #[.agg #[.string r.sch,.string r.nam,.string r.pw,.bool r.hh,.string r.host,.bool r.hp,.int .i64 (r.port:Int),.bool r.op,.string r.opath,.slice r.so r.sn r.sc,.bool r.hq,.string r.q,.bool r.hf,.string r.fr]] w fun e w'=>∃t:BA,e=.returned (.string t)∧tl t=Zki u∧Nx w w':=by
 have hs:=h.lq
 have HE:=Za (show Zki u=ZfS [63] (tl r.q)by rw[←h.eq];rfl)
 clear h
 go_enter Tryz.func87,Tryz.ntmps87
 go_wp2_with (go_at_call 148;refine(Zjm _ _ _ (by decide) (by omega)).mono ?_;rintro e w' ⟨x,rfl,hx,rfl⟩;have HX:=Za hx;clear hx)
 go_ret
 exact⟨x,rfl,by rw[HE.out];exact HX.out,Nx.rfl.alloc _⟩
theorem Zt6(r:Rc)(u:U)(bs:LA)(w:World)(h:RcIs w r u bs):Calls Tryz.prog 88 #[.agg #[.string r.sch,.string r.nam,.string r.pw,.bool r.hh,.string r.host,.bool r.hp,.int .i64 (r.port:Int),.bool r.op,.string r.opath,.slice r.so r.sn r.sc,.bool r.hq,.string r.q,.bool r.hf,.string r.fr]] w fun e w'=>∃t:BA,e=.returned (.string t)∧tl t=Zt5 u∧Nx w w':=by
 have hs:=h.lfr
 have HE:=Za (show Zt5 u=ZfS [35] (tl r.fr)by rw[←h.eq];rfl)
 clear h
 go_enter Tryz.func88,Tryz.ntmps88
 go_wp2_with (go_at_call 148;refine(Zjm _ _ _ (by decide) (by omega)).mono ?_;rintro e w' ⟨x,rfl,hx,rfl⟩;have HX:=Za hx;clear hx)
 go_ret
 exact⟨x,rfl,by rw[HE.out];exact HX.out,Nx.rfl.alloc _⟩
def Zb7(u:U):List UInt8:=if u.hp=true then Zce u.port else []
theorem Zhb(r:Rc)(u:U)(bs:LA)(w:World)(h:RcIs w r u bs)(ht:Tb w):Calls Tryz.prog 85 #[.agg #[.string r.sch,.string r.nam,.string r.pw,.bool r.hh,.string r.host,.bool r.hp,.int .i64 (r.port:Int),.bool r.op,.string r.opath,.slice r.so r.sn r.sc,.bool r.hq,.string r.q,.bool r.hf,.string r.fr]] w fun e w'=>∃t:BA,e=.returned (.string t)∧tl t=Zb7 u∧t.size≤5∧Nx w w':=by
 have hs:=h.lport
 have HD:=Za (show Zb7 u=if r.hp=true then Zce r.port else []by rw[←h.eq];rfl)
 have HTB:=Za ht;clear h ht
 cases hhp:r.hp
 ·have HE:=Za (HD.out.trans (if_neg (by rw[hhp];decide)))
  clear HD
  go_enter Tryz.func85,Tryz.ntmps85
  go_wp2;go_ret
  exact⟨⟨#[]⟩,rfl,HE.out.symm,by decide,Nx.rfl.alloc _⟩
 ·have HE:=Za (HD.out.trans (if_pos hhp))
  clear HD
  go_enter Tryz.func85,Tryz.ntmps85
  go_wp2_with (go_at_call 147;refine(ZrD r.port hs _ (HTB.out.on (Nx.rfl.alloc _))).mono ?_;rintro e w1 ⟨x,rfl,hx,hn⟩;have HX:=Za hx;have HN:=Za (show Nx w w1 from(Nx.rfl.alloc _).then hn);clear hx hn)
  go_ret
  exact⟨x,rfl,by rw[HE.out];exact HX.out,by have:=congrArg List.length HX.out;rw[tl_length]at this;have:=ZhH r.port;omega,HN.out⟩
def ZpO(u:U):List UInt8:=if u.nam=[]∧u.pw=[]then []else if u.pw=[]then u.nam++[64]else u.nam++([58]++u.pw)++[64]
theorem Zt7(r:Rc)(u:U)(bs:LA)(w:World)(h:RcIs w r u bs):Calls Tryz.prog 196 #[.agg #[.string r.sch,.string r.nam,.string r.pw,.bool r.hh,.string r.host,.bool r.hp,.int .i64 (r.port:Int),.bool r.op,.string r.opath,.slice r.so r.sn r.sc,.bool r.hq,.string r.q,.bool r.hf,.string r.fr]] w fun e w'=>∃t:BA,e=.returned (.string t)∧tl t=ZpO u∧t.size≤900000∧Nx w w':=by
 have hs1:=h.lnam;have hs2:=h.lpw
 have HD:=Za (show ZpO u=if tl r.nam=[]∧tl r.pw=[]then []else if tl r.pw=[]then tl r.nam++[64]else tl r.nam++([58]++tl r.pw)++[64]by rw[←h.eq];rfl)
 clear h
 by_cases hp0:r.pw.size=0
 ·by_cases hn0:r.nam.size=0
  ·have HE:=Za (HD.out.trans (if_pos ⟨Zw hn0,Zw hp0⟩))
   have hp0':=Zl hp0;have hn0':=Zl hn0;clear HD hp0 hn0
   go_enter Tryz.func196,Tryz.ntmps196
   go_wp2;go_ret
   exact⟨⟨#[]⟩,rfl,HE.out.symm,by decide,Nx.rfl.alloc _⟩
  ·have HE:=Za ((HD.out.trans (if_neg (fun h=>ZcO hn0 h.1))).trans (if_pos (Zw hp0)))
   have hp0':=Zl hp0;have hn0':=Zh hn0;clear HD hp0 hn0
   go_enter Tryz.func196,Tryz.ntmps196
   go_wp2;go_ret
   exact⟨r.nam++(⟨#[64]⟩:BA),rfl,by rw[HE.out,Zg];rfl,by rw[Zi];show r.nam.size+1≤_;omega,Nx.rfl.alloc _⟩
 ·have HE:=Za ((HD.out.trans (if_neg (fun h=>ZcO hp0 h.2))).trans (if_neg (ZcO hp0)))
  have hp0':=Zh hp0;clear HD hp0
  by_cases hn0:r.nam.size=0
  ·have hn0':=Zl hn0
   have hz:r.nam.size≤0:=by omega
   clear hn0
   go_enter Tryz.func196,Tryz.ntmps196
   go_wp2;go_ret
   exact⟨r.nam++((⟨#[58]⟩:BA)++r.pw)++(⟨#[64]⟩:BA),rfl,by rw[HE.out,Zg,Zg,Zg];rfl,by rw[Zi,Zi,Zi];show r.nam.size+(1+r.pw.size)+1≤_;omega,Nx.rfl.alloc _⟩
  ·have hn0':=Zh hn0
   clear hn0
   go_enter Tryz.func196,Tryz.ntmps196
   go_wp2;go_ret
   exact⟨r.nam++((⟨#[58]⟩:BA)++r.pw)++(⟨#[64]⟩:BA),rfl,by rw[HE.out,Zg,Zg,Zg];rfl,by rw[Zi,Zi,Zi];show r.nam.size+(1+r.pw.size)+1≤_;omega,Nx.rfl.alloc _⟩
def ZbJ(u:U):List UInt8:=if u.hp=true then u.host++[58]++Zb7 u else u.host
theorem ZeP(r:Rc)(u:U)(bs:LA)(w:World)(h:RcIs w r u bs)(ht:Tb w):Calls Tryz.prog 84 #[.agg #[.string r.sch,.string r.nam,.string r.pw,.bool r.hh,.string r.host,.bool r.hp,.int .i64 (r.port:Int),.bool r.op,.string r.opath,.slice r.so r.sn r.sc,.bool r.hq,.string r.q,.bool r.hf,.string r.fr]] w fun e w'=>∃t:BA,e=.returned (.string t)∧tl t=ZbJ u∧t.size≤600000∧Nx w w':=by
 have hs:=h.lhost
 have HD:=Za (show ZbJ u=if r.hp=true then tl r.host++[58]++Zb7 u else tl r.host by rw[←h.eq];rfl)
 have HTB:=Za ht;have HRC:=Za h;have HB:=Za (Za5 w r);clear h ht
 cases hhp:r.hp
 ·have HE:=Za (HD.out.trans (if_neg (by rw[hhp];decide)))
  clear HD
  go_enter Tryz.func84,Tryz.ntmps84
  go_wp2;go_ret
  exact⟨r.host,rfl,HE.out.symm,by omega,Nx.rfl.alloc _⟩
 ·have HE:=Za (HD.out.trans (if_pos hhp))
  have HPT:=Za (fun w1 (hn:Nx w w1)=>Zhb r u bs w1 (HRC.out.on hn) (HTB.out.on hn))
  rw[hhp]at HPT HB;clear HD
  go_enter Tryz.func84,Tryz.ntmps84
  go_wp2
  go_region_with (go_at_call 85;refine(HPT.out _ ((Nx.rfl.alloc _).drew)).mono ?_;rintro e w1 ⟨x,rfl,hx,hxs,hn⟩;obtain⟨-,-,-,-,hc4,-⟩:=(RecB.on (RecB.on HB.out Nx.rfl.drew) hn).cells;have HX:=Za hx;have HN:=Za (show Nx w w1 from((Nx.rfl.alloc _).drew).then hn);clear hx hn)
  all_goals go_wp2
  all_goals go_ret
  all_goals exact⟨r.host++(⟨#[58]⟩:BA)++x,rfl,by rw[HE.out,Zg,Zg,HX.out];rfl,by rw[Zi,Zi];show r.host.size+1+x.size≤_;omega,HN.out⟩
def Zdh(ps:List (List UInt8)):List UInt8:=ps.flatMap fun s=>[47]++s
def ZaY(u:U):List UInt8:=if u.op=true then u.opath else Zdh u.segs
theorem joinSl_snoc(ps:List LB)(s:LB):Zdh (ps++[s])=Zdh ps++([47]++s):=by simp[Zdh]
theorem ZeQ(r:Rc)(u:U)(bs:LA)(w:World)(h:RcIs w r u bs):Calls Tryz.prog 86 #[.agg #[.string r.sch,.string r.nam,.string r.pw,.bool r.hh,.string r.host,.bool r.hp,.int .i64 (r.port:Int),.bool r.op,.string r.opath,.slice r.so r.sn r.sc,.bool r.hq,.string r.q,.bool r.hf,.string r.fr]] w fun e w'=>∃t:BA,e=.returned (.string t)∧tl t=ZaY u∧t.size≤200000000000∧Nx w w':=by
 have HD:=Za (show ZaY u=if r.op=true then tl r.opath else Zdh (bs.map tl)by rw[←h.eq];rfl)
 have hlo:=h.lopath;have hls:=h.lsegs;have HLS:=Za h.lseg;have hseg:=h.seg;clear h;obtain⟨sch,nam,pw,hh,host,hp,port,op,opath,so,sn,sc,hq,q,hf,fr⟩:=r;simp only at *;obtain⟨ao,cap,he,hlc,hcap,hnone,hsome⟩:=hseg;simp only[Value.slice.injEq]at he;obtain⟨rfl,rfl,rfl⟩:=he;unfold maxLen at hcap
 cases op
 ·have HE:=Za (HD.out.trans (if_neg (by decide)))
  clear HD
  go_enter Tryz.func86,Tryz.ntmps86
  go_wp2
  go_loop [3,4] (fun t i=>∃(k:Nat) (txt:BA),k≤bs.length∧t=.string txt∧i=.int .i64 k∧tl txt=Zdh ((bs.take k).map tl)∧txt.size≤300001*k) (fun _ i=>bs.length-(intOf i).toNat)
  case atStart=>exact⟨0,⟨#[]⟩,Xg _,rfl,rfl,rfl,by decide⟩
  case round=>
   obtain⟨k,txt,hk,rfl,rfl,hE,hsz⟩:=hrel;have HT:=Za hE;clear hE
   by_cases hlt:k<bs.length
   ·obtain⟨a,ha⟩:=ZR hlt hnone
    subst ha;obtain⟨b,off,rfl,hr⟩:=hsome a rfl;have hck:=(hr.on (Nx.rfl.alloc (Obj.cells #[.string sch,.string nam,.string pw,.bool hh,.string host,.bool hp,.int .i64 (port:Int),.bool false,.string opath,.slice (some ⟨b,off,none⟩) bs.length sc,.bool hq,.string q,.bool hf,.string fr] 101))).cell hlt;have hbz:=HLS.out _ (List.getElem_mem hlt)
    have HS:=Za (show(bs.take (k+1)).map tl=(bs.take k).map tl++[tl bs[k]]by rw[Xc hlt,List.map_append];rfl)
    clear hnone hsome hr;generalize bs[k]=p at *;go_wp2
    go_round
    case rel=>exact⟨k+1,txt++((⟨#[47]⟩:BA)++p),by omega,rfl,by go_num,by rw[HS.out,joinSl_snoc,Zg,Zg,HT.out];rfl,by rw[Zi,Zi];show txt.size+(1+p.size)≤_;omega⟩
    case measure=>simp[intOf];omega
   ·have HF:=Za (show tl txt=ZaY u by rw[HT.out,HE.out,List.take_of_length_le (by omega)])
    have hz2:txt.size≤200000000000:=by
     have:300001*k≤300001*300000:=Nat.mul_le_mul_left _ (by omega)
     omega
    clear hnone hsome;go_wp2;go_ret;exact⟨txt,rfl,HF.out,hz2,Nx.rfl.alloc _⟩
 ·have HE:=Za (HD.out.trans (if_pos rfl))
  clear HD hnone hsome
  go_enter Tryz.func86,Tryz.ntmps86
  go_wp2;go_ret
  exact⟨opath,rfl,HE.out.symm,by omega,Nx.rfl.alloc _⟩
def Zjn(u:U):List UInt8:=if u.hh=true then [47,47]++ZpO u++ZbJ u else if u.op=false∧1<u.segs.length∧u.segs.getD 0 []=[]then [47,46]else []
theorem ZrF(r:Rc)(u:U)(bs:LA)(w:World)(h:RcIs w r u bs)(ht:Tb w):Calls Tryz.prog 144 #[.agg #[.string r.sch,.string r.nam,.string r.pw,.bool r.hh,.string r.host,.bool r.hp,.int .i64 (r.port:Int),.bool r.op,.string r.opath,.slice r.so r.sn r.sc,.bool r.hq,.string r.q,.bool r.hf,.string r.fr]] w fun e w'=>∃t:BA,e=.returned (.string t)∧tl t=Zjn u∧t.size≤3000000∧Nx w w':=by
 have HD:=Za (show Zjn u=if r.hh=true then [47,47]++ZpO u++ZbJ u else if r.op=false∧1<bs.length∧(bs.map tl).getD 0 []=[]then [47,46]else []by rw[←Xm (f:=tl),←h.eq];rfl)
 have HTB:=Za ht;have HRC:=Za h;have HB:=Za (Za5 w r);clear h ht
 cases hhh:r.hh
 ·have HE:=Za (HD.out.trans (if_neg (by rw[hhh];decide)))
  have hseg:=HRC.out.seg;have hls:=HRC.out.lsegs;clear HD HRC HB;obtain⟨sch,nam,pw,hh,host,hp,port,op,opath,so,sn,sc,hq,q,hf,fr⟩:=r;simp only at *;obtain⟨ao,cap,he,hlc,hcap,hnone,hsome⟩:=hseg;simp only[Value.slice.injEq]at he;obtain⟨rfl,rfl,rfl⟩:=he;unfold maxLen at hcap;subst hhh
  cases op
  ·by_cases h1:1<bs.length
   ·have hpos:0<bs.length:=by omega
    obtain⟨a,ha⟩:=ZR (k:=0) hpos hnone;subst ha;obtain⟨b,off,rfl,hr⟩:=hsome a rfl;have hck:=(hr.on (Nx.rfl.alloc (Obj.cells #[.string sch,.string nam,.string pw,.bool false,.string host,.bool hp,.int .i64 (port:Int),.bool false,.string opath,.slice (some ⟨b,off,none⟩) bs.length sc,.bool hq,.string q,.bool hf,.string fr] 101))).cell (i:=0) hpos;rw[Xp]at hck;rw[Zkf bs hpos]at HE;clear hnone hsome hr
    by_cases h0:bs[0].size=0
    ·have HE2:=Za (HE.out.trans (if_pos ⟨rfl,h1,Zw h0⟩))
     have h0':=Zl h0;clear HE h0
     go_enter Tryz.func144,Tryz.ntmps144
     go_wp2;go_ret
     exact⟨⟨#[47,46]⟩,rfl,HE2.out.symm,by decide,Nx.rfl.alloc _⟩
    ·have HE2:=Za (HE.out.trans (if_neg (fun h=>ZcO h0 h.2.2)))
     have h0':=Zh h0;clear HE h0
     go_enter Tryz.func144,Tryz.ntmps144
     go_wp2;go_ret
     exact⟨⟨#[]⟩,rfl,HE2.out.symm,by decide,Nx.rfl.alloc _⟩
   ·have HE2:=Za (HE.out.trans (if_neg (fun h=>h1 h.2.1)))
    clear HE hnone hsome
    go_enter Tryz.func144,Tryz.ntmps144
    go_wp2;go_ret
    exact⟨⟨#[]⟩,rfl,HE2.out.symm,by decide,Nx.rfl.alloc _⟩
  ·have HE2:=Za (HE.out.trans (if_neg (fun h=>by cases h.1)))
   clear HE hnone hsome
   go_enter Tryz.func144,Tryz.ntmps144
   go_wp2;go_ret
   exact⟨⟨#[]⟩,rfl,HE2.out.symm,by decide,Nx.rfl.alloc _⟩
 ·have HE:=Za (HD.out.trans (if_pos hhh))
  have HU:=Za (fun w1 (hn:Nx w w1)=>Zt7 r u bs w1 (HRC.out.on hn))
  have HHP:=Za (fun w1 (hn:Nx w w1)=>ZeP r u bs w1 (HRC.out.on hn) (HTB.out.on hn))
  rw[hhh]at HU HHP HB;clear HD
  go_enter Tryz.func144,Tryz.ntmps144
  go_wp2_with fail
  refine(HU.out _ (Nx.rfl.alloc _)).mono ?_
  rintro e w1 ⟨x,rfl,hx,hxs,hn⟩;obtain⟨c0,c1,c2,c3,c4,c5,c6,c7,c8,c9,c10,c11,c12,c13⟩:=(RecB.on HB.out hn).cells;rw[hhh]at c3;have HX:=Za hx;have HN:=Za (show Nx w w1 from(Nx.rfl.alloc _).then hn);clear hx hn;go_wp2_with fail
  refine(HHP.out _ HN.out).mono ?_
  rintro e w2 ⟨y,rfl,hy,hys,hn2⟩;have HY:=Za hy;have HN2:=Za (HN.out.then hn2);clear hy hn2 c0 c1 c2 c3 c4 c5 c6 c7 c8 c9 c10 c11 c12 c13;go_wp2;go_ret
  exact⟨(⟨#[47,47]⟩:BA)++x++y,rfl,by rw[HE.out,Zg,Zg,HX.out,HY.out];rfl,by rw[Zi,Zi];show 2+x.size+y.size≤_;omega,HN2.out⟩
def Zm5(u:U):List UInt8:=ZcC u++Zjn u++ZaY u++(if u.hq=true then [63]++u.q else [])++(if u.hf=true then [35]++u.fr else [])
theorem Zot(r:Rc)(u:U)(bs:LA)(w:World)(h:RcIs w r u bs)(ht:Tb w):Calls Tryz.prog 81 #[.agg #[.string r.sch,.string r.nam,.string r.pw,.bool r.hh,.string r.host,.bool r.hp,.int .i64 (r.port:Int),.bool r.op,.string r.opath,.slice r.so r.sn r.sc,.bool r.hq,.string r.q,.bool r.hf,.string r.fr]] w fun e w'=>∃t:BA,e=.returned (.string t)∧tl t=Zm5 u∧Nx w w':=by
 have HD:=Za (show Zm5 u=ZcC u++Zjn u++ZaY u++(if r.hq=true then [63]++tl r.q else [])++(if r.hf=true then [35]++tl r.fr else [])by rw[←h.eq];rfl)
 have hlq:=h.lq;have hlf:=h.lfr
 have hlp:ZcC u=tl r.sch++[58]:=by rw[←h.eq];rfl
 have hls:=h.lsch;have HTB:=Za ht;have HRC:=Za h;have HB:=Za (Za5 w r);clear h ht
 go_enter Tryz.func81,Tryz.ntmps81
 go_wp2_with fail
 refine(Zha r u bs _ (HRC.out.on (Nx.rfl.alloc _))).mono ?_
 rintro e w1 ⟨x1,rfl,hx1,hn1⟩
 have hz1:x1.size≤600000:=by have:=congrArg List.length (hx1.trans hlp);rw[tl_length,List.length_append,tl_length]at this;simp at this;omega
 have HX1:=Za hx1;have HN1:=Za (show Nx w w1 from(Nx.rfl.alloc _).then hn1);have HB1:=Za (RecB.on HB.out hn1);clear hx1 hn1 hlp HB;obtain⟨c0,c1,c2,c3,c4,c5,c6,c7,c8,c9,c10,c11,c12,c13⟩:=HB1.out.cells;go_wp2_with fail
 refine(ZrF r u bs _ (HRC.out.on HN1.out) (HTB.out.on HN1.out)).mono ?_
 rintro e w2 ⟨x2,rfl,hx2,hz2,hn2⟩;have HX2:=Za hx2;have HN2:=Za (HN1.out.then hn2);have HB2:=Za (RecB.on HB1.out hn2);clear hx2 hn2 HB1 c0 c1 c2 c3 c4 c5 c6 c7 c8 c9 c10 c11 c12 c13;obtain⟨c0,c1,c2,c3,c4,c5,c6,c7,c8,c9,c10,c11,c12,c13⟩:=HB2.out.cells;go_wp2_with fail
 refine(ZeQ r u bs _ (HRC.out.on HN2.out)).mono ?_
 rintro e w3 ⟨x3,rfl,hx3,hz3,hn3⟩;have HX3:=Za hx3;have HN3:=Za (HN2.out.then hn3);have HB3:=Za (RecB.on HB2.out hn3);clear hx3 hn3 HB2 c0 c1 c2 c3 c4 c5 c6 c7 c8 c9 c10 c11 c12 c13;obtain⟨-,-,-,-,-,-,-,-,-,-,c10,c11,c12,c13⟩:=HB3.out.cells
 cases hhq:r.hq
 ·rw[hhq]at c10
  rw[hhq]at HD
  cases hhf:r.hf
  ·rw[hhf]at c12
   rw[hhf]at HD;go_wp2;go_ret
   exact⟨x1++x2++x3,rfl,by rw[HD.out,if_neg (by decide),if_neg (by decide),Zg,Zg,HX1.out,HX2.out,HX3.out,Xa,Xa],HN3.out⟩
  ·rw[hhf]at c12
   rw[hhf]at HD;go_wp2;go_ret
   exact⟨x1++x2++x3++((⟨#[35]⟩:BA)++r.fr),rfl,by rw[HD.out,if_neg (by decide),if_pos trivial,Zg,Zg,Zg,Zg,HX1.out,HX2.out,HX3.out,Xa];rfl,HN3.out⟩
 ·rw[hhq]at c10
  rw[hhq]at HD
  cases hhf:r.hf
  ·rw[hhf]at c12
   rw[hhf]at HD;go_wp2;go_ret
   exact⟨x1++x2++x3++((⟨#[63]⟩:BA)++r.q),rfl,by rw[HD.out,if_pos trivial,if_neg (by decide),Zg,Zg,Zg,Zg,HX1.out,HX2.out,HX3.out,Xa];rfl,HN3.out⟩
  ·rw[hhf]at c12
   rw[hhf]at HD;go_wp2;go_ret
   exact⟨x1++x2++x3++((⟨#[63]⟩:BA)++r.q)++((⟨#[35]⟩:BA)++r.fr),rfl,by rw[HD.out,if_pos trivial,if_pos trivial,Zg,Zg,Zg,Zg,Zg,Zg,HX1.out,HX2.out,HX3.out];rfl,HN3.out⟩
def ZaO(b:UInt8):Bool:=decide ((b.toNat:Int)≤32)
def trimB(l:List UInt8):List UInt8:=((l.dropWhile ZaO).reverse.dropWhile ZaO).reverse
theorem Zlm(s:BA)(k:Nat)(h1:((tl s).take k).all ZaO=true)(h2:(h:k<s.size)→ZaO s[k]=false):(tl s).dropWhile ZaO=(tl s).drop k:=by
 have e:=Xf k (tl s)
 conv=>lhs;rw[←e]
 rw[Xd (by intro a ha;exact Xk.1 h1 a ha)]
 rcases Nat.lt_or_ge k s.size with h|h
 ·rw[ZI s k h,Xe (by rw[h2 h];decide)]
 ·rw[ZC s k h];rfl
theorem Zge(l:LB)(m:Nat)(hm:m≤l.length)(h1:(l.drop m).all ZaO=true)(h2:(h:0<m)→ZaO (l[m-1]'(by omega))=false):(l.reverse.dropWhile ZaO).reverse=l.take m:=by
 have e:=Xf m l
 conv=>lhs;rw[←e]
 rw[Xh,Xd (by intro a ha;exact Xk.1 h1 a (List.mem_reverse.1 ha))]
 rcases Xj m with h|h
 ·subst h;simp
 ·have hs:l.take m=l.take (m-1)++[l[m-1]'(by omega)]:=by
   rw[←Xc (by omega)]
   congr 1
   omega
  rw[hs,Xh,List.reverse_singleton,List.singleton_append,Xe (by rw[h2 h];decide)]
  simp
theorem all_snoc(p:UInt8→Bool)(l:LB)(b:UInt8):(l++[b]).all p=(l.all p&&p b):=by simp
theorem Zt8(s:BA)(w:World)(hs:s.size≤1000000):Calls Tryz.prog 139 #[.string s] w fun e w'=>∃r:BA,e=.returned (.string r)∧tl r=trimB (tl s)∧r.size≤s.size∧w=w':=by
 go_enter Tryz.func139,Tryz.ntmps139
 go_wp2
 go_loop [3] (fun i=>∃k:Nat,k≤s.size∧i=.int .i64 k∧((tl s).take k).all ZaO=true) (fun i=>s.size-(intOf i).toNat)
 case atStart=>exact⟨0,Xg _,rfl,rfl⟩
 case round=>
  obtain⟨k,hk,rfl,ha⟩:=hrel;have HA:=Za ha;clear ha
  have main:∀(hb:(h:k<s.size)→ZaO s[k]=false),Hid ((tl s).dropWhile ZaO=(tl s).drop k):=fun hb=>Za (Zlm s k HA.out hb)
  have second:(hstop:Hid ((tl s).dropWhile ZaO=(tl s).drop k))→True:=fun _=>trivial
  clear second
  by_cases hlt:k<s.size
  ·have hb:=bb s[k]
   by_cases hc:(s[k].toNat:Int)≤32
   ·have HN:=Za (show((tl s).take (k+1)).all ZaO=true by rw[Zz s k hlt,all_snoc,HA.out];simp[ZaO,hc])
    clear main;go_wp2
    go_round
    case rel=>exact⟨k+1,by omega,by go_num,HN.out⟩
    case measure=>simp[intOf];omega
   ·have HD:=main (fun _=>by simp[ZaO];omega)
    clear main;go_wp2
    go_loop [4] (fun i=>∃m:Nat,k≤m∧m≤s.size∧i=.int .i64 m∧((tl s).drop m).all ZaO=true) (fun i=>(intOf i).toNat)
    case atStart=>exact⟨s.size,by omega,Xi _,rfl,by rw[ZC s _ (Xi _)];rfl⟩
    case round=>
     obtain⟨m,hkm,hm,rfl,hal⟩:=hrel;have HAL:=Za hal;clear hal
     by_cases hgt:k<m
     ·have hm1:m-1<s.size:=by omega
      have hb1:=bb (s[m-1]'hm1)
      by_cases hc1:((s[m-1]'hm1).toNat:Int)≤32
      ·have HN:=Za (show((tl s).drop (m-1)).all ZaO=true by rw[ZI s (m-1) hm1,List.all_cons,show m-1+1=m by omega,HAL.out];simp[ZaO,hc1])
       go_wp2
       go_round
       case rel=>exact⟨m-1,by omega,by omega,by rw[show((m-1:Nat):Int)=(m:Int)-1 by omega],HN.out⟩
       case measure=>simp[intOf];omega
      ·have HF:=Za (show tl (s.extract k m)=trimB (tl s)by
        unfold trimB
        rw[HD.out,tl_extract,Zge ((tl s).drop k) (m-k) (by rw[Xl,tl_length];omega) (by rw[Xn,show k+(m-k)=m by omega];exact HAL.out) (fun h=>by rw[List.getElem_drop];show ZaO ((tl s)[k+(m-k-1)]'_)=false;simp only[show k+(m-k-1)=m-1 by omega];rw[Zew s (m-1) hm1];simp[ZaO];omega),Xo])
       have hez:(s.extract k m).size≤s.size:=Zee s k m;go_wp2;go_ret;exact⟨s.extract k m,rfl,HF.out,hez,rfl⟩
     ·have HF:=Za (show tl (s.extract k m)=trimB (tl s)by
       unfold trimB
       rw[HD.out,tl_extract,Zge ((tl s).drop k) (m-k) (by rw[Xl,tl_length];omega) (by rw[Xn,show k+(m-k)=m by omega];exact HAL.out) (fun h=>by omega),Xo])
      have hez:(s.extract k m).size≤s.size:=Zee s k m;go_wp2;go_ret;exact⟨s.extract k m,rfl,HF.out,hez,rfl⟩
  ·have HD:=main (fun h=>absurd h hlt)
   clear main;go_wp2
   go_loop [4] (fun i=>∃m:Nat,k≤m∧m≤s.size∧i=.int .i64 m) (fun i=>(intOf i).toNat)
   case atStart=>exact⟨s.size,by omega,Xi _,rfl⟩
   case round=>
    obtain⟨m,hkm,hm,rfl⟩:=hrel
    have HF:=Za (show tl (s.extract k m)=trimB (tl s)by
     unfold trimB
     rw[HD.out,tl_extract,ZC s k (by omega),List.drop_of_length_le (by rw[Xb,tl_length];omega)]
     rfl)
    have hez:(s.extract k m).size≤s.size:=Zee s k m
    have hgt:¬k<m:=by omega
    go_wp2;go_ret;exact⟨s.extract k m,rfl,HF.out,hez,rfl⟩
def ZdX(b:UInt8):Bool:=(b.toNat:Int)==9||(b.toNat:Int)==10||(b.toNat:Int)==13
def noBreaks(l:List UInt8):List UInt8:=l.filter fun b=>!ZdX b
theorem Zkj(l:LB)(b:UInt8):noBreaks (l++[b])=noBreaks l++(if ZdX b=true then []else [b]):=by
 unfold noBreaks;rw[List.filter_append]
 cases h:ZdX b<;>simp[h]
theorem ZaP(l:LB):(noBreaks l).length≤l.length:=List.length_filter_le _ _
theorem ZcD(s:BA)(w:World)(hs:s.size≤1000000):Calls Tryz.prog 140 #[.string s] w fun e w'=>∃r:BA,e=.returned (.string r)∧tl r=noBreaks (tl s)∧Nx w w':=by
 go_enter Tryz.func140,Tryz.ntmps140
 go_wp2
 go_loopw [3,4] (fun o i wr=>∃k:Nat,k≤s.size∧i=.int .i64 k∧ZfF wr w.heap.size o (noBreaks ((tl s).take k))∧Nx w wr) (fun _ i _=>s.size-(intOf i).toNat)
 case atStart=>exact⟨0,Xg _,rfl,ZeI w,Nx.rfl.alloc _⟩
 case round=>
  obtain⟨k,hk,rfl,hown,hnx⟩:=hrel
  by_cases hlt:k<s.size
  ·have hb:=bb s[k]
   have HTK:=Za ((congrArg noBreaks (Zz s k hlt)).trans (Zkj _ _));have hz:=hnx.size
   have hsz:(noBreaks ((tl s).take k)).length<1099511627776:=by have h:=ZaP ((tl s).take k);have:=List.length_take_le k (tl s);omega
   have HO:=Za hown;have HN:=Za hnx;have HT2:=Za (Zf5 s[k])
   have HBR:=Za (show ZdX s[k]=((s[k].toNat:Int)==9||(s[k].toNat:Int)==10||(s[k].toNat:Int)==13)from rfl);clear hown hnx
   cases h9:((s[k].toNat:Int)==9)
   ·have n9:=ZhB h9
    cases h10:((s[k].toNat:Int)==10)
    ·have n10:=ZhB h10
     cases h13:((s[k].toNat:Int)==13)
     ·have n13:=ZhB h13
      have HB:=Za (show ZdX s[k]=false by rw[HBR.out,h9,h10,h13];rfl)
      go_wp2_with (at_builtin;go_must (refine Zb0 wr (s[k].toNat:Int) rfl _ _ rfl w.heap.size _ _ rfl HO.out rfl (by omega) (by omega) hsz hz ?_;intro v' w2 ho1 hb1 hk1;have HO1:=Za ho1;clear ho1))
      go_roundw
      case rel=>exact⟨k+1,by omega,by go_num,by rw[HTK.out,if_neg (by rw[HB.out];decide)];have h:=HO1.out;rw[HT2.out]at h;exact h,HN.out.trans hb1⟩
      case measure=>simp[intOf];omega
     ·have n13:=ZtA h13
      have HB:=Za (show ZdX s[k]=true by rw[HBR.out,h13];simp)
      go_wp2
      go_roundw
      case rel=>exact⟨k+1,by omega,by go_num,by rw[HTK.out,if_pos HB.out,Xa];exact HO.out,HN.out⟩
      case measure=>simp[intOf];omega
    ·have n10:=ZtA h10
     have HB:=Za (show ZdX s[k]=true by rw[HBR.out,h10];simp)
     go_wp2
     go_roundw
     case rel=>exact⟨k+1,by omega,by go_num,by rw[HTK.out,if_pos HB.out,Xa];exact HO.out,HN.out⟩
     case measure=>simp[intOf];omega
   ·have n9:=ZtA h9
    have HB:=Za (show ZdX s[k]=true by rw[HBR.out,h9];simp)
    go_wp2
    go_roundw
    case rel=>exact⟨k+1,by omega,by go_num,by rw[HTK.out,if_pos HB.out,Xa];exact HO.out,HN.out⟩
    case measure=>simp[intOf];omega
  ·rw[Z3 s k (by omega)]at hown
   have hcv:=Zea hown;have HN:=Za hnx;clear hown hnx;go_wp2;go_ret;exact⟨_,rfl,tl_mk _,HN.out⟩
end Go.Proofs.YtchkhibgbnhjpabGreatDoor
