import Derived.Test.YtchkhibgbnhjpabGreatDoorT21
import Derived.Test.YtchkhibgbnhjpabGreatDoorT23
open List renaming mem_append→Xa,append_nil→Xb,mem_singleton→Xd,drop_zero→Xe,mem_cons→Xf
namespace Go.Proofs.YtchkhibgbnhjpabGreatDoor
open Go.RowKit
set_option maxHeartbeats 4000000
def ZxF(v:U):Prop:=∃u,St u∧Zb u.sch=true∧u.sch≠Zw∧u.nam=[]∧u.pw=[]∧u.hp=false∧v={ u with sch:=Zw }
def TP(v:U)(m:Bool):Prop:=Wk v∧(m=false→St v)∧(m=true→ZxF v)
theorem Zxg(u:U)(l:LB)(p:Bool):(ZuG u l p).2.2≠1:=by
 unfold ZuG
 split
 ·exact ZhX _
 ·split
  ·exact(by decide:(2:Int)≠1)
  ·split
   ·exact(by decide:(2:Int)≠1)
   ·split
    ·exact Zlm _ _
    ·exact(by decide:(0:Int)≠1)
theorem Zwz(u:U)(l:LB)(p:Bool):(ZuN u l p).2≠1:=by
 unfold ZuN
 split
 ·exact(by decide:(0:Int)≠1)
 ·split
  ·exact(by decide:(0:Int)≠1)
  ·split
   ·exact Zxg u l p
   ·exact(by decide:(0:Int)≠1)
theorem Zvx{u v:U}(h:v.sch=u.sch):decide (¬u.sch=v.sch∧v.sch=Zw)=false:=decide_eq_false (fun g=>g.1 h.symm)
theorem ZAS(u:U):(Zbe u).q=u.q∧(Zbe u).sch=u.sch∧(Zbe u).hf=u.hf∧(Zbe u).fr=u.fr∧(Zbe u).hq=u.hq:=by unfold Zbe;split<;>exact⟨rfl,rfl,rfl,rfl,rfl⟩
theorem Zv0(u:U)(l:LB):ZvR u (ZuL u l):=by
 unfold ZuL
 split
 ·have:=Zxw u []
  rwa [show Zu9 u []=ZbZ u from if_pos rfl]at this
 ·exact⟨rfl,rfl,rfl,rfl,rfl,rfl,rfl,rfl,rfl,rfl,rfl,Or.inl rfl⟩
structure Zyl (u v:U):Prop where
 same:ZvR { u with hf:=v.hf,fr:=v.fr } v
 q:v.q=u.q
theorem Zvy(u:U)(l:LB):Zyl u (ZuS u l):=by
 unfold ZuS
 split
 ·unfold Zvw Zbe
  split
  ·exact⟨⟨rfl,rfl,rfl,rfl,rfl,rfl,rfl,rfl,rfl,rfl,rfl,Or.inl rfl⟩,rfl⟩
  ·exact⟨⟨rfl,rfl,rfl,rfl,rfl,rfl,rfl,rfl,rfl,rfl,rfl,Or.inr rfl⟩,rfl⟩
 ·exact⟨⟨rfl,rfl,rfl,rfl,rfl,rfl,rfl,rfl,rfl,rfl,rfl,Or.inl rfl⟩,rfl⟩
theorem ZyZ{u v:U}(hst:St u)(h:ZvR u v){c:UInt8}{r:LB}(hp:pathU u=c::r)(hc:c=47):pathU v=pathU u:=by
 rcases Zwr h with e|⟨ho,e⟩
 ·exact e
 ·exfalso
  have h1:=(hst.st.opq ho).2.2.1;have h2:pathU u=u.opath:=if_pos ho;rw[←h2,hp,hc,ZbN]at h1
  cases h1
theorem Zy0{u v:U}(hst:St u)(h:Zyl u v){c:UInt8}{r:LB}(hp:pathU u=c::r)(hc:c=47):pathU v=pathU u:=by
 rcases Zwr h.same with e|⟨ho,e⟩
 ·exact e
 ·exfalso
  have ho':u.op=true:=ho;have h1:=(hst.st.opq ho').2.2.1;have h2:pathU u=u.opath:=if_pos ho';rw[←h2,hp,hc,ZbN]at h1
  cases h1
theorem Zy1{u:U}(h:St u)(hf:u.hf=false):signsB 35 (Zdg u)=false:=by
 have ne:∀ {b c:UInt8},b≠c→(b.toNat:Int)≠(c.toNat:Int):=fun hb e=>hb (UInt8.toNat_inj.1 (by omega))
 have fin:∀l:LB,(∀b∈l,b≠35)→signsB 35 l=false:=by
  intro l hl
  have:=ZwP 35 l [] (fun b hb=>⟨ne (hl b hb),ne (hl b hb)⟩)
  rw[Xb]at this;rw[this]
  rfl
 refine fin _ fun b hb=>?_
 unfold Zdg Zad at hb
 rw[hf,if_neg (by decide:¬false=true),Xb]at hb
 rcases Xa.1 hb with hb|hb
 ·rcases Xa.1 hb with hb|hb
  ·rcases Xa.1 hb with hb|hb
   ·rcases Xa.1 hb with hb|hb
    ·exact(ZrG h.st.sd.sc b hb).1
    ·rw[Xd]at hb;subst hb;decide
   ·exact(ZqE h.st b hb).1
  ·exact(ZsA h.st b hb).1
 ·split at hb
  ·rcases Xa.1 hb with hb|hb
   ·rw[Xd]at hb;subst hb;decide
   ·exact(ZBh h.st b hb).1
  ·cases hb
theorem ZAX{s:BA}:(s.size=0∨∃h:0<s.size,s[0]≠47)∨∃h:0<s.size,s[0]=47:=by
 by_cases hz:s.size=0
 ·exact Or.inl (Or.inl hz)
 ·have hpos:0<s.size:=by omega
  by_cases h47:s[0]=47
  ·exact Or.inr ⟨hpos,h47⟩
  ·exact Or.inl (Or.inr ⟨hpos,h47⟩)
theorem Zz5{u:U}(h:ZuR u=false):ZuX u.host (Zad u)=true:=by
 refine decide_eq_true ?_
 unfold ZuR at h;rw[Bool.and_eq_false_iff]at h;rcases h with h|h
 ·left
  cases e:u.host with
  | nil=>rfl
  | cons c r=>rw[e]at h;cases h
 ·right
  have:u.sch=Zw:=by simpa using h
  unfold Zad;rw[this]
  rfl
theorem proto_eq(u:U):ZuO (Zad u)=Zb u.sch:=Zvb u.sch
theorem Zz6{u:U}(h:St u)(hm:ZuR u=false):ZC u=[]:=by
 have:u.host=[]∨u.sch=Zw:=by
  unfold ZuR at hm;rw[Bool.and_eq_false_iff]at hm;rcases hm with hm|hm
  ·left
   cases e:u.host with
   | nil=>rfl
   | cons c r=>rw[e]at hm;cases hm
  ·right;simpa using hm
 unfold ZC
 rw[if_neg (by rw[(h.st.sd.who this).2.2];decide)]
theorem Zv1{u v:U}(h:ZvR u v)(hp:Pr u.opath):ZZ v=ZZ u:=by
 have hpl:Zo v=Zo u:=by unfold Zo Zl ZC;rw[h.sch,h.hp,h.host,h.port]
 have ht:ZbK (pathU v)=ZbK (pathU u):=by
  rcases Zwr h with e|⟨ho,e⟩
  ·rw[e]
  ·rw[e]
   exact Zx3 (by unfold pathU;rw[if_pos ho];exact hp)
 unfold ZZ Zbz;rw[h.sch,hpl,ht]
theorem Zyb{u:U}(h:u.sch≠[98,108,111,98])(x:List LB):ZZ { u with segs:=x }=ZZ u:=by
 unfold ZZ;simp only[if_neg h]
 rfl
theorem Zy2{u:U}(_h:St u)(l:LB)(h1:¬u.sch=(ZuH u l).sch)(h2:(ZuH u l).sch=Zw):ZxF (ZuH u l):=by
 unfold ZuH at h1 h2 ⊢
 split at h1
 ·exact absurd rfl h1
 next hn=>
  rw[if_neg hn]at h2 ⊢
  obtain⟨k1,k2,k3⟩:=ZvH (fun g=>hn (Or.inr g))
  generalize (Zax (noBreaks l++[58])).1=s at *
  have hs:s=Zw:=by
   split at h2
   ·obtain⟨a,b,e⟩:=Zvi { u with sch:=s } u.port
    rw[e]at h2;exact h2
   ·exact h2
  have hp:=(k2 hs).2.2
  rw[if_neg (by rw[hp];decide)]at h1 ⊢
  subst hs;exact⟨u,_h,k1.trans file_special,h1,(k2 rfl).1,(k2 rfl).2.1,hp,rfl⟩
theorem ZwU{u:U}(h:St u)(hf:u.sch=Zw)(p:Bool):(ZuN u Zej p).1.host=[]:=by
 have ho:u.op=false:=(h.st.sd.sp (by rw[hf];exact file_special)).1
 have e:ZuG u Zej p=([],[],0):=by
  unfold ZuG;rw[if_pos hf,hf]
  have h1:ZH (ZuJ (Zb Zw) Zej)=([],0):=by decide +kernel
  rw[h1]
 unfold ZuN
 rw[if_neg (by rw[ho];decide),e,if_neg (by show ¬(0:Int)=2;decide),if_neg (fun g=>g rfl)]
 show(ZuQ { u with hh:=true,host:=[] } []).host=[]
 rw[digits_nil]
theorem ZwA{u:U}{l:LB}(hl:Sm l)(ho:u.op=false)(hn:¬(u.sch=Zw∧l=Zej))(p:Bool):(ZuN u l p).1.host=l:=by
 have e:∃d,ZuG u l p=(l,d,0):=by
  unfold ZuG;rw[hl.ahead]
  split
  ·next hf=>
   refine⟨[],?_⟩
   unfold ZH
   rw[if_neg hl.ne,hl.hostL,if_neg (fun g=>g rfl),if_neg (fun g=>hn ⟨hf,g⟩)]
  ·rw[ZiR hl.hostT]
   simp only
   rw[if_neg (by rintro⟨g,-⟩;cases g),if_neg (fun g=>hl.ne g.1),hl.hostL,if_neg (fun g=>g rfl)]
   exact⟨_,rfl⟩
 obtain⟨d,e⟩:=e;unfold ZuN
 rw[if_neg (by rw[ho];decide),e,if_neg (by show ¬(0:Int)=2;decide),if_neg (fun g=>g rfl)]
 show(ZuQ { u with hh:=true,host:=l } d).host=l
 obtain⟨a,b,e2⟩:=Zvj { u with hh:=true,host:=l } d
 rw[e2]
theorem Zve{u:U}:Zad u=Zva↔u.sch=Zw:=by
 unfold Zad
 exact⟨fun g=>List.append_cancel_right (g.trans (show Zva=Zw++[58]from rfl)),fun g=>by rw[g];rfl⟩
theorem Zxh{s:BA}(h:s.size=0):clean (tl s)=[]:=by rw[Zz h];exact clean_nil
theorem ZvK{s:BA}(h:tl s=[]):s.size=0:=by rw[←tl_length,h];rfl
theorem Zz7{u:U}{s:LB}(h:ZuI u s=false)(hs:Zb u.sch=Zb s):s=Zw∨u.sch=Zw:=by
 unfold ZuI at h;rw[hs]at h
 by_cases h1:s=Zw
 ·exact Or.inl h1
 ·right
  have e:(s==Zw)=false:=beq_eq_false_iff_ne.2 h1;rw[e]at h
  by_cases h2:u.sch=Zw
  ·exact h2
  ·have e2:(u.sch != Zw)=true:=bne_iff_ne.2 h2
   rw[e2]at h
   simp at h
theorem Zz8(ib pb:Nat)(r:Rc)(u:U)(bs:LA)(s:BA)(w0 w:World)(h00:Nx w0 w)(hp0:w0.heap.size≤pb)(hi0:w0.heap.size≤ib)(hi:ItemM w ib pb false)(hu:UrlB w pb r)(hr:RcIs w r u bs)(ht0:Tb w0)(hst:St u)(hwk:Wk u)(hbl:bs.length≤9000)(hs:s.size≤65536):Calls Tryz.prog 12 #[.pointer (some ⟨ib,0,none⟩),.int .i64 1,.string s] w fun e w'=>e=.returned (.bool true)∧Zu4 w0 w' ib pb TP:=by
 have PUT:∀v:U,ZuW v 1 (tl s)=(ZuH v (clean (tl s)),0):=fun v=>rfl
 refine Zvh 1 ib pb r u bs s w0 w TP h00 hp0 hi0 hi hu hr ht0 hwk hbl hs (by decide) (fun v r bs w h1 h2 h3 h4=>ZzP pb r v bs s w h1 h2 h3 h4) ⟨hwk,fun _=>hst,(fun g=>by cases g)⟩ (fun _=>by rw[PUT];exact(by decide:(0:Int)≠1)) ?_ ?_ ?_
 ·intro hl hx
  have hl':(tl s).length≤160:=by rw[tl_length];exact hl
  rw[PUT]at hx ⊢;obtain⟨x0,x1,x2,e⟩:=ZwT u (clean (tl s))
  refine⟨Zyh hwk _,by rw[PUT];exact Prod.ext (ZyN hst _) rfl,fun _=>by show(ZuH u (clean (tl s))).q=u.q;rw[e],?_⟩
  show TP (ZuH u (clean (tl s))) (decide (¬u.sch=(ZuH u (clean (tl s))).sch∧(ZuH u (clean (tl s))).sch=Zw))
  refine⟨Zyh hwk _,fun g=>ZAM hst _ (fun hf=>Classical.byContradiction fun hn=>(of_decide_eq_false g) ⟨fun e=>hn (e.trans hf),hf⟩),fun g=>?_⟩
  obtain⟨q1,q2⟩:=of_decide_eq_true g;exact Zy2 hst _ q1 q2
 ·intro a0 a1 a2 a3 a4 a5 a6 a7 a8 a9 a10 b0 b1 b2 b3 b4 b5 b6 b7 b8 b9 b10 hl hx hA hB h8 w'
  rw[PUT]at hB hx;obtain⟨x0,x1,x2,e⟩:=ZwT u (clean (tl s));rw[show(ZuH u (clean (tl s)),(0:Int)).1=_ from e]at hB;obtain⟨g0,g1,g2,g3,g4,g5,g6,g7,g8,g9,g10⟩:=hA;obtain⟨k0,k1,k2,k3,k4,k5,k6,k7,k8,k9,k10⟩:=hB;obtain rfl:a3=b3:=Za4 (g3.trans (show _=tl b3 from k3.symm));obtain rfl:a4=b4:=Za4 (g4.trans (show _=tl b4 from k4.symm));obtain rfl:a6=b6:=Za4 (g6.trans (show _=tl b6 from k6.symm));obtain rfl:a8=b8:=Za4 (g8.trans (show _=tl b8 from k8.symm));obtain rfl:a9=b9:=Za4 (g9.trans (show _=tl b9 from k9.symm));obtain rfl:a10=b10:=Za4 (g10.trans (show _=tl b10 from k10.symm));exact ZzZ a0 a1 a2 a3 a4 a5 a6 a7 a8 a9 a10 b0 b1 b2 b5 b7 w' h8
 ·intro a0 a1 a2 a3 a4 a5 a6 a7 a8 a9 a10 b0 b1 b2 b3 b4 b5 b6 b7 b8 b9 b10 hl hx hA hB z0 zb0 z2 z8 w'
  rw[PUT]at hB hx;obtain⟨g0,g1,g2,g3,g4,g5,g6,g7,g8,g9,g10⟩:=hA;obtain⟨k0,k1,k2,k3,k4,k5,k6,k7,k8,k9,k10⟩:=hB
  refine ZyW a0 a1 a2 a3 a4 a5 a6 a7 a8 a9 a10 b0 b1 b2 b3 b4 b5 b6 b7 b8 b9 b10 s w' z0 zb0 z2 z8 hs ?_
  intro hsm;have hm:=Zxe hsm;rw[g2,k2,proto_eq,proto_eq,show ZuO (tl s++[58])=Zb (tl s)from Zvb (tl s)]
  have ec:Zax (noBreaks (clean (tl s))++[58])=(tl s,[],true):=by rw[hm.clean,hm.breaks];exact Zmq hm.sc
  by_cases hb:ZuI u (tl s)=false
  ·have ev:ZuH u (clean (tl s))=u:=by unfold ZuH;rw[ec,if_pos (Or.inr hb)]
   show(_→Zad (ZuH u (clean (tl s)))=Zad u)∧(_→Zb u.sch=Zb (ZuH u (clean (tl s))).sch→Zad (ZuH u (clean (tl s)))=_∨_)
   rw[ev]
   refine⟨fun _=>rfl,fun e1 _=>Or.inr ?_⟩
   rcases Zz7 hb e1 with g|g
   ·exact Or.inl g
   ·exact Or.inr (Zve.2 g)
  ·have hk:=ZvH hb
   have ev:(ZuH u (clean (tl s))).sch=tl s:=by
    unfold ZuH
    rw[ec,if_neg (by rintro(g|g);cases g;exact hb g)]
    split
    ·obtain⟨a,b,e⟩:=Zvi { u with sch:=tl s } u.port
     rw[e]
    ·rfl
   show(_→Zad (ZuH u (clean (tl s)))=Zad u)∧(_→Zb u.sch=Zb (ZuH u (clean (tl s))).sch→Zad (ZuH u (clean (tl s)))=_∨_)
   rw[show Zad (ZuH u (clean (tl s)))=tl s++[58]by unfold Zad;rw[ev],ev]
   exact⟨fun g=>absurd ⟨hk.1,hk.1⟩ g,fun _ _=>Or.inl rfl⟩
theorem Zz9(ib pb:Nat)(r:Rc)(u:U)(bs:LA)(s:BA)(w0 w:World)(h00:Nx w0 w)(hp0:w0.heap.size≤pb)(hi0:w0.heap.size≤ib)(hi:ItemM w ib pb false)(hu:UrlB w pb r)(hr:RcIs w r u bs)(ht0:Tb w0)(hst:St u)(hwk:Wk u)(hbl:bs.length≤9000)(hs:s.size≤65536):Calls Tryz.prog 12 #[.pointer (some ⟨ib,0,none⟩),.int .i64 2,.string s] w fun e w'=>e=.returned (.bool true)∧Zu4 w0 w' ib pb TP:=by
 have PUT:∀v:U,ZuW v 2 (tl s)=(ZuK v 2 (clean (tl s)),0):=fun v=>rfl
 refine Zvh 2 ib pb r u bs s w0 w TP h00 hp0 hi0 hi hu hr ht0 hwk hbl hs (by decide) (fun v r bs w h1 h2 h3 h4=>ZzQ pb r v bs s w h1 h2 h3 h4) ⟨hwk,fun _=>hst,(fun g=>by cases g)⟩ (fun _=>by rw[PUT];exact(by decide:(0:Int)≠1)) ?_ ?_ ?_
 ·intro hl hx
  have hl':(tl s).length≤160:=by rw[tl_length];exact hl
  rw[PUT]at hx ⊢;obtain⟨x0,e⟩:=ZwR u (clean (tl s))
  have hsc:(ZuK u 2 (clean (tl s))).sch=u.sch:=by rw[e]
  refine⟨Zw8 hwk 2 _,by rw[PUT];exact Prod.ext (ZxC u 2 _) rfl,fun _=>by show(ZuK u 2 (clean (tl s))).q=u.q;rw[e],?_⟩
  show TP (ZuK u 2 (clean (tl s))) (decide (¬u.sch=(ZuK u 2 (clean (tl s))).sch∧(ZuK u 2 (clean (tl s))).sch=Zw))
  rw[Zvx hsc]
  exact⟨Zw8 hwk 2 _,fun _=>ZzG hst 2 _,(fun g=>by cases g)⟩
 ·intro a0 a1 a2 a3 a4 a5 a6 a7 a8 a9 a10 b0 b1 b2 b3 b4 b5 b6 b7 b8 b9 b10 hl hx hA hB h8 w'
  rw[PUT]at hB hx;obtain⟨x0,e⟩:=ZwR u (clean (tl s));rw[show(ZuK u 2 (clean (tl s)),(0:Int)).1=_ from e]at hB;obtain⟨g0,g1,g2,g3,g4,g5,g6,g7,g8,g9,g10⟩:=hA;obtain⟨k0,k1,k2,k3,k4,k5,k6,k7,k8,k9,k10⟩:=hB;obtain rfl:a1=b1:=Za4 (g1.trans (show _=tl b1 from k1.symm));obtain rfl:a2=b2:=Za4 (g2.trans (show _=tl b2 from k2.symm));obtain rfl:a4=b4:=Za4 (g4.trans (show _=tl b4 from k4.symm));obtain rfl:a5=b5:=Za4 (g5.trans (show _=tl b5 from k5.symm));obtain rfl:a6=b6:=Za4 (g6.trans (show _=tl b6 from k6.symm));obtain rfl:a7=b7:=Za4 (g7.trans (show _=tl b7 from k7.symm));obtain rfl:a8=b8:=Za4 (g8.trans (show _=tl b8 from k8.symm));obtain rfl:a9=b9:=Za4 (g9.trans (show _=tl b9 from k9.symm));obtain rfl:a10=b10:=Za4 (g10.trans (show _=tl b10 from k10.symm));exact Zz0 a0 a1 a2 a3 a4 a5 a6 a7 a8 a9 a10 b0 b3 w' h8
 ·intro a0 a1 a2 a3 a4 a5 a6 a7 a8 a9 a10 b0 b1 b2 b3 b4 b5 b6 b7 b8 b9 b10 hl hx hA hB z0 zb0 z2 z8 w'
  rw[PUT]at hB hx;obtain⟨g0,g1,g2,g3,g4,g5,g6,g7,g8,g9,g10⟩:=hA;obtain⟨k0,k1,k2,k3,k4,k5,k6,k7,k8,k9,k10⟩:=hB
  refine ZyO a0 a1 a2 a3 a4 a5 a6 a7 a8 a9 a10 b0 b1 b2 b3 b4 b5 b6 b7 b8 b9 b10 s w' z0 zb0 z2 z8 hs ?_
  intro hsm;have hm:=Zxe hsm;rw[k3,g6,g2]
  by_cases hp:ZuR u=false
  ·exact Or.inr (Zz5 hp)
  ·left
   show(ZuK u 2 (clean (tl s))).nam=tl s
   unfold ZuK;rw[if_neg hp,if_pos rfl,hm.clean];exact hm.user
theorem ZAa(ib pb:Nat)(r:Rc)(u:U)(bs:LA)(s:BA)(w0 w:World)(h00:Nx w0 w)(hp0:w0.heap.size≤pb)(hi0:w0.heap.size≤ib)(hi:ItemM w ib pb false)(hu:UrlB w pb r)(hr:RcIs w r u bs)(ht0:Tb w0)(hst:St u)(hwk:Wk u)(hbl:bs.length≤9000)(hs:s.size≤65536):Calls Tryz.prog 12 #[.pointer (some ⟨ib,0,none⟩),.int .i64 3,.string s] w fun e w'=>e=.returned (.bool true)∧Zu4 w0 w' ib pb TP:=by
 have PUT:∀v:U,ZuW v 3 (tl s)=(ZuK v 3 (clean (tl s)),0):=fun v=>rfl
 refine Zvh 3 ib pb r u bs s w0 w TP h00 hp0 hi0 hi hu hr ht0 hwk hbl hs (by decide) (fun v r bs w h1 h2 h3 h4=>ZzR pb r v bs s w h1 h2 h3 h4) ⟨hwk,fun _=>hst,(fun g=>by cases g)⟩ (fun _=>by rw[PUT];exact(by decide:(0:Int)≠1)) ?_ ?_ ?_
 ·intro hl hx
  have hl':(tl s).length≤160:=by rw[tl_length];exact hl
  rw[PUT]at hx ⊢;obtain⟨x0,e⟩:=ZwS u (clean (tl s))
  have hsc:(ZuK u 3 (clean (tl s))).sch=u.sch:=by rw[e]
  refine⟨Zw8 hwk 3 _,by rw[PUT];exact Prod.ext (ZxC u 3 _) rfl,fun _=>by show(ZuK u 3 (clean (tl s))).q=u.q;rw[e],?_⟩
  show TP (ZuK u 3 (clean (tl s))) (decide (¬u.sch=(ZuK u 3 (clean (tl s))).sch∧(ZuK u 3 (clean (tl s))).sch=Zw))
  rw[Zvx hsc]
  exact⟨Zw8 hwk 3 _,fun _=>ZzG hst 3 _,(fun g=>by cases g)⟩
 ·intro a0 a1 a2 a3 a4 a5 a6 a7 a8 a9 a10 b0 b1 b2 b3 b4 b5 b6 b7 b8 b9 b10 hl hx hA hB h8 w'
  rw[PUT]at hB hx;obtain⟨x0,e⟩:=ZwS u (clean (tl s));rw[show(ZuK u 3 (clean (tl s)),(0:Int)).1=_ from e]at hB;obtain⟨g0,g1,g2,g3,g4,g5,g6,g7,g8,g9,g10⟩:=hA;obtain⟨k0,k1,k2,k3,k4,k5,k6,k7,k8,k9,k10⟩:=hB;obtain rfl:a1=b1:=Za4 (g1.trans (show _=tl b1 from k1.symm));obtain rfl:a2=b2:=Za4 (g2.trans (show _=tl b2 from k2.symm));obtain rfl:a3=b3:=Za4 (g3.trans (show _=tl b3 from k3.symm));obtain rfl:a5=b5:=Za4 (g5.trans (show _=tl b5 from k5.symm));obtain rfl:a6=b6:=Za4 (g6.trans (show _=tl b6 from k6.symm));obtain rfl:a7=b7:=Za4 (g7.trans (show _=tl b7 from k7.symm));obtain rfl:a8=b8:=Za4 (g8.trans (show _=tl b8 from k8.symm));obtain rfl:a9=b9:=Za4 (g9.trans (show _=tl b9 from k9.symm));obtain rfl:a10=b10:=Za4 (g10.trans (show _=tl b10 from k10.symm));exact Zz1 a0 a1 a2 a3 a4 a5 a6 a7 a8 a9 a10 b0 b4 w' h8
 ·intro a0 a1 a2 a3 a4 a5 a6 a7 a8 a9 a10 b0 b1 b2 b3 b4 b5 b6 b7 b8 b9 b10 hl hx hA hB z0 zb0 z2 z8 w'
  rw[PUT]at hB hx;obtain⟨g0,g1,g2,g3,g4,g5,g6,g7,g8,g9,g10⟩:=hA;obtain⟨k0,k1,k2,k3,k4,k5,k6,k7,k8,k9,k10⟩:=hB
  refine ZyP a0 a1 a2 a3 a4 a5 a6 a7 a8 a9 a10 b0 b1 b2 b3 b4 b5 b6 b7 b8 b9 b10 s w' z0 zb0 z2 z8 hs ?_
  intro hsm;have hm:=Zxe hsm;rw[k4,g6,g2]
  by_cases hp:ZuR u=false
  ·exact Or.inr (Zz5 hp)
  ·left
   show(ZuK u 3 (clean (tl s))).pw=tl s
   unfold ZuK
   rw[if_neg hp,if_neg (by decide),hm.clean]
   exact hm.user
theorem ZAb(ib pb:Nat)(r:Rc)(u:U)(bs:LA)(s:BA)(w0 w:World)(h00:Nx w0 w)(hp0:w0.heap.size≤pb)(hi0:w0.heap.size≤ib)(hi:ItemM w ib pb false)(hu:UrlB w pb r)(hr:RcIs w r u bs)(ht0:Tb w0)(hst:St u)(hwk:Wk u)(hbl:bs.length≤9000)(hs:s.size≤65536):Calls Tryz.prog 12 #[.pointer (some ⟨ib,0,none⟩),.int .i64 4,.string s] w fun e w'=>e=.returned (.bool true)∧Zu4 w0 w' ib pb TP:=by
 have PUT:∀v:U,ZuW v 4 (tl s)=ZuN v (clean (tl s)) true:=fun v=>rfl
 refine Zvh 4 ib pb r u bs s w0 w TP h00 hp0 hi0 hi hu hr ht0 hwk hbl hs (by decide) (fun v r bs w h1 h2 h3 h4=>ZzS pb r v bs s w h1 h2 h3 h4) ⟨hwk,fun _=>hst,(fun g=>by cases g)⟩ (fun _=>by rw[PUT];exact Zwz _ _ _) ?_ ?_ ?_
 ·intro hl hx
  have hl':(tl s).length≤160:=by rw[tl_length];exact hl
  rw[PUT]at hx ⊢;obtain⟨x0,x1,x2,x3,e,-⟩:=ZvI u (clean (tl s)) true hx
  have hsc:(ZuN u (clean (tl s)) true).1.sch=u.sch:=by rw[e]
  refine⟨Zw9 hwk _ _ hx,by rw[PUT];exact ZxE u _ _ hx,fun _=>by rw[e],?_⟩
  rw[Zvx hsc]
  exact⟨Zw9 hwk _ _ hx,fun _=>ZzK hst _ _ hx,(fun g=>by cases g)⟩
 ·intro a0 a1 a2 a3 a4 a5 a6 a7 a8 a9 a10 b0 b1 b2 b3 b4 b5 b6 b7 b8 b9 b10 hl hx hA hB h8 w'
  rw[PUT]at hB hx;obtain⟨x0,x1,x2,x3,e,-⟩:=ZvI u (clean (tl s)) true hx;rw[e]at hB;obtain⟨g0,g1,g2,g3,g4,g5,g6,g7,g8,g9,g10⟩:=hA;obtain⟨k0,k1,k2,k3,k4,k5,k6,k7,k8,k9,k10⟩:=hB;obtain rfl:a2=b2:=Za4 (g2.trans (show _=tl b2 from k2.symm));obtain rfl:a3=b3:=Za4 (g3.trans (show _=tl b3 from k3.symm));obtain rfl:a4=b4:=Za4 (g4.trans (show _=tl b4 from k4.symm));obtain rfl:a8=b8:=Za4 (g8.trans (show _=tl b8 from k8.symm));obtain rfl:a9=b9:=Za4 (g9.trans (show _=tl b9 from k9.symm));obtain rfl:a10=b10:=Za4 (g10.trans (show _=tl b10 from k10.symm));exact Zz2 a0 a1 a2 a3 a4 a5 a6 a7 a8 a9 a10 b0 b1 b5 b6 b7 w' h8
 ·intro a0 a1 a2 a3 a4 a5 a6 a7 a8 a9 a10 b0 b1 b2 b3 b4 b5 b6 b7 b8 b9 b10 hl hx hA hB z0 zb0 z2 z8 w'
  rw[PUT]at hB hx;obtain⟨g0,g1,g2,g3,g4,g5,g6,g7,g8,g9,g10⟩:=hA;obtain⟨k0,k1,k2,k3,k4,k5,k6,k7,k8,k9,k10⟩:=hB
  refine ZyQ a0 a1 a2 a3 a4 a5 a6 a7 a8 a9 a10 b0 b1 b2 b3 b4 b5 b6 b7 b8 b9 b10 s w' z0 zb0 z2 z8 hs ?_
  refine⟨fun e1 e2=>?_,fun hsm hn=>?_⟩
  ·rw[g2]at e1
   refine ZvK ?_
   rw[k6,e2,show clean Zej=Zej from by decide +kernel]
   exact ZwU hst (Zve.1 e1) true
  ·have hm:=Zxe hsm
   rw[g2]at hn;rw[k6,g8,g0,g2]
   cases ho:u.op
   ·left
    rw[hm.clean]
    exact ZwA hm ho (fun g=>hn ⟨Zve.2 g.1,g.2⟩) true
   ·exact Or.inr (Zxf hst ho)
theorem ZAc(ib pb:Nat)(r:Rc)(u:U)(bs:LA)(s:BA)(w0 w:World)(h00:Nx w0 w)(hp0:w0.heap.size≤pb)(hi0:w0.heap.size≤ib)(hi:ItemM w ib pb false)(hu:UrlB w pb r)(hr:RcIs w r u bs)(ht0:Tb w0)(hst:St u)(hwk:Wk u)(hbl:bs.length≤9000)(hs:s.size≤65536):Calls Tryz.prog 12 #[.pointer (some ⟨ib,0,none⟩),.int .i64 5,.string s] w fun e w'=>e=.returned (.bool true)∧Zu4 w0 w' ib pb TP:=by
 have PUT:∀v:U,ZuW v 5 (tl s)=ZuN v (clean (tl s)) false:=fun v=>rfl
 refine Zvh 5 ib pb r u bs s w0 w TP h00 hp0 hi0 hi hu hr ht0 hwk hbl hs (by decide) (fun v r bs w h1 h2 h3 h4=>ZzT pb r v bs s w h1 h2 h3 h4) ⟨hwk,fun _=>hst,(fun g=>by cases g)⟩ (fun _=>by rw[PUT];exact Zwz _ _ _) ?_ ?_ ?_
 ·intro hl hx
  have hl':(tl s).length≤160:=by rw[tl_length];exact hl
  rw[PUT]at hx ⊢;obtain⟨x0,x1,x2,x3,e,-⟩:=ZvI u (clean (tl s)) false hx
  have hsc:(ZuN u (clean (tl s)) false).1.sch=u.sch:=by rw[e]
  refine⟨Zw9 hwk _ _ hx,by rw[PUT];exact ZxE u _ _ hx,fun _=>by rw[e],?_⟩
  rw[Zvx hsc]
  exact⟨Zw9 hwk _ _ hx,fun _=>ZzK hst _ _ hx,(fun g=>by cases g)⟩
 ·intro a0 a1 a2 a3 a4 a5 a6 a7 a8 a9 a10 b0 b1 b2 b3 b4 b5 b6 b7 b8 b9 b10 hl hx hA hB h8 w'
  rw[PUT]at hB hx;obtain⟨x0,x1,x2,x3,e,e2⟩:=ZvI u (clean (tl s)) false hx;obtain⟨rfl,rfl⟩:=e2 rfl;rw[e]at hB;obtain⟨g0,g1,g2,g3,g4,g5,g6,g7,g8,g9,g10⟩:=hA;obtain⟨k0,k1,k2,k3,k4,k5,k6,k7,k8,k9,k10⟩:=hB;obtain rfl:a2=b2:=Za4 (g2.trans (show _=tl b2 from k2.symm));obtain rfl:a3=b3:=Za4 (g3.trans (show _=tl b3 from k3.symm));obtain rfl:a4=b4:=Za4 (g4.trans (show _=tl b4 from k4.symm));obtain rfl:a7=b7:=Za4 (g7.trans (show _=tl b7 from k7.symm));obtain rfl:a8=b8:=Za4 (g8.trans (show _=tl b8 from k8.symm));obtain rfl:a9=b9:=Za4 (g9.trans (show _=tl b9 from k9.symm));obtain rfl:a10=b10:=Za4 (g10.trans (show _=tl b10 from k10.symm));exact Zz3 a0 a1 a2 a3 a4 a5 a6 a7 a8 a9 a10 b0 b1 b5 b6 w' h8
 ·intro a0 a1 a2 a3 a4 a5 a6 a7 a8 a9 a10 b0 b1 b2 b3 b4 b5 b6 b7 b8 b9 b10 hl hx hA hB z0 zb0 z2 z8 w'
  rw[PUT]at hB hx;obtain⟨g0,g1,g2,g3,g4,g5,g6,g7,g8,g9,g10⟩:=hA;obtain⟨k0,k1,k2,k3,k4,k5,k6,k7,k8,k9,k10⟩:=hB
  refine ZyR a0 a1 a2 a3 a4 a5 a6 a7 a8 a9 a10 b0 b1 b2 b3 b4 b5 b6 b7 b8 b9 b10 s w' z0 zb0 z2 z8 hs ?_
  refine⟨fun e1 e2=>?_,fun hsm hn=>?_⟩
  ·rw[g2]at e1
   refine ZvK ?_
   rw[k6,e2,show clean Zej=Zej from by decide +kernel]
   exact ZwU hst (Zve.1 e1) false
  ·have hm:=Zxe hsm
   rw[g2]at hn;rw[k6,g8,g0,g2]
   cases ho:u.op
   ·left
    rw[hm.clean]
    exact ZwA hm ho (fun g=>hn ⟨Zve.2 g.1,g.2⟩) false
   ·exact Or.inr (Zxf hst ho)
theorem ZAd(ib pb:Nat)(r:Rc)(u:U)(bs:LA)(s:BA)(w0 w:World)(h00:Nx w0 w)(hp0:w0.heap.size≤pb)(hi0:w0.heap.size≤ib)(hi:ItemM w ib pb false)(hu:UrlB w pb r)(hr:RcIs w r u bs)(ht0:Tb w0)(hst:St u)(hwk:Wk u)(hbl:bs.length≤9000)(hs:s.size≤65536):Calls Tryz.prog 12 #[.pointer (some ⟨ib,0,none⟩),.int .i64 6,.string s] w fun e w'=>e=.returned (.bool true)∧Zu4 w0 w' ib pb TP:=by
 have PUT:∀v:U,ZuW v 6 (tl s)=(ZuP v (clean (tl s)),0):=fun v=>rfl
 refine Zvh 6 ib pb r u bs s w0 w TP h00 hp0 hi0 hi hu hr ht0 hwk hbl hs (by decide) (fun v r bs w h1 h2 h3 h4=>ZzU pb r v bs s w h1 h2 h3 h4) ⟨hwk,fun _=>hst,(fun g=>by cases g)⟩ (fun _=>by rw[PUT];exact(by decide:(0:Int)≠1)) ?_ ?_ ?_
 ·intro hl hx
  have hl':(tl s).length≤160:=by rw[tl_length];exact hl
  rw[PUT]at hx ⊢;obtain⟨x0,x1,e⟩:=ZxA u (clean (tl s))
  have hsc:(ZuP u (clean (tl s))).sch=u.sch:=by rw[e]
  refine⟨ZwI hwk _,by rw[PUT];exact Prod.ext (ZzL u _) rfl,fun _=>by show(ZuP u (clean (tl s))).q=u.q;rw[e],?_⟩
  show TP (ZuP u (clean (tl s))) (decide (¬u.sch=(ZuP u (clean (tl s))).sch∧(ZuP u (clean (tl s))).sch=Zw))
  rw[Zvx hsc]
  exact⟨ZwI hwk _,fun _=>ZA7 hst _,(fun g=>by cases g)⟩
 ·intro a0 a1 a2 a3 a4 a5 a6 a7 a8 a9 a10 b0 b1 b2 b3 b4 b5 b6 b7 b8 b9 b10 hl hx hA hB h8 w'
  rw[PUT]at hB hx;obtain⟨x0,x1,e⟩:=ZxA u (clean (tl s));rw[show(ZuP u (clean (tl s)),(0:Int)).1=_ from e]at hB;obtain⟨g0,g1,g2,g3,g4,g5,g6,g7,g8,g9,g10⟩:=hA;obtain⟨k0,k1,k2,k3,k4,k5,k6,k7,k8,k9,k10⟩:=hB;obtain rfl:a2=b2:=Za4 (g2.trans (show _=tl b2 from k2.symm));obtain rfl:a3=b3:=Za4 (g3.trans (show _=tl b3 from k3.symm));obtain rfl:a4=b4:=Za4 (g4.trans (show _=tl b4 from k4.symm));obtain rfl:a6=b6:=Za4 (g6.trans (show _=tl b6 from k6.symm));obtain rfl:a8=b8:=Za4 (g8.trans (show _=tl b8 from k8.symm));obtain rfl:a9=b9:=Za4 (g9.trans (show _=tl b9 from k9.symm));obtain rfl:a10=b10:=Za4 (g10.trans (show _=tl b10 from k10.symm));exact Zz4 a0 a1 a2 a3 a4 a5 a6 a7 a8 a9 a10 b0 b1 b5 b7 w' h8
 ·intro a0 a1 a2 a3 a4 a5 a6 a7 a8 a9 a10 b0 b1 b2 b3 b4 b5 b6 b7 b8 b9 b10 hl hx hA hB z0 zb0 z2 z8 w'
  rw[PUT]at hB hx;obtain⟨g0,g1,g2,g3,g4,g5,g6,g7,g8,g9,g10⟩:=hA;obtain⟨k0,k1,k2,k3,k4,k5,k6,k7,k8,k9,k10⟩:=hB
  refine ZyT a0 a1 a2 a3 a4 a5 a6 a7 a8 a9 a10 b0 b1 b2 b3 b4 b5 b6 b7 b8 b9 b10 s w' z0 zb0 z2 z8 hs ?_
  refine⟨fun e0=>ZvK ?_,fun hsm=>?_⟩
  ·rw[k7,Zxh e0]
   by_cases hp:ZuR u=false
   ·rw[show ZuP u []=u from if_pos hp]
    exact Zz6 hst hp
   ·rw[show ZuP u []={ u with hp:=false,port:=0 }by unfold ZuP;rw[if_neg hp,if_pos rfl]]
    rfl
  ·have hm:=Zxe hsm
   rw[k7,g7,hm.clean]
   by_cases hp:ZuR u=false
   ·rw[show ZuP u (tl s)=u from if_pos hp]
   ·rw[show ZuP u (tl s)=u by
     unfold ZuP;rw[if_neg hp,if_neg hm.ne,hm.breaks]
     have:(tl s).takeWhile ZAl=[]:=by
      cases hc:tl s with
      | nil=>rfl
      | cons c r=>
       have:=hm.let_ c (by rw[hc];simp)
       exact List.takeWhile_cons_of_neg (by unfold ZAl;simp;omega)
     unfold ZuQ
     rw[this,if_pos ZvZ]]
theorem ZAe(ib pb:Nat)(r:Rc)(u:U)(bs:LA)(s:BA)(w0 w:World)(h00:Nx w0 w)(hp0:w0.heap.size≤pb)(hi0:w0.heap.size≤ib)(hi:ItemM w ib pb false)(hu:UrlB w pb r)(hr:RcIs w r u bs)(ht0:Tb w0)(hst:St u)(hwk:Wk u)(hbl:bs.length≤9000)(hs:s.size≤65536):Calls Tryz.prog 12 #[.pointer (some ⟨ib,0,none⟩),.int .i64 7,.string s] w fun e w'=>e=.returned (.bool true)∧Zu4 w0 w' ib pb TP:=by
 have PUT:∀v:U,ZuW v 7 (tl s)=(ZuT v (clean (tl s)),0):=fun v=>rfl
 refine Zvh 7 ib pb r u bs s w0 w TP h00 hp0 hi0 hi hu hr ht0 hwk hbl hs (by decide) (fun v r bs w h1 h2 h3 h4=>ZzV pb r v bs s w h1 h2 h3 h4) ⟨hwk,fun _=>hst,(fun g=>by cases g)⟩ (fun _=>by rw[PUT];exact(by decide:(0:Int)≠1)) ?_ ?_ ?_
 ·intro hl hx
  have hl':(tl s).length≤160:=by rw[tl_length];exact hl
  rw[PUT]at hx ⊢;obtain⟨x0,e⟩:=ZxB u (clean (tl s))
  have hsc:(ZuT u (clean (tl s))).sch=u.sch:=by rw[e]
  refine⟨Zzi hwk _ (ZvC hl'),by rw[PUT];exact Prod.ext (ZzM u _) rfl,fun _=>by show(ZuT u (clean (tl s))).q=u.q;rw[e],?_⟩
  show TP (ZuT u (clean (tl s))) (decide (¬u.sch=(ZuT u (clean (tl s))).sch∧(ZuT u (clean (tl s))).sch=Zw))
  rw[Zvx hsc]
  exact⟨Zzi hwk _ (ZvC hl'),fun _=>ZA8 hst _,(fun g=>by cases g)⟩
 ·intro a0 a1 a2 a3 a4 a5 a6 a7 a8 a9 a10 b0 b1 b2 b3 b4 b5 b6 b7 b8 b9 b10 hl hx hA hB h8 w'
  rw[PUT]at hB hx;obtain⟨x0,e⟩:=ZxB u (clean (tl s));rw[show(ZuT u (clean (tl s)),(0:Int)).1=_ from e]at hB;obtain⟨g0,g1,g2,g3,g4,g5,g6,g7,g8,g9,g10⟩:=hA;obtain⟨k0,k1,k2,k3,k4,k5,k6,k7,k8,k9,k10⟩:=hB;obtain rfl:a2=b2:=Za4 (g2.trans (show _=tl b2 from k2.symm));obtain rfl:a3=b3:=Za4 (g3.trans (show _=tl b3 from k3.symm));obtain rfl:a4=b4:=Za4 (g4.trans (show _=tl b4 from k4.symm));obtain rfl:a5=b5:=Za4 (g5.trans (show _=tl b5 from k5.symm));obtain rfl:a6=b6:=Za4 (g6.trans (show _=tl b6 from k6.symm));obtain rfl:a7=b7:=Za4 (g7.trans (show _=tl b7 from k7.symm));obtain rfl:a9=b9:=Za4 (g9.trans (show _=tl b9 from k9.symm));obtain rfl:a10=b10:=Za4 (g10.trans (show _=tl b10 from k10.symm))
  by_cases hbl:tl a2=[98,108,111,98,58]
  ·exact ZyY a0 a1 a2 a3 a4 a5 a6 a7 a8 a9 a10 b0 b1 b8 w' h8 hbl
  ·have hnb:u.sch≠[98,108,111,98]:=fun g=>hbl (by rw[g2];unfold Zad;rw[g];rfl)
   obtain rfl:a1=b1:=Za4 (g1.trans (Eq.symm (k1.trans (Zyb hnb _))));exact ZAP a0 a1 a2 a3 a4 a5 a6 a7 a8 a9 a10 b0 b8 w' h8 hbl
 ·intro a0 a1 a2 a3 a4 a5 a6 a7 a8 a9 a10 b0 b1 b2 b3 b4 b5 b6 b7 b8 b9 b10 hl hx hA hB z0 zb0 z2 z8 w'
  rw[PUT]at hB hx;obtain⟨g0,g1,g2,g3,g4,g5,g6,g7,g8,g9,g10⟩:=hA;obtain⟨k0,k1,k2,k3,k4,k5,k6,k7,k8,k9,k10⟩:=hB
  refine ZyS a0 a1 a2 a3 a4 a5 a6 a7 a8 a9 a10 b0 b1 b2 b3 b4 b5 b6 b7 b8 b9 b10 s w' z0 zb0 z2 z8 hs ?_
  intro hsm;have hm:=Zxe hsm;rw[k8,g8,g0,g2,hm.clean]
  cases ho:u.op
  ·left
   rw[show ZuT u (tl s)={ u with segs:=[tl s] }by
    unfold ZuT
    rw[if_neg (by rw[ho];decide),hm.breaks,if_neg (fun g=>hm.ne g.1),hm.read]]
   unfold pathU
   rw[if_neg (by show ¬u.op=true;rw[ho];decide)]
   show joinSl [tl s]=47::tl s
   simp[joinSl]
  ·exact Or.inr (Zxf hst ho)
theorem ZAf(ib pb:Nat)(r:Rc)(u:U)(bs:LA)(s:BA)(w0 w:World)(h00:Nx w0 w)(hp0:w0.heap.size≤pb)(hi0:w0.heap.size≤ib)(hi:ItemM w ib pb false)(hu:UrlB w pb r)(hr:RcIs w r u bs)(ht0:Tb w0)(hst:St u)(hwk:Wk u)(hbl:bs.length≤9000)(hs:s.size≤65536):Calls Tryz.prog 12 #[.pointer (some ⟨ib,0,none⟩),.int .i64 8,.string s] w fun e w'=>e=.returned (.bool true)∧Zu4 w0 w' ib pb TP:=by
 have PUT:∀v:U,ZuW v 8 (tl s)=(ZuL v (clean (tl s)),0):=fun v=>rfl
 refine Zvh 8 ib pb r u bs s w0 w TP h00 hp0 hi0 hi hu hr ht0 hwk hbl hs (by decide) (fun v r bs w h1 h2 h3 h4=>ZzW pb r v bs s w h1 h2 h3 h4) ⟨hwk,fun _=>hst,(fun g=>by cases g)⟩ (fun _=>by rw[PUT];exact(by decide:(0:Int)≠1)) ?_ ?_ ?_
 ·intro hl hx
  have hl':(tl s).length≤160:=by rw[tl_length];exact hl
  rw[PUT]at hx ⊢;have HS:=Zv0 u (clean (tl s))
  refine⟨Zxq hwk _ (ZvC hl'),by rw[PUT];exact Prod.ext (Zx8 u _) rfl,fun g=>absurd rfl g,?_⟩
  show TP (ZuL u (clean (tl s))) (decide (¬u.sch=(ZuL u (clean (tl s))).sch∧(ZuL u (clean (tl s))).sch=Zw))
  rw[Zvx HS.sch]
  exact⟨Zxq hwk _ (ZvC hl'),fun _=>ZzI hst _,(fun g=>by cases g)⟩
 ·intro a0 a1 a2 a3 a4 a5 a6 a7 a8 a9 a10 b0 b1 b2 b3 b4 b5 b6 b7 b8 b9 b10 hl hx hA hB h8 w'
  rw[PUT]at hB hx;obtain⟨g0,g1,g2,g3,g4,g5,g6,g7,g8,g9,g10⟩:=hA;obtain⟨k0,k1,k2,k3,k4,k5,k6,k7,k8,k9,k10⟩:=hB;have HS:=Zv0 u (clean (tl s));obtain rfl:a1=b1:=Za4 (g1.trans (k1.trans (Zv1 HS hst.st.sd.popath)).symm)
  obtain rfl:a2=b2:=Za4 (g2.trans (k2.trans (show Zad _=Zad u by unfold Zad;rw[HS.sch])).symm)
  obtain rfl:a3=b3:=Za4 (g3.trans (k3.trans HS.nam).symm);obtain rfl:a4=b4:=Za4 (g4.trans (k4.trans HS.pw).symm)
  obtain rfl:a5=b5:=Za4 (g5.trans (k5.trans (show Zl _=Zl u by unfold Zl ZC;rw[HS.hp,HS.host,HS.port])).symm)
  obtain rfl:a6=b6:=Za4 (g6.trans (k6.trans HS.host).symm)
  obtain rfl:a7=b7:=Za4 (g7.trans (k7.trans (show ZC _=ZC u by unfold ZC;rw[HS.hp,HS.port])).symm)
  obtain rfl:a10=b10:=Za4 (g10.trans (k10.trans (show ZbX _=ZbX u by unfold ZbX;rw[HS.fr])).symm)
  rcases ZAX (s:=a8)with ho|⟨hpos,h47⟩
  ·exact ZAJ a0 a1 a2 a3 a4 a5 a6 a7 a8 a9 a10 b0 b8 b9 w' h8 ho
  ·have hd:=ZU a8 0 hpos
   rw[Xe,g8]at hd;obtain rfl:a8=b8:=Za4 (g8.trans (k8.trans (ZyZ hst HS hd h47)).symm);exact ZAK a0 a1 a2 a3 a4 a5 a6 a7 a8 a9 a10 b0 b9 w' h8 hpos h47
 ·intro a0 a1 a2 a3 a4 a5 a6 a7 a8 a9 a10 b0 b1 b2 b3 b4 b5 b6 b7 b8 b9 b10 hl hx hA hB z0 zb0 z2 z8 w'
  rw[PUT]at hB hx;obtain⟨g0,g1,g2,g3,g4,g5,g6,g7,g8,g9,g10⟩:=hA;obtain⟨k0,k1,k2,k3,k4,k5,k6,k7,k8,k9,k10⟩:=hB
  refine ZyU a0 a1 a2 a3 a4 a5 a6 a7 a8 a9 a10 b0 b1 b2 b3 b4 b5 b6 b7 b8 b9 b10 s w' z0 zb0 z2 z8 hs ?_
  refine⟨fun e0=>?_,fun hsm=>?_⟩
  ·have ev:ZuL u (clean (tl s))=ZbZ u:=if_pos (Zxh e0)
   have h1:=ZyM u;rw[show Zu9 u []=ZbZ u from if_pos rfl]at h1
   refine⟨?_,ZvK ?_⟩
   ·rw[k0]
    show signsB 63 (Zdg (ZuL u (clean (tl s))))=false
    rw[ev];exact ZyL (ZwQ hst) h1.2
   ·rw[k9]
    show Z4 (ZuL u (clean (tl s)))=[]
    rw[ev];exact h1.1
  ·have hm:=Zxe hsm
   rw[k9]
   show Z4 (ZuL u (clean (tl s)))=_
   rw[hm.clean,show ZuL u (tl s)={ u with hq:=true,q:=tl s }by unfold ZuL;rw[if_neg hm.ne,hm.search]]
   unfold Z4 ZaL;rw[if_neg hm.ne]
   rfl
theorem ZAg(ib pb:Nat)(r:Rc)(u:U)(bs:LA)(s:BA)(w0 w:World)(h00:Nx w0 w)(hp0:w0.heap.size≤pb)(hi0:w0.heap.size≤ib)(hi:ItemM w ib pb false)(hu:UrlB w pb r)(hr:RcIs w r u bs)(ht0:Tb w0)(hst:St u)(hwk:Wk u)(hbl:bs.length≤9000)(hs:s.size≤65536):Calls Tryz.prog 12 #[.pointer (some ⟨ib,0,none⟩),.int .i64 9,.string s] w fun e w'=>e=.returned (.bool true)∧Zu4 w0 w' ib pb TP:=by
 have PUT:∀v:U,ZuW v 9 (tl s)=(ZuS v (clean (tl s)),0):=fun v=>rfl
 refine Zvh 9 ib pb r u bs s w0 w TP h00 hp0 hi0 hi hu hr ht0 hwk hbl hs (by decide) (fun v r bs w h1 h2 h3 h4=>ZzX pb r v bs s w h1 h2 h3 h4) ⟨hwk,fun _=>hst,(fun g=>by cases g)⟩ (fun _=>by rw[PUT];exact(by decide:(0:Int)≠1)) ?_ ?_ ?_
 ·intro hl hx
  have hl':(tl s).length≤160:=by rw[tl_length];exact hl
  rw[PUT]at hx ⊢;have HS:=Zvy u (clean (tl s))
  refine⟨Zzj hwk _,by rw[PUT];exact Prod.ext (ZzN u _) rfl,fun _=>HS.q,?_⟩
  show TP (ZuS u (clean (tl s))) (decide (¬u.sch=(ZuS u (clean (tl s))).sch∧(ZuS u (clean (tl s))).sch=Zw))
  rw[Zvx HS.same.sch]
  exact⟨Zzj hwk _,fun _=>ZzJ hst _,(fun g=>by cases g)⟩
 ·intro a0 a1 a2 a3 a4 a5 a6 a7 a8 a9 a10 b0 b1 b2 b3 b4 b5 b6 b7 b8 b9 b10 hl hx hA hB h8 w'
  rw[PUT]at hB hx;obtain⟨g0,g1,g2,g3,g4,g5,g6,g7,g8,g9,g10⟩:=hA;obtain⟨k0,k1,k2,k3,k4,k5,k6,k7,k8,k9,k10⟩:=hB;have HS:=(Zvy u (clean (tl s))).same;obtain rfl:a1=b1:=Za4 (g1.trans (k1.trans (Zv1 HS hst.st.sd.popath)).symm)
  obtain rfl:a2=b2:=Za4 (g2.trans (k2.trans (show Zad _=Zad u by unfold Zad;rw[HS.sch])).symm)
  obtain rfl:a3=b3:=Za4 (g3.trans (k3.trans HS.nam).symm);obtain rfl:a4=b4:=Za4 (g4.trans (k4.trans HS.pw).symm)
  obtain rfl:a5=b5:=Za4 (g5.trans (k5.trans (show Zl _=Zl u by unfold Zl ZC;rw[HS.hp,HS.host,HS.port])).symm)
  obtain rfl:a6=b6:=Za4 (g6.trans (k6.trans HS.host).symm)
  obtain rfl:a7=b7:=Za4 (g7.trans (k7.trans (show ZC _=ZC u by unfold ZC;rw[HS.hp,HS.port])).symm)
  obtain rfl:a9=b9:=Za4 (g9.trans (k9.trans (show Z4 _=Z4 u by unfold Z4;rw[(Zvy u (clean (tl s))).q])).symm)
  rcases ZAX (s:=a8)with ho|⟨hpos,h47⟩
  ·exact ZAQ a0 a1 a2 a3 a4 a5 a6 a7 a8 a9 a10 b0 b8 b10 w' h8 ho
  ·have hd:=ZU a8 0 hpos
   rw[Xe,g8]at hd;obtain rfl:a8=b8:=Za4 (g8.trans (k8.trans (Zy0 hst (Zvy u (clean (tl s))) hd h47)).symm);exact ZAR a0 a1 a2 a3 a4 a5 a6 a7 a8 a9 a10 b0 b10 w' h8 hpos h47
 ·intro a0 a1 a2 a3 a4 a5 a6 a7 a8 a9 a10 b0 b1 b2 b3 b4 b5 b6 b7 b8 b9 b10 hl hx hA hB z0 zb0 z2 z8 w'
  rw[PUT]at hB hx;obtain⟨g0,g1,g2,g3,g4,g5,g6,g7,g8,g9,g10⟩:=hA;obtain⟨k0,k1,k2,k3,k4,k5,k6,k7,k8,k9,k10⟩:=hB
  refine ZyV a0 a1 a2 a3 a4 a5 a6 a7 a8 a9 a10 b0 b1 b2 b3 b4 b5 b6 b7 b8 b9 b10 s w' z0 zb0 z2 z8 hs ?_
  refine⟨fun e0=>?_,fun hsm=>?_⟩
  ·have ev:ZuS u (clean (tl s))=Zvw u:=if_pos (Zxh e0)
   have hst2:=ZzJ hst (clean (tl s))
   have hb:=ZAS { u with hf:=false,fr:=[] }
   refine⟨?_,ZvK ?_⟩
   ·rw[k0]
    show signsB 35 (Zdg (ZuS u (clean (tl s))))=false
    refine Zy1 hst2 ?_
    rw[ev];exact hb.2.2.1
   ·rw[k10]
    show ZbX (ZuS u (clean (tl s)))=[]
    rw[ev];unfold ZbX Zvw;rw[hb.2.2.2.1]
    rfl
  ·have hm:=Zxe hsm
   rw[k10]
   show ZbX (ZuS u (clean (tl s)))=_
   rw[hm.clean,show ZuS u (tl s)={ u with hf:=true,fr:=tl s }by unfold ZuS;rw[if_neg hm.ne,hm.hash]]
   unfold ZbX ZaL;rw[if_neg hm.ne]
   rfl
theorem Zxi:ScOk Zw:=Zg8 (l:=Zw) (by decide) |> fun g=>by rwa [show Zae Zw=Zw by decide]at g
theorem ZAh{v:U}(h:ZxF v):∃z,z.sch=Zw∧∀base,ZD (Zdg v) base=(z,0):=by
 obtain⟨u,hst,hsp,hnf,hn,hpw,hhp,rfl⟩:=h;have h':=hst.st;have hh:=h'.sp hsp;have ho:=(h'.sd.sp hsp).1;have hhost:=h'.sd.hst hsp hnf
 have hX:∃X,X≠[]∧Zdg u=u.sch++58::X∧Zdg { u with sch:=Zw }=Zw++58::X:=by
  refine⟨(Zbb u++pathU u)++(if u.hq=true then [63]++u.q else [])++(if u.hf=true then [35]++u.fr else []),?_,?_,?_⟩
  ·unfold Zbb
   rw[if_pos hh]
   simp
  ·unfold Zdg Zad;simp
  ·unfold Zdg Zad
   show Zw++[58]++Zbb u++pathU u++(if u.hq=true then [63]++u.q else [])++(if u.hf=true then [35]++u.fr else [])=_
   simp
 obtain⟨X,hne,eu,ev⟩:=hX
 have hpr:Pr X:=fun b hb=>Zyg h' b (by rw[eu];simp[hb])
 have hend:NoEnd X:=by
  have h1:=ZwG hst
  rw[eu,show u.sch++58::X=(u.sch++[58])++X by simp]at h1
  exact h1.tail
 have hw:wholeText (Zdg { u with sch:=Zw })=Zdg { u with sch:=Zw }:=by
  rw[ev]
  refine ZqC ?_ (fun c r e=>?_) ?_
  ·exact Zar (Zxi).pr (ZcR (by decide) (by decide) hpr)
  ·unfold Zw at e
   simp only[List.cons_append,List.cons.injEq]at e;rw[←e.1]
   decide
  ·rw[show Zw++58::X=(Zw++[58])++X by simp]
   exact Zvu hne hend
 have n35:∀b∈Zw++58::((Zbb u++pathU u)++(if u.hq=true then [63]++u.q else [])),isB 35 b=false:=by
  intro b hb
  refine Zlk (c:=35) rfl ?_
  simp only[Xa,Xf]at hb;rcases hb with hb|rfl|(hb|hb)|hb
  ·exact(ZrG Zxi b hb).1
  ·decide
  ·exact(ZqE h' b hb).1
  ·exact(ZsA h' b hb).1
  ·split at hb
   ·simp only[Xa,Xf,List.not_mem_nil,or_false]at hb
    rcases hb with rfl|hb
    ·decide
    ·exact(ZBh h' b hb).1
   ·cases hb
 have n63:∀b∈Zbb u++pathU u,isB 63 b=false:=by
  intro b hb
  refine Zlk (c:=63) rfl ?_
  rcases Xa.1 hb with hb|hb
  ·exact(ZqE h' b hb).2.1
  ·exact(ZsA h' b hb).2
 have e1:Zdg { u with sch:=Zw }=(Zw++58::((Zbb u++pathU u)++(if u.hq=true then [63]++u.q else [])))++(if u.hf=true then [35]++u.fr else []):=by
  unfold Zdg Zad
  show Zw++[58]++Zbb u++pathU u++(if u.hq=true then [63]++u.q else [])++(if u.hf=true then [35]++u.fr else [])=_
  simp
 have hc:bcut (isB 35) (Zdg { u with sch:=Zw })=(Zw++58::((Zbb u++pathU u)++(if u.hq=true then [63]++u.q else [])),u.fr,u.hf):=by
  rw[e1]
  cases hf:u.hf
  ·rw[if_neg (by decide:¬false=true),Xb,ZhP n35,h'.wf.nf hf]
  ·rw[if_pos (rfl:true=true)]
   exact Zsk _ n35 (by decide)
 have hq:bcut (isB 63) ((Zbb u++pathU u)++(if u.hq=true then [63]++u.q else []))=(Zbb u++pathU u,u.q,u.hq):=by
  cases hq:u.hq
  ·rw[if_neg (by decide:¬false=true),Xb,ZhP n63,h'.wf.nq hq]
  ·rw[if_pos (rfl:true=true)]
   exact Zsk _ n63 (by decide)
 have hus:userU u=[]:=by unfold userU;rw[if_pos ⟨hn,hpw⟩]
 have hhp2:Zl u=u.host:=by unfold Zl;rw[if_neg (by rw[hhp];decide)]
 have hfl:(ZH u.host).2=0:=by
  have hl:=h'.fhost hhost;rw[hsp]at hl;unfold ZH
  rw[if_neg hhost,hl,if_neg (fun g=>g rfl)]
  split<;>rfl
 obtain⟨s,r,hs⟩:∃s r,u.segs=s::r:=by
  cases e:u.segs with
  | nil=>exact absurd e (h'.sd.sp hsp).2
  | cons s r=>exact⟨s,r,rfl⟩
 have hb:Zbb u++pathU u=47::47::(u.host++47::(s++joinSl r)):=by
  unfold Zbb pathU
  rw[if_pos hh,if_neg (by rw[ho];decide),hus,hhp2,hs,show joinSl (s::r)=47::(s++joinSl r)by simp[joinSl]]
  rfl
 have hcut:bcut (slB true) (u.host++47::(s++joinSl r))=(u.host,s++joinSl r,true):=
  Zsk _ (fun b hb=>by have:=h'.ahost.mem b hb;exact Zty this.2.1 this.2.2.2.2.1) (by decide)
 have key:∀base,ZD (Zdg { u with sch:=Zw }) base=Zgv ({ (ZbI Zw u.hq u.q)with hh:=true,host:=(ZH u.host).1,segs:=Zbg (s++joinSl r) Zw },0) u.hf u.fr:=by
  intro base;unfold ZD;rw[hw,hc];simp only
  congr 1
  unfold ZaT;rw[Zmq Zxi];simp only;rw[if_pos trivial];unfold ZbY
  rw[if_neg (by decide),if_pos rfl,hq]
  simp only;unfold ZQ;rw[if_pos (show(ZbI Zw u.hq u.q).sch=Zw from rfl)];unfold Zcv
  rw[hb,ZbN,ZbN,if_pos (by omega)]
  show ZY { (ZbI Zw u.hq u.q)with hh:=true } (u.host++47::(s++joinSl r))=_
  unfold ZY;rw[hcut];simp only
  rw[ZwH h'.ahost,if_neg (by decide),if_neg (fun g=>g hfl)]
  rfl
 unfold Zgv at key
 simp only[if_neg (show ¬(0:Int)≠0 by decide)]at key
 refine⟨_,?_,key⟩
 rfl
end Go.Proofs.YtchkhibgbnhjpabGreatDoor
