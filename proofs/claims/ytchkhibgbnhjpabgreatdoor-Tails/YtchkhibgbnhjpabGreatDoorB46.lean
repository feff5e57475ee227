import Derived.Test.YtchkhibgbnhjpabGreatDoorB43
import Derived.Test.YtchkhibgbnhjpabGreatDoorB45
namespace Go.Proofs.YtchkhibgbnhjpabGreatDoor
open Go.RowKit
theorem ZjY(l:LB):Zj l=[]↔clean l=[]:=by rw[ZdG l,Zr (fun c hc=>(ZaX l c hc).pt)]
theorem ZjZ{u:U}(h:u.op=false→u.opath=[]):Zez (toR u)=toR (ZaZ u):=by
 unfold Zez ZaZ;have e:(toR u).op=u.op∧(toR u).hq=u.hq∧(toR u).hf=u.hf:=⟨rfl,rfl,rfl⟩;rw[e.1,e.2.1,e.2.2]
 cases hq:u.hq
 ·cases hf:u.hf
  ·rw[if_neg (show ¬(false=true∨false=true)by decide)]
   cases ho:u.op
   ·rw[if_neg (by rintro⟨g,-⟩;cases g),h ho]
    have:ZbX []=[]:=rfl;unfold toR
    simp[this,h ho,ho,hq,hf]
   ·rw[if_pos ⟨rfl,rfl,rfl⟩]
    rfl
  ·rw[if_neg (by rintro⟨-,-,g⟩;cases g),if_pos (Or.inr rfl)]
 ·rw[if_neg (by rintro⟨-,g,-⟩;cases g),if_pos (Or.inl rfl)]
theorem Zj0(n:Int)(t:UInt8)(h0:0<n)(h1:n<128)(ht:(t.toNat:Int)=n)(p:LI)(hp:∀c∈p,Pt c):Zbs n (Zb p)=Zb (ZqV n p):=by
 unfold Zbs ZqV;have hf:=ZjF n t h0 h1 ht p hp;have hE:=Zr hp
 cases p with
 | nil=>rw[if_neg (by rintro⟨g,-⟩;exact g rfl),if_neg (by show ¬(0:Int)=n;omega)]
 | cons c r=>
  have hne:Zb (c::r)≠[]:=fun g=>by cases hE.1 g
  by_cases hc:c=n
  ·rw[if_pos ⟨hne,hf.2 hc⟩,if_pos (show(c::r).headD 0=n from hc),bytesOf_cons,ZmN (by omega)]
   rfl
  ·rw[if_neg (fun g=>hc (hf.1 g.2)),if_neg (show ¬(c::r).headD 0=n from hc)]
theorem Ztv{n:Int}{p:LI}(h:∀c∈p,Sc c):∀c∈ZqV n p,Sc c:=fun c hc=>by
 unfold ZqV at hc
 split at hc
 ·exact h c (List.mem_of_mem_drop hc)
 ·exact h c hc
theorem ZiN{u:U}(h:Wk u)(l:LB):Zcd (toR u) (Zj l)=toR (ZaE u (clean l)):=by
 unfold Zcd ZaE;have hn:=ZjY l
 by_cases h0:Zj l=[]
 ·rw[if_pos h0,if_pos (hn.1 h0)]
  exact ZjZ (u:={ u with hq:=false,q:=[] }) h.zop
 ·rw[if_neg h0,if_neg (fun g=>h0 (hn.2 g))]
  unfold Zg0;have hsc:=Ztv (n:=63) (ZaX l)
  rw[ZdG l,Zj0 63 63 (by decide) (by decide) rfl _ (fun c hc=>(ZaX l c hc).pt),Zdr hsc,Zmd u.sch _ (ZnU hsc)]
  rfl
theorem Ztw{u:U}(h:Wk u)(l:LB):Zi5 (toR u) (Zj l)=toR (Zbb u (clean l)):=by
 unfold Zi5 Zbb;have hn:=ZjY l
 by_cases h0:Zj l=[]
 ·rw[if_pos h0,if_pos (hn.1 h0)]
  exact ZjZ (u:={ u with hf:=false,fr:=[] }) h.zop
 ·rw[if_neg h0,if_neg (fun g=>h0 (hn.2 g))]
  unfold Ztp;have hsc:=Ztv (n:=35) (ZaX l)
  rw[ZdG l,Zj0 35 35 (by decide) (by decide) rfl _ (fun c hc=>(ZaX l c hc).pt),Zdr hsc,ZkM _ (ZnU hsc)]
  rfl
theorem ZqL(l:LB):(ZbX l).length≤l.length:=by
 unfold ZbX;rw[List.length_reverse]
 exact Nat.le_trans (List.dropWhile_sublist _).length_le (by rw[List.length_reverse];exact Nat.le_refl _)
theorem Zmq{u:U}(h:Wk u):Wk (ZaZ u):=by
 unfold ZaZ
 split
 ·exact h
 ·refine⟨h.port,h.opq,fun g=>?_,h.nq,h.pq,h.sp,?_,h.lq⟩
  ·show ZbX u.opath=[]
   rw[h.zop g]
   rfl
  ·have hp:=h.path
   unfold ZaY at hp ⊢;simp only
   split
   ·next ho=>
    rw[if_pos ho]at hp;have:=ZqL u.opath
    omega
   ·next ho=>
    rw[if_neg ho]at hp;exact hp
theorem Ztx{u:U}(h:Wk u)(l:LB)(hl:l.length≤480):Wk (ZaE u l):=by
 unfold ZaE
 split
 ·exact Zmq (u:={ u with hq:=false,q:=[] }) ⟨h.port,h.opq,h.zop,fun _=>rfl,pr_nil,h.sp,h.path,Nat.zero_le _⟩
 ·refine⟨h.port,h.opq,h.zop,fun g=>(by cases g),Zen _ _,h.sp,h.path,?_⟩
  show(Zg0 u.sch l).length≤90000
  unfold Zg0;have h1:=ZxD (tl (ZaJ (ZaQ u.sch))) (noBreaks (Zbs 63 l));have h2:=ZaP (Zbs 63 l);have h3:=Zev 63 l
  omega
theorem ZwW{u:U}(h:Wk u)(l:LB):Wk (Zbb u l):=by
 unfold Zbb
 split
 ·exact Zmq (u:={ u with hf:=false,fr:=[] }) ⟨h.port,h.opq,h.zop,h.nq,h.pq,h.sp,h.path,h.lq⟩
 ·exact⟨h.port,h.opq,h.zop,h.nq,h.pq,h.sp,h.path,h.lq⟩
theorem Zxw{u:U}(h:Wk u)(l:LB)(hl:l.length≤160):ZvL u l (ZnS u 8 l) (Zmm (toR u) 9 l) (ZbS (toR u) 9 l (Zba u.q)):=by
 have hw:=Ztx h (clean l) (Zmr hl)
 refine Zg2 (ZiN h l) hw ?_
 show Zf0 (Zcd (toR u) (Zj l))=Zba (ZaE u (clean l)).q
 rw[ZiN h l,Zme hw]
theorem Zvr(u:U):(ZaZ u).q=u.q:=by unfold ZaZ;split<;>rfl
theorem Zxx{u:U}(h:Wk u)(l:LB):ZvL u l (ZnS u 9 l) (Zmm (toR u) 10 l) (ZbS (toR u) 10 l (Zba u.q)):=by
 refine Zg2 (Ztw h l) (ZwW h _) ?_
 show Zba u.q=Zba (Zbb u (clean l)).q
 congr 1
 unfold Zbb
 split
 ·exact(Zvr { u with hf:=false,fr:=[] }).symm
 ·rfl
end Go.Proofs.YtchkhibgbnhjpabGreatDoor
