import Derived.Test.YtchkhibgbnhjpaaGreatDoorP39
namespace Go.Proofs.YtchkhibgbnhjpaaGreatDoor
open Go.RowKit
theorem ZdN(l:LB):clean l=Zc (Zk l):=(ZaZ l).symm
theorem Zla{l:LI}(h:∀c∈l,Sc c):∀c∈flat l,Sc c:=fun c hc=>h c (List.mem_filter.1 hc).1
theorem Zdz{l:LI}(h:∀c∈l,Sc c):noBreaks (Zc l)=Zc (flat l):=ZjO l (fun c hc=>(h c hc).pt)
theorem Zps(u:U):0≤(toR u).port↔u.hp=true:=by
 unfold toR;simp only
 cases u.hp
 ·simp
 ·simp
theorem ZtF{u:U}(h:Wk u){p:Int}(hp:p≤65535):Wk (Zal u p):=by
 unfold Zal
 split
 ·exact⟨fun g=>(by cases g),h.opq,h.zop,h.nq,h.pq,h.sp,h.path,h.lq⟩
 ·exact⟨fun _=>by show p.toNat≤65535;omega,h.opq,h.zop,h.nq,h.pq,h.sp,h.path,h.lq⟩
structure ZtG (u:U) (l:List UInt8) (x:U×Int) (y:RU×Int) (ls:List (List UInt8×List UInt8)):Prop where
 err:x.2=y.2
 ok:x.2=0→y.1=toR x.1∧Wk x.1∧ls=Za1 x.1.q
 no:x.2≠0→y.1=toR u∧ls=Za1 u.q
theorem Zkh{u v:U}{l:LB}{m:RU}{ls:List (LB×LB)}(h:m=toR v)(hw:Wk v)(hl:ls=Za1 v.q):ZtG u l (v,0) (m,0) ls:=
 ⟨rfl,fun _=>⟨h,hw,hl⟩,fun g=>absurd rfl g⟩
theorem Zv0(u:U)(p:Int):(Zal u p).q=u.q:=by unfold Zal;split<;>rfl
end Go.Proofs.YtchkhibgbnhjpaaGreatDoor
