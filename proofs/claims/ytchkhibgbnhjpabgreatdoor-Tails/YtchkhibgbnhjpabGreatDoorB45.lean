import Derived.Test.YtchkhibgbnhjpabGreatDoorB39
namespace Go.Proofs.YtchkhibgbnhjpabGreatDoor
open Go.RowKit
theorem ZdG(l:LB):clean l=Zb (Zj l):=(ZaU l).symm
theorem ZnU{l:LI}(h:∀c∈l,Sc c):∀c∈flat l,Sc c:=fun c hc=>h c (List.mem_filter.1 hc).1
theorem Zdr{l:LI}(h:∀c∈l,Sc c):noBreaks (Zb l)=Zb (flat l):=Zjs l (fun c hc=>(h c hc).pt)
structure ZvL (u:U) (l:List UInt8) (x:U×Int) (y:RU×Int) (ls:List (List UInt8×List UInt8)):Prop where
 err:x.2=y.2
 ok:x.2=0→y.1=toR x.1∧Wk x.1∧ls=Zba x.1.q
 no:x.2≠0→y.1=toR u∧ls=Zba u.q
theorem Zg2{u v:U}{l:LB}{m:RU}{ls:List (LB×LB)}(h:m=toR v)(hw:Wk v)(hl:ls=Zba v.q):ZvL u l (v,0) (m,0) ls:=
 ⟨rfl,fun _=>⟨h,hw,hl⟩,fun g=>absurd rfl g⟩
theorem Zmr{l:LB}(hl:l.length≤160):(clean l).length≤480:=by
 have:=Zb4 l
 omega
end Go.Proofs.YtchkhibgbnhjpabGreatDoor
