import Derived.Test.YtchkhibgbnhjpabGreatDoorB41
open Array renaming getElem?_eq_some_iff→Xa
namespace Go.Proofs.YtchkhibgbnhjpabGreatDoor
open Go.RowKit
theorem HostC.on{w w':World}{hb:Nat}{is:Bool}{t:BA}(h:HostC w hb is t)(hn:Nx w w'):HostC w' hb is t:=(hn.block hb (Xa.1 h).1).trans h
theorem HostC.but{w w':World}{hb rb:Nat}{is:Bool}{t:BA}(h:HostC w hb is t)(hn:But rb w w')(hne:hb≠rb):HostC w' hb is t:=(hn.block hb (Xa.1 h).1 hne).trans h
end Go.Proofs.YtchkhibgbnhjpabGreatDoor
