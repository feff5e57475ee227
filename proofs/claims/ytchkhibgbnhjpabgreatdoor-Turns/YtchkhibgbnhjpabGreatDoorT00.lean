import Derived.Test.YtchkhibgbnhjpabGreatDoorV10
namespace Go.Proofs.YtchkhibgbnhjpabGreatDoor
open Go.RowKit
theorem RecB.s12{w:World}{b:Nat}{r:Rc}(h:RecB w b r)(x:Bool):RecB (w.setCell ⟨b,12,none⟩ (.bool x)) b { r with hf:=x }:=by
 unfold RecB at *
 simp[World.setCell,Array.getElem?_modify,h]
end Go.Proofs.YtchkhibgbnhjpabGreatDoor
