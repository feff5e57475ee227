import Derived.Test.YtchkhibgbnhjpabGreatDoorT21
import Derived.ChangeMaps5
import Derived.Deep.Slices
import Derived.ChangeSame
namespace Go.Proofs.YtchkhibgbnhjpabGreatDoor
open Go.ChangeShapes Go.WideShapes Go.ChangeAt Go.RowKit Go.ChangeMaps
theorem ZI3 (os : Os) : laidMet Tryz.prog Rows.listsRow.laid ((ZDK os).forCall (fun _ _ => 0) ⟨#[], #[.slice none 0 0], []⟩).memory :=
  laidMet_of_run' 8 (by kernel_rfl) (by kernel_rfl)
theorem ZG8 (os : Os) {H : Type} (enc : TypeId × Value → H) : ∃ places, DataW.whole enc Tryz.prog ((ZDK os).forCall (fun _ _ => 0) ⟨#[], #[.slice none 0 0], []⟩).memory Tryz.f8.params.toList Rows.listsSpec.vars false #[Value.slice none 0 0].toList 8 = some ([.nil], [], places) :=
  ⟨[], by kernel_rfl⟩
theorem lists_c1 : (Rows.listsRow.inPlace == Tryz.prog.inPlace 8) = true := by kernel_rfl
theorem lists_c2 : (Rows.listsRow.unfollowed == Tryz.prog.unfollowed 8) = true := by kernel_rfl
theorem lists_c3 : (Rows.listsRow.recurses == Tryz.prog.recurses 8) = true := by kernel_rfl
theorem lists_c4 : (Rows.listsRow.named == Tryz.prog.varsNamed 8) = true := by kernel_rfl
theorem lists_c5 : laidOutB Tryz.prog = true := by kernel_rfl
theorem lists_c6 : mapsRowed Tryz.prog = true := by kernel_rfl
theorem ZF4 : joinedFacts Tryz.prog 8 Tryz.f8 (OpenSpec.ofChange Rows.listsSpec).bare Rows.listsRow = true := by
  simp only [joinedFacts, Bool.and_eq_true]
  exact ⟨⟨⟨⟨⟨⟨⟨⟨⟨⟨⟨⟨⟨⟨⟨⟨⟨⟨⟨⟨⟨⟨⟨⟨⟨⟨⟨⟨⟨⟨⟨by kernel_rfl, lists_c5⟩, lists_c6⟩, by kernel_rfl⟩, by kernel_rfl⟩, by kernel_rfl⟩, by kernel_rfl⟩, by kernel_rfl⟩, by kernel_rfl⟩, lists_c1⟩, lists_c2⟩, lists_c3⟩, lists_c4⟩, by kernel_rfl⟩, by kernel_rfl⟩, by kernel_rfl⟩, by kernel_rfl⟩, by kernel_rfl⟩, by kernel_rfl⟩, by kernel_rfl⟩, by kernel_rfl⟩, by kernel_rfl⟩, by kernel_rfl⟩, by kernel_rfl⟩, by kernel_rfl⟩, by kernel_rfl⟩, by kernel_rfl⟩, by kernel_rfl⟩, by kernel_rfl⟩, by kernel_rfl⟩, by kernel_rfl⟩, by kernel_rfl⟩
end Go.Proofs.YtchkhibgbnhjpabGreatDoor
