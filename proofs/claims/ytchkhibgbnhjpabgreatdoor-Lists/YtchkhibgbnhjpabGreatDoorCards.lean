/-
  DERIVED. GIVEN WITH THE SEED: THE CARDS: each row of YtchkhibgbnhjpabGreatDoorRows.lean that lists a variable, with what it lists TIED to the program's text (the seventh form; the later family's looks); each row that meets fmt, with fmt's text TOLD by the authors' own Lean function (tested against real Go, not proved from fmt's source: count such statements apart). THE CARD IS WHAT COUNTS. Prove the row's statement (the work); the ties are given (YtchkhibgbnhjpabGreatDoorTie.lean); close each card by the builder's one call (the guide's Derived/Test/ToyasCard.lean, 'card_holds'). Laid BY PROGRAM, IN A SANDBOX (cutbox-door.mjs). By AI agents, Wed Nov 11 2026. No macro, syntax, notation, axiom, sorry.
-/
import Derived.Test.YtchkhibgbnhjpabGreatDoorRows
import GoSem.ClaimSeven
namespace Go.Proofs.YtchkhibgbnhjpabGreatDoor
namespace Rows

/-- THE TIED CARD OF 'urlslaw.Paths'. -/
def pathsCard : Claim7 := { stood := { row := pathsRow, standIns := [], harness := (true, "b899222d5d769bb299f295be7df1552b8801b60ac5b6ae3958ca94f8e3edc784"), looks := false }, kinds := [], alts := [], laidByText := true, laidKinds := [.data, .data, .data], laidTests := true, laidLooks := .later }
def PathsCardSaid : Prop := Claim7.holds Tryz.pinned (.plain (OpenSpec.ofChange pathsSpec)) pathsCard

/-- THE TIED CARD OF 'urlslaw.Tails'. -/
def tailsCard : Claim7 := { stood := { row := tailsRow, standIns := [], harness := (true, "b899222d5d769bb299f295be7df1552b8801b60ac5b6ae3958ca94f8e3edc784"), looks := false }, kinds := [], alts := [], laidByText := true, laidKinds := [.data, .data, .data], laidTests := true, laidLooks := .later }
def TailsCardSaid : Prop := Claim7.holds Tryz.pinned (.plain (OpenSpec.ofChange tailsSpec)) tailsCard

/-- THE TIED CARD OF 'urlskeep.Turns'. -/
def turnsCard : Claim7 := { stood := { row := turnsRow, standIns := [], harness := (true, "b899222d5d769bb299f295be7df1552b8801b60ac5b6ae3958ca94f8e3edc784"), looks := false }, kinds := [], alts := [], laidByText := true, laidKinds := [.data, .data, .data], laidTests := true, laidLooks := .later }
def TurnsCardSaid : Prop := Claim7.holds Tryz.pinned (.plain (OpenSpec.ofChange turnsSpec)) turnsCard

/-- THE TIED CARD OF 'urlslaw.Pairs'. -/
def pairsCard : Claim7 := { stood := { row := pairsRow, standIns := [], harness := (true, "b899222d5d769bb299f295be7df1552b8801b60ac5b6ae3958ca94f8e3edc784"), looks := false }, kinds := [], alts := [], laidByText := true, laidKinds := [.data, .data, .data], laidTests := true, laidLooks := .later }
def PairsCardSaid : Prop := Claim7.holds Tryz.pinned (.plain (OpenSpec.ofChange pairsSpec)) pairsCard

/-- THE TIED CARD OF 'urlskeep.Changes'. -/
def changesCard : Claim7 := { stood := { row := changesRow, standIns := [], harness := (true, "b899222d5d769bb299f295be7df1552b8801b60ac5b6ae3958ca94f8e3edc784"), looks := false }, kinds := [], alts := [], laidByText := true, laidKinds := [.data, .data, .data], laidTests := true, laidLooks := .later }
def ChangesCardSaid : Prop := Claim7.holds Tryz.pinned (.plain (OpenSpec.ofChange changesSpec)) changesCard

/-- THE TIED CARD OF 'urlslaw.Lists'. -/
def listsCard : Claim7 := { stood := { row := listsRow, standIns := [], harness := (true, "b899222d5d769bb299f295be7df1552b8801b60ac5b6ae3958ca94f8e3edc784"), looks := false }, kinds := [], alts := [], laidByText := true, laidKinds := [.data, .data, .data], laidTests := true, laidLooks := .later }
def ListsCardSaid : Prop := Claim7.holds Tryz.pinned (.plain (OpenSpec.ofChange listsSpec)) listsCard

/-- THE TIED CARD OF 'urlslaw.All'. -/
def allCard : Claim7 := { stood := { row := allRow, standIns := [], harness := (true, "b899222d5d769bb299f295be7df1552b8801b60ac5b6ae3958ca94f8e3edc784"), looks := false }, kinds := [], alts := [], laidByText := true, laidKinds := [.data, .data, .data], laidTests := true, laidLooks := .later }
def AllCardSaid : Prop := Claim7.holds Tryz.pinned (.plain (OpenSpec.ofChange allSpec)) allCard

/-- THE SECOND FORM's CARD OF 'urlslaw.Paths'. -/
def pathsUptoCard : Claim7 := { stood := { row := pathsUptoRow, standIns := [], harness := (true, "b899222d5d769bb299f295be7df1552b8801b60ac5b6ae3958ca94f8e3edc784"), looks := false }, kinds := [], alts := [], laidByText := true, laidKinds := [.data, .data, .data], laidTests := true, laidLooks := .later }
def PathsUptoCardSaid : Prop := Claim7.holds Tryz.pinned (.plain (OpenSpec.upto pathsSpec)) pathsUptoCard

/-- THE SECOND FORM's CARD OF 'urlslaw.Tails'. -/
def tailsUptoCard : Claim7 := { stood := { row := tailsUptoRow, standIns := [], harness := (true, "b899222d5d769bb299f295be7df1552b8801b60ac5b6ae3958ca94f8e3edc784"), looks := false }, kinds := [], alts := [], laidByText := true, laidKinds := [.data, .data, .data], laidTests := true, laidLooks := .later }
def TailsUptoCardSaid : Prop := Claim7.holds Tryz.pinned (.plain (OpenSpec.upto tailsSpec)) tailsUptoCard

/-- THE SECOND FORM's CARD OF 'urlskeep.Turns'. -/
def turnsUptoCard : Claim7 := { stood := { row := turnsUptoRow, standIns := [], harness := (true, "b899222d5d769bb299f295be7df1552b8801b60ac5b6ae3958ca94f8e3edc784"), looks := false }, kinds := [], alts := [], laidByText := true, laidKinds := [.data, .data, .data], laidTests := true, laidLooks := .later }
def TurnsUptoCardSaid : Prop := Claim7.holds Tryz.pinned (.plain (OpenSpec.upto turnsSpec)) turnsUptoCard

/-- THE SECOND FORM's CARD OF 'urlslaw.Pairs'. -/
def pairsUptoCard : Claim7 := { stood := { row := pairsUptoRow, standIns := [], harness := (true, "b899222d5d769bb299f295be7df1552b8801b60ac5b6ae3958ca94f8e3edc784"), looks := false }, kinds := [], alts := [], laidByText := true, laidKinds := [.data, .data, .data], laidTests := true, laidLooks := .later }
def PairsUptoCardSaid : Prop := Claim7.holds Tryz.pinned (.plain (OpenSpec.upto pairsSpec)) pairsUptoCard

/-- THE SECOND FORM's CARD OF 'urlskeep.Changes'. -/
def changesUptoCard : Claim7 := { stood := { row := changesUptoRow, standIns := [], harness := (true, "b899222d5d769bb299f295be7df1552b8801b60ac5b6ae3958ca94f8e3edc784"), looks := false }, kinds := [], alts := [], laidByText := true, laidKinds := [.data, .data, .data], laidTests := true, laidLooks := .later }
def ChangesUptoCardSaid : Prop := Claim7.holds Tryz.pinned (.plain (OpenSpec.upto changesSpec)) changesUptoCard

/-- THE SECOND FORM's CARD OF 'urlslaw.Lists'. -/
def listsUptoCard : Claim7 := { stood := { row := listsUptoRow, standIns := [], harness := (true, "b899222d5d769bb299f295be7df1552b8801b60ac5b6ae3958ca94f8e3edc784"), looks := false }, kinds := [], alts := [], laidByText := true, laidKinds := [.data, .data, .data], laidTests := true, laidLooks := .later }
def ListsUptoCardSaid : Prop := Claim7.holds Tryz.pinned (.plain (OpenSpec.upto listsSpec)) listsUptoCard

/-- THE SECOND FORM's CARD OF 'urlslaw.All'. -/
def allUptoCard : Claim7 := { stood := { row := allUptoRow, standIns := [], harness := (true, "b899222d5d769bb299f295be7df1552b8801b60ac5b6ae3958ca94f8e3edc784"), looks := false }, kinds := [], alts := [], laidByText := true, laidKinds := [.data, .data, .data], laidTests := true, laidLooks := .later }
def AllUptoCardSaid : Prop := Claim7.holds Tryz.pinned (.plain (OpenSpec.upto allSpec)) allUptoCard
end Rows
end Go.Proofs.YtchkhibgbnhjpabGreatDoor
