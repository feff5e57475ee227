/-
  DERIVED. GIVEN WITH THE SEED: THE CARDS: each row of YtchkhibgbnhjpaaGreatDoorRows.lean that lists a variable, with what it lists TIED to the program's text (the seventh form; the later family's looks); each row that meets fmt, with fmt's text TOLD by the authors' own Lean function (tested against real Go, not proved from fmt's source: count such statements apart). THE CARD IS WHAT COUNTS. Prove the row's statement (the work); the ties are given (YtchkhibgbnhjpaaGreatDoorTie.lean); close each card by the builder's one call (the guide's Derived/Test/ToyasCard.lean, 'card_holds'). Laid BY PROGRAM, IN A SANDBOX (cutbox-door.mjs). By AI agents, Wed Nov 11 2026. No macro, syntax, notation, axiom, sorry.
-/
import Derived.Test.YtchkhibgbnhjpaaGreatDoorRows
import GoSem.ClaimSeven
namespace Go.Proofs.YtchkhibgbnhjpaaGreatDoor
namespace Rows

/-- THE TIED CARD OF 'urlslaw.Reads'. -/
def readsCard : Claim7 := { stood := { row := readsRow, standIns := [], harness := (true, "0d630a5bb637942f4aadb26f3f7cf21a3e7ce6a5cf5331beaabe801dc740834a"), looks := false }, kinds := [], alts := [], laidByText := true, laidKinds := [.data, .data, .data], laidTests := true, laidLooks := .later }
def ReadsCardSaid : Prop := Claim7.holds Tryz.pinned (.plain (OpenSpec.ofChange readsSpec)) readsCard

/-- THE TIED CARD OF 'urlskeep.Known'. -/
def knownCard : Claim7 := { stood := { row := knownRow, standIns := [], harness := (true, "0d630a5bb637942f4aadb26f3f7cf21a3e7ce6a5cf5331beaabe801dc740834a"), looks := false }, kinds := [], alts := [], laidByText := true, laidKinds := [.data, .data, .data], laidTests := true, laidLooks := .later }
def KnownCardSaid : Prop := Claim7.holds Tryz.pinned (.plain (OpenSpec.ofChange knownSpec)) knownCard

/-- THE TIED CARD OF 'urlskeep.Sound'. -/
def soundCard : Claim7 := { stood := { row := soundRow, standIns := [], harness := (true, "0d630a5bb637942f4aadb26f3f7cf21a3e7ce6a5cf5331beaabe801dc740834a"), looks := false }, kinds := [], alts := [], laidByText := true, laidKinds := [.data, .data, .data], laidTests := true, laidLooks := .later }
def SoundCardSaid : Prop := Claim7.holds Tryz.pinned (.plain (OpenSpec.ofChange soundSpec)) soundCard

/-- THE TIED CARD OF 'urlskeep.Written'. -/
def writtenCard : Claim7 := { stood := { row := writtenRow, standIns := [], harness := (true, "0d630a5bb637942f4aadb26f3f7cf21a3e7ce6a5cf5331beaabe801dc740834a"), looks := false }, kinds := [], alts := [], laidByText := true, laidKinds := [.data, .data, .data], laidTests := true, laidLooks := .later }
def WrittenCardSaid : Prop := Claim7.holds Tryz.pinned (.plain (OpenSpec.ofChange writtenSpec)) writtenCard

/-- THE TIED CARD OF 'urlskeep.Origins'. -/
def originsCard : Claim7 := { stood := { row := originsRow, standIns := [], harness := (true, "0d630a5bb637942f4aadb26f3f7cf21a3e7ce6a5cf5331beaabe801dc740834a"), looks := false }, kinds := [], alts := [], laidByText := true, laidKinds := [.data, .data, .data], laidTests := true, laidLooks := .later }
def OriginsCardSaid : Prop := Claim7.holds Tryz.pinned (.plain (OpenSpec.ofChange originsSpec)) originsCard

/-- THE TIED CARD OF 'urlslaw.Refers'. -/
def refersCard : Claim7 := { stood := { row := refersRow, standIns := [], harness := (true, "0d630a5bb637942f4aadb26f3f7cf21a3e7ce6a5cf5331beaabe801dc740834a"), looks := false }, kinds := [], alts := [], laidByText := true, laidKinds := [.data, .data, .data], laidTests := true, laidLooks := .later }
def RefersCardSaid : Prop := Claim7.holds Tryz.pinned (.plain (OpenSpec.ofChange refersSpec)) refersCard

/-- THE TIED CARD OF 'urlskeep.Again'. -/
def againCard : Claim7 := { stood := { row := againRow, standIns := [], harness := (true, "0d630a5bb637942f4aadb26f3f7cf21a3e7ce6a5cf5331beaabe801dc740834a"), looks := false }, kinds := [], alts := [], laidByText := true, laidKinds := [.data, .data, .data], laidTests := true, laidLooks := .later }
def AgainCardSaid : Prop := Claim7.holds Tryz.pinned (.plain (OpenSpec.ofChange againSpec)) againCard

/-- THE TIED CARD OF 'urlskeep.Empty'. -/
def emptyCard : Claim7 := { stood := { row := emptyRow, standIns := [], harness := (true, "0d630a5bb637942f4aadb26f3f7cf21a3e7ce6a5cf5331beaabe801dc740834a"), looks := false }, kinds := [], alts := [], laidByText := true, laidKinds := [.data, .data, .data], laidTests := true, laidLooks := .later }
def EmptyCardSaid : Prop := Claim7.holds Tryz.pinned (.plain (OpenSpec.ofChange emptySpec)) emptyCard

/-- THE TIED CARD OF 'urlslaw.Hrefs'. -/
def hrefsCard : Claim7 := { stood := { row := hrefsRow, standIns := [], harness := (true, "0d630a5bb637942f4aadb26f3f7cf21a3e7ce6a5cf5331beaabe801dc740834a"), looks := false }, kinds := [], alts := [], laidByText := true, laidKinds := [.data, .data, .data], laidTests := true, laidLooks := .later }
def HrefsCardSaid : Prop := Claim7.holds Tryz.pinned (.plain (OpenSpec.ofChange hrefsSpec)) hrefsCard

/-- THE TIED CARD OF 'urlslaw.Renames'. -/
def renamesCard : Claim7 := { stood := { row := renamesRow, standIns := [], harness := (true, "0d630a5bb637942f4aadb26f3f7cf21a3e7ce6a5cf5331beaabe801dc740834a"), looks := false }, kinds := [], alts := [], laidByText := true, laidKinds := [.data, .data, .data], laidTests := true, laidLooks := .later }
def RenamesCardSaid : Prop := Claim7.holds Tryz.pinned (.plain (OpenSpec.ofChange renamesSpec)) renamesCard

/-- THE TIED CARD OF 'urlslaw.Users'. -/
def usersCard : Claim7 := { stood := { row := usersRow, standIns := [], harness := (true, "0d630a5bb637942f4aadb26f3f7cf21a3e7ce6a5cf5331beaabe801dc740834a"), looks := false }, kinds := [], alts := [], laidByText := true, laidKinds := [.data, .data, .data], laidTests := true, laidLooks := .later }
def UsersCardSaid : Prop := Claim7.holds Tryz.pinned (.plain (OpenSpec.ofChange usersSpec)) usersCard

/-- THE TIED CARD OF 'urlslaw.Hosts'. -/
def hostsCard : Claim7 := { stood := { row := hostsRow, standIns := [], harness := (true, "0d630a5bb637942f4aadb26f3f7cf21a3e7ce6a5cf5331beaabe801dc740834a"), looks := false }, kinds := [], alts := [], laidByText := true, laidKinds := [.data, .data, .data], laidTests := true, laidLooks := .later }
def HostsCardSaid : Prop := Claim7.holds Tryz.pinned (.plain (OpenSpec.ofChange hostsSpec)) hostsCard

/-- THE SECOND FORM's CARD OF 'urlslaw.Reads'. -/
def readsUptoCard : Claim7 := { stood := { row := readsUptoRow, standIns := [], harness := (true, "0d630a5bb637942f4aadb26f3f7cf21a3e7ce6a5cf5331beaabe801dc740834a"), looks := false }, kinds := [], alts := [], laidByText := true, laidKinds := [.data, .data, .data], laidTests := true, laidLooks := .later }
def ReadsUptoCardSaid : Prop := Claim7.holds Tryz.pinned (.plain (OpenSpec.upto readsSpec)) readsUptoCard

/-- THE SECOND FORM's CARD OF 'urlskeep.Known'. -/
def knownUptoCard : Claim7 := { stood := { row := knownUptoRow, standIns := [], harness := (true, "0d630a5bb637942f4aadb26f3f7cf21a3e7ce6a5cf5331beaabe801dc740834a"), looks := false }, kinds := [], alts := [], laidByText := true, laidKinds := [.data, .data, .data], laidTests := true, laidLooks := .later }
def KnownUptoCardSaid : Prop := Claim7.holds Tryz.pinned (.plain (OpenSpec.upto knownSpec)) knownUptoCard

/-- THE SECOND FORM's CARD OF 'urlskeep.Sound'. -/
def soundUptoCard : Claim7 := { stood := { row := soundUptoRow, standIns := [], harness := (true, "0d630a5bb637942f4aadb26f3f7cf21a3e7ce6a5cf5331beaabe801dc740834a"), looks := false }, kinds := [], alts := [], laidByText := true, laidKinds := [.data, .data, .data], laidTests := true, laidLooks := .later }
def SoundUptoCardSaid : Prop := Claim7.holds Tryz.pinned (.plain (OpenSpec.upto soundSpec)) soundUptoCard

/-- THE SECOND FORM's CARD OF 'urlskeep.Written'. -/
def writtenUptoCard : Claim7 := { stood := { row := writtenUptoRow, standIns := [], harness := (true, "0d630a5bb637942f4aadb26f3f7cf21a3e7ce6a5cf5331beaabe801dc740834a"), looks := false }, kinds := [], alts := [], laidByText := true, laidKinds := [.data, .data, .data], laidTests := true, laidLooks := .later }
def WrittenUptoCardSaid : Prop := Claim7.holds Tryz.pinned (.plain (OpenSpec.upto writtenSpec)) writtenUptoCard

/-- THE SECOND FORM's CARD OF 'urlskeep.Origins'. -/
def originsUptoCard : Claim7 := { stood := { row := originsUptoRow, standIns := [], harness := (true, "0d630a5bb637942f4aadb26f3f7cf21a3e7ce6a5cf5331beaabe801dc740834a"), looks := false }, kinds := [], alts := [], laidByText := true, laidKinds := [.data, .data, .data], laidTests := true, laidLooks := .later }
def OriginsUptoCardSaid : Prop := Claim7.holds Tryz.pinned (.plain (OpenSpec.upto originsSpec)) originsUptoCard

/-- THE SECOND FORM's CARD OF 'urlslaw.Refers'. -/
def refersUptoCard : Claim7 := { stood := { row := refersUptoRow, standIns := [], harness := (true, "0d630a5bb637942f4aadb26f3f7cf21a3e7ce6a5cf5331beaabe801dc740834a"), looks := false }, kinds := [], alts := [], laidByText := true, laidKinds := [.data, .data, .data], laidTests := true, laidLooks := .later }
def RefersUptoCardSaid : Prop := Claim7.holds Tryz.pinned (.plain (OpenSpec.upto refersSpec)) refersUptoCard

/-- THE SECOND FORM's CARD OF 'urlskeep.Again'. -/
def againUptoCard : Claim7 := { stood := { row := againUptoRow, standIns := [], harness := (true, "0d630a5bb637942f4aadb26f3f7cf21a3e7ce6a5cf5331beaabe801dc740834a"), looks := false }, kinds := [], alts := [], laidByText := true, laidKinds := [.data, .data, .data], laidTests := true, laidLooks := .later }
def AgainUptoCardSaid : Prop := Claim7.holds Tryz.pinned (.plain (OpenSpec.upto againSpec)) againUptoCard

/-- THE SECOND FORM's CARD OF 'urlskeep.Empty'. -/
def emptyUptoCard : Claim7 := { stood := { row := emptyUptoRow, standIns := [], harness := (true, "0d630a5bb637942f4aadb26f3f7cf21a3e7ce6a5cf5331beaabe801dc740834a"), looks := false }, kinds := [], alts := [], laidByText := true, laidKinds := [.data, .data, .data], laidTests := true, laidLooks := .later }
def EmptyUptoCardSaid : Prop := Claim7.holds Tryz.pinned (.plain (OpenSpec.upto emptySpec)) emptyUptoCard

/-- THE SECOND FORM's CARD OF 'urlslaw.Hrefs'. -/
def hrefsUptoCard : Claim7 := { stood := { row := hrefsUptoRow, standIns := [], harness := (true, "0d630a5bb637942f4aadb26f3f7cf21a3e7ce6a5cf5331beaabe801dc740834a"), looks := false }, kinds := [], alts := [], laidByText := true, laidKinds := [.data, .data, .data], laidTests := true, laidLooks := .later }
def HrefsUptoCardSaid : Prop := Claim7.holds Tryz.pinned (.plain (OpenSpec.upto hrefsSpec)) hrefsUptoCard

/-- THE SECOND FORM's CARD OF 'urlslaw.Renames'. -/
def renamesUptoCard : Claim7 := { stood := { row := renamesUptoRow, standIns := [], harness := (true, "0d630a5bb637942f4aadb26f3f7cf21a3e7ce6a5cf5331beaabe801dc740834a"), looks := false }, kinds := [], alts := [], laidByText := true, laidKinds := [.data, .data, .data], laidTests := true, laidLooks := .later }
def RenamesUptoCardSaid : Prop := Claim7.holds Tryz.pinned (.plain (OpenSpec.upto renamesSpec)) renamesUptoCard

/-- THE SECOND FORM's CARD OF 'urlslaw.Users'. -/
def usersUptoCard : Claim7 := { stood := { row := usersUptoRow, standIns := [], harness := (true, "0d630a5bb637942f4aadb26f3f7cf21a3e7ce6a5cf5331beaabe801dc740834a"), looks := false }, kinds := [], alts := [], laidByText := true, laidKinds := [.data, .data, .data], laidTests := true, laidLooks := .later }
def UsersUptoCardSaid : Prop := Claim7.holds Tryz.pinned (.plain (OpenSpec.upto usersSpec)) usersUptoCard

/-- THE SECOND FORM's CARD OF 'urlslaw.Hosts'. -/
def hostsUptoCard : Claim7 := { stood := { row := hostsUptoRow, standIns := [], harness := (true, "0d630a5bb637942f4aadb26f3f7cf21a3e7ce6a5cf5331beaabe801dc740834a"), looks := false }, kinds := [], alts := [], laidByText := true, laidKinds := [.data, .data, .data], laidTests := true, laidLooks := .later }
def HostsUptoCardSaid : Prop := Claim7.holds Tryz.pinned (.plain (OpenSpec.upto hostsSpec)) hostsUptoCard
end Rows
end Go.Proofs.YtchkhibgbnhjpaaGreatDoor
