import Derived.Test.YtchkhibgbnhjpaaGreatDoorPgB
import Derived.Deep.Cut
import Derived.Great.BuildSlice
import Derived.Test.YtchkhibgbnhjpaaGreatDoorUrl1
import Derived.Test.YtchkhibgbnhjpaaGreatDoorInvA
namespace Go.Proofs.YtchkhibgbnhjpaaGreatDoor
open Go.RowKit

/-- What is known: a text, a base, the URL. -/
def goldTab : List (ByteArray × ByteArray × ByteArray) := [
  ((⟨#[104, 116, 116, 112, 115, 58, 101, 120, 97, 109, 112, 108, 101, 46, 111, 114, 103]⟩ : ByteArray), (⟨#[]⟩ : ByteArray), (⟨#[104, 116, 116, 112, 115, 58, 47, 47, 101, 120, 97, 109, 112, 108, 101, 46, 111, 114, 103, 47]⟩ : ByteArray)),
  ((⟨#[104, 116, 116, 112, 115, 58, 47, 47, 47, 47, 47, 47, 101, 120, 97, 109, 112, 108, 101, 46, 99, 111, 109, 47, 47, 47]⟩ : ByteArray), (⟨#[]⟩ : ByteArray), (⟨#[104, 116, 116, 112, 115, 58, 47, 47, 101, 120, 97, 109, 112, 108, 101, 46, 99, 111, 109, 47, 47, 47]⟩ : ByteArray)),
  ((⟨#[104, 116, 116, 112, 115, 58, 47, 47, 101, 120, 97, 109, 112, 108, 101, 46, 99, 111, 109, 47, 46, 47, 46, 47, 102, 111, 111]⟩ : ByteArray), (⟨#[]⟩ : ByteArray), (⟨#[104, 116, 116, 112, 115, 58, 47, 47, 101, 120, 97, 109, 112, 108, 101, 46, 99, 111, 109, 47, 102, 111, 111]⟩ : ByteArray)),
  ((⟨#[104, 101, 108, 108, 111, 58, 119, 111, 114, 108, 100]⟩ : ByteArray), (⟨#[104, 116, 116, 112, 115, 58, 47, 47, 101, 120, 97, 109, 112, 108, 101, 46, 99, 111, 109, 47]⟩ : ByteArray), (⟨#[104, 101, 108, 108, 111, 58, 119, 111, 114, 108, 100]⟩ : ByteArray)),
  ((⟨#[104, 116, 116, 112, 115, 58, 101, 120, 97, 109, 112, 108, 101, 46, 111, 114, 103]⟩ : ByteArray), (⟨#[104, 116, 116, 112, 115, 58, 47, 47, 101, 120, 97, 109, 112, 108, 101, 46, 99, 111, 109, 47]⟩ : ByteArray), (⟨#[104, 116, 116, 112, 115, 58, 47, 47, 101, 120, 97, 109, 112, 108, 101, 46, 99, 111, 109, 47, 101, 120, 97, 109, 112, 108, 101, 46, 111, 114, 103]⟩ : ByteArray)),
  ((⟨#[92, 101, 120, 97, 109, 112, 108, 101, 92, 46, 46, 92, 100, 101, 109, 111, 47, 46, 92]⟩ : ByteArray), (⟨#[104, 116, 116, 112, 115, 58, 47, 47, 101, 120, 97, 109, 112, 108, 101, 46, 99, 111, 109, 47]⟩ : ByteArray), (⟨#[104, 116, 116, 112, 115, 58, 47, 47, 101, 120, 97, 109, 112, 108, 101, 46, 99, 111, 109, 47, 100, 101, 109, 111, 47]⟩ : ByteArray)),
  ((⟨#[101, 120, 97, 109, 112, 108, 101]⟩ : ByteArray), (⟨#[104, 116, 116, 112, 115, 58, 47, 47, 101, 120, 97, 109, 112, 108, 101, 46, 99, 111, 109, 47, 100, 101, 109, 111]⟩ : ByteArray), (⟨#[104, 116, 116, 112, 115, 58, 47, 47, 101, 120, 97, 109, 112, 108, 101, 46, 99, 111, 109, 47, 101, 120, 97, 109, 112, 108, 101]⟩ : ByteArray)),
  ((⟨#[102, 105, 108, 101, 58, 47, 47, 47, 67, 124, 47, 100, 101, 109, 111]⟩ : ByteArray), (⟨#[]⟩ : ByteArray), (⟨#[102, 105, 108, 101, 58, 47, 47, 47, 67, 58, 47, 100, 101, 109, 111]⟩ : ByteArray)),
  ((⟨#[46, 46]⟩ : ByteArray), (⟨#[102, 105, 108, 101, 58, 47, 47, 47, 67, 58, 47, 100, 101, 109, 111]⟩ : ByteArray), (⟨#[102, 105, 108, 101, 58, 47, 47, 47, 67, 58, 47]⟩ : ByteArray)),
  ((⟨#[102, 105, 108, 101, 58, 47, 47, 108, 111, 99, 37, 54, 49, 108, 104, 111, 115, 116, 47]⟩ : ByteArray), (⟨#[]⟩ : ByteArray), (⟨#[102, 105, 108, 101, 58, 47, 47, 47]⟩ : ByteArray)),
  ((⟨#[104, 116, 116, 112, 115, 58, 47, 47, 117, 115, 101, 114, 58, 112, 97, 115, 115, 119, 111, 114, 100, 64, 101, 120, 97, 109, 112, 108, 101, 46, 111, 114, 103, 47]⟩ : ByteArray), (⟨#[]⟩ : ByteArray), (⟨#[104, 116, 116, 112, 115, 58, 47, 47, 117, 115, 101, 114, 58, 112, 97, 115, 115, 119, 111, 114, 100, 64, 101, 120, 97, 109, 112, 108, 101, 46, 111, 114, 103, 47]⟩ : ByteArray)),
  ((⟨#[104, 116, 116, 112, 115, 58, 47, 47, 101, 120, 97, 109, 112, 108, 101, 46, 111, 114, 103, 47, 102, 111, 111, 32, 98, 97, 114]⟩ : ByteArray), (⟨#[]⟩ : ByteArray), (⟨#[104, 116, 116, 112, 115, 58, 47, 47, 101, 120, 97, 109, 112, 108, 101, 46, 111, 114, 103, 47, 102, 111, 111, 37, 50, 48, 98, 97, 114]⟩ : ByteArray)),
  ((⟨#[104, 116, 116, 112, 115, 58, 47, 47, 69, 88, 65, 77, 80, 76, 69, 46, 99, 111, 109, 47, 46, 46, 47, 120]⟩ : ByteArray), (⟨#[]⟩ : ByteArray), (⟨#[104, 116, 116, 112, 115, 58, 47, 47, 101, 120, 97, 109, 112, 108, 101, 46, 99, 111, 109, 47, 120]⟩ : ByteArray)),
  ((⟨#[104, 116, 116, 112, 115, 58, 47, 47, 101, 120, 32, 97, 109, 112, 108, 101, 46, 111, 114, 103, 47]⟩ : ByteArray), (⟨#[]⟩ : ByteArray), (⟨#[]⟩ : ByteArray)),
  ((⟨#[101, 120, 97, 109, 112, 108, 101]⟩ : ByteArray), (⟨#[]⟩ : ByteArray), (⟨#[]⟩ : ByteArray)),
  ((⟨#[104, 116, 116, 112, 115, 58, 47, 47, 101, 120, 97, 109, 112, 108, 101, 46, 99, 111, 109, 58, 100, 101, 109, 111]⟩ : ByteArray), (⟨#[]⟩ : ByteArray), (⟨#[]⟩ : ByteArray)),
  ((⟨#[104, 116, 116, 112, 58, 47, 47, 91, 119, 119, 119, 46, 101, 120, 97, 109, 112, 108, 101, 46, 99, 111, 109, 93, 47]⟩ : ByteArray), (⟨#[]⟩ : ByteArray), (⟨#[]⟩ : ByteArray)),
  ((⟨#[104, 116, 116, 112, 115, 58, 47, 47, 101, 120, 97, 109, 112, 108, 101, 46, 111, 114, 103, 47, 47]⟩ : ByteArray), (⟨#[]⟩ : ByteArray), (⟨#[104, 116, 116, 112, 115, 58, 47, 47, 101, 120, 97, 109, 112, 108, 101, 46, 111, 114, 103, 47, 47]⟩ : ByteArray)),
  ((⟨#[104, 116, 116, 112, 115, 58, 47, 47, 101, 120, 97, 109, 112, 108, 101, 46, 99, 111, 109, 47, 91, 93, 63, 91, 93, 35, 91, 93]⟩ : ByteArray), (⟨#[]⟩ : ByteArray), (⟨#[104, 116, 116, 112, 115, 58, 47, 47, 101, 120, 97, 109, 112, 108, 101, 46, 99, 111, 109, 47, 91, 93, 63, 91, 93, 35, 91, 93]⟩ : ByteArray)),
  ((⟨#[104, 116, 116, 112, 115, 58, 47, 47, 101, 120, 97, 109, 112, 108, 101, 47, 37, 63, 37, 35, 37]⟩ : ByteArray), (⟨#[]⟩ : ByteArray), (⟨#[104, 116, 116, 112, 115, 58, 47, 47, 101, 120, 97, 109, 112, 108, 101, 47, 37, 63, 37, 35, 37]⟩ : ByteArray)),
  ((⟨#[104, 116, 116, 112, 115, 58, 47, 47, 101, 120, 97, 109, 112, 108, 101, 47, 37, 50, 53, 63, 37, 50, 53, 35, 37, 50, 53]⟩ : ByteArray), (⟨#[]⟩ : ByteArray), (⟨#[104, 116, 116, 112, 115, 58, 47, 47, 101, 120, 97, 109, 112, 108, 101, 47, 37, 50, 53, 63, 37, 50, 53, 35, 37, 50, 53]⟩ : ByteArray)),
  ((⟨#[104, 116, 116, 112, 58, 47, 47, 50, 53, 54, 47]⟩ : ByteArray), (⟨#[]⟩ : ByteArray), (⟨#[104, 116, 116, 112, 58, 47, 47, 48, 46, 48, 46, 49, 46, 48, 47]⟩ : ByteArray)),
  ((⟨#[104, 116, 116, 112, 58, 47, 47, 48, 120, 55, 70, 46, 49, 47]⟩ : ByteArray), (⟨#[]⟩ : ByteArray), (⟨#[104, 116, 116, 112, 58, 47, 47, 49, 50, 55, 46, 48, 46, 48, 46, 49, 47]⟩ : ByteArray)),
  ((⟨#[104, 116, 116, 112, 58, 47, 47, 49, 57, 50, 46, 49, 54, 56, 46, 48, 49, 48, 46, 49, 46, 47]⟩ : ByteArray), (⟨#[]⟩ : ByteArray), (⟨#[104, 116, 116, 112, 58, 47, 47, 49, 57, 50, 46, 49, 54, 56, 46, 56, 46, 49, 47]⟩ : ByteArray)),
  ((⟨#[104, 116, 116, 112, 58, 47, 47, 49, 46, 50, 46, 51, 46, 50, 53, 54, 47]⟩ : ByteArray), (⟨#[]⟩ : ByteArray), (⟨#[]⟩ : ByteArray)),
  ((⟨#[104, 116, 116, 112, 58, 47, 47, 49, 46, 48, 57, 47]⟩ : ByteArray), (⟨#[]⟩ : ByteArray), (⟨#[]⟩ : ByteArray)),
  ((⟨#[104, 116, 116, 112, 58, 47, 47, 91, 49, 58, 48, 58, 48, 58, 50, 58, 48, 58, 48, 58, 48, 58, 51, 93, 47]⟩ : ByteArray), (⟨#[]⟩ : ByteArray), (⟨#[104, 116, 116, 112, 58, 47, 47, 91, 49, 58, 48, 58, 48, 58, 50, 58, 58, 51, 93, 47]⟩ : ByteArray)),
  ((⟨#[104, 116, 116, 112, 58, 47, 47, 91, 48, 58, 48, 58, 49, 58, 50, 58, 51, 58, 52, 58, 53, 58, 54, 93, 47]⟩ : ByteArray), (⟨#[]⟩ : ByteArray), (⟨#[104, 116, 116, 112, 58, 47, 47, 91, 58, 58, 49, 58, 50, 58, 51, 58, 52, 58, 53, 58, 54, 93, 47]⟩ : ByteArray)),
  ((⟨#[104, 116, 116, 112, 58, 47, 47, 91, 58, 58, 102, 102, 102, 102, 58, 49, 46, 50, 46, 51, 46, 52, 93, 47]⟩ : ByteArray), (⟨#[]⟩ : ByteArray), (⟨#[104, 116, 116, 112, 58, 47, 47, 91, 58, 58, 102, 102, 102, 102, 58, 49, 48, 50, 58, 51, 48, 52, 93, 47]⟩ : ByteArray)),
  ((⟨#[104, 116, 116, 112, 58, 47, 47, 91, 49, 58, 48, 58, 50, 58, 51, 58, 52, 58, 53, 58, 54, 58, 55, 93, 47]⟩ : ByteArray), (⟨#[]⟩ : ByteArray), (⟨#[104, 116, 116, 112, 58, 47, 47, 91, 49, 58, 48, 58, 50, 58, 51, 58, 52, 58, 53, 58, 54, 58, 55, 93, 47]⟩ : ByteArray)),
  ((⟨#[102, 116, 112, 58, 47, 47, 104, 58, 50, 49, 47]⟩ : ByteArray), (⟨#[]⟩ : ByteArray), (⟨#[102, 116, 112, 58, 47, 47, 104, 47]⟩ : ByteArray)),
  ((⟨#[102, 116, 112, 58, 47, 47, 104, 58, 50, 50, 47]⟩ : ByteArray), (⟨#[]⟩ : ByteArray), (⟨#[102, 116, 112, 58, 47, 47, 104, 58, 50, 50, 47]⟩ : ByteArray)),
  ((⟨#[119, 115, 58, 47, 47, 104, 58, 56, 48, 47]⟩ : ByteArray), (⟨#[]⟩ : ByteArray), (⟨#[119, 115, 58, 47, 47, 104, 47]⟩ : ByteArray)),
  ((⟨#[119, 115, 115, 58, 47, 47, 104, 58, 52, 52, 51, 47]⟩ : ByteArray), (⟨#[]⟩ : ByteArray), (⟨#[119, 115, 115, 58, 47, 47, 104, 47]⟩ : ByteArray)),
  ((⟨#[119, 101, 98, 43, 100, 101, 109, 111, 58, 47, 46, 47, 47, 110, 111, 116, 45, 97, 45, 104, 111, 115, 116, 47]⟩ : ByteArray), (⟨#[]⟩ : ByteArray), (⟨#[119, 101, 98, 43, 100, 101, 109, 111, 58, 47, 46, 47, 47, 110, 111, 116, 45, 97, 45, 104, 111, 115, 116, 47]⟩ : ByteArray)),
  ((⟨#[119, 101, 98, 43, 100, 101, 109, 111, 58, 47, 46, 46, 47, 47, 120]⟩ : ByteArray), (⟨#[]⟩ : ByteArray), (⟨#[119, 101, 98, 43, 100, 101, 109, 111, 58, 47, 46, 47, 47, 120]⟩ : ByteArray)),
  ((⟨#[104, 116, 116, 112, 58, 47, 47, 97, 58, 98, 58, 99, 64, 104, 47]⟩ : ByteArray), (⟨#[]⟩ : ByteArray), (⟨#[104, 116, 116, 112, 58, 47, 47, 97, 58, 98, 37, 51, 65, 99, 64, 104, 47]⟩ : ByteArray)),
  ((⟨#[104, 116, 116, 112, 58, 47, 47, 97, 64, 98, 64, 104, 47]⟩ : ByteArray), (⟨#[]⟩ : ByteArray), (⟨#[104, 116, 116, 112, 58, 47, 47, 97, 37, 52, 48, 98, 64, 104, 47]⟩ : ByteArray)),
  ((⟨#[104, 116, 116, 112, 58, 47, 47, 120, 110, 45, 45, 97, 47]⟩ : ByteArray), (⟨#[]⟩ : ByteArray), (⟨#[33]⟩ : ByteArray)),
  ((⟨#[104, 116, 116, 112, 58, 47, 47, 104, 47, 63, 97, 39, 98]⟩ : ByteArray), (⟨#[]⟩ : ByteArray), (⟨#[104, 116, 116, 112, 58, 47, 47, 104, 47, 63, 97, 37, 50, 55, 98]⟩ : ByteArray)),
  ((⟨#[97, 58, 47, 47, 104, 47, 63, 97, 39, 98]⟩ : ByteArray), (⟨#[]⟩ : ByteArray), (⟨#[97, 58, 47, 47, 104, 47, 63, 97, 39, 98]⟩ : ByteArray)),
  ((⟨#[104, 116, 116, 112, 58, 47, 47, 104, 47, 94, 96, 123, 125, 124]⟩ : ByteArray), (⟨#[]⟩ : ByteArray), (⟨#[104, 116, 116, 112, 58, 47, 47, 104, 47, 37, 53, 69, 37, 54, 48, 37, 55, 66, 37, 55, 68, 124]⟩ : ByteArray)),
  ((⟨#[47, 47, 104, 47, 120]⟩ : ByteArray), (⟨#[104, 116, 116, 112, 58, 47, 47, 97, 47, 98, 63, 99, 35, 100]⟩ : ByteArray), (⟨#[104, 116, 116, 112, 58, 47, 47, 104, 47, 120]⟩ : ByteArray)),
  ((⟨#[63, 113]⟩ : ByteArray), (⟨#[104, 116, 116, 112, 58, 47, 47, 97, 47, 98, 63, 99, 35, 100]⟩ : ByteArray), (⟨#[104, 116, 116, 112, 58, 47, 47, 97, 47, 98, 63, 113]⟩ : ByteArray)),
  ((⟨#[35, 102]⟩ : ByteArray), (⟨#[109, 97, 105, 108, 116, 111, 58, 120]⟩ : ByteArray), (⟨#[109, 97, 105, 108, 116, 111, 58, 120, 35, 102]⟩ : ByteArray)),
  ((⟨#[]⟩ : ByteArray), (⟨#[104, 116, 116, 112, 58, 47, 47, 97, 47, 98, 63, 99, 35, 100]⟩ : ByteArray), (⟨#[104, 116, 116, 112, 58, 47, 47, 97, 47, 98, 63, 99]⟩ : ByteArray)),
  ((⟨#[109, 97, 105, 108, 116, 111, 58, 120, 32]⟩ : ByteArray), (⟨#[]⟩ : ByteArray), (⟨#[109, 97, 105, 108, 116, 111, 58, 120]⟩ : ByteArray)),
  ((⟨#[47, 120]⟩ : ByteArray), (⟨#[102, 105, 108, 101, 58, 47, 47, 104, 47, 67, 58, 47, 121]⟩ : ByteArray), (⟨#[102, 105, 108, 101, 58, 47, 47, 104, 47, 67, 58, 47, 120]⟩ : ByteArray)),
  ((⟨#[47, 47, 100, 58, 47, 120]⟩ : ByteArray), (⟨#[102, 105, 108, 101, 58, 47, 47, 47, 67, 58, 47, 121]⟩ : ByteArray), (⟨#[102, 105, 108, 101, 58, 47, 47, 47, 100, 58, 47, 120]⟩ : ByteArray))]
def goldCells : List Value := goldTab.flatMap fun t => [.string t.1, .string t.2.1, .string t.2.2]
def gold (k : Nat) : ByteArray × ByteArray × ByteArray := goldTab.getD k (⟨#[]⟩, ⟨#[]⟩, ⟨#[]⟩)
theorem flat3 (l : List (ByteArray × ByteArray × ByteArray)) : ∀ k, (h : k < l.length) → (l.flatMap fun t => [Value.string t.1, .string t.2.1, .string t.2.2])[3 * k]? = some (.string (l[k]).1) ∧ (l.flatMap fun t => [Value.string t.1, .string t.2.1, .string t.2.2])[3 * k + 1]? = some (.string (l[k]).2.1) ∧ (l.flatMap fun t => [Value.string t.1, .string t.2.1, .string t.2.2])[3 * k + 2]? = some (.string (l[k]).2.2) := by
  induction l with
  | nil => intro k h; simp at h
  | cons x r ih =>
    intro k h
    cases k with
    | zero => exact ⟨rfl, rfl, rfl⟩
    | succ k =>
      have := ih k (by simpa using h)
      rw [show 3 * (k + 1) = 3 * k + 3 by omega]
      simpa using this
theorem infoFam : (Tryz.prog.info? 45).map (fun i => (i.zero, i.size, i.bytes)) = some (some (.agg #[.string ⟨#[]⟩, .string ⟨#[]⟩, .string ⟨#[]⟩]), 3, 48) := by kernel_rfl
set_option maxHeartbeats 16000000 in
set_option maxRecDepth 100000 in
theorem known_any (k : Nat) (hk : k < 49) (w : World) : Calls Tryz.prog 29 #[.int .i64 k] w fun e w' => e = .returned (.tuple #[.agg #[.string (gold k).1, .string (gold k).2.1, .string (gold k).2.2], .bool true]) ∧ Nx w w' := by
  obtain ⟨i0, hi0, hz0, hz1, -⟩ := info_parts infoFam
  go_enter Tryz.func29, Tryz.ntmps29
  go_upto_region 1 with fail
  go_cut [4] from 5 (fun s wx => s = .slice (some ⟨w.heap.size + 1, 0, none⟩) 49 49 ∧ wx.heap[w.heap.size + 1]? = some (Obj.cells goldCells.toArray 45 (0, 0)) ∧ wx.heap[w.heap.size]? = some (Obj.cells #[.string ⟨#[]⟩, .string ⟨#[]⟩, .string ⟨#[]⟩] 45 (0, 0)) ∧ Nx w wx)
  case first =>
    go_wp2_with (refine wpList_buildSlice (P := Tryz.prog) rfl 69 45 49 _ rfl goldCells.toArray i0 _ Tryz.underlying69 hi0 hz0 (by rw [hz1]; decide) (by rw [hz1]; decide) (by rw [hz1]; kernel_rfl) ?_)
    go_meet
    case rel => exact ⟨by simp, by have h := heap_alloc_new (w.alloc (Obj.cells #[.string ⟨#[]⟩, .string ⟨#[]⟩, .string ⟨#[]⟩] 45)) (Obj.cells goldCells.toArray 45); rw [show (w.alloc (Obj.cells #[.string ⟨#[]⟩, .string ⟨#[]⟩, .string ⟨#[]⟩] 45)).heap.size = w.heap.size + 1 by simp] at h; exact h, ((Nx.rfl.alloc _).block _ (by simp)).trans (heap_alloc_new w _), (Nx.rfl.alloc _).alloc _⟩
  case rest =>
    obtain ⟨rfl, h1, h2, hn⟩ := hcut
    have hg : gold k = goldTab[k]'hk := by unfold gold; rw [List.getD_eq_getElem?_getD, List.getElem?_eq_getElem (show k < goldTab.length from hk)]; rfl
    obtain ⟨f0, f1, f2⟩ := flat3 goldTab k hk
    rw [← hg] at f0 f1 f2
    have c0 : wc.cell? ⟨w.heap.size + 1, k * 3, none⟩ = some (.string (gold k).1) := by simp only [World.cell?, h1]; rw [Nat.mul_comm]; simpa [goldCells] using f0
    have c1 : wc.cell? ⟨w.heap.size + 1, k * 3 + 1, none⟩ = some (.string (gold k).2.1) := by simp only [World.cell?, h1]; rw [Nat.mul_comm]; simpa [goldCells] using f1
    have c2 : wc.cell? ⟨w.heap.size + 1, k * 3 + 2, none⟩ = some (.string (gold k).2.2) := by simp only [World.cell?, h1]; rw [Nat.mul_comm]; simpa [goldCells] using f2
    have z0 : wc.cell? ⟨w.heap.size, 0, none⟩ = some (.string ⟨#[]⟩) := by simp [World.cell?, h2]
    have z1 : wc.cell? ⟨w.heap.size, 1, none⟩ = some (.string ⟨#[]⟩) := by simp [World.cell?, h2]
    have z2 : wc.cell? ⟨w.heap.size, 2, none⟩ = some (.string ⟨#[]⟩) := by simp [World.cell?, h2]
    have y0 : wc.frozen? ⟨w.heap.size, 0, none⟩ = false := by simp [World.frozen?, h2]
    have y1 : wc.frozen? ⟨w.heap.size, 1, none⟩ = false := by simp [World.frozen?, h2]
    have y2 : wc.frozen? ⟨w.heap.size, 2, none⟩ = false := by simp [World.frozen?, h2]
    have HN := hide hn
    have H2 := hide h2
    clear hg f0 f1 f2 h1 h2 hn
    generalize hgk : gold k = g at *
    have HG := hide hgk
    clear hgk
    have s0 : (((wc.setCell ⟨w.heap.size, 0, none⟩ (.string g.1)).setCell ⟨w.heap.size, 1, none⟩ (.string g.2.1)).setCell ⟨w.heap.size, 2, none⟩ (.string g.2.2)).cell? ⟨w.heap.size, 0, none⟩ = some (.string g.1) := by simp [World.cell?, World.setCell, Array.getElem?_modify, H2.out]
    have s1 : (((wc.setCell ⟨w.heap.size, 0, none⟩ (.string g.1)).setCell ⟨w.heap.size, 1, none⟩ (.string g.2.1)).setCell ⟨w.heap.size, 2, none⟩ (.string g.2.2)).cell? ⟨w.heap.size, 1, none⟩ = some (.string g.2.1) := by simp [World.cell?, World.setCell, Array.getElem?_modify, H2.out]
    have s2 : (((wc.setCell ⟨w.heap.size, 0, none⟩ (.string g.1)).setCell ⟨w.heap.size, 1, none⟩ (.string g.2.1)).setCell ⟨w.heap.size, 2, none⟩ (.string g.2.2)).cell? ⟨w.heap.size, 2, none⟩ = some (.string g.2.2) := by simp [World.cell?, World.setCell, Array.getElem?_modify, H2.out]
    go_wp2
    exact bodyPost_ret (v := .tuple #[.agg #[.string g.1, .string g.2.1, .string g.2.2], .bool true]) (by simp [results, Tryz.results29, go_sem, s0, s1, s2]) rfl ⟨by rw [HG.out], ((HN.out.setCell (Nat.le_refl _) _).setCell (Nat.le_refl _) _).setCell (Nat.le_refl _) _⟩
end Go.Proofs.YtchkhibgbnhjpaaGreatDoor

namespace Go.Proofs.YtchkhibgbnhjpaaGreatDoor
open Go.RowKit

/-- urlskeep.pick, of 49. -/
def pickN (a : Int) : Nat := ((if a < 0 then -(a + 1) else a) % 49).toNat
theorem pickN_lt (a : Int) : pickN a < 49 := by unfold pickN; omega
set_option maxHeartbeats 1000000 in
theorem pick_any (a : Int) (h0 : -9223372036854775808 ≤ a) (h1 : a ≤ 9223372036854775807) (w : World) :
    Calls Tryz.prog 18 #[.int .i64 a, .int .i64 49] w fun e w' => e = .returned (.int .i64 (pickN a : Nat)) ∧ w = w' := by
  by_cases hn : a < 0
  · have HE := hide (show ((pickN a : Nat) : Int) = -(a + 1) % 49 by unfold pickN; rw [if_pos hn]; omega)
    have hmv : Int.tmod (-(a + 1)) 49 = -(a + 1) % 49 := Int.tmod_eq_emod_of_nonneg (by omega)
    have HM := hide hmv
    clear hmv
    go_enter Tryz.func18, Tryz.ntmps18
    go_wp2
    go_ret
    exact ⟨ret_int (by rw [HE.out]; first | done | rfl | exact HM.out | (rw [← HM.out, Int.neg_tmod])), rfl⟩
  · have HE := hide (show ((pickN a : Nat) : Int) = a % 49 by unfold pickN; rw [if_neg hn]; omega)
    have HM := hide (show Int.tmod a 49 = a % 49 from Int.tmod_eq_emod_of_nonneg (by omega))
    go_enter Tryz.func18, Tryz.ntmps18
    go_wp2
    go_ret
    exact ⟨ret_int (by rw [HE.out]; first | done | rfl | exact HM.out | omega), rfl⟩
/-- What is known stands. -/
def goldExp (g : ByteArray × ByteArray × ByteArray) : U × Int := parseU (tl g.1) (tl g.2.1) (!(tl g.2.1).isEmpty)
theorem gold_true : ∀ k < 49, (gold k).1.size ≤ 160 ∧ (gold k).2.1.size ≤ 160 ∧ (gold k).2.2.size ≤ 10000 ∧ (if tl (gold k).2.2 = [] then (goldExp (gold k)).2 = 2 else if tl (gold k).2.2 = [33] then (goldExp (gold k)).2 = 3 else (goldExp (gold k)).2 = 0 ∧ hrefU (goldExp (gold k)).1 = tl (gold k).2.2) := by decide +kernel
/-- The block of a famous. -/
def FamB (w : World) (b : Nat) (g : ByteArray × ByteArray × ByteArray) : Prop := w.heap[b]? = some (Obj.cells #[.string g.1, .string g.2.1, .string g.2.2] 45 (0, 0))
theorem famB_new (w : World) (g : ByteArray × ByteArray × ByteArray) : FamB (w.alloc (Obj.cells #[.string g.1, .string g.2.1, .string g.2.2] 45)) w.heap.size g := heap_alloc_new w _
theorem toList_tl (s : ByteArray) : s.toList = tl s := ByteArray.toList_eq s
theorem FamB.cell {w w' : World} {b : Nat} {g : ByteArray × ByteArray × ByteArray} (h : FamB w b g) (hb : Nx w w') : w'.cell? ⟨b, 2, none⟩ = some (.string g.2.2) := by
  have h2 := (hb.block b (Array.getElem?_eq_some_iff.1 h).1).trans h
  simp [World.cell?, h2]
set_option maxHeartbeats 8000000 in
theorem gold_any (k : Nat) (hk : k < 49) (w : World) (ht : Tb w) :
    Calls Tryz.prog 17 #[.int .i64 k] w fun e w' => e = .returned (.bool true) ∧ Nx w w' := by
  obtain ⟨hl1, hl2, hl3, hg⟩ := gold_true k hk
  have HTB := hide ht
  have HK := hide (fun w => known_any k hk w)
  clear ht
  generalize gold k = g at *
  have HEX := hide (show goldExp g = parseU (tl g.1) (tl g.2.1) (!(tl g.2.1).isEmpty) from rfl)
  have main : Hid (∀ (b : Bool) (w1 : World), b = (!(tl g.2.1).isEmpty) → Nx w w1 → ∀ (K : Ending → World → Prop), (∀ e w2, ParsedIs e w2 (goldExp g) → Nx (w1.alloc (Obj.cells #[.string g.1, .string g.2.1, .string g.2.2] 45)) w2 → K e w2) → Calls Tryz.prog 30 #[.string g.1, .string g.2.1, .bool b] (w1.alloc (Obj.cells #[.string g.1, .string g.2.1, .string g.2.2] 45)) K) := hide (fun b w1 hb hn K hK => by
    subst hb
    refine (parseU_any g.1 g.2.1 _ _ (small_len (by omega)) (small_len (by omega)) (HTB.out.on (hn.alloc _))).mono ?_
    rintro e w2 ⟨h1, h2⟩
    exact hK e w2 (by rw [HEX.out]; exact h1) h2)
  generalize hx : goldExp g = x at *
  clear hx
  obtain ⟨xu, xe⟩ := x
  simp only at hg
  have HG := hide hg
  clear hg
  by_cases hb0 : g.2.1.size = 0
  · have hb0' := str_empty hb0
    have HB := hide (show false = (!(tl g.2.1).isEmpty) by rw [tl_empty hb0]; rfl)
    clear hb0
    go_enter Tryz.func17, Tryz.ntmps17
    go_wp2_with fail
    refine (HK.out _).mono ?_
    rintro e w1 ⟨rfl, hn1⟩
    have HN1 := hide hn1
    clear hn1
    go_wp2_with fail
    refine main.out _ w1 HB.out HN1.out _ ?_
    intro e w2 hp hn2
    have hc2 := (famB_new w1 g).cell hn2
    have HF := hide (fun w3 (h3 : Nx w2 w3) => (famB_new w1 g).cell (hn2.then h3))
    have HN2 := hide ((HN1.out.alloc _).then hn2)
    clear hn2 main HK HEX
    by_cases hh0 : g.2.2.size = 0
    · have hh0' := str_empty hh0
      have hxe : xe = 2 := by have h := HG.out; rw [if_pos (tl_empty hh0)] at h; exact h
      subst hxe
      clear hh0
      rcases hp with ⟨-, rfl⟩ | ⟨h, -⟩
      · go_wp2
        go_ret
        exact ⟨rfl, HN2.out⟩
      · cases h
    · have hh0' := str_nonempty hh0
      have HG2 := hide (show if tl g.2.2 = [33] then xe = 3 else xe = 0 ∧ hrefU xu = tl g.2.2 by have h := HG.out; rw [if_neg (tl_ne hh0)] at h; exact h)
      clear hh0 HG
      by_cases h33 : tl g.2.2 = [33]
      · have hxe : xe = 3 := by have h := HG2.out; rw [if_pos h33] at h; exact h
        have h33' := eqB h33
        subst hxe
        clear h33
        rcases hp with ⟨-, rfl⟩ | ⟨h, -⟩
        · go_wp2
          go_ret
          exact ⟨rfl, HN2.out⟩
        · cases h
      · have hxe : xe = 0 ∧ hrefU xu = tl g.2.2 := by have h := HG2.out; rw [if_neg h33] at h; exact h
        have h33' := neB h33
        obtain ⟨rfl, hhr⟩ := hxe
        have HHR := hide hhr
        clear h33 hhr HG2
        rcases hp with ⟨h, -⟩ | ⟨-, pb, r, bs, rfl, hub, hrc⟩
        · exact absurd rfl h
        · have HUB := hide hub
          have HRC := hide hrc
          clear hub hrc
          go_wp2_with fail
          refine (urlHref_any pb r xu bs _ HUB.out HRC.out (HTB.out.on HN2.out)).mono ?_
          rintro e w3 ⟨t, rfl, htt, hn3⟩
          have hc3 := HF.out w3 hn3
          have heq := eqBB (htt.trans HHR.out)
          have HN3 := hide (HN2.out.then hn3)
          clear htt hn3 hc2
          go_wp2
          go_ret
          exact ⟨rfl, HN3.out⟩
  · have hb0' := str_nonempty hb0
    have HB := hide (show true = (!(tl g.2.1).isEmpty) by rw [← toList_tl g.2.1, hb0']; rfl)
    clear hb0
    go_enter Tryz.func17, Tryz.ntmps17
    go_wp2_with fail
    refine (HK.out _).mono ?_
    rintro e w1 ⟨rfl, hn1⟩
    have HN1 := hide hn1
    clear hn1
    go_wp2_with fail
    refine main.out _ w1 HB.out HN1.out _ ?_
    intro e w2 hp hn2
    have hc2 := (famB_new w1 g).cell hn2
    have HF := hide (fun w3 (h3 : Nx w2 w3) => (famB_new w1 g).cell (hn2.then h3))
    have HN2 := hide ((HN1.out.alloc _).then hn2)
    clear hn2 main HK HEX
    by_cases hh0 : g.2.2.size = 0
    · have hh0' := str_empty hh0
      have hxe : xe = 2 := by have h := HG.out; rw [if_pos (tl_empty hh0)] at h; exact h
      subst hxe
      clear hh0
      rcases hp with ⟨-, rfl⟩ | ⟨h, -⟩
      · go_wp2
        go_ret
        exact ⟨rfl, HN2.out⟩
      · cases h
    · have hh0' := str_nonempty hh0
      have HG2 := hide (show if tl g.2.2 = [33] then xe = 3 else xe = 0 ∧ hrefU xu = tl g.2.2 by have h := HG.out; rw [if_neg (tl_ne hh0)] at h; exact h)
      clear hh0 HG
      by_cases h33 : tl g.2.2 = [33]
      · have hxe : xe = 3 := by have h := HG2.out; rw [if_pos h33] at h; exact h
        have h33' := eqB h33
        subst hxe
        clear h33
        rcases hp with ⟨-, rfl⟩ | ⟨h, -⟩
        · go_wp2
          go_ret
          exact ⟨rfl, HN2.out⟩
        · cases h
      · have hxe : xe = 0 ∧ hrefU xu = tl g.2.2 := by have h := HG2.out; rw [if_neg h33] at h; exact h
        have h33' := neB h33
        obtain ⟨rfl, hhr⟩ := hxe
        have HHR := hide hhr
        clear h33 hhr HG2
        rcases hp with ⟨h, -⟩ | ⟨-, pb, r, bs, rfl, hub, hrc⟩
        · exact absurd rfl h
        · have HUB := hide hub
          have HRC := hide hrc
          clear hub hrc
          go_wp2_with fail
          refine (urlHref_any pb r xu bs _ HUB.out HRC.out (HTB.out.on HN2.out)).mono ?_
          rintro e w3 ⟨t, rfl, htt, hn3⟩
          have hc3 := HF.out w3 hn3
          have heq := eqBB (htt.trans HHR.out)
          have HN3 := hide (HN2.out.then hn3)
          clear htt hn3 hc2
          go_wp2
          go_ret
          exact ⟨rfl, HN3.out⟩
set_option maxHeartbeats 1000000 in
theorem known_walk (a : Int) (h0 : -9223372036854775808 ≤ a) (h1 : a ≤ 9223372036854775807) (w : World) (ht : Tb w) :
    Calls Tryz.prog 4 #[.int .i64 a] w fun e w' => e = .returned (.bool true) ∧ Nx w w' := by
  go_enter Tryz.func4, Tryz.ntmps4
  go_wp2_with (first | (go_at_call 18; refine (pick_any a h0 h1 _).mono ?_; rintro e w' ⟨rfl, rfl⟩) | (go_at_call 17; refine (gold_any (pickN a) (pickN_lt a) _ ht).mono ?_; rintro e w1 ⟨rfl, hn⟩; have HN := hide hn; clear hn))
  go_ret
  exact ⟨rfl, HN.out⟩
end Go.Proofs.YtchkhibgbnhjpaaGreatDoor

namespace Go.Proofs.YtchkhibgbnhjpaaGreatDoor
open Go.RowKit

def goldExp' (g : ByteArray × ByteArray × ByteArray) : U × Int := parseU (tl g.1) (tl g.2.1) (!(tl g.2.1).isEmpty)
theorem gold13 : ∀ k < 13, (gold k).1.size ≤ 160 ∧ (gold k).2.1.size ≤ 160 ∧ (goldExp' (gold k)).2 = 0 := by decide +kernel
set_option maxHeartbeats 1000000 in
theorem pick13_any (n : Nat) (h1 : n ≤ 9223372036854775807) (w : World) :
    Calls Tryz.prog 18 #[.int .i64 n, .int .i64 13] w fun e w' => e = .returned (.int .i64 (n % 13 : Nat)) ∧ w = w' := by
  have HM := hide (show Int.tmod (n : Int) 13 = ((n % 13 : Nat) : Int) by rw [Int.tmod_eq_emod_of_nonneg (by omega)]; omega)
  have hn : ¬ (n : Int) < 0 := by omega
  go_enter Tryz.func18, Tryz.ntmps18
  go_wp2
  go_ret
  exact ⟨ret_int (by first | exact HM.out | rw [HM.out]), rfl⟩
theorem RcIs.five {w : World} {r : Rc} {u : U} {bs : List ByteArray} (h : RcIs w r u bs) : u.sch.length ≤ 1000000 ∧ u.nam.length ≤ 1000000 ∧ u.pw.length ≤ 1000000 ∧ u.q.length ≤ 1000000 ∧ u.fr.length ≤ 1000000 := by
  have a := h.lsch
  have b := h.lnam
  have c := h.lpw
  have d := h.lq
  have e := h.lfr
  rw [← h.eq]
  refine ⟨?_, ?_, ?_, ?_, ?_⟩
  · show (tl r.sch).length ≤ _; rw [tl_length]; omega
  · show (tl r.nam).length ≤ _; rw [tl_length]; omega
  · show (tl r.pw).length ≤ _; rw [tl_length]; omega
  · show (tl r.q).length ≤ _; rw [tl_length]; omega
  · show (tl r.fr).length ≤ _; rw [tl_length]; omega
end Go.Proofs.YtchkhibgbnhjpaaGreatDoor

namespace Go.Proofs.YtchkhibgbnhjpaaGreatDoor
open Go.RowKit

set_option maxHeartbeats 8000000 in
theorem stands_any (n : Nat) (h1 : n ≤ 9223372036854775807) (w : World) (ht : Tb w) :
    Calls Tryz.prog 32 #[.int .i64 n] w fun e w' => e = .returned (.bool true) ∧ Nx w w' := by
  obtain ⟨hl1, hl2, hg⟩ := gold13 (n % 13) (by omega)
  have HTB := hide ht
  have HK := hide (fun w => known_any (n % 13) (by omega) w)
  have HP := hide (pick13_any n h1)
  clear ht
  generalize gold (n % 13) = g at *
  have HEX := hide (show goldExp' g = parseU (tl g.1) (tl g.2.1) (!(tl g.2.1).isEmpty) from rfl)
  have main : Hid (∀ (b : Bool) (w1 : World), b = (!(tl g.2.1).isEmpty) → Nx w w1 → ∀ (K : Ending → World → Prop), (∀ e w2, ParsedIs e w2 (goldExp' g) → Nx (w1.alloc (Obj.cells #[.string g.1, .string g.2.1, .string g.2.2] 45)) w2 → K e w2) → Calls Tryz.prog 30 #[.string g.1, .string g.2.1, .bool b] (w1.alloc (Obj.cells #[.string g.1, .string g.2.1, .string g.2.2] 45)) K) := hide (by
    intro b w1 hb hn K hK
    subst hb
    refine (parseU_any g.1 g.2.1 _ _ (small_len (by omega)) (small_len (by omega)) (HTB.out.on (hn.alloc _))).mono ?_
    rintro e w2 ⟨h1, h2⟩
    exact hK e w2 (by rw [HEX.out]; exact h1) h2)
  generalize hx : goldExp' g = x at *
  clear hx
  obtain ⟨xu, xe⟩ := x
  simp only at hg
  subst hg
  clear HEX
  by_cases hb0 : g.2.1.size = 0
  · have hb0' := str_empty hb0
    have HB := hide (show false = (!(tl g.2.1).isEmpty) by rw [tl_empty hb0]; rfl)
    clear hb0
    go_enter Tryz.func32, Tryz.ntmps32
    go_wp2_with (first | (go_at_call 18; refine (HP.out _).mono ?_; rintro e w' ⟨rfl, rfl⟩) | (go_at_call 29; refine (HK.out _).mono ?_; rintro e w1 ⟨rfl, hn1⟩; have HN1 := hide hn1; clear hn1) | (go_at_call 30; refine main.out _ w1 HB.out HN1.out _ ?_; intro e w2 hp hn2; have HN2 := hide ((HN1.out.alloc _).then hn2); clear hn2 main HK HP; rcases hp with ⟨h, -⟩ | ⟨-, pb, r, bs, rfl, -, -⟩; exact absurd rfl h))
    go_ret
    exact ⟨rfl, HN2.out⟩
  · have hb0' := str_nonempty hb0
    have HB := hide (show true = (!(tl g.2.1).isEmpty) by have := tl_ne hb0; cases hq : tl g.2.1 with | nil => exact absurd hq this | cons _ _ => rfl)
    clear hb0
    go_enter Tryz.func32, Tryz.ntmps32
    go_wp2_with (first | (go_at_call 18; refine (HP.out _).mono ?_; rintro e w' ⟨rfl, rfl⟩) | (go_at_call 29; refine (HK.out _).mono ?_; rintro e w1 ⟨rfl, hn1⟩; have HN1 := hide hn1; clear hn1) | (go_at_call 30; refine main.out _ w1 HB.out HN1.out _ ?_; intro e w2 hp hn2; have HN2 := hide ((HN1.out.alloc _).then hn2); clear hn2 main HK HP; rcases hp with ⟨h, -⟩ | ⟨-, pb, r, bs, rfl, -, -⟩; exact absurd rfl h))
    go_ret
    exact ⟨rfl, HN2.out⟩
end Go.Proofs.YtchkhibgbnhjpaaGreatDoor

namespace Go.Proofs.YtchkhibgbnhjpaaGreatDoor
open Go.RowKit

/-- An urlskeep.item's block. -/
def ItemB (w : World) (b pb : Nat) : Prop := w.heap[b]? = some (Obj.cells #[.pointer (some ⟨pb, 0, none⟩), .bool false] 37 (0, 0))
theorem itemB_new (w : World) (pb : Nat) : ItemB (w.alloc (Obj.cells #[.pointer (some ⟨pb, 0, none⟩), .bool false] 37)) w.heap.size pb := heap_alloc_new w _
theorem ItemB.on {w w' : World} {b pb : Nat} (h : ItemB w b pb) (hb : Nx w w') : ItemB w' b pb := (hb.block b (Array.getElem?_eq_some_iff.1 h).1).trans h
theorem ItemB.cell {w : World} {b pb : Nat} (h : ItemB w b pb) : w.cell? ⟨b, 0, none⟩ = some (.pointer (some ⟨pb, 0, none⟩)) := by unfold ItemB at h; simp [World.cell?, h]
def AtIs (e : Ending) (w' : World) (x : U × Int) : Prop :=
  e = .returned (.tuple #[.pointer none, .bool true]) ∨ (x.2 = 0 ∧ ∃ (ib pb : Nat) (r : Rc) (bs : List ByteArray), e = .returned (.tuple #[.pointer (some ⟨ib, 0, none⟩), .bool true]) ∧ ItemB w' ib pb ∧ UrlB w' pb r ∧ RcIs w' r x.1 bs)
set_option maxHeartbeats 16000000 in
theorem at_any (s base : ByteArray) (based : Bool) (w : World) (hs : s.size ≤ maxLen) (hb : base.size ≤ maxLen) (ht : Tb w) :
    Calls Tryz.prog 19 #[.string s, .string base, .bool based] w fun e w' => AtIs e w' (parseU (tl s) (tl base) based) ∧ Nx w w' := by
  have HTB := hide ht
  have HPA := hide (parseU_any s base based w hs hb ht)
  have HST := hide (fun w1 (hn : Nx w w1) => stands_any s.size hs w1 (HTB.out.on hn))
  clear ht
  unfold maxLen at hs hb
  by_cases h1 : 65536 < s.size
  · clear HPA HST HTB
    go_enter Tryz.func19, Tryz.ntmps19
    go_wp2
    go_ret2
    exact ⟨Or.inl rfl, Nx.rfl⟩
  by_cases h2 : 65536 < base.size
  · clear HPA HST HTB
    go_enter Tryz.func19, Tryz.ntmps19
    go_wp2
    go_ret2
    exact ⟨Or.inl rfl, Nx.rfl⟩
  by_cases h3 : 160 < s.size
  · skip
    have HX := hide (parse_long (tl s) (tl base) based (by rw [tl_length, tl_length]; first | exact Or.inl h3 | exact Or.inr ⟨rfl, h4⟩))
    go_enter Tryz.func19, Tryz.ntmps19
    go_wp2_with fail
    refine HPA.out.mono ?_
    rintro e w1 ⟨hp, hn⟩
    have HN := hide hn
    clear hn HPA
    generalize hpx : parseU (tl s) (tl base) based = x at *
    obtain ⟨xu, xe⟩ := x
    have HPX := hide hpx
    clear hpx
    simp only at HX
    rcases hp with ⟨hx, rfl⟩ | ⟨hx, pb, r, bs, rfl, hu, hr⟩
    · obtain rfl : xe = 1 := HX.out
      clear hx HX
      go_wp2_with (go_at_call 32; refine (HST.out _ HN.out).mono ?_; rintro e w2 ⟨rfl, hn2⟩; have HN2 := hide (HN.out.then hn2); clear hn2)
      go_ret2
      exact ⟨Or.inl rfl, HN2.out⟩
    · exact absurd (hx.symm.trans HX.out) (by decide)
  cases based
  · skip
    have HX := hide (parse_short (tl s) (tl base) false (by rw [tl_length, tl_length]; exact fun h => h.elim h3 (fun k => by cases k.1)))
    have hd : decide (160 < (s.size : Int)) = false := decide_eq_false (by omega)
    go_enter Tryz.func19, Tryz.ntmps19
    go_wp2_with fail
    refine HPA.out.mono ?_
    rintro e w1 ⟨hp, hn⟩
    have HN := hide hn
    clear hn HPA
    generalize hpx : parseU (tl s) (tl base) false = x at *
    obtain ⟨xu, xe⟩ := x
    have HPX := hide hpx
    clear hpx
    simp only at HX
    rcases hp with ⟨hx, rfl⟩ | ⟨hx, pb, r, bs, rfl, hu, hr⟩
    · have hx0 : (xe != 0) = true := bneT (beq_eq_false_iff_ne.2 hx)
      have hx1 : (xe == 1) = false := beq_eq_false_iff_ne.2 HX.out
      clear hx HX
      go_wp2_with (go_at_call 32; refine (HST.out _ HN.out).mono ?_; rintro e w2 ⟨rfl, hn2⟩; have HN2 := hide (HN.out.then hn2); clear hn2)
      go_ret2
      exact ⟨Or.inl (by first | rfl | simp [hd]), HN2.out⟩
    · have HU := hide hu
      have HR := hide hr
      simp only at hx
      subst hx
      clear hu hr HX HST
      go_wp2
      go_ret2
      exact ⟨Or.inr ⟨by rw [HPX.out], w1.heap.size, pb, r, bs, rfl, itemB_new w1 pb, HU.out.on (Nx.rfl.alloc _), by rw [HPX.out]; exact HR.out.on (Nx.rfl.alloc _)⟩, HN.out.alloc _⟩
  · by_cases h4 : 160 < base.size
    · skip
      have HX := hide (parse_long (tl s) (tl base) true (by rw [tl_length, tl_length]; first | exact Or.inl h3 | exact Or.inr ⟨rfl, h4⟩))
      have hd : decide (160 < (s.size : Int)) = false := decide_eq_false (by omega)
      have hd4 : decide (160 < (base.size : Int)) = true := decide_eq_true (by omega)
      go_enter Tryz.func19, Tryz.ntmps19
      go_wp2_with fail
      refine HPA.out.mono ?_
      rintro e w1 ⟨hp, hn⟩
      have HN := hide hn
      clear hn HPA
      generalize hpx : parseU (tl s) (tl base) true = x at *
      obtain ⟨xu, xe⟩ := x
      have HPX := hide hpx
      clear hpx
      simp only at HX
      rcases hp with ⟨hx, rfl⟩ | ⟨hx, pb, r, bs, rfl, hu, hr⟩
      · obtain rfl : xe = 1 := HX.out
        clear hx HX
        go_wp2_with (go_at_call 32; refine (HST.out _ HN.out).mono ?_; rintro e w2 ⟨rfl, hn2⟩; have HN2 := hide (HN.out.then hn2); clear hn2)
        go_ret2
        exact ⟨Or.inl (by first | rfl | simp [hd, hd4]), HN2.out⟩
      · exact absurd (hx.symm.trans HX.out) (by decide)
    · skip
      have HX := hide (parse_short (tl s) (tl base) true (by rw [tl_length, tl_length]; exact fun h => h.elim h3 (fun k => h4 k.2)))
      have hd : decide (160 < (s.size : Int)) = false := decide_eq_false (by omega)
      have hd4 : decide (160 < (base.size : Int)) = false := decide_eq_false (by omega)
      go_enter Tryz.func19, Tryz.ntmps19
      go_wp2_with fail
      refine HPA.out.mono ?_
      rintro e w1 ⟨hp, hn⟩
      have HN := hide hn
      clear hn HPA
      generalize hpx : parseU (tl s) (tl base) true = x at *
      obtain ⟨xu, xe⟩ := x
      have HPX := hide hpx
      clear hpx
      simp only at HX
      rcases hp with ⟨hx, rfl⟩ | ⟨hx, pb, r, bs, rfl, hu, hr⟩
      · have hx0 : (xe != 0) = true := bneT (beq_eq_false_iff_ne.2 hx)
        have hx1 : (xe == 1) = false := beq_eq_false_iff_ne.2 HX.out
        clear hx HX
        go_wp2_with (go_at_call 32; refine (HST.out _ HN.out).mono ?_; rintro e w2 ⟨rfl, hn2⟩; have HN2 := hide (HN.out.then hn2); clear hn2)
        go_ret2
        exact ⟨Or.inl (by first | rfl | simp [hd, hd4]), HN2.out⟩
      · have HU := hide hu
        have HR := hide hr
        simp only at hx
        subst hx
        clear hu hr HX HST
        go_wp2
        go_ret2
        exact ⟨Or.inr ⟨by rw [HPX.out], w1.heap.size, pb, r, bs, rfl, itemB_new w1 pb, HU.out.on (Nx.rfl.alloc _), by rw [HPX.out]; exact HR.out.on (Nx.rfl.alloc _)⟩, HN.out.alloc _⟩
end Go.Proofs.YtchkhibgbnhjpaaGreatDoor
