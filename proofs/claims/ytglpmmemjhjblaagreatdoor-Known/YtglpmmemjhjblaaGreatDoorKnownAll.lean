import Derived.Test.YtglpmmemjhjblaaGreatDoorHst0
import Derived.Deep.Cut
import Derived.Great.BuildSlice
import Derived.Test.YtglpmmemjhjblaaGreatDoorUrl1
import Derived.Test.YtglpmmemjhjblaaGreatDoorLaid
namespace Go.Proofs.YtglpmmemjhjblaaGreatDoor
open Go.RowKit

/-- What is known: a text, a base, the URL. -/
def goldTab : List (ByteArray × ByteArray × ByteArray) := [
  ((⟨#[104, 116, 116, 112, 115, 58, 101, 120, 97, 109, 112, 108, 101, 46, 111, 114, 103]⟩ : ByteArray), (⟨#[]⟩ : ByteArray), (⟨#[104, 116, 116, 112, 115, 58, 47, 47, 101, 120, 97, 109, 112, 108, 101, 46, 111, 114, 103, 47]⟩ : ByteArray)),
  ((⟨#[104, 116, 116, 112, 115, 58, 47, 47, 47, 47, 47, 47, 101, 120, 97, 109, 112, 108, 101, 46, 99, 111, 109, 47, 47, 47]⟩ : ByteArray), (⟨#[]⟩ : ByteArray), (⟨#[104, 116, 116, 112, 115, 58, 47, 47, 101, 120, 97, 109, 112, 108, 101, 46, 99, 111, 109, 47, 47, 47]⟩ : ByteArray)),
  ((⟨#[104, 116, 116, 112, 115, 58, 47, 47, 101, 120, 97, 109, 112, 108, 101, 46, 99, 111, 109, 47, 46, 47, 46, 47, 102, 111, 111]⟩ : ByteArray), (⟨#[]⟩ : ByteArray), (⟨#[104, 116, 116, 112, 115, 58, 47, 47, 101, 120, 97, 109, 112, 108, 101, 46, 99, 111, 109, 47, 102, 111, 111]⟩ : ByteArray)),
  ((⟨#[104, 101, 108, 108, 111, 58, 119, 111, 114, 108, 100]⟩ : ByteArray), (⟨#[104, 116, 116, 112, 115, 58, 47, 47, 101, 120, 97, 109, 112, 108, 101, 46, 99, 111, 109, 47]⟩ : ByteArray), (⟨#[104, 101, 108, 108, 111, 58, 119, 111, 114, 108, 100]⟩ : ByteArray)),
  ((⟨#[104, 116, 116, 112, 115, 58, 101, 120, 97, 109, 112, 108, 101, 46, 111, 114, 103]⟩ : ByteArray), (⟨#[104, 116, 116, 112, 115, 58, 47, 47, 101, 120, 97, 109, 112, 108, 101, 46, 99, 111, 109, 47]⟩ : ByteArray), (⟨#[104, 116, 116, 112, 115, 58, 47, 47, 101, 120, 97, 109, 112, 108, 101, 46, 99, 111, 109, 47, 101, 120, 97, 109, 112, 108, 101, 46, 111, 114, 103]⟩ : ByteArray)),
  ((⟨#[92, 101, 120, 97, 109, 112, 108, 101, 92, 46, 46, 92, 100, 101, 109, 111, 47, 46, 92]⟩ : ByteArray), (⟨#[104, 116, 116, 112, 115, 58, 47, 47, 101, 120, 97, 109, 112, 108, 101, 46, 99, 111, 109, 47]⟩ : ByteArray), (⟨#[104, 116, 116, 112, 115, 58, 47, 47, 101, 120, 97, 109, 112, 108, 101, 46, 99, 111, 109, 47, 100, 101, 109, 111, 47]⟩ : ByteArray)),
  ((⟨#[101, 120, 97, 109, 112, 108, 101]⟩ : ByteArray), (⟨#[104, 116, 116, 112, 115, 58, 47, 47, 101, 120, 97, 109, 112, 108, 101, 46, 99, 111, 109, 47, 100, 101, 109, 111]⟩ : ByteArray), (⟨#[104, 116, 116, 112, 115, 58, 47, 47, 101, 120, 97, 109, 112, 108, 101, 46, 99, 111, 109, 47, 101, 120, 97, 109, 112, 108, 101]⟩ : ByteArray)),
  ((⟨#[102, 105, 108, 101, 58, 47, 47, 47, 67, 124, 47, 100, 101, 109, 111]⟩ : ByteArray), (⟨#[]⟩ : ByteArray), (⟨#[102, 105, 108, 101, 58, 47, 47, 47, 67, 58, 47, 100, 101, 109, 111]⟩ : ByteArray)),
  ((⟨#[46, 46]⟩ : ByteArray), (⟨#[102, 105, 108, 101, 58, 47, 47, 47, 67, 58, 47, 100, 101, 109, 111]⟩ : ByteArray), (⟨#[102, 105, 108, 101, 58, 47, 47, 47, 67, 58, 47]⟩ : ByteArray)),
  ((⟨#[102, 105, 108, 101, 58, 47, 47, 108, 111, 99, 37, 54, 49, 108, 104, 111, 115, 116, 47]⟩ : ByteArray), (⟨#[]⟩ : ByteArray), (⟨#[102, 105, 108, 101, 58, 47, 47, 47]⟩ : ByteArray)),
  ((⟨#[104, 116, 116, 112, 115, 58, 47, 47, 117, 115, 101, 114, 58, 112, 97, 115, 115, 119, 111, 114, 100, 64, 101, 120, 97, 109, 112, 108, 101, 46, 111, 114, 103, 47]⟩ : ByteArray), (⟨#[]⟩ : ByteArray), (⟨#[104, 116, 116, 112, 115, 58, 47, 47, 117, 115, 101, 114, 58, 112, 97, 115, 115, 119, 111, 114, 100, 64, 101, 120, 97, 109, 112, 108, 101, 46, 111, 114, 103, 47]⟩ : ByteArray)),
  ((⟨#[104, 116, 116, 112, 115, 58, 47, 47, 101, 120, 97, 109, 112, 108, 101, 46, 111, 114, 103, 47, 102, 111, 111, 32, 98, 97, 114]⟩ : ByteArray), (⟨#[]⟩ : ByteArray), (⟨#[104, 116, 116, 112, 115, 58, 47, 47, 101, 120, 97, 109, 112, 108, 101, 46, 111, 114, 103, 47, 102, 111, 111, 37, 50, 48, 98, 97, 114]⟩ : ByteArray)),
  ((⟨#[104, 116, 116, 112, 115, 58, 47, 47, 69, 88, 65, 77, 80, 76, 69, 46, 99, 111, 109, 47, 46, 46, 47, 120]⟩ : ByteArray), (⟨#[]⟩ : ByteArray), (⟨#[104, 116, 116, 112, 115, 58, 47, 47, 101, 120, 97, 109, 112, 108, 101, 46, 99, 111, 109, 47, 120]⟩ : ByteArray)),
  ((⟨#[104, 116, 116, 112, 115, 58, 47, 47, 101, 120, 32, 97, 109, 112, 108, 101, 46, 111, 114, 103, 47]⟩ : ByteArray), (⟨#[]⟩ : ByteArray), (⟨#[]⟩ : ByteArray)),
  ((⟨#[101, 120, 97, 109, 112, 108, 101]⟩ : ByteArray), (⟨#[]⟩ : ByteArray), (⟨#[]⟩ : ByteArray)),
  ((⟨#[104, 116, 116, 112, 115, 58, 47, 47, 101, 120, 97, 109, 112, 108, 101, 46, 99, 111, 109, 58, 100, 101, 109, 111]⟩ : ByteArray), (⟨#[]⟩ : ByteArray), (⟨#[]⟩ : ByteArray)),
  ((⟨#[104, 116, 116, 112, 58, 47, 47, 91, 119, 119, 119, 46, 101, 120, 97, 109, 112, 108, 101, 46, 99, 111, 109, 93, 47]⟩ : ByteArray), (⟨#[]⟩ : ByteArray), (⟨#[]⟩ : ByteArray)),
  ((⟨#[104, 116, 116, 112, 115, 58, 47, 47, 101, 120, 97, 109, 112, 108, 101, 46, 111, 114, 103, 47, 47]⟩ : ByteArray), (⟨#[]⟩ : ByteArray), (⟨#[104, 116, 116, 112, 115, 58, 47, 47, 101, 120, 97, 109, 112, 108, 101, 46, 111, 114, 103, 47, 47]⟩ : ByteArray)),
  ((⟨#[104, 116, 116, 112, 115, 58, 47, 47, 101, 120, 97, 109, 112, 108, 101, 46, 99, 111, 109, 47, 91, 93, 63, 91, 93, 35, 91, 93]⟩ : ByteArray), (⟨#[]⟩ : ByteArray), (⟨#[104, 116, 116, 112, 115, 58, 47, 47, 101, 120, 97, 109, 112, 108, 101, 46, 99, 111, 109, 47, 91, 93, 63, 91, 93, 35, 91, 93]⟩ : ByteArray)),
  ((⟨#[104, 116, 116, 112, 115, 58, 47, 47, 101, 120, 97, 109, 112, 108, 101, 47, 37, 63, 37, 35, 37]⟩ : ByteArray), (⟨#[]⟩ : ByteArray), (⟨#[104, 116, 116, 112, 115, 58, 47, 47, 101, 120, 97, 109, 112, 108, 101, 47, 37, 63, 37, 35, 37]⟩ : ByteArray)),
  ((⟨#[104, 116, 116, 112, 115, 58, 47, 47, 101, 120, 97, 109, 112, 108, 101, 47, 37, 50, 53, 63, 37, 50, 53, 35, 37, 50, 53]⟩ : ByteArray), (⟨#[]⟩ : ByteArray), (⟨#[104, 116, 116, 112, 115, 58, 47, 47, 101, 120, 97, 109, 112, 108, 101, 47, 37, 50, 53, 63, 37, 50, 53, 35, 37, 50, 53]⟩ : ByteArray)),
  ((⟨#[104, 116, 116, 112, 58, 47, 47, 50, 53, 54, 47]⟩ : ByteArray), (⟨#[]⟩ : ByteArray), (⟨#[104, 116, 116, 112, 58, 47, 47, 48, 46, 48, 46, 49, 46, 48, 47]⟩ : ByteArray)),
  ((⟨#[104, 116, 116, 112, 58, 47, 47, 48, 120, 55, 70, 46, 49, 47]⟩ : ByteArray), (⟨#[]⟩ : ByteArray), (⟨#[104, 116, 116, 112, 58, 47, 47, 49, 50, 55, 46, 48, 46, 48, 46, 49, 47]⟩ : ByteArray)),
  ((⟨#[104, 116, 116, 112, 58, 47, 47, 49, 57, 50, 46, 49, 54, 56, 46, 48, 49, 48, 46, 49, 46, 47]⟩ : ByteArray), (⟨#[]⟩ : ByteArray), (⟨#[104, 116, 116, 112, 58, 47, 47, 49, 57, 50, 46, 49, 54, 56, 46, 56, 46, 49, 47]⟩ : ByteArray)),
  ((⟨#[104, 116, 116, 112, 58, 47, 47, 49, 46, 50, 46, 51, 46, 50, 53, 54, 47]⟩ : ByteArray), (⟨#[]⟩ : ByteArray), (⟨#[]⟩ : ByteArray)),
  ((⟨#[104, 116, 116, 112, 58, 47, 47, 49, 46, 48, 57, 47]⟩ : ByteArray), (⟨#[]⟩ : ByteArray), (⟨#[]⟩ : ByteArray)),
  ((⟨#[104, 116, 116, 112, 58, 47, 47, 91, 49, 58, 48, 58, 48, 58, 50, 58, 48, 58, 48, 58, 48, 58, 51, 93, 47]⟩ : ByteArray), (⟨#[]⟩ : ByteArray), (⟨#[104, 116, 116, 112, 58, 47, 47, 91, 49, 58, 48, 58, 48, 58, 50, 58, 58, 51, 93, 47]⟩ : ByteArray)),
  ((⟨#[104, 116, 116, 112, 58, 47, 47, 91, 48, 58, 48, 58, 49, 58, 50, 58, 51, 58, 52, 58, 53, 58, 54, 93, 47]⟩ : ByteArray), (⟨#[]⟩ : ByteArray), (⟨#[104, 116, 116, 112, 58, 47, 47, 91, 58, 58, 49, 58, 50, 58, 51, 58, 52, 58, 53, 58, 54, 93, 47]⟩ : ByteArray)),
  ((⟨#[104, 116, 116, 112, 58, 47, 47, 91, 58, 58, 102, 102, 102, 102, 58, 49, 46, 50, 46, 51, 46, 52, 93, 47]⟩ : ByteArray), (⟨#[]⟩ : ByteArray), (⟨#[104, 116, 116, 112, 58, 47, 47, 91, 58, 58, 102, 102, 102, 102, 58, 49, 48, 50, 58, 51, 48, 52, 93, 47]⟩ : ByteArray)),
  ((⟨#[104, 116, 116, 112, 58, 47, 47, 91, 49, 58, 48, 58, 50, 58, 51, 58, 52, 58, 53, 58, 54, 58, 55, 93, 47]⟩ : ByteArray), (⟨#[]⟩ : ByteArray), (⟨#[104, 116, 116, 112, 58, 47, 47, 91, 49, 58, 48, 58, 50, 58, 51, 58, 52, 58, 53, 58, 54, 58, 55, 93, 47]⟩ : ByteArray)),
  ((⟨#[102, 116, 112, 58, 47, 47, 104, 58, 50, 49, 47]⟩ : ByteArray), (⟨#[]⟩ : ByteArray), (⟨#[102, 116, 112, 58, 47, 47, 104, 47]⟩ : ByteArray)),
  ((⟨#[102, 116, 112, 58, 47, 47, 104, 58, 50, 50, 47]⟩ : ByteArray), (⟨#[]⟩ : ByteArray), (⟨#[102, 116, 112, 58, 47, 47, 104, 58, 50, 50, 47]⟩ : ByteArray)),
  ((⟨#[119, 115, 58, 47, 47, 104, 58, 56, 48, 47]⟩ : ByteArray), (⟨#[]⟩ : ByteArray), (⟨#[119, 115, 58, 47, 47, 104, 47]⟩ : ByteArray)),
  ((⟨#[119, 115, 115, 58, 47, 47, 104, 58, 52, 52, 51, 47]⟩ : ByteArray), (⟨#[]⟩ : ByteArray), (⟨#[119, 115, 115, 58, 47, 47, 104, 47]⟩ : ByteArray)),
  ((⟨#[119, 101, 98, 43, 100, 101, 109, 111, 58, 47, 46, 47, 47, 110, 111, 116, 45, 97, 45, 104, 111, 115, 116, 47]⟩ : ByteArray), (⟨#[]⟩ : ByteArray), (⟨#[119, 101, 98, 43, 100, 101, 109, 111, 58, 47, 46, 47, 47, 110, 111, 116, 45, 97, 45, 104, 111, 115, 116, 47]⟩ : ByteArray)),
  ((⟨#[119, 101, 98, 43, 100, 101, 109, 111, 58, 47, 46, 46, 47, 47, 120]⟩ : ByteArray), (⟨#[]⟩ : ByteArray), (⟨#[119, 101, 98, 43, 100, 101, 109, 111, 58, 47, 46, 47, 47, 120]⟩ : ByteArray)),
  ((⟨#[104, 116, 116, 112, 58, 47, 47, 97, 58, 98, 58, 99, 64, 104, 47]⟩ : ByteArray), (⟨#[]⟩ : ByteArray), (⟨#[104, 116, 116, 112, 58, 47, 47, 97, 58, 98, 37, 51, 65, 99, 64, 104, 47]⟩ : ByteArray)),
  ((⟨#[104, 116, 116, 112, 58, 47, 47, 97, 64, 98, 64, 104, 47]⟩ : ByteArray), (⟨#[]⟩ : ByteArray), (⟨#[104, 116, 116, 112, 58, 47, 47, 97, 37, 52, 48, 98, 64, 104, 47]⟩ : ByteArray)),
  ((⟨#[104, 116, 116, 112, 58, 47, 47, 120, 110, 45, 45, 97, 47]⟩ : ByteArray), (⟨#[]⟩ : ByteArray), (⟨#[33]⟩ : ByteArray)),
  ((⟨#[104, 116, 116, 112, 58, 47, 47, 104, 47, 63, 97, 39, 98]⟩ : ByteArray), (⟨#[]⟩ : ByteArray), (⟨#[104, 116, 116, 112, 58, 47, 47, 104, 47, 63, 97, 37, 50, 55, 98]⟩ : ByteArray)),
  ((⟨#[97, 58, 47, 47, 104, 47, 63, 97, 39, 98]⟩ : ByteArray), (⟨#[]⟩ : ByteArray), (⟨#[97, 58, 47, 47, 104, 47, 63, 97, 39, 98]⟩ : ByteArray)),
  ((⟨#[104, 116, 116, 112, 58, 47, 47, 104, 47, 94, 96, 123, 125, 124]⟩ : ByteArray), (⟨#[]⟩ : ByteArray), (⟨#[104, 116, 116, 112, 58, 47, 47, 104, 47, 37, 53, 69, 37, 54, 48, 37, 55, 66, 37, 55, 68, 124]⟩ : ByteArray)),
  ((⟨#[47, 47, 104, 47, 120]⟩ : ByteArray), (⟨#[104, 116, 116, 112, 58, 47, 47, 97, 47, 98, 63, 99, 35, 100]⟩ : ByteArray), (⟨#[104, 116, 116, 112, 58, 47, 47, 104, 47, 120]⟩ : ByteArray)),
  ((⟨#[63, 113]⟩ : ByteArray), (⟨#[104, 116, 116, 112, 58, 47, 47, 97, 47, 98, 63, 99, 35, 100]⟩ : ByteArray), (⟨#[104, 116, 116, 112, 58, 47, 47, 97, 47, 98, 63, 113]⟩ : ByteArray)),
  ((⟨#[35, 102]⟩ : ByteArray), (⟨#[109, 97, 105, 108, 116, 111, 58, 120]⟩ : ByteArray), (⟨#[109, 97, 105, 108, 116, 111, 58, 120, 35, 102]⟩ : ByteArray)),
  ((⟨#[]⟩ : ByteArray), (⟨#[104, 116, 116, 112, 58, 47, 47, 97, 47, 98, 63, 99, 35, 100]⟩ : ByteArray), (⟨#[104, 116, 116, 112, 58, 47, 47, 97, 47, 98, 63, 99]⟩ : ByteArray)),
  ((⟨#[109, 97, 105, 108, 116, 111, 58, 120, 32]⟩ : ByteArray), (⟨#[]⟩ : ByteArray), (⟨#[109, 97, 105, 108, 116, 111, 58, 120]⟩ : ByteArray)),
  ((⟨#[47, 120]⟩ : ByteArray), (⟨#[102, 105, 108, 101, 58, 47, 47, 104, 47, 67, 58, 47, 121]⟩ : ByteArray), (⟨#[102, 105, 108, 101, 58, 47, 47, 104, 47, 67, 58, 47, 120]⟩ : ByteArray)),
  ((⟨#[47, 47, 100, 58, 47, 120]⟩ : ByteArray), (⟨#[102, 105, 108, 101, 58, 47, 47, 47, 67, 58, 47, 121]⟩ : ByteArray), (⟨#[102, 105, 108, 101, 58, 47, 47, 47, 100, 58, 47, 120]⟩ : ByteArray))]
def goldCells : List Value := goldTab.flatMap fun t => [.string t.1, .string t.2.1, .string t.2.2]
def gold (k : Nat) : ByteArray × ByteArray × ByteArray := goldTab.getD k (⟨#[]⟩, ⟨#[]⟩, ⟨#[]⟩)
theorem flat3 (l : List (ByteArray × ByteArray × ByteArray)) : ∀ k, (h : k < l.length) → (l.flatMap fun t => [Value.string t.1, .string t.2.1, .string t.2.2])[3 * k]? = some (.string (l[k]).1) ∧ (l.flatMap fun t => [Value.string t.1, .string t.2.1, .string t.2.2])[3 * k + 1]? = some (.string (l[k]).2.1) ∧ (l.flatMap fun t => [Value.string t.1, .string t.2.1, .string t.2.2])[3 * k + 2]? = some (.string (l[k]).2.2) := by
  induction l with
  | nil => intro k h; simp at h
  | cons x r ih =>
    intro k h
    cases k with
    | zero => exact ⟨rfl, rfl, rfl⟩
    | succ k =>
      have := ih k (by simpa using h)
      rw [show 3 * (k + 1) = 3 * k + 3 by omega]
      simpa using this
theorem infoFam : (Tryz.prog.info? 44).map (fun i => (i.zero, i.size, i.bytes)) = some (some (.agg #[.string ⟨#[]⟩, .string ⟨#[]⟩, .string ⟨#[]⟩]), 3, 48) := by kernel_rfl
set_option maxHeartbeats 16000000 in
set_option maxRecDepth 100000 in
theorem known_any (k : Nat) (hk : k < 49) (w : World) : Calls Tryz.prog 25 #[.int .i64 k] w fun e w' => e = .returned (.tuple #[.agg #[.string (gold k).1, .string (gold k).2.1, .string (gold k).2.2], .bool true]) ∧ Nx w w' := by
  obtain ⟨i0, hi0, hz0, hz1, -⟩ := info_parts infoFam
  go_enter Tryz.func25, Tryz.ntmps25
  go_upto_region 1 with fail
  go_cut [4] from 5 (fun s wx => s = .slice (some ⟨w.heap.size + 1, 0, none⟩) 49 49 ∧ wx.heap[w.heap.size + 1]? = some (Obj.cells goldCells.toArray 44 (0, 0)) ∧ wx.heap[w.heap.size]? = some (Obj.cells #[.string ⟨#[]⟩, .string ⟨#[]⟩, .string ⟨#[]⟩] 44 (0, 0)) ∧ Nx w wx)
  case first =>
    go_wp2_with (refine wpList_buildSlice (P := Tryz.prog) rfl 66 44 49 _ rfl goldCells.toArray i0 _ Tryz.underlying66 hi0 hz0 (by rw [hz1]; decide) (by rw [hz1]; decide) (by rw [hz1]; kernel_rfl) ?_)
    go_meet
    case rel => exact ⟨by simp, by have h := heap_alloc_new (w.alloc (Obj.cells #[.string ⟨#[]⟩, .string ⟨#[]⟩, .string ⟨#[]⟩] 44)) (Obj.cells goldCells.toArray 44); rw [show (w.alloc (Obj.cells #[.string ⟨#[]⟩, .string ⟨#[]⟩, .string ⟨#[]⟩] 44)).heap.size = w.heap.size + 1 by simp] at h; exact h, ((Nx.rfl.alloc _).block _ (by simp)).trans (heap_alloc_new w _), (Nx.rfl.alloc _).alloc _⟩
  case rest =>
    obtain ⟨rfl, h1, h2, hn⟩ := hcut
    have hg : gold k = goldTab[k]'hk := by unfold gold; rw [List.getD_eq_getElem?_getD, List.getElem?_eq_getElem (show k < goldTab.length from hk)]; rfl
    obtain ⟨f0, f1, f2⟩ := flat3 goldTab k hk
    rw [← hg] at f0 f1 f2
    have c0 : wc.cell? ⟨w.heap.size + 1, k * 3, none⟩ = some (.string (gold k).1) := by simp only [World.cell?, h1]; rw [Nat.mul_comm]; simpa [goldCells] using f0
    have c1 : wc.cell? ⟨w.heap.size + 1, k * 3 + 1, none⟩ = some (.string (gold k).2.1) := by simp only [World.cell?, h1]; rw [Nat.mul_comm]; simpa [goldCells] using f1
    have c2 : wc.cell? ⟨w.heap.size + 1, k * 3 + 2, none⟩ = some (.string (gold k).2.2) := by simp only [World.cell?, h1]; rw [Nat.mul_comm]; simpa [goldCells] using f2
    have z0 : wc.cell? ⟨w.heap.size, 0, none⟩ = some (.string ⟨#[]⟩) := by simp [World.cell?, h2]
    have z1 : wc.cell? ⟨w.heap.size, 1, none⟩ = some (.string ⟨#[]⟩) := by simp [World.cell?, h2]
    have z2 : wc.cell? ⟨w.heap.size, 2, none⟩ = some (.string ⟨#[]⟩) := by simp [World.cell?, h2]
    have y0 : wc.frozen? ⟨w.heap.size, 0, none⟩ = false := by simp [World.frozen?, h2]
    have y1 : wc.frozen? ⟨w.heap.size, 1, none⟩ = false := by simp [World.frozen?, h2]
    have y2 : wc.frozen? ⟨w.heap.size, 2, none⟩ = false := by simp [World.frozen?, h2]
    have HN := hide hn
    have H2 := hide h2
    clear hg f0 f1 f2 h1 h2 hn
    generalize hgk : gold k = g at *
    have HG := hide hgk
    clear hgk
    have s0 : (((wc.setCell ⟨w.heap.size, 0, none⟩ (.string g.1)).setCell ⟨w.heap.size, 1, none⟩ (.string g.2.1)).setCell ⟨w.heap.size, 2, none⟩ (.string g.2.2)).cell? ⟨w.heap.size, 0, none⟩ = some (.string g.1) := by simp [World.cell?, World.setCell, Array.getElem?_modify, H2.out]
    have s1 : (((wc.setCell ⟨w.heap.size, 0, none⟩ (.string g.1)).setCell ⟨w.heap.size, 1, none⟩ (.string g.2.1)).setCell ⟨w.heap.size, 2, none⟩ (.string g.2.2)).cell? ⟨w.heap.size, 1, none⟩ = some (.string g.2.1) := by simp [World.cell?, World.setCell, Array.getElem?_modify, H2.out]
    have s2 : (((wc.setCell ⟨w.heap.size, 0, none⟩ (.string g.1)).setCell ⟨w.heap.size, 1, none⟩ (.string g.2.1)).setCell ⟨w.heap.size, 2, none⟩ (.string g.2.2)).cell? ⟨w.heap.size, 2, none⟩ = some (.string g.2.2) := by simp [World.cell?, World.setCell, Array.getElem?_modify, H2.out]
    go_wp2
    exact bodyPost_ret (v := .tuple #[.agg #[.string g.1, .string g.2.1, .string g.2.2], .bool true]) (by simp [results, Tryz.results25, go_sem, s0, s1, s2]) rfl ⟨by rw [HG.out], ((HN.out.setCell (Nat.le_refl _) _).setCell (Nat.le_refl _) _).setCell (Nat.le_refl _) _⟩
end Go.Proofs.YtglpmmemjhjblaaGreatDoor

namespace Go.Proofs.YtglpmmemjhjblaaGreatDoor
open Go.RowKit

/-- urlskeep.pick, of 49. -/
def pickN (a : Int) : Nat := ((if a < 0 then -(a + 1) else a) % 49).toNat
theorem pickN_lt (a : Int) : pickN a < 49 := by unfold pickN; omega
set_option maxHeartbeats 1000000 in
theorem pick_any (a : Int) (h0 : -9223372036854775808 ≤ a) (h1 : a ≤ 9223372036854775807) (w : World) :
    Calls Tryz.prog 15 #[.int .i64 a, .int .i64 49] w fun e w' => e = .returned (.int .i64 (pickN a : Nat)) ∧ w = w' := by
  by_cases hn : a < 0
  · have HE := hide (show ((pickN a : Nat) : Int) = -(a + 1) % 49 by unfold pickN; rw [if_pos hn]; omega)
    have hmv : Int.tmod (-(a + 1)) 49 = -(a + 1) % 49 := Int.tmod_eq_emod_of_nonneg (by omega)
    have HM := hide hmv
    clear hmv
    go_enter Tryz.func15, Tryz.ntmps15
    go_wp2
    go_ret
    exact ⟨ret_int (by rw [HE.out]; first | done | rfl | exact HM.out | (rw [← HM.out, Int.neg_tmod])), rfl⟩
  · have HE := hide (show ((pickN a : Nat) : Int) = a % 49 by unfold pickN; rw [if_neg hn]; omega)
    have HM := hide (show Int.tmod a 49 = a % 49 from Int.tmod_eq_emod_of_nonneg (by omega))
    go_enter Tryz.func15, Tryz.ntmps15
    go_wp2
    go_ret
    exact ⟨ret_int (by rw [HE.out]; first | done | rfl | exact HM.out | omega), rfl⟩
/-- What is known stands. -/
def goldExp (g : ByteArray × ByteArray × ByteArray) : U × Int := parseU (tl g.1) (tl g.2.1) (!(tl g.2.1).isEmpty)
theorem gold_true : ∀ k < 49, (gold k).1.size ≤ 160 ∧ (gold k).2.1.size ≤ 160 ∧ (gold k).2.2.size ≤ 1000 ∧ (if tl (gold k).2.2 = [] then (goldExp (gold k)).2 = 2 else if tl (gold k).2.2 = [33] then (goldExp (gold k)).2 = 3 else (goldExp (gold k)).2 = 0 ∧ hrefU (goldExp (gold k)).1 = tl (gold k).2.2) := by decide +kernel
/-- The block of a famous. -/
def FamB (w : World) (b : Nat) (g : ByteArray × ByteArray × ByteArray) : Prop := w.heap[b]? = some (Obj.cells #[.string g.1, .string g.2.1, .string g.2.2] 44 (0, 0))
theorem famB_new (w : World) (g : ByteArray × ByteArray × ByteArray) : FamB (w.alloc (Obj.cells #[.string g.1, .string g.2.1, .string g.2.2] 44)) w.heap.size g := heap_alloc_new w _
theorem toList_tl (s : ByteArray) : s.toList = tl s := ByteArray.toList_eq s
theorem FamB.cell {w w' : World} {b : Nat} {g : ByteArray × ByteArray × ByteArray} (h : FamB w b g) (hb : Nx w w') : w'.cell? ⟨b, 2, none⟩ = some (.string g.2.2) := by
  have h2 := (hb.block b (Array.getElem?_eq_some_iff.1 h).1).trans h
  simp [World.cell?, h2]
set_option maxHeartbeats 8000000 in
theorem gold_any (k : Nat) (hk : k < 49) (w : World) (ht : Tb w) :
    Calls Tryz.prog 14 #[.int .i64 k] w fun e w' => e = .returned (.bool true) ∧ Nx w w' := by
  obtain ⟨hl1, hl2, hl3, hg⟩ := gold_true k hk
  have HTB := hide ht
  have HK := hide (fun w => known_any k hk w)
  clear ht
  generalize gold k = g at *
  have HEX := hide (show goldExp g = parseU (tl g.1) (tl g.2.1) (!(tl g.2.1).isEmpty) from rfl)
  have main : Hid (∀ (b : Bool) (w1 : World), b = (!(tl g.2.1).isEmpty) → Nx w w1 → ∀ (K : Ending → World → Prop), (∀ e w2, ParsedIs e w2 (goldExp g) → Nx (w1.alloc (Obj.cells #[.string g.1, .string g.2.1, .string g.2.2] 44)) w2 → K e w2) → Calls Tryz.prog 26 #[.string g.1, .string g.2.1, .bool b] (w1.alloc (Obj.cells #[.string g.1, .string g.2.1, .string g.2.2] 44)) K) := hide (fun b w1 hb hn K hK => by
    subst hb
    refine (parseU_any g.1 g.2.1 _ _ (small_len (by omega)) (small_len (by omega)) (HTB.out.on (hn.alloc _))).mono ?_
    rintro e w2 ⟨h1, h2⟩
    exact hK e w2 (by rw [HEX.out]; exact h1) h2)
  generalize hx : goldExp g = x at *
  clear hx
  obtain ⟨xu, xe⟩ := x
  simp only at hg
  have HG := hide hg
  clear hg
  by_cases hb0 : g.2.1.size = 0
  · have hb0' := str_empty hb0
    have HB := hide (show false = (!(tl g.2.1).isEmpty) by rw [tl_empty hb0]; rfl)
    clear hb0
    go_enter Tryz.func14, Tryz.ntmps14
    go_wp2_with fail
    refine (HK.out _).mono ?_
    rintro e w1 ⟨rfl, hn1⟩
    have HN1 := hide hn1
    clear hn1
    go_wp2_with fail
    refine main.out _ w1 HB.out HN1.out _ ?_
    intro e w2 hp hn2
    have hc2 := (famB_new w1 g).cell hn2
    have HF := hide (fun w3 (h3 : Nx w2 w3) => (famB_new w1 g).cell (hn2.then h3))
    have HN2 := hide ((HN1.out.alloc _).then hn2)
    clear hn2 main HK HEX
    by_cases hh0 : g.2.2.size = 0
    · have hh0' := str_empty hh0
      have hxe : xe = 2 := by have h := HG.out; rw [if_pos (tl_empty hh0)] at h; exact h
      subst hxe
      clear hh0
      rcases hp with ⟨-, rfl⟩ | ⟨h, -⟩
      · go_wp2
        go_ret
        exact ⟨rfl, HN2.out⟩
      · cases h
    · have hh0' := str_nonempty hh0
      have HG2 := hide (show if tl g.2.2 = [33] then xe = 3 else xe = 0 ∧ hrefU xu = tl g.2.2 by have h := HG.out; rw [if_neg (tl_ne hh0)] at h; exact h)
      clear hh0 HG
      by_cases h33 : tl g.2.2 = [33]
      · have hxe : xe = 3 := by have h := HG2.out; rw [if_pos h33] at h; exact h
        have h33' := eqB h33
        subst hxe
        clear h33
        rcases hp with ⟨-, rfl⟩ | ⟨h, -⟩
        · go_wp2
          go_ret
          exact ⟨rfl, HN2.out⟩
        · cases h
      · have hxe : xe = 0 ∧ hrefU xu = tl g.2.2 := by have h := HG2.out; rw [if_neg h33] at h; exact h
        have h33' := neB h33
        obtain ⟨rfl, hhr⟩ := hxe
        have HHR := hide hhr
        clear h33 hhr HG2
        rcases hp with ⟨h, -⟩ | ⟨-, pb, r, bs, rfl, hub, hrc⟩
        · exact absurd rfl h
        · have HUB := hide hub
          have HRC := hide hrc
          clear hub hrc
          go_wp2_with fail
          refine (urlHref_any pb r xu bs _ HUB.out HRC.out (HTB.out.on HN2.out)).mono ?_
          rintro e w3 ⟨t, rfl, htt, hn3⟩
          have hc3 := HF.out w3 hn3
          have heq := eqBB (htt.trans HHR.out)
          have HN3 := hide (HN2.out.then hn3)
          clear htt hn3 hc2
          go_wp2
          go_ret
          exact ⟨rfl, HN3.out⟩
  · have hb0' := str_nonempty hb0
    have HB := hide (show true = (!(tl g.2.1).isEmpty) by rw [← toList_tl g.2.1, hb0']; rfl)
    clear hb0
    go_enter Tryz.func14, Tryz.ntmps14
    go_wp2_with fail
    refine (HK.out _).mono ?_
    rintro e w1 ⟨rfl, hn1⟩
    have HN1 := hide hn1
    clear hn1
    go_wp2_with fail
    refine main.out _ w1 HB.out HN1.out _ ?_
    intro e w2 hp hn2
    have hc2 := (famB_new w1 g).cell hn2
    have HF := hide (fun w3 (h3 : Nx w2 w3) => (famB_new w1 g).cell (hn2.then h3))
    have HN2 := hide ((HN1.out.alloc _).then hn2)
    clear hn2 main HK HEX
    by_cases hh0 : g.2.2.size = 0
    · have hh0' := str_empty hh0
      have hxe : xe = 2 := by have h := HG.out; rw [if_pos (tl_empty hh0)] at h; exact h
      subst hxe
      clear hh0
      rcases hp with ⟨-, rfl⟩ | ⟨h, -⟩
      · go_wp2
        go_ret
        exact ⟨rfl, HN2.out⟩
      · cases h
    · have hh0' := str_nonempty hh0
      have HG2 := hide (show if tl g.2.2 = [33] then xe = 3 else xe = 0 ∧ hrefU xu = tl g.2.2 by have h := HG.out; rw [if_neg (tl_ne hh0)] at h; exact h)
      clear hh0 HG
      by_cases h33 : tl g.2.2 = [33]
      · have hxe : xe = 3 := by have h := HG2.out; rw [if_pos h33] at h; exact h
        have h33' := eqB h33
        subst hxe
        clear h33
        rcases hp with ⟨-, rfl⟩ | ⟨h, -⟩
        · go_wp2
          go_ret
          exact ⟨rfl, HN2.out⟩
        · cases h
      · have hxe : xe = 0 ∧ hrefU xu = tl g.2.2 := by have h := HG2.out; rw [if_neg h33] at h; exact h
        have h33' := neB h33
        obtain ⟨rfl, hhr⟩ := hxe
        have HHR := hide hhr
        clear h33 hhr HG2
        rcases hp with ⟨h, -⟩ | ⟨-, pb, r, bs, rfl, hub, hrc⟩
        · exact absurd rfl h
        · have HUB := hide hub
          have HRC := hide hrc
          clear hub hrc
          go_wp2_with fail
          refine (urlHref_any pb r xu bs _ HUB.out HRC.out (HTB.out.on HN2.out)).mono ?_
          rintro e w3 ⟨t, rfl, htt, hn3⟩
          have hc3 := HF.out w3 hn3
          have heq := eqBB (htt.trans HHR.out)
          have HN3 := hide (HN2.out.then hn3)
          clear htt hn3 hc2
          go_wp2
          go_ret
          exact ⟨rfl, HN3.out⟩
set_option maxHeartbeats 1000000 in
theorem known_walk (a : Int) (h0 : -9223372036854775808 ≤ a) (h1 : a ≤ 9223372036854775807) (w : World) (ht : Tb w) :
    Calls Tryz.prog 4 #[.int .i64 a] w fun e w' => e = .returned (.bool true) ∧ Nx w w' := by
  go_enter Tryz.func4, Tryz.ntmps4
  go_wp2_with (first | (go_at_call 15; refine (pick_any a h0 h1 _).mono ?_; rintro e w' ⟨rfl, rfl⟩) | (go_at_call 14; refine (gold_any (pickN a) (pickN_lt a) _ ht).mono ?_; rintro e w1 ⟨rfl, hn⟩; have HN := hide hn; clear hn))
  go_ret
  exact ⟨rfl, HN.out⟩
end Go.Proofs.YtglpmmemjhjblaaGreatDoor

namespace Go.Proofs.YtglpmmemjhjblaaGreatDoor
open Go.ChangeShapes Go.WideShapes Go.ChangeAt Go.RowKit

set_option maxRecDepth 20000 in
theorem known_contract (H : Type) (enc : TypeId × Value → H) (W : World) (base : Nat) (args : Array Value) (ds gs : List (DataW H)) (before : List MemPlace)
    (hval : ∀ (j : Nat) t v, Tryz.f4.params[j]? = some t → args[j]? = some v → Value.okWide Tryz.prog W .any base t v)
    (hW : DataW.Whole enc Tryz.prog Tryz.f4.params.toList Rows.knownSpec.vars false W args.toList ds gs before) (hL : laidMetH Tryz.prog Rows.knownRow.laid W) :
    Calls Tryz.prog 4 args W fun e W' => ∃ v, e = .returned v ∧ Rows.knownSpec.post enc Tryz.prog Tryz.f4 false true false false W args v W' := by
  have hW' := hW
  obtain ⟨p, q, hA0, hV, rfl, hfz, hnd⟩ := hW
  have hA : DataW.TrodAll enc Tryz.prog W 0 (fun _ => true) true Tryz.f4.params.toList args.toList ds p := hA0
  rw [Tryz.params4] at hA hval
  obtain ⟨v0, vs0, d0, ds0, p0, q0, hargs, rfl, rfl, h0, r0⟩ := trodAll_cons hA
  obtain ⟨rfl, rfl, rfl⟩ := trodAll_nil r0
  obtain rfl : args = #[v0] := by cases args; simp_all
  obtain ⟨rfl, rfl⟩ := trodVars_none hV
  have hv0 : Value.okWide Tryz.prog W .any base 3 v0 := hval 0 3 v0 rfl rfl
  obtain ⟨n, rfl, rfl, rfl, hw⟩ := open_int (P := Tryz.prog) Tryz.underlying3 hv0 h0
  clear hA0
  simp only [List.append_nil] at hW'
  have hn : -9223372036854775808 ≤ n ∧ n ≤ 9223372036854775807 := by
    have h1 : (decide (IntKind.i64.min ≤ n) && decide (n ≤ IntKind.i64.max)) = true := hw
    rw [Bool.and_eq_true, decide_eq_true_eq, decide_eq_true_eq, show IntKind.i64.min = -9223372036854775808 by decide, show IntKind.i64.max = 9223372036854775807 by decide] at h1
    exact h1
  refine (known_walk n hn.1 hn.2 W (laidTb hL)).mono fun e W' ⟨he, hnx⟩ => ?_
  subst he
  exact ⟨_, rfl, _, _, _, [], [], [], hW', trodAll_cons_mk (shut_bool Tryz.underlying4 _) trodAll_mk0, trodAll_cons_mk (shut_int Tryz.underlying3 hw) trodAll_mk0, rfl, hnx.frame _, fun h => by cases h⟩
theorem known_laid (os : Os) : laidMet Tryz.prog Rows.knownRow.laid ((laidWorld os).forCall (fun _ _ => 0) ⟨#[], #[.int .i64 0], []⟩).memory :=
  laidMet_of_run' 8 (by kernel_rfl) (by kernel_rfl)
theorem known_reads (os : Os) {H : Type} (enc : TypeId × Value → H) : ∃ places, DataW.whole enc Tryz.prog ((laidWorld os).forCall (fun _ _ => 0) ⟨#[], #[.int .i64 0], []⟩).memory Tryz.f4.params.toList Rows.knownSpec.vars false #[Value.int .i64 0].toList 8 = some ([.lit (.int .i64 0)], [], places) :=
  ⟨[], by kernel_rfl⟩
set_option maxRecDepth 100000 in
theorem known_lifted (os : Os) (started : os.Started) (H : Type) (enc : TypeId × Value → H) (F : Stop.Interp) :
    ReturnsInHanded {} Tryz.checked os 4 .any ((OpenSpec.ofChange Rows.knownSpec).preRow enc Tryz.prog Tryz.f4 Rows.knownRow.domain false Rows.knownRow.laid) (((OpenSpec.ofChange Rows.knownSpec).at F).post enc Tryz.prog Tryz.f4 false true false false) := by
  obtain ⟨places, hx⟩ := known_reads os enc
  refine returnsInHanded_of_row (C := Tryz.checked) (s := OpenSpec.ofChange Rows.knownSpec) ownK started (by kernel_rfl) Tryz.func4
    (witness_row_at (enc := enc) (C := Tryz.checked) false (laidWorld os) #[.int .i64 0] rfl (by kernel_rfl) (by kernel_rfl) (by kernel_rfl)
      (OpenSpec.preRow_of_cond 8 hx (by kernel_rfl) (fun k hk => by cases hk) (by kernel_rfl) (known_laid os))) ?_
  intro W base args ds gs before hval hW _ _ _ hL _ _
  exact known_contract H enc W base args ds gs before hval hW hL
theorem known_said : Rows.KnownSaid :=
  OpenClaim.holds_of_cond 4 Tryz.f4 rfl rfl rfl rfl rfl rfl rfl ⟨rfl, rfl, rfl, rfl, rfl⟩ rfl rfl rfl rfl rfl (by kernel_rfl) Tryz.func4 (by kernel_rfl)
    (of_decide_eq_true (by kernel_rfl)) (by unfold Func.isWrapper; first | (rw [if_pos (by decide +kernel)]; kernel_rfl) | (rw [if_neg (by decide +kernel)]; exact ⟨rfl, rfl⟩))
    (fun os started H enc _ F => by rw [OpenClaim.pre_eq_preRow]; exact known_lifted os started H enc F)
theorem known_plain (f : FuncId) (fn : Func) (hf : Tryz.pinned.checked.prog.funcNamed "urls/urlskeep.Known" = some f) (hfn : Tryz.pinned.checked.prog.funcs[f]? = some fn) :
    false = Tryz.pinned.checked.prog.looks [] ∧ ∀ (j : Nat) t, fn.params[j]? = some t → Tryz.pinned.checked.prog.wantsStandIn t = false := by
  obtain rfl : f = 4 := Option.some.inj ((show Tryz.prog.funcNamed "urls/urlskeep.Known" = some 4 by kernel_rfl).symm.trans hf) |>.symm
  obtain rfl : fn = Tryz.f4 := (Option.some.inj (Tryz.func4.symm.trans hfn)).symm
  refine ⟨by kernel_rfl, fun j t ht => ?_⟩
  rw [Tryz.params4] at ht
  obtain rfl : t = 3 := by simpa using Array.mem_of_getElem? ht
  exact (show Tryz.prog.wantsStandIn 3 = false by kernel_rfl)
theorem known_card : Rows.KnownCardSaid :=
  Claim7.holds_tied_plain_at .later [] _ _ _ _ known_said (fun _ h => by cases h) (by kernel_rfl) (fun _ h => by cases h) known_row_tie rfl ⟨rfl, rfl⟩ (by kernel_rfl) rfl known_plain (by kernel_rfl)
end Go.Proofs.YtglpmmemjhjblaaGreatDoor
