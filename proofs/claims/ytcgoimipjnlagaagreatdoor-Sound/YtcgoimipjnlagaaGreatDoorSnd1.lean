import Derived.Test.YtcgoimipjnlagaaGreatDoorPgB
namespace Go.Proofs.YtcgoimipjnlagaaGreatDoor
open Go.RowKit

set_option maxHeartbeats 1000000 in
/-- urlskeep.plain, of plain bytes alone. -/
theorem plain_true (s : ByteArray) (w : World) (hs : s.size ≤ maxLen) (hp : ∀ k (h : k < s.size), 32 ≤ ((s[k]'h).toNat : Int) ∧ ((s[k]'h).toNat : Int) ≤ 126) :
    Calls Tryz.prog 34 #[.string s] w fun e w' => e = .returned (.bool true) ∧ w = w' := by
  have HP := hide hp
  unfold maxLen at hs
  clear hp
  go_enter Tryz.func34, Tryz.ntmps34
  go_wp2
  go_loop [3] (fun i => ∃ k : Nat, k ≤ s.size ∧ i = .int .i64 k) (fun i => s.size - (intOf i).toNat)
  case atStart => exact ⟨0, Nat.zero_le _, rfl⟩
  case round =>
    obtain ⟨k, hk, rfl⟩ := hrel
    by_cases hlt : k < s.size
    · have hb1 := (HP.out k hlt).1
      have hb2 := (HP.out k hlt).2
      go_wp2
      go_round
      case rel => exact ⟨k + 1, by omega, by go_num⟩
      case measure => simp [intOf]; omega
    · go_wp2
      go_ret
      exact ⟨rfl, rfl⟩
/-- urlskeep.special -/
def specialPro (s : List UInt8) : Bool := s == [104, 116, 116, 112, 58] || s == [104, 116, 116, 112, 115, 58] || s == [119, 115, 58] || s == [119, 115, 115, 58] || s == [102, 116, 112, 58] || s == [102, 105, 108, 101, 58]
set_option maxHeartbeats 2000000 in
theorem specialPro_any (s : ByteArray) (w : World) :
    Calls Tryz.prog 33 #[.string s] w fun e w' => e = .returned (.bool (specialPro (tl s))) ∧ w = w' := by
  have HE := hide (show specialPro (tl s) = (s.toList == [104, 116, 116, 112, 58] || s.toList == [104, 116, 116, 112, 115, 58] || s.toList == [119, 115, 58] || s.toList == [119, 115, 115, 58] || s.toList == [102, 116, 112, 58] || s.toList == [102, 105, 108, 101, 58]) by rw [ByteArray.toList_eq]; rfl)
  go_enter Tryz.func33, Tryz.ntmps33
  go_wp2
  all_goals go_ret
  all_goals exact ⟨ret_bool (by rw [HE.out] <;> simp_all), rfl⟩
end Go.Proofs.YtcgoimipjnlagaaGreatDoor
