import Derived.Test.YtcgoimipjnlagaaGreatDoorSnd2
namespace Go.Proofs.YtcgoimipjnlagaaGreatDoor
open Go.RowKit

/-- A byte of a scheme, as urlskeep.schemed asks. -/
def SchB (c : Int) : Prop := (97 ≤ c ∧ c ≤ 122) ∨ (48 ≤ c ∧ c ≤ 57) ∨ c = 43 ∨ c = 45 ∨ c = 46
set_option maxRecDepth 4000 in
set_option maxHeartbeats 4000000 in
/-- urlskeep.schemed, of a scheme with its colon. -/
theorem schemed_true (s : ByteArray) (w : World) (hs : s.size ≤ 1000000) (h2 : 2 ≤ s.size) (hl : ((s[s.size - 1]'(by omega)).toNat : Int) = 58) (hf : 97 ≤ ((s[0]'(by omega)).toNat : Int) ∧ ((s[0]'(by omega)).toNat : Int) ≤ 122)
    (hp : ∀ k (h : k < s.size - 1), SchB ((s[k]'(by omega)).toNat : Int)) :
    Calls Tryz.prog 35 #[.string s] w fun e w' => e = .returned (.bool true) ∧ w = w' := by
  have HP := hide hp
  have hf1 := hf.1
  have hf2 := hf.2
  have hl1 : (((s[s.size - 1]'(by omega)).toNat : Int) == 58) = true := by rw [hl]; rfl
  have hl2 : (((s[s.size - 1]'(by omega)).toNat : Int) != 58) = false := by rw [hl]; rfl
  have hidx : ((s.size : Int) - 1).toNat = s.size - 1 := by omega
  have HL := hide hl
  clear hp hf hl
  go_enter Tryz.func35, Tryz.ntmps35
  go_wp2
  all_goals try exact absurd HL.out (by assumption)
  all_goals try omega
  go_loop [3, 4, 5] (fun i _ _ => ∃ k : Nat, k ≤ s.size - 1 ∧ i = .int .i64 k) (fun i _ _ => s.size - (intOf i).toNat)
  case atStart => exact ⟨0, Nat.zero_le _, rfl⟩
  case round =>
    obtain ⟨k, hk, rfl⟩ := hrel
    by_cases hlt : k < s.size - 1
    · have hks : k < s.size := by omega
      have hb := HP.out k hlt
      rcases hb with ⟨b1, b2⟩ | ⟨b1, b2⟩ | b | b | b
      · go_wp2
        go_round
        case rel => exact ⟨k + 1, by omega, by go_num⟩
        case measure => simp [intOf]; omega
      · go_wp2
        go_round
        case rel => exact ⟨k + 1, by omega, by go_num⟩
        case measure => simp [intOf]; omega
      · go_wp2
        go_round
        case rel => exact ⟨k + 1, by omega, by go_num⟩
        case measure => simp [intOf]; omega
      · go_wp2
        go_round
        case rel => exact ⟨k + 1, by omega, by go_num⟩
        case measure => simp [intOf]; omega
      · go_wp2
        go_round
        case rel => exact ⟨k + 1, by omega, by go_num⟩
        case measure => simp [intOf]; omega
    · go_wp2
      go_ret
      exact ⟨rfl, rfl⟩
end Go.Proofs.YtcgoimipjnlagaaGreatDoor
