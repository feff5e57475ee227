import Derived.Test.YtchkhibgbnhjpaaGreatDoorHst5
namespace Go.Proofs.YtchkhibgbnhjpaaGreatDoor
open Go.RowKit

/-- hosts.cutGap -/
def cutGap : List UInt8 → List UInt8 × List UInt8 × Bool
  | [] => ([], [], false)
  | [_] => ([], [], false)
  | c :: d :: r => if c = 58 ∧ d = 58 then ([], r, true) else if (cutGap (d :: r)).2.2 = true then (c :: (cutGap (d :: r)).1, (cutGap (d :: r)).2.1, true) else ([], [], false)
theorem cutGap_short {l : List UInt8} (h : l.length ≤ 1) : cutGap l = ([], [], false) := by
  match l, h with
  | [], _ => rfl
  | [_], _ => rfl
def GapTo (l : List UInt8) (k : Nat) : Prop := cutGap l = if (cutGap (l.drop k)).2.2 = true then (l.take k ++ (cutGap (l.drop k)).1, (cutGap (l.drop k)).2.1, true) else ([], [], false)
theorem cutGap_false {l : List UInt8} (h : (cutGap l).2.2 = false) : cutGap l = ([], [], false) := by
  match l, h with
  | [], _ => rfl
  | [_], _ => rfl
  | c :: d :: r, h =>
    rw [cutGap] at h ⊢
    split at h
    · cases h
    · rename_i hc
      rw [if_neg hc]
      split at h
      · cases h
      · rename_i hd; rw [if_neg hd]
theorem gapTo_zero (l : List UInt8) : GapTo l 0 := by
  unfold GapTo
  cases h : (cutGap l).2.2
  · rw [List.drop_zero, h, if_neg (by decide)]; exact cutGap_false h
  · rw [List.drop_zero, h, if_pos rfl, List.take_zero, List.nil_append]; rw [← h]
theorem drop2 (s : ByteArray) (k : Nat) (h : k + 1 < s.size) : (tl s).drop k = s[k] :: s[k + 1] :: (tl s).drop (k + 2) := by
  rw [tl_drop s k (by omega), tl_drop s (k + 1) h]
theorem gapTo_step {s : ByteArray} {k : Nat} (hk : k + 1 < s.size) (h : GapTo (tl s) k) (hn : ¬ (s[k] = 58 ∧ s[k + 1] = 58)) : GapTo (tl s) (k + 1) := by
  unfold GapTo at *
  rw [h, drop2 s k hk, cutGap, if_neg hn, ← tl_drop s (k + 1) hk, tl_take_succ s k (by omega)]
  cases hq : (cutGap ((tl s).drop (k + 1))).2.2
  · rfl
  · simp
theorem gapTo_hit {s : ByteArray} {k : Nat} (hk : k + 1 < s.size) (h : GapTo (tl s) k) (hn : s[k] = 58 ∧ s[k + 1] = 58) : cutGap (tl s) = ((tl s).take k, (tl s).drop (k + 2), true) := by
  unfold GapTo at h
  rw [h, drop2 s k hk, cutGap, if_pos hn, if_pos rfl, List.append_nil]
theorem gapTo_end {s : ByteArray} {k : Nat} (hk : s.size ≤ k + 1) (h : GapTo (tl s) k) : cutGap (tl s) = ([], [], false) := by
  unfold GapTo at h
  rw [h, cutGap_short (by rw [List.length_drop, tl_length]; omega), if_neg (by decide)]
theorem byte58 (b : UInt8) : ((b.toNat : Int) == 58) = true ↔ b = 58 := by
  rw [beq_iff_eq]
  constructor
  · intro h; exact UInt8.toNat_inj.1 (by show b.toNat = 58; omega)
  · intro h; rw [h]; rfl
set_option maxHeartbeats 1000000 in
theorem cutGap_any (s : ByteArray) (w : World) (hs : s.size ≤ 1000000) :
    Calls Tryz.prog 250 #[.string s] w fun e w' => CutIs (cutGap (tl s)) e ∧ Nx w w' := by
  go_enter Tryz.func250, Tryz.ntmps250
  go_wp2
  go_loop [5] (fun i => ∃ k : Nat, k ≤ s.size ∧ i = .int .i64 k ∧ GapTo (tl s) k) (fun i => s.size - (intOf i).toNat)
  case atStart => exact ⟨0, Nat.zero_le _, rfl, gapTo_zero _⟩
  case round =>
    obtain ⟨k, hk, rfl, ha⟩ := hrel
    have HA := hide ha
    clear ha
    by_cases hlt : k + 1 < s.size
    · have hb := bb s[k]
      have hb1 := bb s[k + 1]
      have HS := hide (fun hn => gapTo_step hlt HA.out hn)
      have HH := hide (fun hn => gapTo_hit hlt HA.out hn)
      cases h0 : ((s[k].toNat : Int) == 58)
      · have HN := hide (HS.out (fun h => by rw [(byte58 _).2 h.1] at h0; cases h0))
        clear HS HH
        go_wp2
        go_round
        case rel => exact ⟨k + 1, by omega, by go_num, HN.out⟩
        case measure => simp [intOf]; omega
      · cases h1 : ((s[k + 1].toNat : Int) == 58)
        · have HN := hide (HS.out (fun h => by rw [(byte58 _).2 h.2] at h1; cases h1))
          clear HS HH
          go_wp2
          go_round
          case rel => exact ⟨k + 1, by omega, by go_num, HN.out⟩
          case measure => simp [intOf]; omega
        · have HR := hide (HH.out ⟨(byte58 _).1 h0, (byte58 _).1 h1⟩)
          clear HS HH
          go_wp2
          go_region
          all_goals go_wp2
          all_goals go_ret3
          all_goals exact ⟨⟨_, _, by rw [HR.out]; rfl, by rw [HR.out, tl_to], by rw [HR.out, tl_from]⟩, Nx.rfl.drew⟩
    · have HR := hide (gapTo_end (Nat.le_of_not_lt hlt) HA.out)
      go_wp2
      go_ret3
      exact ⟨⟨_, _, by rw [HR.out]; rfl, by rw [HR.out]; rfl, by rw [HR.out]; rfl⟩, Nx.rfl⟩
end Go.Proofs.YtchkhibgbnhjpaaGreatDoor
