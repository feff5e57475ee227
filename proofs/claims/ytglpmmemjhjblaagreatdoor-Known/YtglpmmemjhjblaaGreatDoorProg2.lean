import Derived.Test.YtglpmmemjhjblaaGreatDoorProg1
import Derived.Test.YtglpmmemjhjblaaGreatDoorText8
namespace Go.Proofs.YtglpmmemjhjblaaGreatDoor
open Go.RowKit

theorem toB_byte (b : UInt8) : UInt8.ofNat ((b.toNat : Int)).toNat = b := by
  rw [Int.toNat_natCast]; exact UInt8.ofNat_toNat
theorem toB_low {b : UInt8} (h0 : 65 ≤ b.toNat) (h1 : b.toNat ≤ 90) : UInt8.ofNat ((b.toNat : Int) + 32).toNat = lowB b := by
  apply UInt8.toNat_inj.1
  have := lowB_hit h0 h1
  rw [UInt8.toNat_ofNat_of_lt' (by show ((b.toNat : Int) + 32).toNat < 256; omega)]
  omega
theorem own_start (w : World) : OwnB (w.alloc (.cells #[] 5)) w.heap.size (.slice (some ⟨w.heap.size, 0, none⟩) 0 0) [] :=
  World.ownsRow_made w #[] 0 (Nat.le_refl _) (Nat.zero_le _) rfl
theorem lower_snoc (l : List UInt8) (b : UInt8) : lower (l ++ [b]) = lower l ++ [lowB b] := by simp [lower]

/- ascii.Lower -/
set_option maxHeartbeats 400000 in
theorem alower_any (s : ByteArray) (w : World) (hs : s.size ≤ 1000000) :
    Calls Tryz.prog 136 #[.string s] w fun e w' => ∃ r : ByteArray, e = .returned (.string r) ∧ tl r = lower (tl s) ∧ Nx w w' := by
  go_enter Tryz.func136, Tryz.ntmps136
  go_wp2
  go_loopw [3, 4] (fun o i wr => ∃ k : Nat, k ≤ s.size ∧ i = .int .i64 k ∧ OwnB wr w.heap.size o (lower ((tl s).take k)) ∧ Nx w wr) (fun _ i _ => s.size - (intOf i).toNat)
  case atStart => exact ⟨0, Nat.zero_le _, rfl, own_start w, Nx.rfl.alloc _⟩
  case round =>
    obtain ⟨k, hk, rfl, hown, hnx⟩ := hrel
    by_cases hlt : k < s.size
    · have hb := bb s[k]
      have HTK := hide ((congrArg lower (tl_take_succ s k hlt)).trans (lower_snoc _ _))
      have hz := hnx.size
      have hsz : (lower ((tl s).take k)).length < 1099511627776 := by simp only [lower, List.length_map, List.length_take]; omega
      have HO := hide hown
      have HN := hide hnx
      clear hown hnx
      by_cases hit : 65 ≤ s[k].toNat ∧ s[k].toNat ≤ 90
      · obtain ⟨hi0, hi1⟩ := hit
        have HT := hide (toB_low hi0 hi1)
        go_wp2_with (at_builtin; go_must (refine app_byte1 wr ((s[k].toNat : Int) + 32) rfl _ _ rfl w.heap.size _ _ rfl HO.out rfl (by omega) (by omega) hsz hz ?_; intro v' w1 ho1 hb1 hk1; have HO1 := hide ho1; clear ho1))
        go_roundw
        case rel => exact ⟨k + 1, by omega, by go_num, by rw [HTK.out, ← HT.out]; exact HO1.out, HN.out.trans hb1⟩
        case measure => simp [intOf]; omega
      · have HT := hide (lowB_miss hit)
        have HT2 := hide (toB_byte s[k])
        by_cases hi0 : 65 ≤ s[k].toNat
        · have hi1 : 90 < s[k].toNat := by omega
          clear hit
          go_wp2_with (at_builtin; go_must (refine app_byte1 wr (s[k].toNat : Int) rfl _ _ rfl w.heap.size _ _ rfl HO.out rfl (by omega) (by omega) hsz hz ?_; intro v' w1 ho1 hb1 hk1; have HO1 := hide ho1; clear ho1))
          go_roundw
          case rel => exact ⟨k + 1, by omega, by go_num, by rw [HTK.out, HT.out]; have h := HO1.out; rw [HT2.out] at h; exact h, HN.out.trans hb1⟩
          case measure => simp [intOf]; omega
        · clear hit
          go_wp2_with (at_builtin; go_must (refine app_byte1 wr (s[k].toNat : Int) rfl _ _ rfl w.heap.size _ _ rfl HO.out rfl (by omega) (by omega) hsz hz ?_; intro v' w1 ho1 hb1 hk1; have HO1 := hide ho1; clear ho1))
          go_roundw
          case rel => exact ⟨k + 1, by omega, by go_num, by rw [HTK.out, HT.out]; have h := HO1.out; rw [HT2.out] at h; exact h, HN.out.trans hb1⟩
          case measure => simp [intOf]; omega
    · rw [tl_take_all s k (by omega)] at hown
      have hcv := conv_own hown
      clear hown
      go_wp2
      go_ret
      exact ⟨_, rfl, tl_mk _, hnx⟩

/- ascii.Digit -/
def adigit (n base : Int) : Int × Bool :=
  let d := if 48 ≤ n ∧ n ≤ 57 then n - 48 else if 97 ≤ n ∧ n ≤ 102 then n - 97 + 10 else if 65 ≤ n ∧ n ≤ 70 then n - 65 + 10 else base
  if base ≤ d then (0, false) else (d, true)
theorem adigit_any (n base : Int) (w : World) (h0 : 0 ≤ n) (h1 : n ≤ 255) :
    Calls Tryz.prog 202 #[.int .u8 n, .int .i64 base] w fun e w' => e = .returned (.tuple #[.int .i64 (adigit n base).1, .bool (adigit n base).2]) ∧ w = w' := by
  by_cases c1 : 48 ≤ n ∧ n ≤ 57
  · obtain ⟨c1, c2⟩ := c1
    by_cases c3 : base ≤ n - 48
    · have HE := hide (show adigit n base = (0, false) by simp [adigit, c1, c2, c3])
      go_enter Tryz.func202, Tryz.ntmps202
      go_wp2
      go_ret2
      exact ⟨by rw [HE.out]; rfl, rfl⟩
    · have HE := hide (show adigit n base = (n - 48, true) by simp [adigit, c1, c2, c3])
      go_enter Tryz.func202, Tryz.ntmps202
      go_wp2
      go_ret2
      exact ⟨by rw [HE.out]; rfl, rfl⟩
  by_cases d1 : 97 ≤ n ∧ n ≤ 102
  · obtain ⟨d1, d2⟩ := d1
    have e1 : ¬ n ≤ 57 := by omega
    by_cases c3 : base ≤ n - 97 + 10
    · have HE := hide (show adigit n base = (0, false) by simp [adigit, d1, d2, c3, e1])
      clear c1
      go_enter Tryz.func202, Tryz.ntmps202
      go_wp2
      go_ret2
      exact ⟨by rw [HE.out]; rfl, rfl⟩
    · have HE := hide (show adigit n base = (n - 97 + 10, true) by simp [adigit, d1, d2, c3, e1])
      clear c1
      go_enter Tryz.func202, Tryz.ntmps202
      go_wp2
      go_ret2
      exact ⟨by rw [HE.out]; rfl, rfl⟩
  by_cases f1 : 65 ≤ n ∧ n ≤ 70
  · obtain ⟨f1, f2⟩ := f1
    have e1 : ¬ n ≤ 57 := by omega
    have e2 : ¬ 97 ≤ n := by omega
    by_cases c3 : base ≤ n - 65 + 10
    · have HE := hide (show adigit n base = (0, false) by simp [adigit, f1, f2, c3, e1, e2])
      clear c1 d1
      go_enter Tryz.func202, Tryz.ntmps202
      go_wp2
      go_ret2
      exact ⟨by rw [HE.out]; rfl, rfl⟩
    · have HE := hide (show adigit n base = (n - 65 + 10, true) by simp [adigit, f1, f2, c3, e1, e2])
      clear c1 d1
      go_enter Tryz.func202, Tryz.ntmps202
      go_wp2
      go_ret2
      exact ⟨by rw [HE.out]; rfl, rfl⟩
  · have HE := hide (show adigit n base = (0, false) by simp [adigit, c1, d1, f1])
    by_cases g1 : n < 48
    · clear c1 d1 f1
      go_enter Tryz.func202, Tryz.ntmps202
      go_wp2
      go_ret2
      exact ⟨by rw [HE.out]; rfl, rfl⟩
    by_cases g2 : n < 65
    · have g3 : 57 < n := by omega
      clear c1 d1 f1
      go_enter Tryz.func202, Tryz.ntmps202
      go_wp2
      go_ret2
      exact ⟨by rw [HE.out]; rfl, rfl⟩
    by_cases g4 : n < 97
    · have g3 : 70 < n := by omega
      clear c1 d1 f1
      go_enter Tryz.func202, Tryz.ntmps202
      go_wp2
      go_ret2
      exact ⟨by rw [HE.out]; rfl, rfl⟩
    · have g3 : 102 < n := by omega
      clear c1 d1 f1
      go_enter Tryz.func202, Tryz.ntmps202
      go_wp2
      go_ret2
      exact ⟨by rw [HE.out]; rfl, rfl⟩
end Go.Proofs.YtglpmmemjhjblaaGreatDoor
