import Derived.Test.YtcgoimipjnlagaaGreatDoorSnd3
namespace Go.Proofs.YtcgoimipjnlagaaGreatDoor
open Go.RowKit

/-- A number in decimal, as urlskeep.ported reads it. -/
def vD (l : List UInt8) : Int := l.foldl (fun n c => 10 * n + (c.toNat : Int) - 48) 0
theorem vD_snoc (l : List UInt8) (c : UInt8) : vD (l ++ [c]) = 10 * vD l + (c.toNat : Int) - 48 := by simp [vD]
def ownText (p : List UInt8) : List UInt8 := if p = [104, 116, 116, 112, 58] ∨ p = [119, 115, 58] then [56, 48] else if p = [104, 116, 116, 112, 115, 58] ∨ p = [119, 115, 115, 58] then [52, 52, 51] else if p = [102, 116, 112, 58] then [50, 49] else [0]
set_option maxRecDepth 4000 in
set_option maxHeartbeats 8000000 in
/-- urlskeep.ported, of a port that is told. -/
theorem ported_true (p t : ByteArray) (w : World) (hs : t.size ≤ 1000000) (hd : ∀ k (h : k < t.size), 48 ≤ ((t[k]'h).toNat : Int) ∧ ((t[k]'h).toNat : Int) ≤ 57) (hv : ∀ k, k ≤ t.size → 0 ≤ vD ((tl t).take k) ∧ vD ((tl t).take k) ≤ 65535)
    (hz : t.size ≤ 1 ∨ ∃ h : 1 < t.size, 49 ≤ ((t[0]'(by omega)).toNat : Int)) (ho : tl t ≠ ownText (tl p)) (hfi : tl p = [102, 105, 108, 101, 58] → t.size = 0) :
    Calls Tryz.prog 36 #[.string p, .string t] w fun e w' => e = .returned (.bool true) ∧ w = w' := by
  have HD := hide hd
  have HV := hide hv
  have HZ := hide hz
  have HO := hide ho
  have HFI := hide hfi
  clear hd hv hz ho hfi
  go_enter Tryz.func36, Tryz.ntmps36
  go_wp2
  go_loop [5, 6] (fun n i => ∃ k : Nat, k ≤ t.size ∧ i = .int .i64 k ∧ n = .int .i64 (vD ((tl t).take k))) (fun _ i => t.size - (intOf i).toNat)
  case atStart => exact ⟨0, Nat.zero_le _, rfl, rfl⟩
  case round =>
    obtain ⟨k, hk, rfl, rfl⟩ := hrel
    have hv1 := (HV.out k hk).1
    have hv2 := (HV.out k hk).2
    by_cases hlt : k < t.size
    · have HS := hide (show vD ((tl t).take (k + 1)) = 10 * vD ((tl t).take k) + ((t[k]'hlt).toNat : Int) - 48 by rw [tl_take_succ t k hlt, vD_snoc])
      have hb1 := (HD.out k hlt).1
      have hb2 := (HD.out k hlt).2
      generalize vD ((tl t).take k) = n at *
      go_wp2
      go_round
      case rel => exact ⟨k + 1, by omega, by go_num, by rw [HS.out]⟩
      case measure => simp [intOf]; omega
    · generalize vD ((tl t).take k) = n at *
      rcases HZ.out with hz | ⟨hz, hz0⟩
      · skip
        by_cases p0 : tl p = [104, 116, 116, 112, 58]
        · have hn := neB (show ¬ tl t = [56, 48] from fun e => HO.out (e.trans (by rw [p0]; decide)))
          have p0' := eqB p0
          clear p0
          go_wp2
          all_goals go_ret
          all_goals exact ⟨rfl, rfl⟩
        have p0' := neB p0
        by_cases p1 : tl p = [119, 115, 58]
        · have hn := neB (show ¬ tl t = [56, 48] from fun e => HO.out (e.trans (by rw [p1]; decide)))
          have p1' := eqB p1
          clear p0 p1
          go_wp2
          all_goals go_ret
          all_goals exact ⟨rfl, rfl⟩
        have p1' := neB p1
        by_cases p2 : tl p = [104, 116, 116, 112, 115, 58]
        · have hn := neB (show ¬ tl t = [52, 52, 51] from fun e => HO.out (e.trans (by rw [p2]; decide)))
          have p2' := eqB p2
          clear p0 p1 p2
          go_wp2
          all_goals go_ret
          all_goals exact ⟨rfl, rfl⟩
        have p2' := neB p2
        by_cases p3 : tl p = [119, 115, 115, 58]
        · have hn := neB (show ¬ tl t = [52, 52, 51] from fun e => HO.out (e.trans (by rw [p3]; decide)))
          have p3' := eqB p3
          clear p0 p1 p2 p3
          go_wp2
          all_goals go_ret
          all_goals exact ⟨rfl, rfl⟩
        have p3' := neB p3
        by_cases p4 : tl p = [102, 116, 112, 58]
        · have hn := neB (show ¬ tl t = [50, 49] from fun e => HO.out (e.trans (by rw [p4]; decide)))
          have p4' := eqB p4
          clear p0 p1 p2 p3 p4
          go_wp2
          all_goals go_ret
          all_goals exact ⟨rfl, rfl⟩
        have p4' := neB p4
        by_cases p5 : tl p = [102, 105, 108, 101, 58]
        · have hn := str_empty (HFI.out p5)
          have p5' := eqB p5
          clear p0 p1 p2 p3 p4 p5
          go_wp2
          all_goals go_ret
          all_goals exact ⟨rfl, rfl⟩
        have p5' := neB p5
        clear p0 p1 p2 p3 p4 p5
        go_wp2
        all_goals go_ret
        all_goals exact ⟨rfl, rfl⟩
      · have hz1 : (((t[0]'(by omega)).toNat : Int) == 48) = false := beq_eq_false_iff_ne.2 (by omega)
        by_cases p0 : tl p = [104, 116, 116, 112, 58]
        · have hn := neB (show ¬ tl t = [56, 48] from fun e => HO.out (e.trans (by rw [p0]; decide)))
          have p0' := eqB p0
          clear p0
          go_wp2
          all_goals go_ret
          all_goals exact ⟨rfl, rfl⟩
        have p0' := neB p0
        by_cases p1 : tl p = [119, 115, 58]
        · have hn := neB (show ¬ tl t = [56, 48] from fun e => HO.out (e.trans (by rw [p1]; decide)))
          have p1' := eqB p1
          clear p0 p1
          go_wp2
          all_goals go_ret
          all_goals exact ⟨rfl, rfl⟩
        have p1' := neB p1
        by_cases p2 : tl p = [104, 116, 116, 112, 115, 58]
        · have hn := neB (show ¬ tl t = [52, 52, 51] from fun e => HO.out (e.trans (by rw [p2]; decide)))
          have p2' := eqB p2
          clear p0 p1 p2
          go_wp2
          all_goals go_ret
          all_goals exact ⟨rfl, rfl⟩
        have p2' := neB p2
        by_cases p3 : tl p = [119, 115, 115, 58]
        · have hn := neB (show ¬ tl t = [52, 52, 51] from fun e => HO.out (e.trans (by rw [p3]; decide)))
          have p3' := eqB p3
          clear p0 p1 p2 p3
          go_wp2
          all_goals go_ret
          all_goals exact ⟨rfl, rfl⟩
        have p3' := neB p3
        by_cases p4 : tl p = [102, 116, 112, 58]
        · have hn := neB (show ¬ tl t = [50, 49] from fun e => HO.out (e.trans (by rw [p4]; decide)))
          have p4' := eqB p4
          clear p0 p1 p2 p3 p4
          go_wp2
          all_goals go_ret
          all_goals exact ⟨rfl, rfl⟩
        have p4' := neB p4
        by_cases p5 : tl p = [102, 105, 108, 101, 58]
        · have hn := str_empty (HFI.out p5)
          have p5' := eqB p5
          clear p0 p1 p2 p3 p4 p5
          go_wp2
          all_goals go_ret
          all_goals exact ⟨rfl, rfl⟩
        have p5' := neB p5
        clear p0 p1 p2 p3 p4 p5
        go_wp2
        all_goals go_ret
        all_goals exact ⟨rfl, rfl⟩
end Go.Proofs.YtcgoimipjnlagaaGreatDoor
