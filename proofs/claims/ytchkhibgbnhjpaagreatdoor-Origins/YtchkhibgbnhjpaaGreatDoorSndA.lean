import Derived.Test.YtchkhibgbnhjpaaGreatDoorPgB
namespace Go.Proofs.YtchkhibgbnhjpaaGreatDoor
open Go.RowKit

set_option maxHeartbeats 1000000 in
/-- urlskeep.plain, of plain bytes alone. -/
theorem plain_true (s : ByteArray) (w : World) (hs : s.size ≤ maxLen) (hp : ∀ k (h : k < s.size), 32 ≤ ((s[k]'h).toNat : Int) ∧ ((s[k]'h).toNat : Int) ≤ 126) :
    Calls Tryz.prog 34 #[.string s] w fun e w' => e = .returned (.bool true) ∧ w = w' := by
  have HP := hide hp
  unfold maxLen at hs
  clear hp
  go_enter Tryz.func34, Tryz.ntmps34
  go_wp2
  go_loop [3] (fun i => ∃ k : Nat, k ≤ s.size ∧ i = .int .i64 k) (fun i => s.size - (intOf i).toNat)
  case atStart => exact ⟨0, Nat.zero_le _, rfl⟩
  case round =>
    obtain ⟨k, hk, rfl⟩ := hrel
    by_cases hlt : k < s.size
    · have hb1 := (HP.out k hlt).1
      have hb2 := (HP.out k hlt).2
      go_wp2
      go_round
      case rel => exact ⟨k + 1, by omega, by go_num⟩
      case measure => simp [intOf]; omega
    · go_wp2
      go_ret
      exact ⟨rfl, rfl⟩
/-- urlskeep.special -/
def specialPro (s : List UInt8) : Bool := s == [104, 116, 116, 112, 58] || s == [104, 116, 116, 112, 115, 58] || s == [119, 115, 58] || s == [119, 115, 115, 58] || s == [102, 116, 112, 58] || s == [102, 105, 108, 101, 58]
set_option maxHeartbeats 2000000 in
theorem specialPro_any (s : ByteArray) (w : World) :
    Calls Tryz.prog 33 #[.string s] w fun e w' => e = .returned (.bool (specialPro (tl s))) ∧ w = w' := by
  have HE := hide (show specialPro (tl s) = (s.toList == [104, 116, 116, 112, 58] || s.toList == [104, 116, 116, 112, 115, 58] || s.toList == [119, 115, 58] || s.toList == [119, 115, 115, 58] || s.toList == [102, 116, 112, 58] || s.toList == [102, 105, 108, 101, 58]) by rw [ByteArray.toList_eq]; rfl)
  go_enter Tryz.func33, Tryz.ntmps33
  go_wp2
  all_goals go_ret
  all_goals exact ⟨ret_bool (by rw [HE.out] <;> simp_all), rfl⟩
end Go.Proofs.YtchkhibgbnhjpaaGreatDoor

namespace Go.Proofs.YtchkhibgbnhjpaaGreatDoor
open Go.RowKit

set_option maxHeartbeats 2000000 in
/-- urlskeep.begins -/
theorem begins_any (s t : ByteArray) (w : World) :
    Calls Tryz.prog 37 #[.string s, .string t] w fun e w' => e = .returned (.bool (decide (t.size ≤ s.size) && ((tl s).take t.size == tl t))) ∧ w = w' := by
  by_cases h : t.size ≤ s.size
  · have HE := hide (show (decide (t.size ≤ s.size) && ((tl s).take t.size == tl t)) = ((tl s).take t.size == tl t) by rw [decide_eq_true h]; rfl)
    go_enter Tryz.func37, Tryz.ntmps37
    go_wp2
    go_ret
    exact ⟨ret_bool (by rw [HE.out, ByteArray.toList_eq, ByteArray.toList_eq]; show (tl (s.extract 0 t.size) == tl t) = _; rw [tl_extract]; simp), rfl⟩
  · have HE := hide (show (decide (t.size ≤ s.size) && ((tl s).take t.size == tl t)) = false by rw [decide_eq_false h]; rfl)
    go_enter Tryz.func37, Tryz.ntmps37
    go_wp2
    go_ret
    exact ⟨ret_bool HE.out.symm, rfl⟩
end Go.Proofs.YtchkhibgbnhjpaaGreatDoor

namespace Go.Proofs.YtchkhibgbnhjpaaGreatDoor
open Go.RowKit

/-- A byte of a scheme, as urlskeep.schemed asks. -/
def SchB (c : Int) : Prop := (97 ≤ c ∧ c ≤ 122) ∨ (48 ≤ c ∧ c ≤ 57) ∨ c = 43 ∨ c = 45 ∨ c = 46
set_option maxRecDepth 4000 in
set_option maxHeartbeats 4000000 in
/-- urlskeep.schemed, of a scheme with its colon. -/
theorem schemed_true (s : ByteArray) (w : World) (hs : s.size ≤ 1000000) (h2 : 2 ≤ s.size) (hl : ((s[s.size - 1]'(by omega)).toNat : Int) = 58) (hf : 97 ≤ ((s[0]'(by omega)).toNat : Int) ∧ ((s[0]'(by omega)).toNat : Int) ≤ 122)
    (hp : ∀ k (h : k < s.size - 1), SchB ((s[k]'(by omega)).toNat : Int)) :
    Calls Tryz.prog 35 #[.string s] w fun e w' => e = .returned (.bool true) ∧ w = w' := by
  have HP := hide hp
  have hf1 := hf.1
  have hf2 := hf.2
  have hl1 : (((s[s.size - 1]'(by omega)).toNat : Int) == 58) = true := by rw [hl]; rfl
  have hl2 : (((s[s.size - 1]'(by omega)).toNat : Int) != 58) = false := by rw [hl]; rfl
  have hidx : ((s.size : Int) - 1).toNat = s.size - 1 := by omega
  have HL := hide hl
  clear hp hf hl
  go_enter Tryz.func35, Tryz.ntmps35
  go_wp2
  all_goals try exact absurd HL.out (by assumption)
  all_goals try omega
  go_loop [3, 4, 5] (fun i _ _ => ∃ k : Nat, k ≤ s.size - 1 ∧ i = .int .i64 k) (fun i _ _ => s.size - (intOf i).toNat)
  case atStart => exact ⟨0, Nat.zero_le _, rfl⟩
  case round =>
    obtain ⟨k, hk, rfl⟩ := hrel
    by_cases hlt : k < s.size - 1
    · have hks : k < s.size := by omega
      have hb := HP.out k hlt
      rcases hb with ⟨b1, b2⟩ | ⟨b1, b2⟩ | b | b | b
      · go_wp2
        go_round
        case rel => exact ⟨k + 1, by omega, by go_num⟩
        case measure => simp [intOf]; omega
      · go_wp2
        go_round
        case rel => exact ⟨k + 1, by omega, by go_num⟩
        case measure => simp [intOf]; omega
      · go_wp2
        go_round
        case rel => exact ⟨k + 1, by omega, by go_num⟩
        case measure => simp [intOf]; omega
      · go_wp2
        go_round
        case rel => exact ⟨k + 1, by omega, by go_num⟩
        case measure => simp [intOf]; omega
      · go_wp2
        go_round
        case rel => exact ⟨k + 1, by omega, by go_num⟩
        case measure => simp [intOf]; omega
    · go_wp2
      go_ret
      exact ⟨rfl, rfl⟩
end Go.Proofs.YtchkhibgbnhjpaaGreatDoor

namespace Go.Proofs.YtchkhibgbnhjpaaGreatDoor
open Go.RowKit

/-- A number in decimal, as urlskeep.ported reads it. -/
def vD (l : List UInt8) : Int := l.foldl (fun n c => 10 * n + (c.toNat : Int) - 48) 0
theorem vD_snoc (l : List UInt8) (c : UInt8) : vD (l ++ [c]) = 10 * vD l + (c.toNat : Int) - 48 := by simp [vD]
def ownText (p : List UInt8) : List UInt8 := if p = [104, 116, 116, 112, 58] ∨ p = [119, 115, 58] then [56, 48] else if p = [104, 116, 116, 112, 115, 58] ∨ p = [119, 115, 115, 58] then [52, 52, 51] else if p = [102, 116, 112, 58] then [50, 49] else [0]
set_option maxRecDepth 4000 in
set_option maxHeartbeats 8000000 in
/-- urlskeep.ported, of a port that is told. -/
theorem ported_true (p t : ByteArray) (w : World) (hs : t.size ≤ 1000000) (hd : ∀ k (h : k < t.size), 48 ≤ ((t[k]'h).toNat : Int) ∧ ((t[k]'h).toNat : Int) ≤ 57) (hv : ∀ k, k ≤ t.size → 0 ≤ vD ((tl t).take k) ∧ vD ((tl t).take k) ≤ 65535)
    (hz : t.size ≤ 1 ∨ ∃ h : 1 < t.size, 49 ≤ ((t[0]'(by omega)).toNat : Int)) (ho : tl t ≠ ownText (tl p)) (hfi : tl p = [102, 105, 108, 101, 58] → t.size = 0) :
    Calls Tryz.prog 36 #[.string p, .string t] w fun e w' => e = .returned (.bool true) ∧ w = w' := by
  have HD := hide hd
  have HV := hide hv
  have HZ := hide hz
  have HO := hide ho
  have HFI := hide hfi
  clear hd hv hz ho hfi
  go_enter Tryz.func36, Tryz.ntmps36
  go_wp2
  go_loop [5, 6] (fun n i => ∃ k : Nat, k ≤ t.size ∧ i = .int .i64 k ∧ n = .int .i64 (vD ((tl t).take k))) (fun _ i => t.size - (intOf i).toNat)
  case atStart => exact ⟨0, Nat.zero_le _, rfl, rfl⟩
  case round =>
    obtain ⟨k, hk, rfl, rfl⟩ := hrel
    have hv1 := (HV.out k hk).1
    have hv2 := (HV.out k hk).2
    by_cases hlt : k < t.size
    · have HS := hide (show vD ((tl t).take (k + 1)) = 10 * vD ((tl t).take k) + ((t[k]'hlt).toNat : Int) - 48 by rw [tl_take_succ t k hlt, vD_snoc])
      have hb1 := (HD.out k hlt).1
      have hb2 := (HD.out k hlt).2
      generalize vD ((tl t).take k) = n at *
      go_wp2
      go_round
      case rel => exact ⟨k + 1, by omega, by go_num, by rw [HS.out]⟩
      case measure => simp [intOf]; omega
    · generalize vD ((tl t).take k) = n at *
      rcases HZ.out with hz | ⟨hz, hz0⟩
      · skip
        by_cases p0 : tl p = [104, 116, 116, 112, 58]
        · have hn := neB (show ¬ tl t = [56, 48] from fun e => HO.out (e.trans (by rw [p0]; decide)))
          have p0' := eqB p0
          clear p0
          go_wp2
          all_goals go_ret
          all_goals exact ⟨rfl, rfl⟩
        have p0' := neB p0
        by_cases p1 : tl p = [119, 115, 58]
        · have hn := neB (show ¬ tl t = [56, 48] from fun e => HO.out (e.trans (by rw [p1]; decide)))
          have p1' := eqB p1
          clear p0 p1
          go_wp2
          all_goals go_ret
          all_goals exact ⟨rfl, rfl⟩
        have p1' := neB p1
        by_cases p2 : tl p = [104, 116, 116, 112, 115, 58]
        · have hn := neB (show ¬ tl t = [52, 52, 51] from fun e => HO.out (e.trans (by rw [p2]; decide)))
          have p2' := eqB p2
          clear p0 p1 p2
          go_wp2
          all_goals go_ret
          all_goals exact ⟨rfl, rfl⟩
        have p2' := neB p2
        by_cases p3 : tl p = [119, 115, 115, 58]
        · have hn := neB (show ¬ tl t = [52, 52, 51] from fun e => HO.out (e.trans (by rw [p3]; decide)))
          have p3' := eqB p3
          clear p0 p1 p2 p3
          go_wp2
          all_goals go_ret
          all_goals exact ⟨rfl, rfl⟩
        have p3' := neB p3
        by_cases p4 : tl p = [102, 116, 112, 58]
        · have hn := neB (show ¬ tl t = [50, 49] from fun e => HO.out (e.trans (by rw [p4]; decide)))
          have p4' := eqB p4
          clear p0 p1 p2 p3 p4
          go_wp2
          all_goals go_ret
          all_goals exact ⟨rfl, rfl⟩
        have p4' := neB p4
        by_cases p5 : tl p = [102, 105, 108, 101, 58]
        · have hn := str_empty (HFI.out p5)
          have p5' := eqB p5
          clear p0 p1 p2 p3 p4 p5
          go_wp2
          all_goals go_ret
          all_goals exact ⟨rfl, rfl⟩
        have p5' := neB p5
        clear p0 p1 p2 p3 p4 p5
        go_wp2
        all_goals go_ret
        all_goals exact ⟨rfl, rfl⟩
      · have hz1 : (((t[0]'(by omega)).toNat : Int) == 48) = false := beq_eq_false_iff_ne.2 (by omega)
        by_cases p0 : tl p = [104, 116, 116, 112, 58]
        · have hn := neB (show ¬ tl t = [56, 48] from fun e => HO.out (e.trans (by rw [p0]; decide)))
          have p0' := eqB p0
          clear p0
          go_wp2
          all_goals go_ret
          all_goals exact ⟨rfl, rfl⟩
        have p0' := neB p0
        by_cases p1 : tl p = [119, 115, 58]
        · have hn := neB (show ¬ tl t = [56, 48] from fun e => HO.out (e.trans (by rw [p1]; decide)))
          have p1' := eqB p1
          clear p0 p1
          go_wp2
          all_goals go_ret
          all_goals exact ⟨rfl, rfl⟩
        have p1' := neB p1
        by_cases p2 : tl p = [104, 116, 116, 112, 115, 58]
        · have hn := neB (show ¬ tl t = [52, 52, 51] from fun e => HO.out (e.trans (by rw [p2]; decide)))
          have p2' := eqB p2
          clear p0 p1 p2
          go_wp2
          all_goals go_ret
          all_goals exact ⟨rfl, rfl⟩
        have p2' := neB p2
        by_cases p3 : tl p = [119, 115, 115, 58]
        · have hn := neB (show ¬ tl t = [52, 52, 51] from fun e => HO.out (e.trans (by rw [p3]; decide)))
          have p3' := eqB p3
          clear p0 p1 p2 p3
          go_wp2
          all_goals go_ret
          all_goals exact ⟨rfl, rfl⟩
        have p3' := neB p3
        by_cases p4 : tl p = [102, 116, 112, 58]
        · have hn := neB (show ¬ tl t = [50, 49] from fun e => HO.out (e.trans (by rw [p4]; decide)))
          have p4' := eqB p4
          clear p0 p1 p2 p3 p4
          go_wp2
          all_goals go_ret
          all_goals exact ⟨rfl, rfl⟩
        have p4' := neB p4
        by_cases p5 : tl p = [102, 105, 108, 101, 58]
        · have hn := str_empty (HFI.out p5)
          have p5' := eqB p5
          clear p0 p1 p2 p3 p4 p5
          go_wp2
          all_goals go_ret
          all_goals exact ⟨rfl, rfl⟩
        have p5' := neB p5
        clear p0 p1 p2 p3 p4 p5
        go_wp2
        all_goals go_ret
        all_goals exact ⟨rfl, rfl⟩
end Go.Proofs.YtchkhibgbnhjpaaGreatDoor
