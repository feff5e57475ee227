import Derived.Test.YtglpmmemjhjblaaGreatDoorProg2
namespace Go.Proofs.YtglpmmemjhjblaaGreatDoor
open Go.RowKit

theorem str_empty {s : ByteArray} (h : s.size = 0) : s.toList.isEmpty = true := by rw [ByteArray.toList_eq]; show (tl s).isEmpty = true; rw [tl_empty h]; rfl
theorem str_nonempty {s : ByteArray} (h : ¬ s.size = 0) : s.toList.isEmpty = false := by
  rw [ByteArray.toList_eq]; show (tl s).isEmpty = false
  have := tl_length s
  cases e : tl s with
  | nil => rw [e] at this; simp at this; omega
  | cons => rfl
theorem adigit_rng (n base : Int) : 0 ≤ (adigit n base).1 ∧ ((adigit n base).2 = true → (adigit n base).1 < base) := by
  unfold adigit
  simp only
  split
  · split
    · simp
    · simp only [true_implies]; omega
  · split
    · split
      · simp
      · simp only [true_implies]; omega
    · split
      · split
        · simp
        · simp only [true_implies]; omega
      · rw [if_pos (Int.le_refl _)]; simp
/- ascii.Number -/
def numGo (base most : Int) : Int → List UInt8 → Option Int
  | n, [] => some n
  | n, c :: r => if (adigit c.toNat base).2 then numGo base most (if n ≤ most then n * base + (adigit c.toNat base).1 else n) r else none
def number (l : List UInt8) (base most : Int) : Int × Bool :=
  if l = [] then (0, false) else
  match numGo base most 0 l with
  | none => (0, false)
  | some n => if most < n then (most + 1, true) else (n, true)

set_option maxHeartbeats 800000 in
theorem number8_any (s : ByteArray) (most : Int) (w : World) (hs : s.size ≤ 1000000) (hm0 : 0 ≤ most) (hm1 : most ≤ 4294967295) :
    Calls Tryz.prog 191 #[.string s, .int .i64 8, .int .i64 most] w fun e w' => e = .returned (.tuple #[.int .i64 (number (tl s) 8 most).1, .bool (number (tl s) 8 most).2]) ∧ w = w' := by
  by_cases he : s.size = 0
  · have HE := hide (show number (tl s) 8 most = (0, false) by rw [tl_empty he]; rfl)
    have he' : s.toList.isEmpty = true := str_empty he
    clear he
    go_enter Tryz.func191, Tryz.ntmps191
    go_wp2
    go_ret2
    exact ⟨by rw [HE.out]; rfl, rfl⟩
  have he' : s.toList.isEmpty = false := str_nonempty he
  have HNE := hide (show ¬ tl s = [] by intro h; have := tl_length s; rw [h] at this; simp at this; omega)
  go_enter Tryz.func191, Tryz.ntmps191
  go_wp2
  go_loop [8, 9] (fun x i => ∃ (k : Nat) (n : Int), k ≤ s.size ∧ i = .int .i64 k ∧ x = .int .i64 n ∧ 0 ≤ n ∧ n ≤ 4294967295 * 8 + 8 ∧ numGo 8 most 0 (tl s) = numGo 8 most n ((tl s).drop k)) (fun _ i => s.size - (intOf i).toNat)
  case atStart => exact ⟨0, 0, Nat.zero_le _, rfl, rfl, by omega, by omega, rfl⟩
  case round =>
    obtain ⟨k, n, hk, rfl, rfl, hn0, hn1, hE⟩ := hrel
    have HE := hide hE
    clear hE
    by_cases hlt : k < s.size
    · have hb := bb s[k]
      have hd := adigit_rng (s[k].toNat : Int) 8
      have HS := hide (show numGo 8 most n ((tl s).drop k) = if (adigit (s[k].toNat : Int) 8).2 then numGo 8 most (if n ≤ most then n * 8 + (adigit (s[k].toNat : Int) 8).1 else n) ((tl s).drop (k + 1)) else none by rw [tl_drop s k hlt, numGo])
      generalize hq : adigit (s[k].toNat : Int) 8 = q at *
      have HQ := hide hq
      clear hq
      obtain ⟨d, ok⟩ := q
      simp only at hd HS
      cases ok
      · have HF := hide (show number (tl s) 8 most = (0, false) by unfold number; rw [if_neg HNE.out, HE.out, HS.out]; rfl)
        go_wp2_with (go_at_call 202; refine (adigit_any _ _ _ (by omega) (by omega)).mono ?_; rintro e w' ⟨rfl, rfl⟩; rw [HQ.out])
        go_ret2
        exact ⟨by rw [HF.out]; rfl, rfl⟩
      · obtain ⟨hd0, hd1⟩ := hd
        have hd2 := hd1 rfl
        clear hd1
        by_cases hnm : n ≤ most
        · have HF := hide (show numGo 8 most 0 (tl s) = numGo 8 most (n * 8 + d) ((tl s).drop (k + 1)) by rw [HE.out, HS.out, if_pos rfl, if_pos hnm])
          go_wp2_with (go_at_call 202; refine (adigit_any _ _ _ (by omega) (by omega)).mono ?_; rintro e w' ⟨rfl, rfl⟩; rw [HQ.out])
          go_round
          case rel => exact ⟨k + 1, n * 8 + d, by omega, by go_num, rfl, by omega, by omega, HF.out⟩
          case measure => simp [intOf]; omega
        · have HF := hide (show numGo 8 most 0 (tl s) = numGo 8 most n ((tl s).drop (k + 1)) by rw [HE.out, HS.out, if_pos rfl, if_neg hnm])
          go_wp2_with (go_at_call 202; refine (adigit_any _ _ _ (by omega) (by omega)).mono ?_; rintro e w' ⟨rfl, rfl⟩; rw [HQ.out])
          go_round
          case rel => exact ⟨k + 1, n, by omega, by go_num, rfl, by omega, by omega, HF.out⟩
          case measure => simp [intOf]; omega
    · have HF := hide (show number (tl s) 8 most = if most < n then (most + 1, true) else (n, true) by unfold number; rw [if_neg HNE.out, HE.out, tl_drop_all s k (by omega), numGo])
      by_cases hnm : most < n
      · go_wp2
        go_ret2
        exact ⟨by rw [HF.out, if_pos hnm]; rfl, rfl⟩
      · have HF2 := hide (HF.out.trans (if_neg hnm))
        go_wp2
        go_ret2
        exact ⟨by rw [HF2.out]; rfl, rfl⟩

set_option maxHeartbeats 800000 in
theorem number10_any (s : ByteArray) (most : Int) (w : World) (hs : s.size ≤ 1000000) (hm0 : 0 ≤ most) (hm1 : most ≤ 4294967295) :
    Calls Tryz.prog 191 #[.string s, .int .i64 10, .int .i64 most] w fun e w' => e = .returned (.tuple #[.int .i64 (number (tl s) 10 most).1, .bool (number (tl s) 10 most).2]) ∧ w = w' := by
  by_cases he : s.size = 0
  · have HE := hide (show number (tl s) 10 most = (0, false) by rw [tl_empty he]; rfl)
    have he' : s.toList.isEmpty = true := str_empty he
    clear he
    go_enter Tryz.func191, Tryz.ntmps191
    go_wp2
    go_ret2
    exact ⟨by rw [HE.out]; rfl, rfl⟩
  have he' : s.toList.isEmpty = false := str_nonempty he
  have HNE := hide (show ¬ tl s = [] by intro h; have := tl_length s; rw [h] at this; simp at this; omega)
  go_enter Tryz.func191, Tryz.ntmps191
  go_wp2
  go_loop [8, 9] (fun x i => ∃ (k : Nat) (n : Int), k ≤ s.size ∧ i = .int .i64 k ∧ x = .int .i64 n ∧ 0 ≤ n ∧ n ≤ 4294967295 * 10 + 10 ∧ numGo 10 most 0 (tl s) = numGo 10 most n ((tl s).drop k)) (fun _ i => s.size - (intOf i).toNat)
  case atStart => exact ⟨0, 0, Nat.zero_le _, rfl, rfl, by omega, by omega, rfl⟩
  case round =>
    obtain ⟨k, n, hk, rfl, rfl, hn0, hn1, hE⟩ := hrel
    have HE := hide hE
    clear hE
    by_cases hlt : k < s.size
    · have hb := bb s[k]
      have hd := adigit_rng (s[k].toNat : Int) 10
      have HS := hide (show numGo 10 most n ((tl s).drop k) = if (adigit (s[k].toNat : Int) 10).2 then numGo 10 most (if n ≤ most then n * 10 + (adigit (s[k].toNat : Int) 10).1 else n) ((tl s).drop (k + 1)) else none by rw [tl_drop s k hlt, numGo])
      generalize hq : adigit (s[k].toNat : Int) 10 = q at *
      have HQ := hide hq
      clear hq
      obtain ⟨d, ok⟩ := q
      simp only at hd HS
      cases ok
      · have HF := hide (show number (tl s) 10 most = (0, false) by unfold number; rw [if_neg HNE.out, HE.out, HS.out]; rfl)
        go_wp2_with (go_at_call 202; refine (adigit_any _ _ _ (by omega) (by omega)).mono ?_; rintro e w' ⟨rfl, rfl⟩; rw [HQ.out])
        go_ret2
        exact ⟨by rw [HF.out]; rfl, rfl⟩
      · obtain ⟨hd0, hd1⟩ := hd
        have hd2 := hd1 rfl
        clear hd1
        by_cases hnm : n ≤ most
        · have HF := hide (show numGo 10 most 0 (tl s) = numGo 10 most (n * 10 + d) ((tl s).drop (k + 1)) by rw [HE.out, HS.out, if_pos rfl, if_pos hnm])
          go_wp2_with (go_at_call 202; refine (adigit_any _ _ _ (by omega) (by omega)).mono ?_; rintro e w' ⟨rfl, rfl⟩; rw [HQ.out])
          go_round
          case rel => exact ⟨k + 1, n * 10 + d, by omega, by go_num, rfl, by omega, by omega, HF.out⟩
          case measure => simp [intOf]; omega
        · have HF := hide (show numGo 10 most 0 (tl s) = numGo 10 most n ((tl s).drop (k + 1)) by rw [HE.out, HS.out, if_pos rfl, if_neg hnm])
          go_wp2_with (go_at_call 202; refine (adigit_any _ _ _ (by omega) (by omega)).mono ?_; rintro e w' ⟨rfl, rfl⟩; rw [HQ.out])
          go_round
          case rel => exact ⟨k + 1, n, by omega, by go_num, rfl, by omega, by omega, HF.out⟩
          case measure => simp [intOf]; omega
    · have HF := hide (show number (tl s) 10 most = if most < n then (most + 1, true) else (n, true) by unfold number; rw [if_neg HNE.out, HE.out, tl_drop_all s k (by omega), numGo])
      by_cases hnm : most < n
      · go_wp2
        go_ret2
        exact ⟨by rw [HF.out, if_pos hnm]; rfl, rfl⟩
      · have HF2 := hide (HF.out.trans (if_neg hnm))
        go_wp2
        go_ret2
        exact ⟨by rw [HF2.out]; rfl, rfl⟩

set_option maxHeartbeats 800000 in
theorem number16_any (s : ByteArray) (most : Int) (w : World) (hs : s.size ≤ 1000000) (hm0 : 0 ≤ most) (hm1 : most ≤ 4294967295) :
    Calls Tryz.prog 191 #[.string s, .int .i64 16, .int .i64 most] w fun e w' => e = .returned (.tuple #[.int .i64 (number (tl s) 16 most).1, .bool (number (tl s) 16 most).2]) ∧ w = w' := by
  by_cases he : s.size = 0
  · have HE := hide (show number (tl s) 16 most = (0, false) by rw [tl_empty he]; rfl)
    have he' : s.toList.isEmpty = true := str_empty he
    clear he
    go_enter Tryz.func191, Tryz.ntmps191
    go_wp2
    go_ret2
    exact ⟨by rw [HE.out]; rfl, rfl⟩
  have he' : s.toList.isEmpty = false := str_nonempty he
  have HNE := hide (show ¬ tl s = [] by intro h; have := tl_length s; rw [h] at this; simp at this; omega)
  go_enter Tryz.func191, Tryz.ntmps191
  go_wp2
  go_loop [8, 9] (fun x i => ∃ (k : Nat) (n : Int), k ≤ s.size ∧ i = .int .i64 k ∧ x = .int .i64 n ∧ 0 ≤ n ∧ n ≤ 4294967295 * 16 + 16 ∧ numGo 16 most 0 (tl s) = numGo 16 most n ((tl s).drop k)) (fun _ i => s.size - (intOf i).toNat)
  case atStart => exact ⟨0, 0, Nat.zero_le _, rfl, rfl, by omega, by omega, rfl⟩
  case round =>
    obtain ⟨k, n, hk, rfl, rfl, hn0, hn1, hE⟩ := hrel
    have HE := hide hE
    clear hE
    by_cases hlt : k < s.size
    · have hb := bb s[k]
      have hd := adigit_rng (s[k].toNat : Int) 16
      have HS := hide (show numGo 16 most n ((tl s).drop k) = if (adigit (s[k].toNat : Int) 16).2 then numGo 16 most (if n ≤ most then n * 16 + (adigit (s[k].toNat : Int) 16).1 else n) ((tl s).drop (k + 1)) else none by rw [tl_drop s k hlt, numGo])
      generalize hq : adigit (s[k].toNat : Int) 16 = q at *
      have HQ := hide hq
      clear hq
      obtain ⟨d, ok⟩ := q
      simp only at hd HS
      cases ok
      · have HF := hide (show number (tl s) 16 most = (0, false) by unfold number; rw [if_neg HNE.out, HE.out, HS.out]; rfl)
        go_wp2_with (go_at_call 202; refine (adigit_any _ _ _ (by omega) (by omega)).mono ?_; rintro e w' ⟨rfl, rfl⟩; rw [HQ.out])
        go_ret2
        exact ⟨by rw [HF.out]; rfl, rfl⟩
      · obtain ⟨hd0, hd1⟩ := hd
        have hd2 := hd1 rfl
        clear hd1
        by_cases hnm : n ≤ most
        · have HF := hide (show numGo 16 most 0 (tl s) = numGo 16 most (n * 16 + d) ((tl s).drop (k + 1)) by rw [HE.out, HS.out, if_pos rfl, if_pos hnm])
          go_wp2_with (go_at_call 202; refine (adigit_any _ _ _ (by omega) (by omega)).mono ?_; rintro e w' ⟨rfl, rfl⟩; rw [HQ.out])
          go_round
          case rel => exact ⟨k + 1, n * 16 + d, by omega, by go_num, rfl, by omega, by omega, HF.out⟩
          case measure => simp [intOf]; omega
        · have HF := hide (show numGo 16 most 0 (tl s) = numGo 16 most n ((tl s).drop (k + 1)) by rw [HE.out, HS.out, if_pos rfl, if_neg hnm])
          go_wp2_with (go_at_call 202; refine (adigit_any _ _ _ (by omega) (by omega)).mono ?_; rintro e w' ⟨rfl, rfl⟩; rw [HQ.out])
          go_round
          case rel => exact ⟨k + 1, n, by omega, by go_num, rfl, by omega, by omega, HF.out⟩
          case measure => simp [intOf]; omega
    · have HF := hide (show number (tl s) 16 most = if most < n then (most + 1, true) else (n, true) by unfold number; rw [if_neg HNE.out, HE.out, tl_drop_all s k (by omega), numGo])
      by_cases hnm : most < n
      · go_wp2
        go_ret2
        exact ⟨by rw [HF.out, if_pos hnm]; rfl, rfl⟩
      · have HF2 := hide (HF.out.trans (if_neg hnm))
        go_wp2
        go_ret2
        exact ⟨by rw [HF2.out]; rfl, rfl⟩
end Go.Proofs.YtglpmmemjhjblaaGreatDoor
