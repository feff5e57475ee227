import Derived.Test.YtglpmmemjhjblaaGreatDoorProg4
namespace Go.Proofs.YtglpmmemjhjblaaGreatDoor
open Go.RowKit

/-- points.follow -/
def follow (b : Int) : Int × Int × Int :=
  if b < 128 then (1, 0, 0) else if b < 194 then (0, 0, 0) else if b < 224 then (2, 128, 191) else if b = 224 then (3, 160, 191) else if b = 237 then (3, 128, 159)
  else if b < 240 then (3, 128, 191) else if b = 240 then (4, 144, 191) else if b < 244 then (4, 128, 191) else if b = 244 then (4, 128, 143) else (0, 0, 0)
theorem follow_rng (b : Int) : 0 ≤ (follow b).1 ∧ (follow b).1 ≤ 4 ∧ 0 ≤ (follow b).2.1 ∧ (follow b).2.1 ≤ 191 ∧ 0 ≤ (follow b).2.2 ∧ (follow b).2.2 ≤ 191 := by
  unfold follow; repeat (first | (refine ⟨?_, ?_, ?_, ?_, ?_, ?_⟩ <;> decide) | split)
set_option maxRecDepth 100000 in
set_option maxHeartbeats 800000 in
theorem follow_any (b : Int) (w : World) :
    Calls Tryz.prog 134 #[.int .u8 b] w fun e w' => e = .returned (.tuple #[.int .i64 (follow b).1, .int .u8 (follow b).2.1, .int .u8 (follow b).2.2]) ∧ w = w' := by
  have go : ∀ q, follow b = q → (Calls Tryz.prog 134 #[.int .u8 b] w fun e w' => e = .returned (.tuple #[.int .i64 q.1, .int .u8 q.2.1, .int .u8 q.2.2]) ∧ w = w') → Calls Tryz.prog 134 #[.int .u8 b] w fun e w' => e = .returned (.tuple #[.int .i64 (follow b).1, .int .u8 (follow b).2.1, .int .u8 (follow b).2.2]) ∧ w = w' := by
    intro q h hc
    rw [h]
    exact hc
  by_cases a1 : b < 128
  · refine go _ (if_pos a1) ?_
    go_enter Tryz.func134, Tryz.ntmps134
    go_wp2
    go_ret3
    exact ⟨rfl, rfl⟩
  by_cases a2 : b < 194
  · refine go (0, 0, 0) (by unfold follow; rw [if_neg a1, if_pos a2]) ?_
    go_enter Tryz.func134, Tryz.ntmps134
    go_wp2
    go_ret3
    exact ⟨rfl, rfl⟩
  by_cases a3 : b < 224
  · refine go (2, 128, 191) (by unfold follow; rw [if_neg a1, if_neg a2, if_pos a3]) ?_
    clear a1
    go_enter Tryz.func134, Tryz.ntmps134
    go_wp2
    go_ret3
    exact ⟨rfl, rfl⟩
  by_cases a4 : b = 224
  · subst a4
    go_enter Tryz.func134, Tryz.ntmps134
    go_wp2
    go_ret3
    exact ⟨rfl, rfl⟩
  by_cases a5 : b = 237
  · subst a5
    go_enter Tryz.func134, Tryz.ntmps134
    go_wp2
    go_ret3
    exact ⟨rfl, rfl⟩
  have a4' : (b == 224) = false := by simp [a4]
  have a5' : (b == 237) = false := by simp [a5]
  by_cases a6 : b < 240
  · refine go (3, 128, 191) (by unfold follow; rw [if_neg a1, if_neg a2, if_neg a3, if_neg a4, if_neg a5, if_pos a6]) ?_
    clear a1 a2 a4 a5
    go_enter Tryz.func134, Tryz.ntmps134
    go_wp2
    go_ret3
    exact ⟨rfl, rfl⟩
  by_cases a7 : b = 240
  · subst a7
    go_enter Tryz.func134, Tryz.ntmps134
    go_wp2
    go_ret3
    exact ⟨rfl, rfl⟩
  have a7' : (b == 240) = false := by simp [a7]
  by_cases a8 : b < 244
  · refine go (4, 128, 191) (by unfold follow; rw [if_neg a1, if_neg a2, if_neg a3, if_neg a4, if_neg a5, if_neg a6, if_neg a7, if_pos a8]) ?_
    clear a1 a2 a3 a4 a5 a7
    go_enter Tryz.func134, Tryz.ntmps134
    go_wp2
    go_ret3
    exact ⟨rfl, rfl⟩
  by_cases a9 : b = 244
  · subst a9
    go_enter Tryz.func134, Tryz.ntmps134
    go_wp2
    go_ret3
    exact ⟨rfl, rfl⟩
  have a9' : (b == 244) = false := by simp [a9]
  refine go (0, 0, 0) (by unfold follow; rw [if_neg a1, if_neg a2, if_neg a3, if_neg a4, if_neg a5, if_neg a6, if_neg a7, if_neg a8, if_neg a9]) ?_
  clear a1 a2 a3 a4 a5 a6 a7 a9
  go_enter Tryz.func134, Tryz.ntmps134
  go_wp2
  go_ret3
  exact ⟨rfl, rfl⟩

/-- points.measure -/
def measGo (want : Int) : Int → Int → Nat → List UInt8 → Nat
  | _, _, size, [] => size
  | low, high, size, c :: r => if (size : Int) < want ∧ low ≤ (c.toNat : Int) ∧ (c.toNat : Int) ≤ high then measGo want 128 191 (size + 1) r else size
def measure (l : List UInt8) : Nat × Bool :=
  match l with
  | [] => (0, false)
  | c :: r => (measGo (follow c.toNat).1 (follow c.toNat).2.1 (follow c.toNat).2.2 1 r, (measGo (follow c.toNat).1 (follow c.toNat).2.1 (follow c.toNat).2.2 1 r : Int) == (follow c.toNat).1)
theorem measGo_rng (want low high : Int) (size : Nat) (l : List UInt8) : size ≤ measGo want low high size l ∧ measGo want low high size l ≤ size + l.length := by
  induction l generalizing low high size with
  | nil => simp [measGo]
  | cons c r ih =>
    rw [measGo]
    split
    · have := ih 128 191 (size + 1)
      simp only [List.length_cons]
      omega
    · simp
set_option maxRecDepth 100000 in
set_option maxHeartbeats 800000 in
theorem measure_any (s : ByteArray) (w : World) (hs : s.size ≤ 1000000) (h0 : 0 < s.size) :
    Calls Tryz.prog 100 #[.string s] w fun e w' => e = .returned (.tuple #[.int .i64 (measure (tl s)).1, .bool (measure (tl s)).2]) ∧ w = w' := by
  have hne := str_nonempty (s := s) (by omega)
  have hl0 := tl_drop s 0 h0
  simp only [List.drop_zero, Nat.zero_add] at hl0
  have hb0 := bb s[0]
  obtain ⟨q, hq⟩ : ∃ q, follow (s[0].toNat : Int) = q := ⟨_, rfl⟩
  have hrng := follow_rng (s[0].toNat : Int)
  have HE0 := hide (show measure (tl s) = (measGo q.1 q.2.1 q.2.2 1 ((tl s).drop 1), (measGo q.1 q.2.1 q.2.2 1 ((tl s).drop 1) : Int) == q.1) by rw [hl0, measure, hq]; rfl)
  rw [hq] at hrng
  have HQ := hide hq
  clear hq hl0
  obtain ⟨want, low, high⟩ := q
  simp only at hrng HE0
  obtain ⟨r0, r1, r2, r3, r4, r5⟩ := hrng
  go_enter Tryz.func100, Tryz.ntmps100
  go_wp2_with (go_at_call 134; refine (follow_any _ _).mono ?_; rintro e w' ⟨rfl, rfl⟩; rw [HQ.out])
  go_loop [5, 6, 7] (fun x y z => ∃ (lo hi : Int) (k : Nat), 1 ≤ k ∧ k ≤ s.size ∧ x = .int .u8 lo ∧ y = .int .u8 hi ∧ z = .int .i64 k ∧ measGo want low high 1 ((tl s).drop 1) = measGo want lo hi k ((tl s).drop k)) (fun _ _ z => s.size - (intOf z).toNat)
  case atStart => exact ⟨low, high, 1, by omega, by omega, rfl, rfl, rfl, rfl⟩
  case round =>
    obtain ⟨lo, hi, k, hk1, hk, rfl, rfl, rfl, hE⟩ := hrel
    have HE := hide hE
    clear hE
    by_cases hlt : k < s.size
    · have hbk := bb s[k]
      have HS := hide (show measGo want lo hi k ((tl s).drop k) = if (k : Int) < want ∧ lo ≤ (s[k].toNat : Int) ∧ (s[k].toNat : Int) ≤ hi then measGo want 128 191 (k + 1) ((tl s).drop (k + 1)) else k by rw [tl_drop s k hlt, measGo])
      by_cases hc : (k : Int) < want ∧ lo ≤ (s[k].toNat : Int) ∧ (s[k].toNat : Int) ≤ hi
      · have HF := hide (HE.out.trans (HS.out.trans (if_pos hc)))
        obtain ⟨c1, c2, c3⟩ := hc
        go_wp2
        go_round
        case rel => exact ⟨128, 191, k + 1, by omega, by omega, rfl, rfl, by go_num, HF.out⟩
        case measure => simp [intOf]; omega
      · have HF := hide (show measure (tl s) = (k, (k : Int) == want) by rw [HE0.out, HE.out, HS.out, if_neg hc])
        by_cases c1 : (k : Int) < want
        · by_cases c2 : lo ≤ (s[k].toNat : Int)
          · have c3 : hi < (s[k].toNat : Int) := by omega
            clear hc
            go_wp2
            go_ret2
            exact ⟨by rw [HF.out]; rfl, rfl⟩
          · clear hc
            go_wp2
            go_ret2
            exact ⟨by rw [HF.out]; rfl, rfl⟩
        · clear hc
          go_wp2
          go_ret2
          exact ⟨by rw [HF.out]; rfl, rfl⟩
    · have HF := hide (show measure (tl s) = (k, (k : Int) == want) by rw [HE0.out, HE.out, tl_drop_all s k (by omega), measGo])
      by_cases c1 : (k : Int) < want
      · go_wp2
        go_ret2
        exact ⟨by rw [HF.out]; rfl, rfl⟩
      · go_wp2
        go_ret2
        exact ⟨by rw [HF.out]; rfl, rfl⟩
end Go.Proofs.YtglpmmemjhjblaaGreatDoor
