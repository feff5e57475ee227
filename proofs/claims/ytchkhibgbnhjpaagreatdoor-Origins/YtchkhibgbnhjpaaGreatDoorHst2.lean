import Derived.Test.YtchkhibgbnhjpaaGreatDoorPgB
namespace Go.Proofs.YtchkhibgbnhjpaaGreatDoor
open Go.RowKit

theorem numGo_rng (base most : Int) (hb : 0 ≤ base) (l : List UInt8) : ∀ n q, 0 ≤ n → numGo base most n l = some q → 0 ≤ q := by
  induction l with
  | nil => intro n q h e; rw [numGo] at e; cases e; exact h
  | cons c r ih =>
    intro n q h e
    rw [numGo] at e
    split at e
    · refine ih _ q ?_ e
      split
      · have := adigit_rng (c.toNat : Int) base
        have h2 := Int.mul_nonneg h hb
        omega
      · exact h
    · cases e
theorem number_rng (l : List UInt8) (base most : Int) (hb : 0 ≤ base) (hm : 0 ≤ most) : 0 ≤ (number l base most).1 ∧ (number l base most).1 ≤ most + 1 := by
  unfold number
  split
  · exact ⟨Int.le_refl _, by show (0 : Int) ≤ _; omega⟩
  · split
    · exact ⟨Int.le_refl _, by show (0 : Int) ≤ _; omega⟩
    · rename_i n e
      have := numGo_rng base most hb l 0 n (Int.le_refl _) e
      split
      · exact ⟨by show (0 : Int) ≤ most + 1; omega, Int.le_refl _⟩
      · exact ⟨this, by show n ≤ most + 1; omega⟩
/-- hosts.readNumber -/
def readNum (l : List UInt8) : Int × Bool :=
  if l.length < 2 ∨ ¬ ((l.getD 0 0).toNat : Int) = 48 then number l 10 4294967295
  else if ¬ ((l.getD 1 0).toNat : Int) = 120 ∧ ¬ ((l.getD 1 0).toNat : Int) = 88 then number (l.drop 1) 8 4294967295
  else if l.length = 2 then (0, true) else number (l.drop 2) 16 4294967295
theorem readNum_eq (l : List UInt8) : readNum l = if l.length < 2 ∨ ¬ ((l.getD 0 0).toNat : Int) = 48 then number l 10 4294967295
  else if ¬ ((l.getD 1 0).toNat : Int) = 120 ∧ ¬ ((l.getD 1 0).toNat : Int) = 88 then number (l.drop 1) 8 4294967295
  else if l.length = 2 then (0, true) else number (l.drop 2) 16 4294967295 := rfl
theorem readNum_rng (l : List UInt8) : 0 ≤ (readNum l).1 ∧ (readNum l).1 ≤ 4294967296 := by
  unfold readNum
  split
  · exact number_rng _ _ _ (by decide) (by decide)
  · split
    · exact number_rng _ _ _ (by decide) (by decide)
    · split
      · exact ⟨by decide, by decide⟩
      · exact number_rng _ _ _ (by decide) (by decide)
set_option maxHeartbeats 800000 in
theorem readNum_any (s : ByteArray) (w : World) (hs : s.size ≤ 1000000) :
    Calls Tryz.prog 255 #[.string s] w fun e w' => e = .returned (.tuple #[.int .i64 (readNum (tl s)).1, .bool (readNum (tl s)).2]) ∧ w = w' := by
  have HD := hide (readNum_eq (tl s))
  rw [tl_length] at HD
  by_cases h2 : s.size < 2
  · have HE := hide (HD.out.trans (if_pos (Or.inl h2)))
    clear HD
    go_enter Tryz.func255, Tryz.ntmps255
    go_wp2_with (go_at_call 233; refine (number10_any _ _ _ hs (by decide) (by decide)).mono ?_; rintro e w' ⟨rfl, rfl⟩)
    go_ret2
    exact ⟨ret_ib HE.out.symm, rfl⟩
  rw [tl_getD s 0 (by omega), tl_getD s 1 (by omega)] at HD
  have hb0 := bb s[0]
  have hb1 := bb s[1]
  cases h48 : ((s[0].toNat : Int) == 48)
  · have h48' := bneT h48
    have HE := hide (HD.out.trans (if_pos (Or.inr (by simpa using h48))))
    clear HD
    go_enter Tryz.func255, Tryz.ntmps255
    go_wp2_with (go_at_call 233; refine (number10_any _ _ _ hs (by decide) (by decide)).mono ?_; rintro e w' ⟨rfl, rfl⟩)
    go_ret2
    exact ⟨ret_ib HE.out.symm, rfl⟩
  have h48' := bneF h48
  have HD2 := hide (HD.out.trans (if_neg (by rintro (h | h); exact h2 h; exact h (by simpa using h48))))
  clear HD
  by_cases hx : ((s[1].toNat : Int) == 120) = true ∨ ((s[1].toNat : Int) == 88) = true
  · have HD3 := hide (HD2.out.trans (if_neg (by rintro ⟨ha, hb⟩; rcases hx with h | h; exact ha (by simpa using h); exact hb (by simpa using h))))
    clear HD2
    by_cases hl2 : s.size = 2
    · have HE := hide (HD3.out.trans (if_pos hl2))
      clear HD3
      have hl2' : ((s.size : Int) == 2) = true := by rw [hl2]; rfl
      rcases hx with h | h
      · have HL := hide hl2
        have h' := bneF h
        clear hl2
        go_enter Tryz.func255, Tryz.ntmps255
        go_wp2
        go_ret2
        exact ⟨ret_ib (b := readNum (tl s)) (a := (0, true)) HE.out.symm, rfl⟩
      · clear hl2
        have hn : ((s[1].toNat : Int) == 120) = false := by have : (s[1].toNat : Int) = 88 := by simpa using h
                                                            rw [this]; rfl
        have hn' := bneT hn
        have h' := bneF h
        go_enter Tryz.func255, Tryz.ntmps255
        go_wp2
        go_ret2
        exact ⟨ret_ib (b := readNum (tl s)) (a := (0, true)) HE.out.symm, rfl⟩
    · have HE := hide (HD3.out.trans (if_neg hl2))
      have hl2' : ((s.size : Int) == 2) = false := by simp; omega
      clear HD3 hl2
      rcases hx with h | h
      · have h' := bneF h
        go_enter Tryz.func255, Tryz.ntmps255
        go_wp2_with (go_at_call 233; refine (number16_any _ _ _ (by rw [size_from]; omega) (by decide) (by decide)).mono ?_; rintro e w' ⟨rfl, rfl⟩)
        go_ret2
        exact ⟨ret_ib (by rw [tl_from]; exact HE.out.symm), rfl⟩
      · have hn : ((s[1].toNat : Int) == 120) = false := by have : (s[1].toNat : Int) = 88 := by simpa using h
                                                            rw [this]; rfl
        have hn' := bneT hn
        have h' := bneF h
        go_enter Tryz.func255, Tryz.ntmps255
        go_wp2_with (go_at_call 233; refine (number16_any _ _ _ (by rw [size_from]; omega) (by decide) (by decide)).mono ?_; rintro e w' ⟨rfl, rfl⟩)
        go_ret2
        exact ⟨ret_ib (by rw [tl_from]; exact HE.out.symm), rfl⟩
  · have hx1 : ((s[1].toNat : Int) == 120) = false := by cases h : ((s[1].toNat : Int) == 120); rfl; exact absurd (Or.inl h) hx
    have hx2 : ((s[1].toNat : Int) == 88) = false := by cases h : ((s[1].toNat : Int) == 88); rfl; exact absurd (Or.inr h) hx
    have HE := hide (HD2.out.trans (if_pos ⟨by simpa using hx1, by simpa using hx2⟩))
    have hx1' := bneT hx1
    have hx2' := bneT hx2
    clear HD2 hx
    go_enter Tryz.func255, Tryz.ntmps255
    go_wp2_with (go_at_call 233; refine (number8_any _ _ _ (by rw [size_from]; omega) (by decide) (by decide)).mono ?_; rintro e w' ⟨rfl, rfl⟩)
    go_ret2
    exact ⟨ret_ib (by rw [tl_from]; exact HE.out.symm), rfl⟩
end Go.Proofs.YtchkhibgbnhjpaaGreatDoor
