import Derived.Test.YtchkhibgbnhjpaaGreatDoorPgB
namespace Go.Proofs.YtchkhibgbnhjpaaGreatDoor
open Go.RowKit

/-- paths.Drive -/
def driveB (l : List UInt8) : Bool := match l with | [a, b] => alpha a.toNat && ((b.toNat : Int) == 58 || (b.toNat : Int) == 124) | _ => false
theorem driveB_len {l : List UInt8} (h : driveB l = true) : l.length = 2 := by
  unfold driveB at h
  split at h
  · rfl
  · cases h
theorem tl_two {s : ByteArray} (h : s.size = 2) : tl s = [s[0], s[1]] := by
  have h0 := tl_drop s 0 (by omega)
  have h1 := tl_drop s 1 (by omega)
  rw [tl_drop_all s 2 (by omega)] at h1
  rw [h1] at h0
  simpa using h0
set_option maxHeartbeats 800000 in
theorem drive_any (s : ByteArray) (w : World) :
    Calls Tryz.prog 223 #[.string s] w fun e w' => e = .returned (.bool (driveB (tl s))) ∧ w = w' := by
  by_cases h2 : s.size = 2
  · have hg : 1 < s.size := by omega
    have hg0 : 0 < s.size := by omega
    have HT : Hid (driveB (tl s) = (alpha (s[0]'hg0).toNat && (((s[1]'hg).toNat : Int) == 58 || ((s[1]'hg).toNat : Int) == 124))) := hide (by rw [tl_two h2]; rfl)
    have hl : ((s.size : Int) == 2) = true := by rw [h2]; rfl
    have hb0 := bb (s[0]'hg0)
    have hb1 := bb (s[1]'hg)
    clear h2
    cases hA : alpha (s[0].toNat : Int)
    · have HA := hide hA
      clear hA
      go_enter Tryz.func223, Tryz.ntmps223
      go_wp2_with (go_at_call 184; refine (letter_any _ _).mono ?_; rintro e w' ⟨rfl, rfl⟩; rw [HA.out])
      all_goals go_ret
      all_goals exact ⟨ret_bool (by rw [HT.out, HA.out]; rfl), rfl⟩
    · have HA := hide hA
      clear hA
      cases h58 : ((s[1].toNat : Int) == 58)
      · go_enter Tryz.func223, Tryz.ntmps223
        go_wp2_with (go_at_call 184; refine (letter_any _ _).mono ?_; rintro e w' ⟨rfl, rfl⟩; rw [HA.out])
        all_goals go_ret
        all_goals exact ⟨ret_bool (by rw [HT.out, HA.out, h58]; simp), rfl⟩
      · go_enter Tryz.func223, Tryz.ntmps223
        go_wp2_with (go_at_call 184; refine (letter_any _ _).mono ?_; rintro e w' ⟨rfl, rfl⟩; rw [HA.out])
        all_goals go_ret
        all_goals exact ⟨ret_bool (by rw [HT.out, HA.out, h58]; rfl), rfl⟩
  · have HT := hide (show driveB (tl s) = false by
      cases h : driveB (tl s)
      · rfl
      · have := driveB_len h
        rw [tl_length] at this
        exact absurd this h2)
    have hl : ((s.size : Int) == 2) = false := by simp; omega
    clear h2
    go_enter Tryz.func223, Tryz.ntmps223
    go_wp2
    all_goals go_ret
    all_goals exact ⟨ret_bool HT.out.symm, rfl⟩
/-- paths.written -/
def writtenB (l : List UInt8) : Bool := driveB l && ((l.getD 1 0).toNat : Int) == 58
set_option maxHeartbeats 800000 in
theorem writtenD_any (s : ByteArray) (w : World) :
    Calls Tryz.prog 224 #[.string s] w fun e w' => e = .returned (.bool (writtenB (tl s))) ∧ w = w' := by
  cases hd : driveB (tl s)
  · have HE := hide (show writtenB (tl s) = false by unfold writtenB; rw [hd]; rfl)
    have HD := hide hd
    clear hd
    go_enter Tryz.func224, Tryz.ntmps224
    go_wp2_with (go_at_call 223; refine (drive_any _ _).mono ?_; rintro e w' ⟨rfl, rfl⟩; rw [HD.out])
    all_goals go_ret
    all_goals exact ⟨ret_bool HE.out.symm, rfl⟩
  · have h2 := driveB_len hd
    rw [tl_length] at h2
    have hg : 1 < s.size := by omega
    have hb1 := bb s[1]
    have HE := hide (show writtenB (tl s) = ((s[1].toNat : Int) == 58) by unfold writtenB; rw [hd, tl_getD s 1 hg, Bool.true_and])
    have HD := hide hd
    clear hd h2
    go_enter Tryz.func224, Tryz.ntmps224
    go_wp2_with (go_at_call 223; refine (drive_any _ _).mono ?_; rintro e w' ⟨rfl, rfl⟩; rw [HD.out])
    all_goals go_ret
    all_goals exact ⟨ret_bool HE.out.symm, rfl⟩
/-- paths.DriveAhead -/
def driveAhead (l : List UInt8) : Bool := driveB (bcut (slB true) l).1
set_option maxHeartbeats 800000 in
theorem driveAhead_any (s : ByteArray) (w : World) (hs : s.size ≤ maxLen) :
    Calls Tryz.prog 187 #[.string s] w fun e w' => e = .returned (.bool (driveAhead (tl s))) ∧ Nx w w' := by
  go_enter Tryz.func187, Tryz.ntmps187
  go_wp2_with fail
  refine (cutSlash_any _ _ _ hs).mono ?_
  rintro e w1 ⟨⟨a, b, rfl, ha, hb⟩, hn1⟩
  have HA := hide (show driveAhead (tl s) = driveB (tl a) by unfold driveAhead; rw [ha])
  clear ha hb
  go_wp2_with (go_at_call 223; refine (drive_any _ _).mono ?_; rintro e w' ⟨rfl, rfl⟩)
  go_ret
  exact ⟨ret_bool HA.out.symm, hn1⟩

/-- paths.dotSize -/
def dotSize (l : List UInt8) : Nat :=
  if ((l.getD 0 0).toNat : Int) = 46 then 1
  else if 3 ≤ l.length ∧ ((l.getD 0 0).toNat : Int) = 37 ∧ ((l.getD 1 0).toNat : Int) = 50 ∧ (((l.getD 2 0).toNat : Int) = 101 ∨ ((l.getD 2 0).toNat : Int) = 69) then 3 else 0
theorem dotSize_eq (l : List UInt8) : dotSize l = if ((l.getD 0 0).toNat : Int) = 46 then 1
  else if 3 ≤ l.length ∧ ((l.getD 0 0).toNat : Int) = 37 ∧ ((l.getD 1 0).toNat : Int) = 50 ∧ (((l.getD 2 0).toNat : Int) = 101 ∨ ((l.getD 2 0).toNat : Int) = 69) then 3 else 0 := rfl
theorem dotSize_le (l : List UInt8) : dotSize l ≤ l.length := by
  unfold dotSize
  split
  · rename_i h
    cases l with
    | nil => simp at h
    | cons => simp
  · split
    · omega
    · omega
set_option maxHeartbeats 2000000 in
theorem dotSize_any (s : ByteArray) (w : World) (hs : s.size ≤ maxLen) :
    Calls Tryz.prog 249 #[.string s] w fun e w' => e = .returned (.int .i64 (dotSize (tl s) : Nat)) ∧ w = w' := by
  unfold maxLen at hs
  by_cases h0 : s.size = 0
  · have HE := hide (show dotSize (tl s) = 0 by rw [tl_empty h0]; rfl)
    have h0' := str_empty h0
    have h3 : s.size < 3 := by omega
    clear h0
    go_enter Tryz.func249, Tryz.ntmps249
    go_wp2
    go_ret
    exact ⟨ret_int (by rw [HE.out]; rfl), rfl⟩
  have h0' := str_nonempty h0
  have hb0 := bb s[0]
  have HD := hide (dotSize_eq (tl s))
  rw [tl_length, tl_getD s 0 (by omega)] at HD
  cases h46 : ((s[0].toNat : Int) == 46)
  · have HD2 := hide (HD.out.trans (if_neg (by simpa using h46)))
    clear HD
    by_cases h3 : 3 ≤ s.size
    · rw [tl_getD s 1 (by omega), tl_getD s 2 (by omega)] at HD2
      have hb1 := bb s[1]
      have hb2 := bb s[2]
      by_cases hy : (s[0].toNat : Int) = 37 ∧ (s[1].toNat : Int) = 50 ∧ ((s[2].toNat : Int) = 101 ∨ (s[2].toNat : Int) = 69)
      · have HE := hide (HD2.out.trans (if_pos ⟨h3, hy⟩))
        clear HD2
        obtain ⟨y0, y1, y2⟩ := hy
        have z0 : ((s[0].toNat : Int) == 37) = true := by simpa using y0
        have z1 : ((s[1].toNat : Int) == 50) = true := by simpa using y1
        cases z2 : ((s[2].toNat : Int) == 101)
        · have z3 : ((s[2].toNat : Int) == 69) = true := by
            rcases y2 with h | h
            · rw [h] at z2; cases z2
            · simpa using h
          clear y0 y1 y2
          go_enter Tryz.func249, Tryz.ntmps249
          go_wp2
          go_ret
          exact ⟨ret_int (by rw [HE.out]; rfl), rfl⟩
        · clear y0 y1 y2
          go_enter Tryz.func249, Tryz.ntmps249
          go_wp2
          go_ret
          exact ⟨ret_int (by rw [HE.out]; rfl), rfl⟩
      · have HE := hide (HD2.out.trans (if_neg (fun h => hy h.2)))
        clear HD2
        cases z0 : ((s[0].toNat : Int) == 37)
        · clear hy
          go_enter Tryz.func249, Tryz.ntmps249
          go_wp2
          go_ret
          exact ⟨ret_int (by rw [HE.out]; rfl), rfl⟩
        · cases z1 : ((s[1].toNat : Int) == 50)
          · clear hy
            go_enter Tryz.func249, Tryz.ntmps249
            go_wp2
            go_ret
            exact ⟨ret_int (by rw [HE.out]; rfl), rfl⟩
          · have z2 : ((s[2].toNat : Int) == 101) = false := by
              cases h : ((s[2].toNat : Int) == 101)
              · rfl
              · exact absurd ⟨by simpa using z0, by simpa using z1, Or.inl (by simpa using h)⟩ hy
            have z3 : ((s[2].toNat : Int) == 69) = false := by
              cases h : ((s[2].toNat : Int) == 69)
              · rfl
              · exact absurd ⟨by simpa using z0, by simpa using z1, Or.inr (by simpa using h)⟩ hy
            clear hy
            go_enter Tryz.func249, Tryz.ntmps249
            go_wp2
            go_ret
            exact ⟨ret_int (by rw [HE.out]; rfl), rfl⟩
    · have HE := hide (HD2.out.trans (if_neg (fun h => h3 h.1)))
      clear HD2
      have h3' : s.size < 3 := by omega
      go_enter Tryz.func249, Tryz.ntmps249
      go_wp2
      go_ret
      exact ⟨ret_int (by rw [HE.out]; rfl), rfl⟩
  · have HE := hide (HD.out.trans (if_pos (by simpa using h46)))
    clear HD
    go_enter Tryz.func249, Tryz.ntmps249
    go_wp2
    go_ret
    exact ⟨ret_int (by rw [HE.out]; rfl), rfl⟩

/-- paths.countDots -/
def cdGo : Nat → Nat → List UInt8 → Nat
  | 0, _, _ => 0
  | m + 1, n, l => if l = [] then n else if dotSize l = 0 then 0 else cdGo m (n + 1) (l.drop (dotSize l))
def countDots (l : List UInt8) : Nat := cdGo 3 0 l
theorem cdGo_le (m : Nat) : ∀ n l, m + n = 3 → cdGo m n l ≤ 2 := by
  induction m with
  | zero => intro n l h; simp [cdGo]
  | succ m ih =>
    intro n l h
    rw [cdGo]
    split
    · omega
    · split
      · omega
      · exact ih _ _ (by omega)
set_option maxHeartbeats 2000000 in
theorem countDots_any (s : ByteArray) (w : World) (hs : s.size ≤ 1000000) :
    Calls Tryz.prog 237 #[.string s] w fun e w' => e = .returned (.int .i64 (countDots (tl s) : Nat)) ∧ w = w' := by
  go_enter Tryz.func237, Tryz.ntmps237
  go_wp2
  go_loop [3, 4] (fun r i => ∃ (m n : Nat) (q : ByteArray), m + n = 3 ∧ r = .string q ∧ i = .int .i64 n ∧ q.size ≤ s.size ∧ countDots (tl s) = cdGo m n (tl q)) (fun _ i => 3 - (intOf i).toNat)
  case atStart => exact ⟨3, 0, s, rfl, rfl, rfl, Nat.le_refl _, rfl⟩
  case round =>
    obtain ⟨m, n, q, hmn, rfl, rfl, hq, hE⟩ := hrel
    cases m with
    | zero =>
      have : n = 3 := by omega
      subst this
      have HE := hide hE
      clear hE hmn
      go_wp2
      go_ret
      exact ⟨ret_int (by rw [HE.out]; rfl), rfl⟩
    | succ m =>
      rw [cdGo] at hE
      have hn3 : n < 3 := by omega
      by_cases h0 : q.size = 0
      · have HE := hide (hE.trans (if_pos (tl_empty h0)))
        have h0' := str_empty h0
        clear hE h0
        have HM := hide hmn
        clear hmn
        go_wp2
        go_ret
        exact ⟨ret_int (by rw [HE.out]), rfl⟩
      · have h0' := str_nonempty h0
        have hE2 := hE.trans (if_neg (tl_ne h0))
        have hle := dotSize_le (tl q)
        rw [tl_length] at hle
        have HM := hide hmn
        clear hE hmn
        generalize hd : dotSize (tl q) = d at *
        have HD := hide hd
        clear hd
        by_cases hd0 : d = 0
        · have HE := hide (hE2.trans (if_pos hd0))
          subst hd0
          clear hE2
          go_wp2_with (go_at_call 249; refine (dotSize_any _ _ (small_len (by omega))).mono ?_; rintro e w' ⟨rfl, rfl⟩; rw [HD.out])
          go_ret
          exact ⟨ret_int (by rw [HE.out]; rfl), rfl⟩
        · have HE := hide (hE2.trans (if_neg hd0))
          have hd1 : ((d : Int) == 0) = false := by simp; omega
          clear hE2
          go_wp2_with (go_at_call 249; refine (dotSize_any _ _ (small_len (by omega))).mono ?_; rintro e w' ⟨rfl, rfl⟩; rw [HD.out])
          go_round
          case rel => exact ⟨m, n + 1, _, by have := HM.out; omega, rfl, by go_num, by rw [size_from]; omega, by rw [HE.out, tl_from]⟩
          case measure => simp [intOf]; omega
end Go.Proofs.YtchkhibgbnhjpaaGreatDoor
