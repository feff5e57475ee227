import Derived.Test.YtglpmmemjhjblaaGreatDoorProg3
namespace Go.Proofs.YtglpmmemjhjblaaGreatDoor
open Go.RowKit

/-- schemes.OwnPort -/
def strB (l : List Nat) : List UInt8 := l.map UInt8.ofNat
def ownPort (s : List UInt8) : Int × Bool :=
  if s = [104, 116, 116, 112] ∨ s = [119, 115] then (80, true) else if s = [104, 116, 116, 112, 115] ∨ s = [119, 115, 115] then (443, true) else if s = [102, 116, 112] then (21, true) else (0, false)
theorem eqB {s : ByteArray} {l : List UInt8} (h : tl s = l) : (s.toList == l) = true := by rw [ByteArray.toList_eq]; show (tl s == l) = true; rw [h]; simp
theorem neB {s : ByteArray} {l : List UInt8} (h : ¬ tl s = l) : (s.toList == l) = false := by rw [ByteArray.toList_eq]; show (tl s == l) = false; simpa using h
set_option maxHeartbeats 400000 in
theorem ownPort_any (s : ByteArray) (w : World) :
    Calls Tryz.prog 161 #[.string s] w fun e w' => e = .returned (.tuple #[.int .i64 (ownPort (tl s)).1, .bool (ownPort (tl s)).2]) ∧ w = w' := by
  by_cases h1 : tl s = [104, 116, 116, 112]
  · have HE := hide (show ownPort (tl s) = (80, true) by unfold ownPort; rw [if_pos (Or.inl h1)])
    have h1' := eqB h1
    clear h1
    go_enter Tryz.func161, Tryz.ntmps161
    go_wp2
    go_ret2
    exact ⟨by rw [HE.out]; rfl, rfl⟩
  have h1' := neB h1
  by_cases h2 : tl s = [119, 115]
  · have HE := hide (show ownPort (tl s) = (80, true) by unfold ownPort; rw [if_pos (Or.inr h2)])
    have h2' := eqB h2
    clear h1 h2
    go_enter Tryz.func161, Tryz.ntmps161
    go_wp2
    go_ret2
    exact ⟨by rw [HE.out]; rfl, rfl⟩
  have h2' := neB h2
  by_cases h3 : tl s = [104, 116, 116, 112, 115]
  · have HE := hide (show ownPort (tl s) = (443, true) by unfold ownPort; rw [if_neg (not_or.2 ⟨h1, h2⟩), if_pos (Or.inl h3)])
    have h3' := eqB h3
    clear h1 h2 h3
    go_enter Tryz.func161, Tryz.ntmps161
    go_wp2
    go_ret2
    exact ⟨by rw [HE.out]; rfl, rfl⟩
  have h3' := neB h3
  by_cases h4 : tl s = [119, 115, 115]
  · have HE := hide (show ownPort (tl s) = (443, true) by unfold ownPort; rw [if_neg (not_or.2 ⟨h1, h2⟩), if_pos (Or.inr h4)])
    have h4' := eqB h4
    clear h1 h2 h3 h4
    go_enter Tryz.func161, Tryz.ntmps161
    go_wp2
    go_ret2
    exact ⟨by rw [HE.out]; rfl, rfl⟩
  have h4' := neB h4
  by_cases h5 : tl s = [102, 116, 112]
  · have HE := hide (show ownPort (tl s) = (21, true) by unfold ownPort; rw [if_neg (not_or.2 ⟨h1, h2⟩), if_neg (not_or.2 ⟨h3, h4⟩), if_pos h5])
    have h5' := eqB h5
    clear h1 h2 h3 h4 h5
    go_enter Tryz.func161, Tryz.ntmps161
    go_wp2
    go_ret2
    exact ⟨by rw [HE.out]; rfl, rfl⟩
  have h5' := neB h5
  have HE := hide (show ownPort (tl s) = (0, false) by unfold ownPort; rw [if_neg (not_or.2 ⟨h1, h2⟩), if_neg (not_or.2 ⟨h3, h4⟩), if_neg h5])
  clear h1 h2 h3 h4 h5
  go_enter Tryz.func161, Tryz.ntmps161
  go_wp2
  go_ret2
  exact ⟨by rw [HE.out]; rfl, rfl⟩

/-- schemes.Special -/
def isSpecial (s : List UInt8) : Bool := (ownPort s).2 || s == [102, 105, 108, 101]
theorem special_any (s : ByteArray) (w : World) :
    Calls Tryz.prog 137 #[.string s] w fun e w' => e = .returned (.bool (isSpecial (tl s))) ∧ w = w' := by
  have HE := hide (show isSpecial (tl s) = ((ownPort (tl s)).2 || s.toList == [102, 105, 108, 101]) by rw [ByteArray.toList_eq]; rfl)
  generalize hq : ownPort (tl s) = q at *
  have HQ := hide hq
  clear hq
  obtain ⟨p, ok⟩ := q
  cases ok
  · go_enter Tryz.func137, Tryz.ntmps137
    go_wp2_with (go_at_call 161; refine (ownPort_any _ _).mono ?_; rintro e w' ⟨rfl, rfl⟩; rw [HQ.out])
    all_goals go_ret
    all_goals exact ⟨ret_bool (by rw [HE.out]; simp), rfl⟩
  · go_enter Tryz.func137, Tryz.ntmps137
    go_wp2_with (go_at_call 161; refine (ownPort_any _ _).mono ?_; rintro e w' ⟨rfl, rfl⟩; rw [HQ.out])
    all_goals go_ret
    all_goals exact ⟨ret_bool (by rw [HE.out]; simp), rfl⟩

/-- percent.capital -/
def capital (n : Int) : Int := if n < 10 then 48 + n else 65 + n - 10
theorem capital_any (n : Int) (w : World) (h0 : 0 ≤ n) (h1 : n < 16) :
    Calls Tryz.prog 108 #[.int .u8 n] w fun e w' => e = .returned (.int .u8 (capital n)) ∧ w = w' := by
  by_cases h : n < 10
  · have HE := hide (show capital n = 48 + n by simp [capital, h])
    go_enter Tryz.func108, Tryz.ntmps108
    go_wp2
    go_ret
    exact ⟨ret_int HE.out.symm, rfl⟩
  · have HE := hide (show capital n = 65 + n - 10 by simp [capital, h])
    go_enter Tryz.func108, Tryz.ntmps108
    go_wp2
    go_ret
    exact ⟨ret_int HE.out.symm, rfl⟩
end Go.Proofs.YtglpmmemjhjblaaGreatDoor
