import Derived.Test.YtglpmmemjhjblaaGreatDoorText5
namespace Go.Proofs.YtglpmmemjhjblaaGreatDoor
open Go.RowKit

theorem tl_nil : tl ⟨#[]⟩ = [] := rfl

/- ascii.Contains -/
set_option maxHeartbeats 400000 in
theorem contains_any (s : ByteArray) (n : Int) (w : World) (hs : s.size ≤ maxLen) :
    Calls Tryz.prog 107 #[.string s, .int .u8 n] w fun e w' => e = .returned (.bool (among n (tl s))) ∧ w = w' := by
  unfold maxLen at hs
  go_enter Tryz.func107, Tryz.ntmps107
  go_wp2
  go_loop [5] (fun i => ∃ k : Nat, k ≤ s.size ∧ i = .int .i64 k ∧ among n ((tl s).take k) = false) (fun i => s.size - (intOf i).toNat)
  case atStart => exact ⟨0, Nat.zero_le _, rfl, rfl⟩
  case round =>
    obtain ⟨k, hk, rfl, ha⟩ := hrel
    have HA := hide ha
    clear ha
    by_cases hlt : k < s.size
    · have hb := bb s[k]
      go_wp2
      · go_ret
        exact ⟨ret_bool (among_hit n s k hlt (by assumption)).symm, rfl⟩
      · go_round
        case rel => exact ⟨k + 1, by omega, by go_num, by rw [tl_take_succ s k hlt, among_snoc, HA.out]; assumption⟩
        case measure => simp [intOf]; omega
    · go_wp2
      go_ret
      exact ⟨ret_bool (by rw [← HA.out, tl_take_all _ _ (by omega)]), rfl⟩

/-- A cut of bytes at the first that a test says yes to. -/
def bcut (p : UInt8 → Bool) : List UInt8 → List UInt8 × List UInt8 × Bool
  | [] => ([], [], false)
  | c :: r => if p c then ([], r, true) else (c :: (bcut p r).1, (bcut p r).2)
def BCutTo (p : UInt8 → Bool) (l : List UInt8) (k : Nat) : Prop := bcut p l = (l.take k ++ (bcut p (l.drop k)).1, (bcut p (l.drop k)).2)
theorem bcutTo_zero (p : UInt8 → Bool) (l : List UInt8) : BCutTo p l 0 := by simp [BCutTo]
theorem bcutTo_step {p : UInt8 → Bool} {s : ByteArray} {k : Nat} (hk : k < s.size) (h : BCutTo p (tl s) k) (ha : p s[k] = false) : BCutTo p (tl s) (k + 1) := by
  unfold BCutTo at *
  rw [h, tl_drop s k hk, tl_take_succ s k hk, List.append_assoc]
  simp only [bcut, ha, Bool.false_eq_true, if_false, List.cons_append, List.nil_append]
theorem bcutTo_hit {p : UInt8 → Bool} {s : ByteArray} {k : Nat} (hk : k < s.size) (h : BCutTo p (tl s) k) (ha : p s[k] = true) : bcut p (tl s) = ((tl s).take k, (tl s).drop (k + 1), true) := by
  unfold BCutTo at h
  rw [h, tl_drop s k hk]
  simp [bcut, ha]
theorem bcutTo_end {p : UInt8 → Bool} {s : ByteArray} {k : Nat} (hk : s.size ≤ k) (h : BCutTo p (tl s) k) : bcut p (tl s) = (tl s, [], false) := by
  unfold BCutTo at h
  rw [h, tl_drop_all s k hk, tl_take_all s k hk]
  simp [bcut]
/-- What a cut answers. -/
def CutIs (q : List UInt8 × List UInt8 × Bool) (e : Ending) : Prop := ∃ a b : ByteArray, e = .returned (.tuple #[.string a, .string b, .bool q.2.2]) ∧ tl a = q.1 ∧ tl b = q.2.1

def isB (n : Int) (b : UInt8) : Bool := (b.toNat : Int) == n
/- ascii.Cut -/
set_option maxHeartbeats 400000 in
theorem acut_any (s : ByteArray) (n : Int) (w : World) (hs : s.size ≤ maxLen) :
    Calls Tryz.prog 78 #[.string s, .int .u8 n] w fun e w' => CutIs (bcut (isB n) (tl s)) e ∧ Nx w w' := by
  unfold maxLen at hs
  go_enter Tryz.func78, Tryz.ntmps78
  go_wp2
  go_loop [7] (fun i => ∃ k : Nat, k ≤ s.size ∧ i = .int .i64 k ∧ BCutTo (isB n) (tl s) k) (fun i => s.size - (intOf i).toNat)
  case atStart => exact ⟨0, Nat.zero_le _, rfl, bcutTo_zero _ _⟩
  case round =>
    obtain ⟨k, hk, rfl, ha⟩ := hrel
    have HA := hide ha
    clear ha
    by_cases hlt : k < s.size
    · have hb := bb s[k]
      go_wp2
      · have HR := hide (bcutTo_hit hlt HA.out (by assumption))
        go_region
        all_goals go_wp2
        all_goals go_ret3
        all_goals exact ⟨⟨_, _, by rw [HR.out]; rfl, by rw [HR.out, tl_to], by rw [HR.out, tl_from]⟩, Nx.rfl.drew⟩
      · go_round
        case rel => exact ⟨k + 1, by omega, by go_num, bcutTo_step hlt HA.out (by assumption)⟩
        case measure => simp [intOf]; omega
    · have HR := hide (bcutTo_end (Nat.le_of_not_lt hlt) HA.out)
      go_wp2
      go_ret3
      exact ⟨⟨_, _, by rw [HR.out]; rfl, by rw [HR.out], by rw [HR.out]; rfl⟩, Nx.rfl⟩
/-- The last cut. -/
def bcutLast (n : Int) (l : List UInt8) : List UInt8 × List UInt8 × Bool :=
  match l with
  | [] => ([], [], false)
  | c :: r => if (bcutLast n r).2.2 then (c :: (bcutLast n r).1, (bcutLast n r).2) else if isB n c then ([], r, true) else ([], c :: r, false)
theorem bcutLast_none (n : Int) (l : List UInt8) (h : among n l = false) : bcutLast n l = ([], l, false) := by
  induction l with
  | nil => rfl
  | cons c r ih =>
    simp only [among, List.any_cons, Bool.or_eq_false_iff] at h
    rw [bcutLast, ih (by simpa [among] using h.2)]
    simp [isB, h.1]
theorem bcutLast_hit (n : Int) (a r : List UInt8) (c : UInt8) (hc : isB n c = true) (h : among n r = false) : bcutLast n (a ++ c :: r) = (a, r, true) := by
  induction a with
  | nil => rw [List.nil_append, bcutLast, bcutLast_none n r h]; simp [hc]
  | cons x a ih => rw [List.cons_append, bcutLast, ih]; simp
theorem drop_cons_among (s : ByteArray) (n : Int) (k : Nat) (h : k < s.size) : among n ((tl s).drop k) = (((s[k].toNat : Int) == n) || among n ((tl s).drop (k + 1))) := by
  rw [tl_drop s k h]; simp [among]
set_option maxHeartbeats 400000 in
theorem acutLast_any (s : ByteArray) (n : Int) (w : World) (hs : s.size ≤ maxLen) :
    Calls Tryz.prog 169 #[.string s, .int .u8 n] w fun e w' => CutIs (bcutLast n (tl s)) e ∧ Nx w w' := by
  unfold maxLen at hs
  go_enter Tryz.func169, Tryz.ntmps169
  go_wp2
  go_loop [7] (fun i => ∃ k : Nat, k ≤ s.size ∧ i = .int .i64 ((k : Int) - 1) ∧ among n ((tl s).drop k) = false) (fun i => (intOf i + 1).toNat)
  case atStart => exact ⟨s.size, Nat.le_refl _, by go_num, by rw [tl_drop_all s _ (Nat.le_refl _)]; rfl⟩
  case round =>
    obtain ⟨k, hk, rfl, ha⟩ := hrel
    have HA := hide ha
    clear ha
    cases k with
    | zero =>
      have HR := hide (bcutLast_none n (tl s) HA.out)
      go_wp2
      go_ret3
      exact ⟨⟨_, _, by rw [HR.out]; rfl, by rw [HR.out]; rfl, by rw [HR.out]⟩, Nx.rfl⟩
    | succ k =>
      have hlt : k < s.size := by omega
      have hb := bb s[k]
      have ek : ((k + 1 : Nat) : Int) - 1 = (k : Int) := by omega
      rw [ek]
      clear ek
      by_cases hc : ((s[k].toNat : Int) == n) = true
      · have HR := hide (show bcutLast n (tl s) = ((tl s).take k, (tl s).drop (k + 1), true) by
          conv => lhs; rw [← List.take_append_drop k (tl s), tl_drop s k hlt]
          exact bcutLast_hit n _ _ _ hc HA.out)
        go_wp2
        go_region
        all_goals go_wp2
        all_goals go_ret3
        all_goals exact ⟨⟨_, _, by rw [HR.out]; rfl, by rw [HR.out, tl_to], by rw [HR.out, tl_from]⟩, Nx.rfl.drew⟩
      · simp only [Bool.not_eq_true] at hc
        have HD := hide (drop_cons_among s n k hlt)
        go_wp2
        go_round
        case rel => exact ⟨k, by omega, by go_num, by rw [HD.out, hc, Bool.false_or]; exact HA.out⟩
        case measure => simp [intOf]

/-- ascii.Letter -/
theorem letter_any (n : Int) (w : World) :
    Calls Tryz.prog 160 #[.int .u8 n] w fun e w' => e = .returned (.bool (alpha n)) ∧ w = w' := by
  go_enter Tryz.func160, Tryz.ntmps160
  go_wp2
  all_goals go_ret
  all_goals exact ⟨ret_bool (by rw [Bool.eq_iff_iff]; simp [alpha]; omega), rfl⟩
/-- schemes.Slash -/
def slashB (special : Bool) (n : Int) : Bool := n == 47 || (special && n == 92)
theorem slash_any (n : Int) (sp : Bool) (w : World) :
    Calls Tryz.prog 165 #[.int .u8 n, .bool sp] w fun e w' => e = .returned (.bool (slashB sp n)) ∧ w = w' := by
  by_cases h : n = 47
  · subst h
    go_enter Tryz.func165, Tryz.ntmps165
    go_wp2
    all_goals go_ret
    all_goals exact ⟨ret_bool (by simp [slashB]), rfl⟩
  · have h' : (n == 47) = false := by simp [h]
    have HE := hide (show slashB sp n = (sp && n == 92) by simp [slashB, h])
    clear h
    cases sp
    · go_enter Tryz.func165, Tryz.ntmps165
      go_wp2
      all_goals go_ret
      all_goals exact ⟨ret_bool (by rw [HE.out]; rfl), rfl⟩
    · go_enter Tryz.func165, Tryz.ntmps165
      go_wp2
      all_goals go_ret
      all_goals exact ⟨ret_bool (by rw [HE.out]; rfl), rfl⟩
def slB (sp : Bool) (b : UInt8) : Bool := slashB sp (b.toNat : Int)
set_option maxHeartbeats 400000 in
theorem cutSlash_any (s : ByteArray) (sp : Bool) (w : World) (hs : s.size ≤ maxLen) :
    Calls Tryz.prog 168 #[.string s, .bool sp] w fun e w' => CutIs (bcut (slB sp) (tl s)) e ∧ Nx w w' := by
  unfold maxLen at hs
  go_enter Tryz.func168, Tryz.ntmps168
  go_wp2
  go_loop [7] (fun i => ∃ k : Nat, k ≤ s.size ∧ i = .int .i64 k ∧ BCutTo (slB sp) (tl s) k) (fun i => s.size - (intOf i).toNat)
  case atStart => exact ⟨0, Nat.zero_le _, rfl, bcutTo_zero _ _⟩
  case round =>
    obtain ⟨k, hk, rfl, ha⟩ := hrel
    have HA := hide ha
    clear ha
    by_cases hlt : k < s.size
    · have hb := bb s[k]
      go_wp2_with (go_at_call 165; refine (slash_any _ _ _).mono ?_; rintro e w' ⟨rfl, rfl⟩)
      · have HR := hide (bcutTo_hit hlt HA.out (by assumption))
        go_region
        all_goals go_wp2
        all_goals go_ret3
        all_goals exact ⟨⟨_, _, by rw [HR.out]; rfl, by rw [HR.out, tl_to], by rw [HR.out, tl_from]⟩, Nx.rfl.drew⟩
      · go_round
        case rel => exact ⟨k + 1, by omega, by go_num, bcutTo_step hlt HA.out (by assumption)⟩
        case measure => simp [intOf]; omega
    · have HR := hide (bcutTo_end (Nat.le_of_not_lt hlt) HA.out)
      go_wp2
      go_ret3
      exact ⟨⟨_, _, by rw [HR.out]; rfl, by rw [HR.out], by rw [HR.out]; rfl⟩, Nx.rfl⟩
/-- schemes.CountSlashes -/
def countSl (sp : Bool) : List UInt8 → Nat
  | [] => 0
  | c :: r => if slB sp c then countSl sp r + 1 else 0
theorem countSl_le (sp : Bool) (l : List UInt8) : countSl sp l ≤ l.length := by
  induction l with
  | nil => simp [countSl]
  | cons c r ih => rw [countSl]; split <;> simp; omega
set_option maxHeartbeats 400000 in
theorem countSlashes_any (s : ByteArray) (sp : Bool) (w : World) (hs : s.size ≤ maxLen) :
    Calls Tryz.prog 140 #[.string s, .bool sp] w fun e w' => e = .returned (.int .i64 (countSl sp (tl s))) ∧ w = w' := by
  unfold maxLen at hs
  go_enter Tryz.func140, Tryz.ntmps140
  go_wp2
  go_loop [5] (fun i => ∃ k : Nat, k ≤ s.size ∧ i = .int .i64 k ∧ countSl sp (tl s) = k + countSl sp ((tl s).drop k)) (fun i => s.size - (intOf i).toNat)
  case atStart => exact ⟨0, Nat.zero_le _, rfl, by simp⟩
  case round =>
    obtain ⟨k, hk, rfl, ha⟩ := hrel
    have HA := hide ha
    clear ha
    by_cases hlt : k < s.size
    · have hb := bb s[k]
      cases hsl : slashB sp (s[k].toNat : Int)
      · have HR := hide (show countSl sp (tl s) = k by rw [HA.out, tl_drop s k hlt, countSl, if_neg (by simp [slB, hsl])]; rfl)
        go_wp2_with (go_at_call 165; refine (slash_any _ _ _).mono ?_; rintro e w' ⟨rfl, rfl⟩)
        go_ret
        exact ⟨ret_int (by rw [HR.out]), rfl⟩
      · have HR := hide (show countSl sp (tl s) = (k + 1) + countSl sp ((tl s).drop (k + 1)) by rw [HA.out, tl_drop s k hlt, countSl, if_pos (by simp [slB, hsl])]; omega)
        go_wp2_with (go_at_call 165; refine (slash_any _ _ _).mono ?_; rintro e w' ⟨rfl, rfl⟩)
        go_round
        case rel => exact ⟨k + 1, by omega, by go_num, HR.out⟩
        case measure => simp [intOf]; omega
    · have HR := hide (show countSl sp (tl s) = k by rw [HA.out, tl_drop_all s k (by omega)]; rfl)
      go_wp2
      go_ret
      exact ⟨ret_int (by rw [HR.out]), rfl⟩
end Go.Proofs.YtglpmmemjhjblaaGreatDoor
