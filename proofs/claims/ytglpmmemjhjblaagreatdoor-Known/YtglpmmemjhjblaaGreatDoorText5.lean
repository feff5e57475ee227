import Derived.Test.YtglpmmemjhjblaaGreatDoorText4
namespace Go.Proofs.YtglpmmemjhjblaaGreatDoor
open Go.RowKit

theorem toB_toNat {y : Int} (h0 : 0 ≤ y) (h1 : y ≤ 255) : ((toB y).toNat : Int) = y := by
  unfold toB; rw [UInt8.toNat_ofNat_of_lt' (by show y.toNat < 256; omega)]; omega
/-- string([]byte{y}) -/
theorem conv1 (w : World) (y : Int) (h0 : 0 ≤ y) (h1 : y ≤ 255) :
    (convert 104 9 (.slice (some ⟨w.heap.size, 0, none⟩) 1 1)).run Tryz.prog (w.alloc (.cells #[.int .u8 y] 5)) = .ok (.string ⟨#[toB y]⟩) (w.alloc (.cells #[.int .u8 y] 5)) := by
  refine run_convert_bytes_back (w.alloc (.cells #[.int .u8 y] 5)) _ _ _ ⟨w.heap.size, 0, none⟩ 1 [toB y] Tryz.underlying104 Tryz.underlying5 Tryz.underlying9 fun j hj => ?_
  have hj0 : j = 0 := by simpa using hj
  subst hj0
  rw [Addr.add_lit]
  simp [toB_toNat h0 h1]
theorem tl_append (a b : ByteArray) : tl (a ++ b) = tl a ++ tl b := by unfold tl; rw [ByteArray.data_append, Array.toList_append]
theorem ret_str {a b : ByteArray} (h : a = b) : Ending.returned (.string a) = .returned (.string b) := by rw [h]

/-- urlsref.dec -/
def dec (n : Nat) : List UInt8 := if 9 < n then dec (n / 10) ++ [UInt8.ofNat (48 + n % 10)] else [UInt8.ofNat (48 + n)]
termination_by n
decreasing_by omega

theorem dec_len (n : Nat) : (dec n).length ≤ n + 1 := by
  induction n using Nat.strongRecOn with
  | ind n ih =>
    rw [dec]
    split
    · have := ih (n / 10) (by omega)
      simp only [List.length_append, List.length_cons, List.length_nil]
      omega
    · simp

set_option maxHeartbeats 400000 in
theorem dec_any (N : Nat) : ∀ (n : Int) (w : World), 0 ≤ n → n ≤ N → N ≤ 1000000000000 →
    Calls Tryz.prog 73 #[.int .i64 n] w fun e w' => ∃ r : ByteArray, e = .returned (.string r) ∧ tl r = dec n.toNat ∧ Nx w w' := by
  induction N using Nat.strongRecOn with
  | ind N ih =>
    intro n w h0 h1 hN
    by_cases h9 : 9 < n
    · have IH := hide (ih (N / 10) (by omega))
      have HE := hide (show dec n.toNat = dec (n / 10).toNat ++ [toB (48 + n % 10)] by
        rw [dec, if_pos (by omega)]
        unfold toB
        rw [show (n / 10).toNat = n.toNat / 10 by omega, show (48 + n % 10).toNat = 48 + n.toNat % 10 by omega])
      clear ih
      go_enter Tryz.func73, Tryz.ntmps73
      go_wp2_with fail
      refine (IH.out _ _ (by omega) (by omega) (by omega)).mono ?_
      rintro e w1 ⟨r, rfl, hr, hn1⟩
      have hrs : r.size ≤ 1000000000001 := by have h := congrArg List.length hr; have h2 := dec_len (n / 10).toNat; rw [tl_length] at h; omega
      have HRR := hide hr
      clear hr
      have hcv := fun wx => conv1 wx (48 + n % 10) (by omega) (by omega)
      go_wp2
      go_ret
      exact ⟨_, rfl, by rw [tl_append, HRR.out, HE.out]; rfl, hn1.alloc _⟩
    · have HE := hide (show dec n.toNat = [toB (48 + n)] by
        rw [dec, if_neg (by omega)]
        unfold toB
        rw [show (48 + n).toNat = 48 + n.toNat by omega])
      clear ih
      have hcv := fun wx => conv1 wx (48 + n) (by omega) (by omega)
      go_enter Tryz.func73, Tryz.ntmps73
      go_wp2
      go_ret
      exact ⟨_, rfl, by rw [HE.out]; rfl, Nx.rfl.alloc _⟩

/-- urlsref.decoded -/
def decoded : List UInt8 → List UInt8
  | [] => []
  | c :: r =>
    match r with
    | x :: y :: q => if c = 37 ∧ 0 ≤ digit x.toNat ∧ 0 ≤ digit y.toNat then toB (16 * digit x.toNat + digit y.toNat) :: decoded q else c :: decoded (x :: y :: q)
    | [x] => c :: decoded [x]
    | [] => [c]
termination_by l => l.length
decreasing_by all_goals simp_wf <;> omega
theorem decoded_step (c : UInt8) (r : List UInt8) (h : ∀ x y q, r = x :: y :: q → ¬ (c = 37 ∧ 0 ≤ digit x.toNat ∧ 0 ≤ digit y.toNat)) : decoded (c :: r) = c :: decoded r := by
  match r, h with
  | [], _ => simp [decoded]
  | [x], _ => simp [decoded]
  | x :: y :: q, h => rw [decoded, if_neg (h x y q rfl)]
theorem decoded_hit (x y : UInt8) (q : List UInt8) (hx : 0 ≤ digit x.toNat) (hy : 0 ≤ digit y.toNat) : decoded (37 :: x :: y :: q) = toB (16 * digit x.toNat + digit y.toNat) :: decoded q := by
  rw [decoded, if_pos ⟨rfl, hx, hy⟩]
theorem tl_empty {s : ByteArray} (h : s.size = 0) : tl s = [] := List.eq_nil_of_length_eq_zero (by rw [tl_length]; exact h)
theorem tl_ne_nil {s : ByteArray} (h : 0 < s.size) : ∃ c r, tl s = c :: r ∧ s[0] = c := by
  have := tl_drop s 0 h
  exact ⟨s[0], (tl s).drop 1, by simpa using this, rfl⟩
theorem tl_from (s : ByteArray) (k : Nat) : tl (s.extract k s.size) = (tl s).drop k := by
  rw [tl_extract, tl_take_all s s.size (Nat.le_refl _)]
theorem tl_to (s : ByteArray) (k : Nat) : tl (s.extract 0 k) = (tl s).take k := by
  rw [tl_extract, List.drop_zero]
theorem tl_take1 (s : ByteArray) (h : 0 < s.size) : (tl s).take 1 = [s[0]] := by have := tl_take_succ s 0 h; simpa using this
theorem decoded_len (l : List UInt8) : (decoded l).length ≤ l.length := by
  induction l using decoded.induct with
  | case1 => simp [decoded]
  | case2 c x y q h ih => rw [decoded, if_pos h]; simp only [List.length_cons]; omega
  | case3 c x y q h ih => rw [decoded, if_neg h]; simp only [List.length_cons] at *; omega
  | case4 c x ih => rw [decoded]; simp only [List.length_cons] at *; omega
  | case5 c => simp [decoded]

set_option maxRecDepth 100000 in
set_option maxHeartbeats 800000 in
theorem decoded_any (N : Nat) : ∀ (s : ByteArray) (w : World), s.size ≤ N → N ≤ 1000000 →
    Calls Tryz.prog 159 #[.string s] w fun e w' => ∃ r : ByteArray, e = .returned (.string r) ∧ tl r = decoded (tl s) ∧ Nx w w' := by
  induction N with
  | zero =>
    intro s w hs _
    have hs0 : s.size = 0 := by omega
    have HE := hide (show decoded (tl s) = [] by rw [tl_empty hs0]; simp [decoded])
    go_enter Tryz.func159, Tryz.ntmps159
    go_wp2
    go_ret
    exact ⟨_, rfl, by rw [HE.out]; rfl, Nx.rfl⟩
  | succ N ih =>
    intro s w hs hN
    by_cases h0 : s.size = 0
    · have HE := hide (show decoded (tl s) = [] by rw [tl_empty h0]; simp [decoded])
      clear ih
      go_enter Tryz.func159, Tryz.ntmps159
      go_wp2
      go_ret
      exact ⟨_, rfl, by rw [HE.out]; rfl, Nx.rfl⟩
    have IH := hide ih
    clear ih
    have hpos : 0 < s.size := by omega
    have hl0 := tl_drop s 0 hpos
    simp only [List.drop_zero, Nat.zero_add] at hl0
    by_cases hit : ∃ h3 : 2 < s.size, s[0] = 37 ∧ (0 : Int) ≤ digit (s[1].toNat : Int) ∧ (0 : Int) ≤ digit (s[2].toNat : Int)
    · obtain ⟨h3, hp, hd1, hd2⟩ := hit
      have hp' : ((s[0].toNat : Int) == 37) = true := by rw [hp]; rfl
      obtain ⟨hr1, hr1'⟩ := dg_rng s[1].toNat
      obtain ⟨hr2, hr2'⟩ := dg_rng s[2].toNat
      have HE := hide (show decoded (tl s) = toB ((16 : Int) * digit (s[1].toNat : Int) + digit (s[2].toNat : Int)) :: decoded ((tl s).drop 3) by
        rw [hl0, tl_drop s 1 (by omega), tl_drop s 2 (by omega), hp, decoded_hit _ _ _ hd1 hd2]; rfl)
      have hb1 := bb s[1]
      have hb2 := bb s[2]
      clear hp hl0
      have hcv := fun wx => conv1 wx ((16 : Int) * digit (s[1].toNat : Int) + digit (s[2].toNat : Int)) (by omega) (by omega)
      go_enter Tryz.func159, Tryz.ntmps159
      go_wp2_with (first | (go_at_call 184; refine (digit_any _ _).mono ?_; rintro e w' ⟨rfl, rfl⟩))
      refine (IH.out _ _ (by simp; omega) (by omega)).mono ?_
      rintro e w1 ⟨r, rfl, hr, hn1⟩
      have hrs : r.size ≤ 1000000 := by have h := congrArg List.length hr; rw [tl_length] at h; have h2 := decoded_len (tl (s.extract 3 s.size)); rw [tl_length] at h2; simp at h2; omega
      have HRR := hide hr
      clear hr
      go_wp2
      go_ret
      exact ⟨_, rfl, by rw [tl_append, HRR.out, HE.out, tl_from]; rfl, hn1.alloc _⟩
    have HE := hide (show decoded (tl s) = s[0] :: decoded ((tl s).drop 1) by
      rw [hl0]
      refine decoded_step _ _ fun x y q e hc => hit ?_
      have hl := congrArg List.length e
      simp only [List.length_drop, tl_length, List.length_cons] at hl
      have h3 : 2 < s.size := by omega
      rw [tl_drop s 1 (by omega), tl_drop s 2 (by omega)] at e
      simp only [List.cons.injEq] at e
      exact ⟨h3, hc.1, by rw [e.1]; exact hc.2.1, by rw [e.2.1]; exact hc.2.2⟩)
    clear hl0
    by_cases h3 : 2 < s.size
    · have hb1 := bb s[1]
      have hb2 := bb s[2]
      have hr1 := dg_rng s[1].toNat
      have hr2 := dg_rng s[2].toNat
      by_cases hp : s[0] = 37
      · have hp' : ((s[0].toNat : Int) == 37) = true := by rw [hp]; rfl
        have hno : ¬ ((0 : Int) ≤ digit (s[1].toNat : Int) ∧ (0 : Int) ≤ digit (s[2].toNat : Int)) := fun h => hit ⟨h3, hp, h⟩
        clear hp hit
        by_cases hd1 : (0 : Int) ≤ digit (s[1].toNat : Int)
        · have hd2 : ¬ (0 : Int) ≤ digit (s[2].toNat : Int) := fun h => hno ⟨hd1, h⟩
          clear hno
          go_enter Tryz.func159, Tryz.ntmps159
          go_wp2_with (first | (go_at_call 184; refine (digit_any _ _).mono ?_; rintro e w' ⟨rfl, rfl⟩))
          refine (IH.out _ _ (by simp; omega) (by omega)).mono ?_
          rintro e w1 ⟨r, rfl, hr, hn1⟩
          have hrs : r.size ≤ 1000000 := by have h := congrArg List.length hr; rw [tl_length] at h; have h2 := decoded_len (tl (s.extract 1 s.size)); rw [tl_length] at h2; simp at h2; omega
          have HRR := hide hr
          clear hr
          go_wp2
          go_ret
          exact ⟨_, rfl, by rw [tl_append, HRR.out, HE.out, tl_from, tl_to, tl_take1 s hpos]; rfl, hn1⟩
        · clear hno
          go_enter Tryz.func159, Tryz.ntmps159
          go_wp2_with (first | (go_at_call 184; refine (digit_any _ _).mono ?_; rintro e w' ⟨rfl, rfl⟩))
          refine (IH.out _ _ (by simp; omega) (by omega)).mono ?_
          rintro e w1 ⟨r, rfl, hr, hn1⟩
          have hrs : r.size ≤ 1000000 := by have h := congrArg List.length hr; rw [tl_length] at h; have h2 := decoded_len (tl (s.extract 1 s.size)); rw [tl_length] at h2; simp at h2; omega
          have HRR := hide hr
          clear hr
          go_wp2
          go_ret
          exact ⟨_, rfl, by rw [tl_append, HRR.out, HE.out, tl_from, tl_to, tl_take1 s hpos]; rfl, hn1⟩
      · have hp' : ((s[0].toNat : Int) == 37) = false := by
          simp only [beq_eq_false_iff_ne, ne_eq]
          intro h
          exact hp (UInt8.toNat_inj.1 (by show s[0].toNat = 37; omega))
        clear hp hit
        go_enter Tryz.func159, Tryz.ntmps159
        go_wp2_with (first | (go_at_call 184; refine (digit_any _ _).mono ?_; rintro e w' ⟨rfl, rfl⟩))
        refine (IH.out _ _ (by simp; omega) (by omega)).mono ?_
        rintro e w1 ⟨r, rfl, hr, hn1⟩
        have hrs : r.size ≤ 1000000 := by have h := congrArg List.length hr; rw [tl_length] at h; have h2 := decoded_len (tl (s.extract 1 s.size)); rw [tl_length] at h2; simp at h2; omega
        have HRR := hide hr
        clear hr
        go_wp2
        go_ret
        exact ⟨_, rfl, by rw [tl_append, HRR.out, HE.out, tl_from, tl_to, tl_take1 s hpos]; rfl, hn1⟩
    · clear hit
      go_enter Tryz.func159, Tryz.ntmps159
      go_wp2_with (first | (go_at_call 184; refine (digit_any _ _).mono ?_; rintro e w' ⟨rfl, rfl⟩))
      refine (IH.out _ _ (by simp; omega) (by omega)).mono ?_
      rintro e w1 ⟨r, rfl, hr, hn1⟩
      have hrs : r.size ≤ 1000000 := by have h := congrArg List.length hr; rw [tl_length] at h; have h2 := decoded_len (tl (s.extract 1 s.size)); rw [tl_length] at h2; simp at h2; omega
      have HRR := hide hr
      clear hr
      go_wp2
      go_ret
      exact ⟨_, rfl, by rw [tl_append, HRR.out, HE.out, tl_from, tl_to, tl_take1 s hpos]; rfl, hn1⟩
end Go.Proofs.YtglpmmemjhjblaaGreatDoor
