import Derived.Test.YtchkhibgbnhjpaaGreatDoorSndA
import Derived.Test.YtchkhibgbnhjpaaGreatDoorSnd6
namespace Go.Proofs.YtchkhibgbnhjpaaGreatDoor
open Go.RowKit

theorem tl_at (s : ByteArray) (k : Nat) (h : k < s.size) : (tl s)[k]? = some s[k] := by
  have := tl_getD s k h
  rw [List.getD_eq_getElem?_getD] at this
  have hk : k < (tl s).length := by rw [tl_length]; exact h
  rw [List.getElem?_eq_getElem hk] at this ⊢
  simpa using this
theorem tl_mem (s : ByteArray) (k : Nat) (h : k < s.size) : s[k] ∈ tl s := List.mem_of_getElem? (tl_at s k h)
theorem vD_dig {d : Nat} (h : d ≤ 9) : ((decC d).toNat : Int) = 48 + d := by
  unfold decC; rw [UInt8.toNat_ofNat', Nat.mod_eq_of_lt (by omega)]; omega
/-- What is written of a number is that number, and what is written ahead of its end is no greater. -/
theorem decD_val {n : Nat} (h : n ≤ 65535) : vD (decD n) = n := by
  have c : ∀ d, d ≤ 9 → ((decC d).toNat : Int) = 48 + d := fun d hd => vD_dig hd
  unfold decD
  (repeat' split) <;> simp only [vD, List.foldl] <;> (repeat rw [c _ (by omega)]) <;> omega
theorem decD_pre {n : Nat} (h : n ≤ 65535) (k : Nat) : 0 ≤ vD ((decD n).take k) ∧ vD ((decD n).take k) ≤ 65535 := by
  have c : ∀ d, d ≤ 9 → ((decC d).toNat : Int) = 48 + d := fun d hd => vD_dig hd
  have t0 : ∀ l : List UInt8, l.take 0 = [] := fun l => rfl
  have z : vD [] = 0 := rfl
  unfold decD
  (repeat' split)
  · rcases k with _ | k
    · rw [t0, z]; omega
    · simp only [List.take_succ_cons, List.take_nil, vD, List.foldl]; rw [c _ (by omega)]; omega
  · rcases k with _ | _ | k
    · rw [t0, z]; omega
    · simp only [List.take_succ_cons, List.take_zero, vD, List.foldl]; rw [c _ (by omega)]; omega
    · simp only [List.take_succ_cons, List.take_nil, vD, List.foldl]; rw [c _ (by omega), c _ (by omega)]; omega
  · rcases k with _ | _ | _ | k
    · rw [t0, z]; omega
    · simp only [List.take_succ_cons, List.take_zero, vD, List.foldl]; rw [c _ (by omega)]; omega
    · simp only [List.take_succ_cons, List.take_zero, vD, List.foldl]; rw [c _ (by omega), c _ (by omega)]; omega
    · simp only [List.take_succ_cons, List.take_nil, vD, List.foldl]; rw [c _ (by omega), c _ (by omega), c _ (by omega)]; omega
  · rcases k with _ | _ | _ | _ | k
    · rw [t0, z]; omega
    · simp only [List.take_succ_cons, List.take_zero, vD, List.foldl]; rw [c _ (by omega)]; omega
    · simp only [List.take_succ_cons, List.take_zero, vD, List.foldl]; rw [c _ (by omega), c _ (by omega)]; omega
    · simp only [List.take_succ_cons, List.take_zero, vD, List.foldl]; rw [c _ (by omega), c _ (by omega), c _ (by omega)]; omega
    · simp only [List.take_succ_cons, List.take_nil, vD, List.foldl]; rw [c _ (by omega), c _ (by omega), c _ (by omega), c _ (by omega)]; omega
  · rcases k with _ | _ | _ | _ | _ | k
    · rw [t0, z]; omega
    · simp only [List.take_succ_cons, List.take_zero, vD, List.foldl]; rw [c _ (by omega)]; omega
    · simp only [List.take_succ_cons, List.take_zero, vD, List.foldl]; rw [c _ (by omega), c _ (by omega)]; omega
    · simp only [List.take_succ_cons, List.take_zero, vD, List.foldl]; rw [c _ (by omega), c _ (by omega), c _ (by omega)]; omega
    · simp only [List.take_succ_cons, List.take_zero, vD, List.foldl]; rw [c _ (by omega), c _ (by omega), c _ (by omega), c _ (by omega)]; omega
    · simp only [List.take_succ_cons, List.take_nil, vD, List.foldl]; rw [c _ (by omega), c _ (by omega), c _ (by omega), c _ (by omega), c _ (by omega)]; omega
theorem decD_first {n : Nat} (h : n ≤ 65535) (h1 : 1 < (decD n).length) : ∃ c r, decD n = c :: r ∧ 49 ≤ (c.toNat : Int) := by
  have c : ∀ d, d ≤ 9 → ((decC d).toNat : Int) = 48 + d := fun d hd => vD_dig hd
  unfold decD at h1 ⊢
  (repeat' split at h1) <;> simp only [List.length_cons, List.length_nil] at h1
  · omega
  · next a b => rw [if_neg a, if_pos b]; exact ⟨_, _, rfl, by rw [c _ (by omega)]; omega⟩
  · next a b d => rw [if_neg a, if_neg b, if_pos d]; exact ⟨_, _, rfl, by rw [c _ (by omega)]; omega⟩
  · next a b d e => rw [if_neg a, if_neg b, if_neg d, if_pos e]; exact ⟨_, _, rfl, by rw [c _ (by omega)]; omega⟩
  · next a b d e => rw [if_neg a, if_neg b, if_neg d, if_neg e]; exact ⟨_, _, rfl, by rw [c _ (by omega)]; omega⟩
theorem app58 (s l : List UInt8) : (s ++ [58] == l ++ [58]) = (s == l) := by
  by_cases h : s = l
  · rw [h]; simp
  · rw [beq_eq_false_iff_ne.2 h, beq_eq_false_iff_ne.2]; intro e; exact h (List.append_cancel_right e)
theorem specialPro_eq (s : List UInt8) : specialPro (s ++ [58]) = isSpecial s := by
  have e1 := app58 s [104, 116, 116, 112]
  have e2 := app58 s [104, 116, 116, 112, 115]
  have e3 := app58 s [119, 115]
  have e4 := app58 s [119, 115, 115]
  have e5 := app58 s [102, 116, 112]
  have e6 := app58 s [102, 105, 108, 101]
  simp only [List.cons_append, List.nil_append] at e1 e2 e3 e4 e5 e6
  unfold specialPro isSpecial ownPort
  rw [e1, e2, e3, e4, e5, e6]
  by_cases h1 : s = [104, 116, 116, 112]
  · subst h1; decide
  by_cases h2 : s = [104, 116, 116, 112, 115]
  · subst h2; decide
  by_cases h3 : s = [119, 115]
  · subst h3; decide
  by_cases h4 : s = [119, 115, 115]
  · subst h4; decide
  by_cases h5 : s = [102, 116, 112]
  · subst h5; decide
  simp [h1, h2, h3, h4, h5]
theorem proto_file {s : List UInt8} : s ++ [58] = [102, 105, 108, 101, 58] ↔ s = fileB := by
  constructor
  · intro e; exact List.append_cancel_right (bs := [58]) e
  · intro e; rw [e]; rfl
theorem ownText_ne {u : U} (h : Sd u) : portTextU u ≠ ownText (u.sch ++ [58]) := by
  have hz : ownText (u.sch ++ [58]) ≠ [] := by unfold ownText; (repeat' split) <;> simp
  unfold portTextU
  split
  · next hp =>
    obtain ⟨hl, ho⟩ := h.port hp
    intro e
    have hv := decD_val hl
    have hd := decD_dg (n := u.port) (by omega)
    rw [e] at hv hd
    by_cases h1 : u.sch = [104, 116, 116, 112]
    · rw [h1] at hv ho; exact ho rfl (by rw [← hv]; rfl)
    by_cases h2 : u.sch = [104, 116, 116, 112, 115]
    · rw [h2] at hv ho; exact ho rfl (by rw [← hv]; rfl)
    by_cases h3 : u.sch = [119, 115]
    · rw [h3] at hv ho; exact ho rfl (by rw [← hv]; rfl)
    by_cases h4 : u.sch = [119, 115, 115]
    · rw [h4] at hv ho; exact ho rfl (by rw [← hv]; rfl)
    by_cases h5 : u.sch = [102, 116, 112]
    · rw [h5] at hv ho; exact ho rfl (by rw [← hv]; rfl)
    have f1 : ¬ u.sch ++ [58] = [104, 116, 116, 112, 58] := fun x => h1 (List.append_cancel_right (bs := [58]) x)
    have f2 : ¬ u.sch ++ [58] = [104, 116, 116, 112, 115, 58] := fun x => h2 (List.append_cancel_right (bs := [58]) x)
    have f3 : ¬ u.sch ++ [58] = [119, 115, 58] := fun x => h3 (List.append_cancel_right (bs := [58]) x)
    have f4 : ¬ u.sch ++ [58] = [119, 115, 115, 58] := fun x => h4 (List.append_cancel_right (bs := [58]) x)
    have f5 : ¬ u.sch ++ [58] = [102, 116, 112, 58] := fun x => h5 (List.append_cancel_right (bs := [58]) x)
    unfold ownText at hd
    rw [if_neg (by rintro (x | x); exact f1 x; exact f3 x), if_neg (by rintro (x | x); exact f2 x; exact f4 x), if_neg f5] at hd
    have := hd 0 (by simp)
    exact absurd this.1 (by decide)
  · exact fun e => hz e.symm
theorem joinSl_pr {ps : List (List UInt8)} (h : PrS ps) : Pr (joinSl ps) := by
  intro b hb
  unfold joinSl at hb
  obtain ⟨s, hs, hc⟩ := List.mem_flatMap.1 hb
  exact pr_app (pr_one (by decide) (by decide)) (h s hs) b hc
theorem portText_dg {u : U} (h : Sd u) : Dg (portTextU u) := by
  unfold portTextU
  split
  · next hp => exact decD_dg (by have := (h.port hp).1; omega)
  · exact fun b hb => by cases hb
theorem user_pr {u : U} (h : Sd u) : Pr (userU u) := by
  unfold userU
  split
  · exact pr_nil
  split
  · exact pr_app h.pnam (pr_one (by decide) (by decide))
  · exact pr_app (pr_app h.pnam (pr_app (pr_one (by decide) (by decide)) h.ppw)) (pr_one (by decide) (by decide))
theorem hostPort_pr {u : U} (h : Sd u) : Pr (hostPortU u) := by
  unfold hostPortU
  split
  · exact pr_app (pr_app h.phost (pr_one (by decide) (by decide))) (portText_dg h).pr
  · exact h.phost
theorem front_pr {u : U} (h : Sd u) : Pr (frontU u) := by
  unfold frontU
  split
  · exact pr_app (pr_app (pr_cons (by decide) (by decide) (pr_one (by decide) (by decide))) (user_pr h)) (hostPort_pr h)
  split
  · exact pr_cons (by decide) (by decide) (pr_one (by decide) (by decide))
  · exact pr_nil
theorem path_pr {u : U} (h : Sd u) : Pr (pathU u) := by
  unfold pathU
  split
  · exact h.popath
  · exact joinSl_pr h.psegs
theorem href_pr {u : U} (h : Sd u) : Pr (hrefU u) := by
  unfold hrefU
  refine pr_app (pr_app (pr_app (pr_app (pr_app h.sc.pr (pr_one (by decide) (by decide))) (front_pr h)) (path_pr h)) ?_) ?_
  · split
    · exact pr_app (pr_one (by decide) (by decide)) h.pq
    · exact pr_nil
  · split
    · exact pr_app (pr_one (by decide) (by decide)) h.pfr
    · exact pr_nil
end Go.Proofs.YtchkhibgbnhjpaaGreatDoor
