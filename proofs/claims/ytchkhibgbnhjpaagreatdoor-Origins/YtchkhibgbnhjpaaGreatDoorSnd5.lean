import Derived.Test.YtchkhibgbnhjpaaGreatDoorHst9
namespace Go.Proofs.YtchkhibgbnhjpaaGreatDoor
open Go.RowKit

/-- Printable bytes alone. -/
def Pr (l : List UInt8) : Prop := ∀ b ∈ l, 32 ≤ b.toNat ∧ b.toNat ≤ 126
theorem pr_nil : Pr [] := fun b hb => by cases hb
theorem pr_app {a b : List UInt8} (ha : Pr a) (hb : Pr b) : Pr (a ++ b) := fun x hx => (List.mem_append.1 hx).elim (ha x) (hb x)
theorem pr_one {c : UInt8} (h1 : 32 ≤ c.toNat) (h2 : c.toNat ≤ 126) : Pr [c] := fun b hb => by rw [List.mem_singleton] at hb; subst hb; exact ⟨h1, h2⟩
theorem pr_cons {c : UInt8} {l : List UInt8} (h1 : 32 ≤ c.toNat) (h2 : c.toNat ≤ 126) (h : Pr l) : Pr (c :: l) := pr_app (a := [c]) (pr_one h1 h2) h
theorem ofNat_pr {n : Nat} (h1 : 32 ≤ n) (h2 : n ≤ 126) : 32 ≤ (UInt8.ofNat n).toNat ∧ (UInt8.ofNat n).toNat ≤ 126 := by
  rw [UInt8.toNat_ofNat', Nat.mod_eq_of_lt (by omega)]; exact ⟨h1, h2⟩
theorem toB_pr {n : Int} (h1 : 32 ≤ n) (h2 : n ≤ 126) : 32 ≤ (toB n).toNat ∧ (toB n).toNat ≤ 126 := ofNat_pr (by omega) (by omega)
theorem capital_pr {n : Int} (h0 : 0 ≤ n) (h1 : n < 16) : 32 ≤ capital n ∧ capital n ≤ 126 := by unfold capital; split <;> omega
theorem encByte_pr (set : List UInt8) (b : UInt8) : Pr (encByte set b) := by
  have hb := b.toNat_lt
  unfold encByte
  split
  · have h1 := capital_pr (n := (b.toNat : Int) / 16) (by omega) (by omega)
    have h2 := capital_pr (n := (b.toNat : Int) % 16) (by omega) (by omega)
    have k1 := toB_pr h1.1 h1.2
    have k2 := toB_pr h2.1 h2.2
    exact pr_cons (by decide) (by decide) (pr_cons k1.1 k1.2 (pr_one k2.1 k2.2))
  · next h =>
    refine pr_one ?_ ?_
    · have : ¬ (b.toNat : Int) < 32 := fun hh => h (Or.inl hh)
      omega
    · have : ¬ 126 < (b.toNat : Int) := fun hh => h (Or.inr (Or.inl hh))
      omega
theorem encB_pr (set l : List UInt8) : Pr (encB set l) := by
  intro b hb
  unfold encB at hb
  obtain ⟨c, -, hc⟩ := List.mem_flatMap.1 hb
  exact encByte_pr set c b hc
theorem decC_pr {d : Nat} (h : d ≤ 9) : 48 ≤ (decC d).toNat ∧ (decC d).toNat ≤ 57 := by
  unfold decC; rw [UInt8.toNat_ofNat', Nat.mod_eq_of_lt (by omega)]; omega
/-- Numerals alone. -/
def Dg (l : List UInt8) : Prop := ∀ b ∈ l, 48 ≤ b.toNat ∧ b.toNat ≤ 57
theorem Dg.pr {l : List UInt8} (h : Dg l) : Pr l := fun b hb => by have := h b hb; omega
theorem decD_dg {n : Nat} (h : n ≤ 99999) : Dg (decD n) := by
  intro b hb
  have key : ∀ d, d ≤ 9 → b = decC d → 48 ≤ b.toNat ∧ b.toNat ≤ 57 := fun d hd e => by subst e; exact decC_pr hd
  unfold decD at hb
  (repeat' split at hb) <;> simp only [List.mem_cons, List.not_mem_nil, or_false] at hb
  · exact key _ (by omega) hb
  · rcases hb with hb | hb <;> exact key _ (by omega) hb
  · rcases hb with hb | hb | hb <;> exact key _ (by omega) hb
  · rcases hb with hb | hb | hb | hb <;> exact key _ (by omega) hb
  · rcases hb with hb | hb | hb | hb | hb <;> exact key _ (by omega) hb
theorem suf4_pr (v : Nat) : ∀ k, Pr (suf4 v k) := by
  intro k
  induction k with
  | zero => exact pr_nil
  | succ k ih =>
    rw [suf4]
    have : v / 256 ^ k % 256 < 256 := Nat.mod_lt _ (by decide)
    refine pr_app (decD_dg (by omega)).pr ?_
    split
    · exact pr_app (pr_one (by decide) (by decide)) ih
    · exact ih
theorem hexC_pr {d : Nat} (h : d ≤ 15) : 32 ≤ (hexC d).toNat ∧ (hexC d).toNat ≤ 126 := by
  unfold hexC
  split
  · exact ofNat_pr (by omega) (by omega)
  · exact ofNat_pr (by omega) (by omega)
theorem hexD_pr {n : Nat} (h : n ≤ 65535) : Pr (hexD n) := by
  intro b hb
  have key : ∀ d, d ≤ 15 → b = hexC d → 32 ≤ b.toNat ∧ b.toNat ≤ 126 := fun d hd e => by subst e; exact hexC_pr hd
  unfold hexD at hb
  (repeat' split at hb) <;> simp only [List.mem_cons, List.not_mem_nil, or_false] at hb
  · exact key _ (by omega) hb
  · rcases hb with hb | hb <;> exact key _ (by omega) hb
  · rcases hb with hb | hb | hb <;> exact key _ (by omega) hb
  · rcases hb with hb | hb | hb | hb <;> exact key _ (by omega) hb
theorem w6_pr {ns : List Int} (h : GOk ns) (st ln : Nat) : ∀ f i, Pr (w6Go ns st ln f i) := by
  intro f
  induction f with
  | zero => intro i; exact pr_nil
  | succ f ih =>
    intro i
    rw [w6Go]
    split
    · exact pr_nil
    split
    · exact pr_app (pr_cons (by decide) (by decide) (pr_one (by decide) (by decide))) (ih _)
    · refine pr_app (pr_app ?_ (hexD_pr ?_)) (ih _)
      · split
        · exact pr_one (by decide) (by decide)
        · exact pr_nil
      · by_cases hi : i < ns.length
        · have := h ns[i] (List.getElem_mem hi)
          rw [List.getD_eq_getElem?_getD, List.getElem?_eq_getElem hi]
          simp only [Option.getD_some]
          omega
        · rw [List.getD_eq_getElem?_getD, List.getElem?_eq_none (by omega)]
          simp
theorem plainDom_pr {l : List UInt8} (h1 : beyondB l = false) (h2 : plainDom l = true) : Pr l := by
  intro b hb
  unfold beyondB at h1
  unfold plainDom at h2
  have h3 : (l.any badB) = false := by
    cases h : l.any badB
    · rfl
    · rw [h] at h2; simp at h2
  have k1 := List.any_eq_false.1 h1 b hb
  have k2 := List.any_eq_false.1 h3 b hb
  unfold badB at k2
  simp only [Bool.or_eq_true, decide_eq_true_eq, beq_iff_eq, not_or] at k1 k2
  omega
theorem hostL_pr (l : List UInt8) (sp : Bool) : Pr (hostL l sp).1 := by
  unfold hostL
  split
  · unfold bracketsL
    split
    · exact pr_nil
    split
    · refine pr_app (pr_app (pr_one (by decide) (by decide)) ?_) (pr_one (by decide) (by decide))
      exact w6_pr (ip6_ok _) _ _ _ _
    · exact pr_nil
  split
  · unfold domainL
    split
    · exact pr_nil
    next hb =>
      split
      · exact pr_nil
      next hp =>
        unfold domEnd
        split
        · refine plainDom_pr ?_ ?_
          · cases h : beyondB (lower (bdecode l))
            · rfl
            · rw [h] at hb; simp at hb
          · cases h : plainDom (lower (bdecode l))
            · exact absurd h hp
            · rfl
        split
        · exact suf4_pr _ _
        · exact pr_nil
  · unfold otherL
    split
    · exact pr_nil
    · exact encB_pr _ _
theorem decD_ne (n : Nat) : decD n ≠ [] := by unfold decD; (repeat' split) <;> simp
theorem measGo_ge (want : Int) : ∀ l lo hi sz, sz ≤ measGo want lo hi sz l := by
  intro l
  induction l with
  | nil => intro lo hi sz; rw [measGo]; exact Nat.le_refl _
  | cons c r ih =>
    intro lo hi sz
    rw [measGo]
    split
    · exact Nat.le_trans (Nat.le_succ _) (ih _ _ _)
    · exact Nat.le_refl _
theorem clean_ne {l : List UInt8} (h : l ≠ []) : clean l ≠ [] := by
  cases l with
  | nil => exact absurd rfl h
  | cons c r =>
    conv => lhs; unfold clean
    intro e
    have e1 := (List.append_eq_nil_iff.1 e).1
    split at e1
    · have h1 : 1 ≤ (measure (c :: r)).1 := by show 1 ≤ measGo _ _ _ 1 r; exact measGo_ge _ _ _ _ _
      have := congrArg List.length e1
      rw [List.length_take] at this
      simp only [List.length_cons, List.length_nil] at this
      omega
    · cases e1
theorem encB_ne {set l : List UInt8} (h : l ≠ []) : encB set l ≠ [] := by
  cases l with
  | nil => exact absurd rfl h
  | cons c r =>
    unfold encB
    rw [List.flatMap_cons]
    intro e
    have e1 := (List.append_eq_nil_iff.1 e).1
    unfold encByte at e1
    split at e1 <;> cases e1
/-- A text that is read as a host, and is not empty, is not written empty. -/
theorem hostL_ne {l : List UInt8} {sp : Bool} (h : l ≠ []) (h0 : (hostL l sp).2 = 0) : (hostL l sp).1 ≠ [] := by
  unfold hostL at h0 ⊢
  split
  · next hb =>
    rw [if_pos hb] at h0
    unfold bracketsL at h0 ⊢
    split
    · next hc => rw [if_pos hc] at h0; cases h0
    split
    · simp
    · next hc hd => rw [if_neg hc, if_neg hd] at h0; cases h0
  next hb =>
    rw [if_neg hb] at h0
    split
    · next hs =>
      rw [if_pos hs] at h0
      unfold domainL at h0 ⊢
      split
      · next hc => rw [if_pos hc] at h0; cases h0
      next hc =>
        rw [if_neg hc] at h0
        split
        · next hd => rw [if_pos hd] at h0; cases h0
        next hd =>
          rw [if_neg hd] at h0
          unfold domEnd at h0 ⊢
          split
          · intro e
            have e' : lower (bdecode l) = [] := e
            rw [e'] at hd
            exact hd (by decide)
          split
          · show ip4Text _ ≠ []
            unfold ip4Text
            rw [suf4]
            intro e
            exact decD_ne _ (List.append_eq_nil_iff.1 e).1
          · next h1 h2 => rw [if_neg h1, if_neg h2] at h0; cases h0
    · next hs =>
      rw [if_neg hs] at h0
      unfold otherL at h0 ⊢
      split
      · next hc => rw [if_pos hc] at h0; cases h0
      · exact encB_ne (clean_ne h)
end Go.Proofs.YtchkhibgbnhjpaaGreatDoor
