import Derived.Test.YtchkhibgbnhjpaaGreatDoorInv1
namespace Go.Proofs.YtchkhibgbnhjpaaGreatDoor
open Go.RowKit

/-- A URL's user as written: of its name and password. -/
def userL (n p : List UInt8) : List UInt8 := if n = [] ∧ p = [] then [] else if p = [] then n ++ [64] else n ++ ([58] ++ p) ++ [64]
theorem userU_eq (u : U) : userU u = userL u.nam u.pw := rfl
theorem strEq {a b : ByteArray} (h : tl a = tl b) : (a.toList == b.toList) = true := by rw [ByteArray.toList_eq, ByteArray.toList_eq]; show (tl a == tl b) = true; rw [h]; simp
theorem strNe {a b : ByteArray} (h : ¬ tl a = tl b) : (a.toList == b.toList) = false := by rw [ByteArray.toList_eq, ByteArray.toList_eq]; show (tl a == tl b) = false; exact beq_eq_false_iff_ne.2 h
theorem strNil {a : ByteArray} (h : tl a = []) : a.toList.isEmpty = true := str_empty (by rw [← tl_length, h]; rfl)
theorem strFull {a : ByteArray} (h : ¬ tl a = []) : a.toList.isEmpty = false := str_nonempty fun e => h (tl_empty e)
theorem tlNil {a : ByteArray} (h : a.size = 0) : tl a = [] := tl_empty h
theorem tlSl : tl (⟨#[47, 47]⟩ : ByteArray) = [47, 47] := rfl
theorem tlDot : tl (⟨#[47, 46]⟩ : ByteArray) = [47, 46] := rfl
theorem tlQ : tl (⟨#[63]⟩ : ByteArray) = [63] := rfl
theorem tlF : tl (⟨#[35]⟩ : ByteArray) = [35] := rfl
theorem cand000 (p who ho pa se ha : ByteArray) (k : Nat) (hm : k % 3 = 0) (hq : ¬ (k / 3 % 2 = 1 ∧ tl se = [])) (hf : ¬ (k / 6 = 1 ∧ tl ha = [])) : tl (p ++ (⟨#[47, 47]⟩ : ByteArray) ++ who ++ ho ++ pa ++ se ++ ha) = candL (tl p) (tl who) (tl ho) (tl pa) (tl se) (tl ha) k := by
  unfold candL; rw [if_neg hq, if_neg hf, hm, if_pos rfl]; simp [tl_append', tlSl]
theorem cand001 (p who ho pa se ha : ByteArray) (k : Nat) (hm : k % 3 = 0) (hq : ¬ (k / 3 % 2 = 1 ∧ tl se = [])) (hf : (k / 6 = 1 ∧ tl ha = [])) : tl (p ++ (⟨#[47, 47]⟩ : ByteArray) ++ who ++ ho ++ pa ++ se ++ ha ++ (⟨#[35]⟩ : ByteArray)) = candL (tl p) (tl who) (tl ho) (tl pa) (tl se) (tl ha) k := by
  unfold candL; rw [if_neg hq, if_pos hf, hm, if_pos rfl]; simp [tl_append', tlSl, tlF]
theorem cand010 (p who ho pa se ha : ByteArray) (k : Nat) (hm : k % 3 = 0) (hq : (k / 3 % 2 = 1 ∧ tl se = [])) (hf : ¬ (k / 6 = 1 ∧ tl ha = [])) : tl (p ++ (⟨#[47, 47]⟩ : ByteArray) ++ who ++ ho ++ pa ++ se ++ (⟨#[63]⟩ : ByteArray) ++ ha) = candL (tl p) (tl who) (tl ho) (tl pa) (tl se) (tl ha) k := by
  unfold candL; rw [if_pos hq, if_neg hf, hm, if_pos rfl]; simp [tl_append', tlSl, tlQ]
theorem cand011 (p who ho pa se ha : ByteArray) (k : Nat) (hm : k % 3 = 0) (hq : (k / 3 % 2 = 1 ∧ tl se = [])) (hf : (k / 6 = 1 ∧ tl ha = [])) : tl (p ++ (⟨#[47, 47]⟩ : ByteArray) ++ who ++ ho ++ pa ++ se ++ (⟨#[63]⟩ : ByteArray) ++ ha ++ (⟨#[35]⟩ : ByteArray)) = candL (tl p) (tl who) (tl ho) (tl pa) (tl se) (tl ha) k := by
  unfold candL; rw [if_pos hq, if_pos hf, hm, if_pos rfl]; simp [tl_append', tlSl, tlQ, tlF]
theorem cand100 (p who ho pa se ha : ByteArray) (k : Nat) (hm : k % 3 = 1) (hq : ¬ (k / 3 % 2 = 1 ∧ tl se = [])) (hf : ¬ (k / 6 = 1 ∧ tl ha = [])) : tl (p ++ (⟨#[47, 46]⟩ : ByteArray) ++ pa ++ se ++ ha) = candL (tl p) (tl who) (tl ho) (tl pa) (tl se) (tl ha) k := by
  unfold candL; rw [if_neg hq, if_neg hf, hm, if_neg (by decide), if_pos rfl]; simp [tl_append', tlDot]
theorem cand101 (p who ho pa se ha : ByteArray) (k : Nat) (hm : k % 3 = 1) (hq : ¬ (k / 3 % 2 = 1 ∧ tl se = [])) (hf : (k / 6 = 1 ∧ tl ha = [])) : tl (p ++ (⟨#[47, 46]⟩ : ByteArray) ++ pa ++ se ++ ha ++ (⟨#[35]⟩ : ByteArray)) = candL (tl p) (tl who) (tl ho) (tl pa) (tl se) (tl ha) k := by
  unfold candL; rw [if_neg hq, if_pos hf, hm, if_neg (by decide), if_pos rfl]; simp [tl_append', tlDot, tlF]
theorem cand110 (p who ho pa se ha : ByteArray) (k : Nat) (hm : k % 3 = 1) (hq : (k / 3 % 2 = 1 ∧ tl se = [])) (hf : ¬ (k / 6 = 1 ∧ tl ha = [])) : tl (p ++ (⟨#[47, 46]⟩ : ByteArray) ++ pa ++ se ++ (⟨#[63]⟩ : ByteArray) ++ ha) = candL (tl p) (tl who) (tl ho) (tl pa) (tl se) (tl ha) k := by
  unfold candL; rw [if_pos hq, if_neg hf, hm, if_neg (by decide), if_pos rfl]; simp [tl_append', tlDot, tlQ]
theorem cand111 (p who ho pa se ha : ByteArray) (k : Nat) (hm : k % 3 = 1) (hq : (k / 3 % 2 = 1 ∧ tl se = [])) (hf : (k / 6 = 1 ∧ tl ha = [])) : tl (p ++ (⟨#[47, 46]⟩ : ByteArray) ++ pa ++ se ++ (⟨#[63]⟩ : ByteArray) ++ ha ++ (⟨#[35]⟩ : ByteArray)) = candL (tl p) (tl who) (tl ho) (tl pa) (tl se) (tl ha) k := by
  unfold candL; rw [if_pos hq, if_pos hf, hm, if_neg (by decide), if_pos rfl]; simp [tl_append', tlDot, tlQ, tlF]
theorem cand200 (p who ho pa se ha : ByteArray) (k : Nat) (hm : k % 3 = 2) (hq : ¬ (k / 3 % 2 = 1 ∧ tl se = [])) (hf : ¬ (k / 6 = 1 ∧ tl ha = [])) : tl (p ++ pa ++ se ++ ha) = candL (tl p) (tl who) (tl ho) (tl pa) (tl se) (tl ha) k := by
  unfold candL; rw [if_neg hq, if_neg hf, hm, if_neg (by decide), if_neg (by decide)]; simp [tl_append']
theorem cand201 (p who ho pa se ha : ByteArray) (k : Nat) (hm : k % 3 = 2) (hq : ¬ (k / 3 % 2 = 1 ∧ tl se = [])) (hf : (k / 6 = 1 ∧ tl ha = [])) : tl (p ++ pa ++ se ++ ha ++ (⟨#[35]⟩ : ByteArray)) = candL (tl p) (tl who) (tl ho) (tl pa) (tl se) (tl ha) k := by
  unfold candL; rw [if_neg hq, if_pos hf, hm, if_neg (by decide), if_neg (by decide)]; simp [tl_append', tlF]
theorem cand210 (p who ho pa se ha : ByteArray) (k : Nat) (hm : k % 3 = 2) (hq : (k / 3 % 2 = 1 ∧ tl se = [])) (hf : ¬ (k / 6 = 1 ∧ tl ha = [])) : tl (p ++ pa ++ se ++ (⟨#[63]⟩ : ByteArray) ++ ha) = candL (tl p) (tl who) (tl ho) (tl pa) (tl se) (tl ha) k := by
  unfold candL; rw [if_pos hq, if_neg hf, hm, if_neg (by decide), if_neg (by decide)]; simp [tl_append', tlQ]
theorem cand211 (p who ho pa se ha : ByteArray) (k : Nat) (hm : k % 3 = 2) (hq : (k / 3 % 2 = 1 ∧ tl se = [])) (hf : (k / 6 = 1 ∧ tl ha = [])) : tl (p ++ pa ++ se ++ (⟨#[63]⟩ : ByteArray) ++ ha ++ (⟨#[35]⟩ : ByteArray)) = candL (tl p) (tl who) (tl ho) (tl pa) (tl se) (tl ha) k := by
  unfold candL; rw [if_pos hq, if_pos hf, hm, if_neg (by decide), if_neg (by decide)]; simp [tl_append', tlQ, tlF]
theorem step_none {P : Nat → Prop} {k : Nat} (h : ∀ j, j < k → P j) (hk : P k) : ∀ j, j < k + 1 → P j := fun j hj => (Nat.lt_succ_iff_lt_or_eq.1 hj).elim (h j) (fun e => e ▸ hk)
end Go.Proofs.YtchkhibgbnhjpaaGreatDoor
