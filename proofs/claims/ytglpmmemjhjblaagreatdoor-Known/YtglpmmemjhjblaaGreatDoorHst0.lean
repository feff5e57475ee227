import Derived.Test.YtglpmmemjhjblaaGreatDoorProg8
namespace Go.Proofs.YtglpmmemjhjblaaGreatDoor
open Go.RowKit

theorem any_snoc {α : Type} (p : α → Bool) (l : List α) (b : α) : (l ++ [b]).any p = (l.any p || p b) := by simp
theorem any_hitB (p : UInt8 → Bool) (s : ByteArray) (k : Nat) (h : k < s.size) (he : p s[k] = true) : (tl s).any p = true :=
  List.any_eq_true.2 ⟨s[k], by rw [← tl_get s k h]; exact List.getElem_mem _, he⟩
theorem size_from (s : ByteArray) (k : Nat) : (s.extract k s.size).size = s.size - k := by rw [ByteArray.size_extract]; omega
theorem size_to (s : ByteArray) (k : Nat) : (s.extract 0 k).size ≤ s.size := by rw [ByteArray.size_extract]; omega
theorem size_ext (s : ByteArray) (a b : Nat) : (s.extract a b).size ≤ s.size := by rw [ByteArray.size_extract]; omega
theorem tl_getD (s : ByteArray) (k : Nat) (h : k < s.size) : (tl s).getD k 0 = s[k] := by
  rw [List.getD_eq_getElem?_getD, List.getElem?_eq_getElem (by rw [tl_length]; exact h), tl_get s k h]; rfl
theorem ret_ib {a b : Int × Bool} (h : a = b) : Ending.returned (.tuple #[.int .i64 a.1, .bool a.2]) = .returned (.tuple #[.int .i64 b.1, .bool b.2]) := by rw [h]
theorem tl_ne {s : ByteArray} (h : ¬ s.size = 0) : ¬ tl s = [] := by intro e; have := tl_length s; rw [e] at this; simp at this; omega
theorem bneF {x y : Int} (h : (x == y) = true) : (x != y) = false := by simp only [bne, h]; rfl
theorem bneT {x y : Int} (h : (x == y) = false) : (x != y) = true := by simp only [bne, h]; rfl
end Go.Proofs.YtglpmmemjhjblaaGreatDoor
