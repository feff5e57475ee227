import Derived.Test.YtcgoimipjnlagaaGreatDoorSnd1
namespace Go.Proofs.YtcgoimipjnlagaaGreatDoor
open Go.RowKit

set_option maxHeartbeats 2000000 in
/-- urlskeep.begins -/
theorem begins_any (s t : ByteArray) (w : World) :
    Calls Tryz.prog 37 #[.string s, .string t] w fun e w' => e = .returned (.bool (decide (t.size ≤ s.size) && ((tl s).take t.size == tl t))) ∧ w = w' := by
  by_cases h : t.size ≤ s.size
  · have HE := hide (show (decide (t.size ≤ s.size) && ((tl s).take t.size == tl t)) = ((tl s).take t.size == tl t) by rw [decide_eq_true h]; rfl)
    go_enter Tryz.func37, Tryz.ntmps37
    go_wp2
    go_ret
    exact ⟨ret_bool (by rw [HE.out, ByteArray.toList_eq, ByteArray.toList_eq]; show (tl (s.extract 0 t.size) == tl t) = _; rw [tl_extract]; simp), rfl⟩
  · have HE := hide (show (decide (t.size ≤ s.size) && ((tl s).take t.size == tl t)) = false by rw [decide_eq_false h]; rfl)
    go_enter Tryz.func37, Tryz.ntmps37
    go_wp2
    go_ret
    exact ⟨ret_bool HE.out.symm, rfl⟩
end Go.Proofs.YtcgoimipjnlagaaGreatDoor
