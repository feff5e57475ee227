import Derived.Test.YtglpmmemjhjblaaGreatDoorText5
namespace Go.Proofs.YtglpmmemjhjblaaGreatDoor
open Go.RowKit

/-- urlsref.lower -/
def lowB (b : UInt8) : UInt8 := if 65 ≤ b.toNat ∧ b.toNat ≤ 90 then b + 32 else b
def lower (l : List UInt8) : List UInt8 := l.map lowB

theorem lowB_hit {b : UInt8} (h0 : 65 ≤ b.toNat) (h1 : b.toNat ≤ 90) : ((lowB b).toNat : Int) = (b.toNat : Int) + 32 := by
  unfold lowB; rw [if_pos ⟨h0, h1⟩, UInt8.toNat_add]; show (((b.toNat + 32) % 256 : Nat) : Int) = _; omega
theorem lowB_miss {b : UInt8} (h : ¬ (65 ≤ b.toNat ∧ b.toNat ≤ 90)) : lowB b = b := by unfold lowB; rw [if_neg h]
/-- The row at block b holds the bytes l from its head on, and may be written there. -/
def RowB (w : World) (b : Nat) (l : List UInt8) : Prop :=
  ∃ (cs : Array Value) (n : Nat), w.heap[b]? = some (Obj.cells cs 5 (n, n + 1)) ∧ l.length ≤ n ∧ ∀ i, (h : i < l.length) → cs[i]? = some (.int .u8 (l[i].toNat : Int))
theorem RowB.cell {w : World} {b : Nat} {l : List UInt8} (h : RowB w b l) {i : Nat} (hi : i < l.length) : w.cell? ⟨b, i, none⟩ = some (.int .u8 (l[i].toNat : Int)) := by
  obtain ⟨cs, n, hh, _, hc⟩ := h
  simpa [World.cell?, hh] using hc i hi
theorem RowB.free {w : World} {b : Nat} {l : List UInt8} (h : RowB w b l) {i : Nat} (hi : i < l.length) : w.frozen? ⟨b, i, none⟩ = false := by
  obtain ⟨cs, n, hh, hn, hc⟩ := h
  simp [World.frozen?, hh]
  omega
theorem low_get (s : ByteArray) (k : Nat) (h : k < s.size) : ∃ hl : k < (lower ((tl s).take k) ++ (tl s).drop k).length, (lower ((tl s).take k) ++ (tl s).drop k)[k] = s[k] := by
  have hlen : (lower ((tl s).take k)).length = k := by simp [lower, tl_length]; omega
  refine ⟨by rw [List.length_append, hlen, List.length_drop, tl_length]; omega, ?_⟩
  rw [List.getElem_append_right (by omega)]
  simp only [hlen, Nat.sub_self, List.getElem_drop, Nat.add_zero]
  exact tl_get s k h
theorem low_step (s : ByteArray) (k : Nat) (h : k < s.size) : lower ((tl s).take (k + 1)) ++ (tl s).drop (k + 1) = (lower ((tl s).take k) ++ (tl s).drop k).set k (lowB s[k]) := by
  have hlen : (lower ((tl s).take k)).length = k := by simp [lower, tl_length]; omega
  rw [tl_drop s k h, tl_take_succ s k h, List.set_append, if_neg (by omega), hlen, Nat.sub_self, List.set_cons_zero]
  simp [lower]
theorem low_keep (s : ByteArray) (k : Nat) (h : k < s.size) (hb : lowB s[k] = s[k]) : lower ((tl s).take (k + 1)) ++ (tl s).drop (k + 1) = lower ((tl s).take k) ++ (tl s).drop k := by
  rw [tl_drop s k h, tl_take_succ s k h]
  simp [lower, hb]
theorem RowB.conv {w : World} {b cap : Nat} {l : List UInt8} (h : RowB w b l) : (convert 104 9 (.slice (some ⟨b, 0, none⟩) l.length cap)).run Tryz.prog w = .ok (.string ⟨l.toArray⟩) w := by
  refine run_convert_bytes_back w _ _ _ ⟨b, 0, none⟩ cap l Tryz.underlying104 Tryz.underlying5 Tryz.underlying9 fun j hj => ?_
  rw [Addr.add_lit, Nat.zero_add]
  exact h.cell hj
theorem rowB_start (w : World) (s : ByteArray) (cap : Nat) :
    RowB (w.alloc (.cells (bytesRow s cap) 5 ((bytesRow s cap).size, (bytesRow s cap).size + 1))) w.heap.size (tl s) := by
  refine ⟨_, _, heap_alloc_new w _, ?_, fun i hi => ?_⟩
  · rw [tl_length]; unfold bytesRow; rw [Array.size_append, Array.size_map]; exact Nat.le_add_right _ _
  · have hi' : i < s.data.size := by rw [tl_length] at hi; exact hi
    unfold bytesRow tl
    rw [Array.getElem?_append_left (by simpa using hi'), Array.getElem?_map, Array.getElem?_eq_getElem hi']
    rfl
theorem RowB.set {w : World} {b : Nat} {l : List UInt8} (h : RowB w b l) {i : Nat} (hi : i < l.length) (x : UInt8) : RowB (w.setCell ⟨b, i, none⟩ (.int .u8 (x.toNat : Int))) b (l.set i x) := by
  obtain ⟨cs, n, hh, hn, hc⟩ := h
  refine ⟨cs.setIfInBounds i (.int .u8 (x.toNat : Int)), n, ?_, by simpa using hn, fun j hj => ?_⟩
  · simp only [World.setCell, Array.getElem?_modify, if_pos, hh]
    rfl
  · have hj' : j < l.length := by simpa using hj
    rw [Array.getElem?_setIfInBounds]
    have hi' : i < cs.size := (Array.getElem?_eq_some_iff.1 (hc i hi)).1
    by_cases e : i = j
    · subst e
      simp [hi']
    · rw [if_neg e, hc j hj', List.getElem_set_ne e]
set_option maxHeartbeats 400000 in
theorem lower_any (s : ByteArray) (w : World) (hs : s.size ≤ 1000000) :
    Calls Tryz.prog 126 #[.string s] w fun e w' => ∃ r : ByteArray, e = .returned (.string r) ∧ tl r = lower (tl s) ∧ Nx w w' := by
  have hcv := fun wx => run_bytes_of_string (P := Tryz.prog) wx 9 104 5 s Tryz.underlying9 Tryz.underlying104 Tryz.underlying5
  go_enter Tryz.func126, Tryz.ntmps126
  go_wp2
  go_loopw [4] (fun i wr => ∃ k : Nat, k ≤ s.size ∧ i = .int .i64 k ∧ RowB wr w.heap.size (lower ((tl s).take k) ++ (tl s).drop k) ∧ Nx w wr) (fun i _ => s.size - (intOf i).toNat)
  case atStart => exact ⟨0, Nat.zero_le _, rfl, rowB_start w s _, (Nx.rfl.alloc _).drew⟩
  case round =>
    clear hcv
    obtain ⟨k, hk, rfl, hrow, hnx⟩ := hrel
    by_cases hlt : k < s.size
    · obtain ⟨hl, hg⟩ := low_get s k hlt
      have hc := hrow.cell hl
      rw [hg] at hc
      have hf := hrow.free hl
      have hb := bb s[k]
      have HROW := hide hrow
      have HN := hide hnx
      have HL := hide hl
      clear hrow hnx hg hl
      by_cases hit : 65 ≤ s[k].toNat ∧ s[k].toNat ≤ 90
      · obtain ⟨hi0, hi1⟩ := hit
        have HLB := hide (lowB_hit hi0 hi1)
        have HST := hide (low_step s k hlt)
        go_wp2
        go_roundw
        case rel => exact ⟨k + 1, by omega, by go_num, by rw [HST.out, ← HLB.out]; exact HROW.out.set HL.out _, HN.out.setCell (Nat.le_refl _) _⟩
        case measure => simp [intOf]; omega
      · have HST := hide (low_keep s k hlt (lowB_miss hit))
        by_cases hi0 : 65 ≤ s[k].toNat
        · have hi1 : 90 < s[k].toNat := by omega
          clear hit
          go_wp2
          go_roundw
          case rel => exact ⟨k + 1, by omega, by go_num, by rw [HST.out]; exact HROW.out, HN.out⟩
          case measure => simp [intOf]; omega
        · clear hit
          go_wp2
          go_roundw
          case rel => exact ⟨k + 1, by omega, by go_num, by rw [HST.out]; exact HROW.out, HN.out⟩
          case measure => simp [intOf]; omega
    · rw [tl_take_all s k (by omega), tl_drop_all s k (by omega), List.append_nil] at hrow
      have hcv := hrow.conv (cap := grownCap w s.size 0 5)
      rw [show (lower (tl s)).length = s.size by simp [lower, tl_length]] at hcv
      clear hrow
      go_wp2
      go_ret
      exact ⟨_, rfl, tl_mk _, hnx⟩
end Go.Proofs.YtglpmmemjhjblaaGreatDoor
