import Derived.Test.YtglpmmemjhjblaaGreatDoorOwn
namespace Go.Proofs.YtglpmmemjhjblaaGreatDoor
open Go.RowKit

theorem small_len {n : Nat} (h : n ≤ 1000000) : n ≤ maxLen := by unfold maxLen; omega

/-- urlsref.utf -/
def utf (c : Int) : List Int :=
  if c < 128 then [c] else if c < 2048 then [192 + c / 64, 128 + c % 64]
  else if c < 65536 then [224 + c / 4096, 128 + c / 64 % 64, 128 + c % 64] else [240 + c / 262144, 128 + c / 4096 % 64, 128 + c / 64 % 64, 128 + c % 64]
def Pt (c : Int) : Prop := 0 ≤ c ∧ c ≤ 1114111
theorem utf_byte {c x : Int} (hc : Pt c) (hx : x ∈ utf c) : 0 ≤ x ∧ x ≤ 255 := by
  unfold Pt at hc
  unfold utf at hx
  split at hx
  · simp at hx; omega
  · split at hx
    · simp at hx; omega
    · split at hx <;> (simp at hx; omega)
theorem utf_len (c : Int) : (utf c).length ≤ 4 := by unfold utf; repeat (first | split | simp)
theorem utf_pos (c : Int) : 1 ≤ (utf c).length := by unfold utf; repeat (first | split | simp)

/-- A slice literal, behind the block that was laid last. -/
theorem sl_lit {α : Type} {e : TypeId} {f : α → Value} (w : World) (l : List α) (cs : Array Value) (hl : l.length ≤ 1000) (hc : cs.toList = l.map f) :
    SlAt e f (w.alloc (.cells cs e)) (.slice (some ⟨w.heap.size, 0, none⟩) l.length l.length) l := by
  refine sl_mk ⟨cs, _, heap_alloc_new w _, fun i hi => ?_⟩ (Nat.le_refl _) (by unfold maxLen; omega)
  rw [Nat.zero_add, ← Array.getElem?_toList, hc]
  simp [List.getElem?_eq_getElem hi]

theorem Nx.alloc {a w : World} (h : Nx a w) (o : Obj) : Nx a (w.alloc o) := Below.alloc h h.size o
theorem Nx.drew {a w : World} (h : Nx a w) : Nx a w.drew := Below.drew h

set_option maxHeartbeats 400000 in
theorem utf_any (c : Int) (w : World) (hc : Pt c) :
    Calls Tryz.prog 112 #[.int .i64 c] w fun e w' => ∃ v, e = .returned v ∧ IntsAt w' v (utf c) ∧ Nx w w' := by
  obtain ⟨h0, h1⟩ := hc
  by_cases c1 : c < 128
  · have E := hide (show utf c = [c] by simp [utf, c1])
    go_enter Tryz.func112, Tryz.ntmps112
    go_wp2
    go_ret
    rw [E.out]
    exact ⟨_, rfl, sl_lit w [c] _ (by simp) rfl, Nx.rfl.alloc _⟩
  by_cases c2 : c < 2048
  · have E := hide (show utf c = [192 + c / 64, 128 + c % 64] by simp [utf, c1, c2])
    go_enter Tryz.func112, Tryz.ntmps112
    go_wp2
    go_ret
    rw [E.out]
    exact ⟨_, rfl, sl_lit w [192 + c / 64, 128 + c % 64] _ (by simp) rfl, Nx.rfl.alloc _⟩
  by_cases c3 : c < 65536
  · have E := hide (show utf c = [224 + c / 4096, 128 + c / 64 % 64, 128 + c % 64] by simp [utf, c1, c2, c3])
    go_enter Tryz.func112, Tryz.ntmps112
    go_wp2
    go_ret
    rw [E.out]
    exact ⟨_, rfl, sl_lit w [224 + c / 4096, 128 + c / 64 % 64, 128 + c % 64] _ (by simp) rfl, Nx.rfl.alloc _⟩
  · have E := hide (show utf c = [240 + c / 262144, 128 + c / 4096 % 64, 128 + c / 64 % 64, 128 + c % 64] by simp [utf, c1, c2, c3])
    go_enter Tryz.func112, Tryz.ntmps112
    go_wp2
    go_ret
    rw [E.out]
    exact ⟨_, rfl, sl_lit w [240 + c / 262144, 128 + c / 4096 % 64, 128 + c / 64 % 64, 128 + c % 64] _ (by simp) rfl, Nx.rfl.alloc _⟩

/-- urlsref.flat -/
def flat (l : List Int) : List Int := l.filter fun c => !among c [9, 10, 13]
theorem flat_snoc (l : List Int) (c : Int) : flat (l ++ [c]) = flat l ++ (if among c [9, 10, 13] then [] else [c]) := by
  cases h : among c [9, 10, 13] <;> simp [flat, List.filter_append, h]
theorem flat_len (l : List Int) : (flat l).length ≤ l.length := List.length_filter_le _ _
theorem take_snoc_i (l : List Int) (k : Nat) (h : k < l.length) : l.take (k + 1) = l.take k ++ [l[k]] := List.take_succ_eq_append_getElem h

set_option maxHeartbeats 400000 in
theorem flat_any (v : Value) (l : List Int) (w : World) (hv : IntsAt w v l) (hn : l.length ≤ 1000000) :
    Calls Tryz.prog 86 #[v] w fun e w' => ∃ v', e = .returned v' ∧ IntsAt w' v' (flat l) ∧ Nx w w' := by
  obtain ⟨ao, cap, rfl, hlc, hcap, hnone, hsome⟩ := hv
  unfold maxLen at hcap
  go_enter Tryz.func86, Tryz.ntmps86
  go_wp2
  go_loopw [3, 4] (fun o i wr => ∃ k : Nat, k ≤ l.length ∧ i = .int .i64 k ∧ OwnI wr w.heap.size o (flat (l.take k)) ∧ Nx w wr) (fun _ i _ => l.length - (intOf i).toNat)
  case atStart => exact ⟨0, Nat.zero_le _, rfl, World.ownsRow_nil _ _ _ _, Nx.rfl⟩
  case round =>
    obtain ⟨k, hk, rfl, hown, hnx⟩ := hrel
    by_cases hlt : k < l.length
    · obtain ⟨a, ha⟩ := sl_some hlt hnone
      subst ha
      obtain ⟨b, off, rfl, hr⟩ := hsome a rfl
      have hck := (hr.on hnx).cell hlt
      have hsz : (flat (l.take k)).length < 1099511627776 := by have := flat_len (l.take k); have := List.length_take_le k l; omega
      have hz := hnx.size
      have HTK := hide ((congrArg flat (take_snoc_i l k hlt)).trans (flat_snoc (l.take k) l[k]))
      have HO := hide hown
      have HN := hide hnx
      clear hnone hsome hr hown hnx
      go_wp2_with (first | (go_at_call 113; refine (among_any _ _ _ (small_len (by decide))).mono ?_; rintro e w' ⟨rfl, rfl⟩) | (at_builtin; refine app_int1 wr l[k] rfl _ _ rfl w.heap.size _ _ rfl HO.out rfl hsz hz ?_; intro v' w1 ho1 hb1 _; have HO1 := hide ho1; clear ho1))
      · go_roundw
        case rel => exact ⟨k + 1, by omega, by go_num, by rw [HTK.out, if_neg (by simpa using ‹(!among _ _) = true›)]; exact HO1.out, HN.out.trans hb1⟩
        case measure => simp [intOf]; omega
      · go_roundw
        case rel => exact ⟨k + 1, by omega, by go_num, by rw [HTK.out, if_pos (by simpa using ‹(!among _ _) = false›), List.append_nil]; exact HO.out, HN.out⟩
        case measure => simp [intOf]; omega
    · go_wp2
      go_ret
      rw [List.take_of_length_le (by omega)] at hown
      exact ⟨_, rfl, OwnI.ints hown, hnx⟩
end Go.Proofs.YtglpmmemjhjblaaGreatDoor
