import Derived.Test.YtchkhibgbnhjpaaGreatDoorTxA
namespace Go.Proofs.YtchkhibgbnhjpaaGreatDoor
open Go.RowKit

theorem tl_nil : tl ⟨#[]⟩ = [] := rfl

/- ascii.Contains -/
set_option maxHeartbeats 400000 in
theorem contains_any (s : ByteArray) (n : Int) (w : World) (hs : s.size ≤ maxLen) :
    Calls Tryz.prog 117 #[.string s, .int .u8 n] w fun e w' => e = .returned (.bool (among n (tl s))) ∧ w = w' := by
  unfold maxLen at hs
  go_enter Tryz.func117, Tryz.ntmps117
  go_wp2
  go_loop [5] (fun i => ∃ k : Nat, k ≤ s.size ∧ i = .int .i64 k ∧ among n ((tl s).take k) = false) (fun i => s.size - (intOf i).toNat)
  case atStart => exact ⟨0, Nat.zero_le _, rfl, rfl⟩
  case round =>
    obtain ⟨k, hk, rfl, ha⟩ := hrel
    have HA := hide ha
    clear ha
    by_cases hlt : k < s.size
    · have hb := bb s[k]
      go_wp2
      · go_ret
        exact ⟨ret_bool (among_hit n s k hlt (by assumption)).symm, rfl⟩
      · go_round
        case rel => exact ⟨k + 1, by omega, by go_num, by rw [tl_take_succ s k hlt, among_snoc, HA.out]; assumption⟩
        case measure => simp [intOf]; omega
    · go_wp2
      go_ret
      exact ⟨ret_bool (by rw [← HA.out, tl_take_all _ _ (by omega)]), rfl⟩

/-- A cut of bytes at the first that a test says yes to. -/
def bcut (p : UInt8 → Bool) : List UInt8 → List UInt8 × List UInt8 × Bool
  | [] => ([], [], false)
  | c :: r => if p c then ([], r, true) else (c :: (bcut p r).1, (bcut p r).2)
def BCutTo (p : UInt8 → Bool) (l : List UInt8) (k : Nat) : Prop := bcut p l = (l.take k ++ (bcut p (l.drop k)).1, (bcut p (l.drop k)).2)
theorem bcutTo_zero (p : UInt8 → Bool) (l : List UInt8) : BCutTo p l 0 := by simp [BCutTo]
theorem bcutTo_step {p : UInt8 → Bool} {s : ByteArray} {k : Nat} (hk : k < s.size) (h : BCutTo p (tl s) k) (ha : p s[k] = false) : BCutTo p (tl s) (k + 1) := by
  unfold BCutTo at *
  rw [h, tl_drop s k hk, tl_take_succ s k hk, List.append_assoc]
  simp only [bcut, ha, Bool.false_eq_true, if_false, List.cons_append, List.nil_append]
theorem bcutTo_hit {p : UInt8 → Bool} {s : ByteArray} {k : Nat} (hk : k < s.size) (h : BCutTo p (tl s) k) (ha : p s[k] = true) : bcut p (tl s) = ((tl s).take k, (tl s).drop (k + 1), true) := by
  unfold BCutTo at h
  rw [h, tl_drop s k hk]
  simp [bcut, ha]
theorem bcutTo_end {p : UInt8 → Bool} {s : ByteArray} {k : Nat} (hk : s.size ≤ k) (h : BCutTo p (tl s) k) : bcut p (tl s) = (tl s, [], false) := by
  unfold BCutTo at h
  rw [h, tl_drop_all s k hk, tl_take_all s k hk]
  simp [bcut]
/-- What a cut answers. -/
def CutIs (q : List UInt8 × List UInt8 × Bool) (e : Ending) : Prop := ∃ a b : ByteArray, e = .returned (.tuple #[.string a, .string b, .bool q.2.2]) ∧ tl a = q.1 ∧ tl b = q.2.1

def isB (n : Int) (b : UInt8) : Bool := (b.toNat : Int) == n
/- ascii.Cut -/
set_option maxHeartbeats 400000 in
theorem acut_any (s : ByteArray) (n : Int) (w : World) (hs : s.size ≤ maxLen) :
    Calls Tryz.prog 85 #[.string s, .int .u8 n] w fun e w' => CutIs (bcut (isB n) (tl s)) e ∧ Nx w w' := by
  unfold maxLen at hs
  go_enter Tryz.func85, Tryz.ntmps85
  go_wp2
  go_loop [7] (fun i => ∃ k : Nat, k ≤ s.size ∧ i = .int .i64 k ∧ BCutTo (isB n) (tl s) k) (fun i => s.size - (intOf i).toNat)
  case atStart => exact ⟨0, Nat.zero_le _, rfl, bcutTo_zero _ _⟩
  case round =>
    obtain ⟨k, hk, rfl, ha⟩ := hrel
    have HA := hide ha
    clear ha
    by_cases hlt : k < s.size
    · have hb := bb s[k]
      go_wp2
      · have HR := hide (bcutTo_hit hlt HA.out (by assumption))
        go_region
        all_goals go_wp2
        all_goals go_ret3
        all_goals exact ⟨⟨_, _, by rw [HR.out]; rfl, by rw [HR.out, tl_to], by rw [HR.out, tl_from]⟩, Nx.rfl.drew⟩
      · go_round
        case rel => exact ⟨k + 1, by omega, by go_num, bcutTo_step hlt HA.out (by assumption)⟩
        case measure => simp [intOf]; omega
    · have HR := hide (bcutTo_end (Nat.le_of_not_lt hlt) HA.out)
      go_wp2
      go_ret3
      exact ⟨⟨_, _, by rw [HR.out]; rfl, by rw [HR.out], by rw [HR.out]; rfl⟩, Nx.rfl⟩
/-- The last cut. -/
def bcutLast (n : Int) (l : List UInt8) : List UInt8 × List UInt8 × Bool :=
  match l with
  | [] => ([], [], false)
  | c :: r => if (bcutLast n r).2.2 then (c :: (bcutLast n r).1, (bcutLast n r).2) else if isB n c then ([], r, true) else ([], c :: r, false)
theorem bcutLast_none (n : Int) (l : List UInt8) (h : among n l = false) : bcutLast n l = ([], l, false) := by
  induction l with
  | nil => rfl
  | cons c r ih =>
    simp only [among, List.any_cons, Bool.or_eq_false_iff] at h
    rw [bcutLast, ih (by simpa [among] using h.2)]
    simp [isB, h.1]
theorem bcutLast_hit (n : Int) (a r : List UInt8) (c : UInt8) (hc : isB n c = true) (h : among n r = false) : bcutLast n (a ++ c :: r) = (a, r, true) := by
  induction a with
  | nil => rw [List.nil_append, bcutLast, bcutLast_none n r h]; simp [hc]
  | cons x a ih => rw [List.cons_append, bcutLast, ih]; simp
theorem drop_cons_among (s : ByteArray) (n : Int) (k : Nat) (h : k < s.size) : among n ((tl s).drop k) = (((s[k].toNat : Int) == n) || among n ((tl s).drop (k + 1))) := by
  rw [tl_drop s k h]; simp [among]
set_option maxHeartbeats 400000 in
theorem acutLast_any (s : ByteArray) (n : Int) (w : World) (hs : s.size ≤ maxLen) :
    Calls Tryz.prog 192 #[.string s, .int .u8 n] w fun e w' => CutIs (bcutLast n (tl s)) e ∧ Nx w w' := by
  unfold maxLen at hs
  go_enter Tryz.func192, Tryz.ntmps192
  go_wp2
  go_loop [7] (fun i => ∃ k : Nat, k ≤ s.size ∧ i = .int .i64 ((k : Int) - 1) ∧ among n ((tl s).drop k) = false) (fun i => (intOf i + 1).toNat)
  case atStart => exact ⟨s.size, Nat.le_refl _, by go_num, by rw [tl_drop_all s _ (Nat.le_refl _)]; rfl⟩
  case round =>
    obtain ⟨k, hk, rfl, ha⟩ := hrel
    have HA := hide ha
    clear ha
    cases k with
    | zero =>
      have HR := hide (bcutLast_none n (tl s) HA.out)
      go_wp2
      go_ret3
      exact ⟨⟨_, _, by rw [HR.out]; rfl, by rw [HR.out]; rfl, by rw [HR.out]⟩, Nx.rfl⟩
    | succ k =>
      have hlt : k < s.size := by omega
      have hb := bb s[k]
      have ek : ((k + 1 : Nat) : Int) - 1 = (k : Int) := by omega
      rw [ek]
      clear ek
      by_cases hc : ((s[k].toNat : Int) == n) = true
      · have HR := hide (show bcutLast n (tl s) = ((tl s).take k, (tl s).drop (k + 1), true) by
          conv => lhs; rw [← List.take_append_drop k (tl s), tl_drop s k hlt]
          exact bcutLast_hit n _ _ _ hc HA.out)
        go_wp2
        go_region
        all_goals go_wp2
        all_goals go_ret3
        all_goals exact ⟨⟨_, _, by rw [HR.out]; rfl, by rw [HR.out, tl_to], by rw [HR.out, tl_from]⟩, Nx.rfl.drew⟩
      · simp only [Bool.not_eq_true] at hc
        have HD := hide (drop_cons_among s n k hlt)
        go_wp2
        go_round
        case rel => exact ⟨k, by omega, by go_num, by rw [HD.out, hc, Bool.false_or]; exact HA.out⟩
        case measure => simp [intOf]

/-- ascii.Letter -/
theorem letter_any (n : Int) (w : World) :
    Calls Tryz.prog 184 #[.int .u8 n] w fun e w' => e = .returned (.bool (alpha n)) ∧ w = w' := by
  go_enter Tryz.func184, Tryz.ntmps184
  go_wp2
  all_goals go_ret
  all_goals exact ⟨ret_bool (by rw [Bool.eq_iff_iff]; simp [alpha]; omega), rfl⟩
/-- schemes.Slash -/
def slashB (special : Bool) (n : Int) : Bool := n == 47 || (special && n == 92)
theorem slash_any (n : Int) (sp : Bool) (w : World) :
    Calls Tryz.prog 188 #[.int .u8 n, .bool sp] w fun e w' => e = .returned (.bool (slashB sp n)) ∧ w = w' := by
  by_cases h : n = 47
  · subst h
    go_enter Tryz.func188, Tryz.ntmps188
    go_wp2
    all_goals go_ret
    all_goals exact ⟨ret_bool (by simp [slashB]), rfl⟩
  · have h' : (n == 47) = false := by simp [h]
    have HE := hide (show slashB sp n = (sp && n == 92) by simp [slashB, h])
    clear h
    cases sp
    · go_enter Tryz.func188, Tryz.ntmps188
      go_wp2
      all_goals go_ret
      all_goals exact ⟨ret_bool (by rw [HE.out]; rfl), rfl⟩
    · go_enter Tryz.func188, Tryz.ntmps188
      go_wp2
      all_goals go_ret
      all_goals exact ⟨ret_bool (by rw [HE.out]; rfl), rfl⟩
def slB (sp : Bool) (b : UInt8) : Bool := slashB sp (b.toNat : Int)
set_option maxHeartbeats 400000 in
theorem cutSlash_any (s : ByteArray) (sp : Bool) (w : World) (hs : s.size ≤ maxLen) :
    Calls Tryz.prog 191 #[.string s, .bool sp] w fun e w' => CutIs (bcut (slB sp) (tl s)) e ∧ Nx w w' := by
  unfold maxLen at hs
  go_enter Tryz.func191, Tryz.ntmps191
  go_wp2
  go_loop [7] (fun i => ∃ k : Nat, k ≤ s.size ∧ i = .int .i64 k ∧ BCutTo (slB sp) (tl s) k) (fun i => s.size - (intOf i).toNat)
  case atStart => exact ⟨0, Nat.zero_le _, rfl, bcutTo_zero _ _⟩
  case round =>
    obtain ⟨k, hk, rfl, ha⟩ := hrel
    have HA := hide ha
    clear ha
    by_cases hlt : k < s.size
    · have hb := bb s[k]
      go_wp2_with (go_at_call 188; refine (slash_any _ _ _).mono ?_; rintro e w' ⟨rfl, rfl⟩)
      · have HR := hide (bcutTo_hit hlt HA.out (by assumption))
        go_region
        all_goals go_wp2
        all_goals go_ret3
        all_goals exact ⟨⟨_, _, by rw [HR.out]; rfl, by rw [HR.out, tl_to], by rw [HR.out, tl_from]⟩, Nx.rfl.drew⟩
      · go_round
        case rel => exact ⟨k + 1, by omega, by go_num, bcutTo_step hlt HA.out (by assumption)⟩
        case measure => simp [intOf]; omega
    · have HR := hide (bcutTo_end (Nat.le_of_not_lt hlt) HA.out)
      go_wp2
      go_ret3
      exact ⟨⟨_, _, by rw [HR.out]; rfl, by rw [HR.out], by rw [HR.out]; rfl⟩, Nx.rfl⟩
/-- schemes.CountSlashes -/
def countSl (sp : Bool) : List UInt8 → Nat
  | [] => 0
  | c :: r => if slB sp c then countSl sp r + 1 else 0
theorem countSl_le (sp : Bool) (l : List UInt8) : countSl sp l ≤ l.length := by
  induction l with
  | nil => simp [countSl]
  | cons c r ih => rw [countSl]; split <;> simp; omega
set_option maxHeartbeats 400000 in
theorem countSlashes_any (s : ByteArray) (sp : Bool) (w : World) (hs : s.size ≤ maxLen) :
    Calls Tryz.prog 154 #[.string s, .bool sp] w fun e w' => e = .returned (.int .i64 (countSl sp (tl s))) ∧ w = w' := by
  unfold maxLen at hs
  go_enter Tryz.func154, Tryz.ntmps154
  go_wp2
  go_loop [5] (fun i => ∃ k : Nat, k ≤ s.size ∧ i = .int .i64 k ∧ countSl sp (tl s) = k + countSl sp ((tl s).drop k)) (fun i => s.size - (intOf i).toNat)
  case atStart => exact ⟨0, Nat.zero_le _, rfl, by simp⟩
  case round =>
    obtain ⟨k, hk, rfl, ha⟩ := hrel
    have HA := hide ha
    clear ha
    by_cases hlt : k < s.size
    · have hb := bb s[k]
      cases hsl : slashB sp (s[k].toNat : Int)
      · have HR := hide (show countSl sp (tl s) = k by rw [HA.out, tl_drop s k hlt, countSl, if_neg (by simp [slB, hsl])]; rfl)
        go_wp2_with (go_at_call 188; refine (slash_any _ _ _).mono ?_; rintro e w' ⟨rfl, rfl⟩)
        go_ret
        exact ⟨ret_int (by rw [HR.out]), rfl⟩
      · have HR := hide (show countSl sp (tl s) = (k + 1) + countSl sp ((tl s).drop (k + 1)) by rw [HA.out, tl_drop s k hlt, countSl, if_pos (by simp [slB, hsl])]; omega)
        go_wp2_with (go_at_call 188; refine (slash_any _ _ _).mono ?_; rintro e w' ⟨rfl, rfl⟩)
        go_round
        case rel => exact ⟨k + 1, by omega, by go_num, HR.out⟩
        case measure => simp [intOf]; omega
    · have HR := hide (show countSl sp (tl s) = k by rw [HA.out, tl_drop_all s k (by omega)]; rfl)
      go_wp2
      go_ret
      exact ⟨ret_int (by rw [HR.out]), rfl⟩
end Go.Proofs.YtchkhibgbnhjpaaGreatDoor

namespace Go.Proofs.YtchkhibgbnhjpaaGreatDoor
open Go.RowKit

/-- urlsref.lower -/
def lowB (b : UInt8) : UInt8 := if 65 ≤ b.toNat ∧ b.toNat ≤ 90 then b + 32 else b
def lower (l : List UInt8) : List UInt8 := l.map lowB

theorem lowB_hit {b : UInt8} (h0 : 65 ≤ b.toNat) (h1 : b.toNat ≤ 90) : ((lowB b).toNat : Int) = (b.toNat : Int) + 32 := by
  unfold lowB; rw [if_pos ⟨h0, h1⟩, UInt8.toNat_add]; show (((b.toNat + 32) % 256 : Nat) : Int) = _; omega
theorem lowB_miss {b : UInt8} (h : ¬ (65 ≤ b.toNat ∧ b.toNat ≤ 90)) : lowB b = b := by unfold lowB; rw [if_neg h]
/-- The row at block b holds the bytes l from its head on, and may be written there. -/
def RowB (w : World) (b : Nat) (l : List UInt8) : Prop :=
  ∃ (cs : Array Value) (n : Nat), w.heap[b]? = some (Obj.cells cs 5 (n, n + 1)) ∧ l.length ≤ n ∧ ∀ i, (h : i < l.length) → cs[i]? = some (.int .u8 (l[i].toNat : Int))
theorem RowB.cell {w : World} {b : Nat} {l : List UInt8} (h : RowB w b l) {i : Nat} (hi : i < l.length) : w.cell? ⟨b, i, none⟩ = some (.int .u8 (l[i].toNat : Int)) := by
  obtain ⟨cs, n, hh, _, hc⟩ := h
  simpa [World.cell?, hh] using hc i hi
theorem RowB.free {w : World} {b : Nat} {l : List UInt8} (h : RowB w b l) {i : Nat} (hi : i < l.length) : w.frozen? ⟨b, i, none⟩ = false := by
  obtain ⟨cs, n, hh, hn, hc⟩ := h
  simp [World.frozen?, hh]
  omega
theorem low_get (s : ByteArray) (k : Nat) (h : k < s.size) : ∃ hl : k < (lower ((tl s).take k) ++ (tl s).drop k).length, (lower ((tl s).take k) ++ (tl s).drop k)[k] = s[k] := by
  have hlen : (lower ((tl s).take k)).length = k := by simp [lower, tl_length]; omega
  refine ⟨by rw [List.length_append, hlen, List.length_drop, tl_length]; omega, ?_⟩
  rw [List.getElem_append_right (by omega)]
  simp only [hlen, Nat.sub_self, List.getElem_drop, Nat.add_zero]
  exact tl_get s k h
theorem low_step (s : ByteArray) (k : Nat) (h : k < s.size) : lower ((tl s).take (k + 1)) ++ (tl s).drop (k + 1) = (lower ((tl s).take k) ++ (tl s).drop k).set k (lowB s[k]) := by
  have hlen : (lower ((tl s).take k)).length = k := by simp [lower, tl_length]; omega
  rw [tl_drop s k h, tl_take_succ s k h, List.set_append, if_neg (by omega), hlen, Nat.sub_self, List.set_cons_zero]
  simp [lower]
theorem low_keep (s : ByteArray) (k : Nat) (h : k < s.size) (hb : lowB s[k] = s[k]) : lower ((tl s).take (k + 1)) ++ (tl s).drop (k + 1) = lower ((tl s).take k) ++ (tl s).drop k := by
  rw [tl_drop s k h, tl_take_succ s k h]
  simp [lower, hb]
theorem RowB.conv {w : World} {b cap : Nat} {l : List UInt8} (h : RowB w b l) : (convert 109 9 (.slice (some ⟨b, 0, none⟩) l.length cap)).run Tryz.prog w = .ok (.string ⟨l.toArray⟩) w := by
  refine run_convert_bytes_back w _ _ _ ⟨b, 0, none⟩ cap l Tryz.underlying109 Tryz.underlying5 Tryz.underlying9 fun j hj => ?_
  rw [Addr.add_lit, Nat.zero_add]
  exact h.cell hj
theorem rowB_start (w : World) (s : ByteArray) (cap : Nat) :
    RowB (w.alloc (.cells (bytesRow s cap) 5 ((bytesRow s cap).size, (bytesRow s cap).size + 1))) w.heap.size (tl s) := by
  refine ⟨_, _, heap_alloc_new w _, ?_, fun i hi => ?_⟩
  · rw [tl_length]; unfold bytesRow; rw [Array.size_append, Array.size_map]; exact Nat.le_add_right _ _
  · have hi' : i < s.data.size := by rw [tl_length] at hi; exact hi
    unfold bytesRow tl
    rw [Array.getElem?_append_left (by simpa using hi'), Array.getElem?_map, Array.getElem?_eq_getElem hi']
    rfl
theorem RowB.set {w : World} {b : Nat} {l : List UInt8} (h : RowB w b l) {i : Nat} (hi : i < l.length) (x : UInt8) : RowB (w.setCell ⟨b, i, none⟩ (.int .u8 (x.toNat : Int))) b (l.set i x) := by
  obtain ⟨cs, n, hh, hn, hc⟩ := h
  refine ⟨cs.setIfInBounds i (.int .u8 (x.toNat : Int)), n, ?_, by simpa using hn, fun j hj => ?_⟩
  · simp only [World.setCell, Array.getElem?_modify, if_pos, hh]
    rfl
  · have hj' : j < l.length := by simpa using hj
    rw [Array.getElem?_setIfInBounds]
    have hi' : i < cs.size := (Array.getElem?_eq_some_iff.1 (hc i hi)).1
    by_cases e : i = j
    · subst e
      simp [hi']
    · rw [if_neg e, hc j hj', List.getElem_set_ne e]
set_option maxHeartbeats 400000 in
theorem lower_any (s : ByteArray) (w : World) (hs : s.size ≤ 1000000) :
    Calls Tryz.prog 140 #[.string s] w fun e w' => ∃ r : ByteArray, e = .returned (.string r) ∧ tl r = lower (tl s) ∧ Nx w w' := by
  have hcv := fun wx => run_bytes_of_string (P := Tryz.prog) wx 9 109 5 s Tryz.underlying9 Tryz.underlying109 Tryz.underlying5
  go_enter Tryz.func140, Tryz.ntmps140
  go_wp2
  go_loopw [4] (fun i wr => ∃ k : Nat, k ≤ s.size ∧ i = .int .i64 k ∧ RowB wr w.heap.size (lower ((tl s).take k) ++ (tl s).drop k) ∧ Nx w wr) (fun i _ => s.size - (intOf i).toNat)
  case atStart => exact ⟨0, Nat.zero_le _, rfl, rowB_start w s _, (Nx.rfl.alloc _).drew⟩
  case round =>
    clear hcv
    obtain ⟨k, hk, rfl, hrow, hnx⟩ := hrel
    by_cases hlt : k < s.size
    · obtain ⟨hl, hg⟩ := low_get s k hlt
      have hc := hrow.cell hl
      rw [hg] at hc
      have hf := hrow.free hl
      have hb := bb s[k]
      have HROW := hide hrow
      have HN := hide hnx
      have HL := hide hl
      clear hrow hnx hg hl
      by_cases hit : 65 ≤ s[k].toNat ∧ s[k].toNat ≤ 90
      · obtain ⟨hi0, hi1⟩ := hit
        have HLB := hide (lowB_hit hi0 hi1)
        have HST := hide (low_step s k hlt)
        go_wp2
        go_roundw
        case rel => exact ⟨k + 1, by omega, by go_num, by rw [HST.out, ← HLB.out]; exact HROW.out.set HL.out _, HN.out.setCell (Nat.le_refl _) _⟩
        case measure => simp [intOf]; omega
      · have HST := hide (low_keep s k hlt (lowB_miss hit))
        by_cases hi0 : 65 ≤ s[k].toNat
        · have hi1 : 90 < s[k].toNat := by omega
          clear hit
          go_wp2
          go_roundw
          case rel => exact ⟨k + 1, by omega, by go_num, by rw [HST.out]; exact HROW.out, HN.out⟩
          case measure => simp [intOf]; omega
        · clear hit
          go_wp2
          go_roundw
          case rel => exact ⟨k + 1, by omega, by go_num, by rw [HST.out]; exact HROW.out, HN.out⟩
          case measure => simp [intOf]; omega
    · rw [tl_take_all s k (by omega), tl_drop_all s k (by omega), List.append_nil] at hrow
      have hcv := hrow.conv (cap := grownCap w s.size 0 5)
      rw [show (lower (tl s)).length = s.size by simp [lower, tl_length]] at hcv
      clear hrow
      go_wp2
      go_ret
      exact ⟨_, rfl, tl_mk _, hnx⟩
end Go.Proofs.YtchkhibgbnhjpaaGreatDoor

namespace Go.Proofs.YtchkhibgbnhjpaaGreatDoor
open Go.RowKit

theorem toB_byte (b : UInt8) : UInt8.ofNat ((b.toNat : Int)).toNat = b := by
  rw [Int.toNat_natCast]; exact UInt8.ofNat_toNat
theorem toB_low {b : UInt8} (h0 : 65 ≤ b.toNat) (h1 : b.toNat ≤ 90) : UInt8.ofNat ((b.toNat : Int) + 32).toNat = lowB b := by
  apply UInt8.toNat_inj.1
  have := lowB_hit h0 h1
  rw [UInt8.toNat_ofNat_of_lt' (by show ((b.toNat : Int) + 32).toNat < 256; omega)]
  omega
theorem own_start (w : World) : OwnB (w.alloc (.cells #[] 5)) w.heap.size (.slice (some ⟨w.heap.size, 0, none⟩) 0 0) [] :=
  World.ownsRow_made w #[] 0 (Nat.le_refl _) (Nat.zero_le _) rfl
theorem lower_snoc (l : List UInt8) (b : UInt8) : lower (l ++ [b]) = lower l ++ [lowB b] := by simp [lower]

/- ascii.Lower -/
set_option maxHeartbeats 400000 in
theorem alower_any (s : ByteArray) (w : World) (hs : s.size ≤ 1000000) :
    Calls Tryz.prog 150 #[.string s] w fun e w' => ∃ r : ByteArray, e = .returned (.string r) ∧ tl r = lower (tl s) ∧ Nx w w' := by
  go_enter Tryz.func150, Tryz.ntmps150
  go_wp2
  go_loopw [3, 4] (fun o i wr => ∃ k : Nat, k ≤ s.size ∧ i = .int .i64 k ∧ OwnB wr w.heap.size o (lower ((tl s).take k)) ∧ Nx w wr) (fun _ i _ => s.size - (intOf i).toNat)
  case atStart => exact ⟨0, Nat.zero_le _, rfl, own_start w, Nx.rfl.alloc _⟩
  case round =>
    obtain ⟨k, hk, rfl, hown, hnx⟩ := hrel
    by_cases hlt : k < s.size
    · have hb := bb s[k]
      have HTK := hide ((congrArg lower (tl_take_succ s k hlt)).trans (lower_snoc _ _))
      have hz := hnx.size
      have hsz : (lower ((tl s).take k)).length < 1099511627776 := by simp only [lower, List.length_map, List.length_take]; omega
      have HO := hide hown
      have HN := hide hnx
      clear hown hnx
      by_cases hit : 65 ≤ s[k].toNat ∧ s[k].toNat ≤ 90
      · obtain ⟨hi0, hi1⟩ := hit
        have HT := hide (toB_low hi0 hi1)
        go_wp2_with (at_builtin; go_must (refine app_byte1 wr ((s[k].toNat : Int) + 32) rfl _ _ rfl w.heap.size _ _ rfl HO.out rfl (by omega) (by omega) hsz hz ?_; intro v' w1 ho1 hb1 hk1; have HO1 := hide ho1; clear ho1))
        go_roundw
        case rel => exact ⟨k + 1, by omega, by go_num, by rw [HTK.out, ← HT.out]; exact HO1.out, HN.out.trans hb1⟩
        case measure => simp [intOf]; omega
      · have HT := hide (lowB_miss hit)
        have HT2 := hide (toB_byte s[k])
        by_cases hi0 : 65 ≤ s[k].toNat
        · have hi1 : 90 < s[k].toNat := by omega
          clear hit
          go_wp2_with (at_builtin; go_must (refine app_byte1 wr (s[k].toNat : Int) rfl _ _ rfl w.heap.size _ _ rfl HO.out rfl (by omega) (by omega) hsz hz ?_; intro v' w1 ho1 hb1 hk1; have HO1 := hide ho1; clear ho1))
          go_roundw
          case rel => exact ⟨k + 1, by omega, by go_num, by rw [HTK.out, HT.out]; have h := HO1.out; rw [HT2.out] at h; exact h, HN.out.trans hb1⟩
          case measure => simp [intOf]; omega
        · clear hit
          go_wp2_with (at_builtin; go_must (refine app_byte1 wr (s[k].toNat : Int) rfl _ _ rfl w.heap.size _ _ rfl HO.out rfl (by omega) (by omega) hsz hz ?_; intro v' w1 ho1 hb1 hk1; have HO1 := hide ho1; clear ho1))
          go_roundw
          case rel => exact ⟨k + 1, by omega, by go_num, by rw [HTK.out, HT.out]; have h := HO1.out; rw [HT2.out] at h; exact h, HN.out.trans hb1⟩
          case measure => simp [intOf]; omega
    · rw [tl_take_all s k (by omega)] at hown
      have hcv := conv_own hown
      clear hown
      go_wp2
      go_ret
      exact ⟨_, rfl, tl_mk _, hnx⟩

/- ascii.Digit -/
def adigit (n base : Int) : Int × Bool :=
  let d := if 48 ≤ n ∧ n ≤ 57 then n - 48 else if 97 ≤ n ∧ n ≤ 102 then n - 97 + 10 else if 65 ≤ n ∧ n ≤ 70 then n - 65 + 10 else base
  if base ≤ d then (0, false) else (d, true)
theorem adigit_any (n base : Int) (w : World) (h0 : 0 ≤ n) (h1 : n ≤ 255) :
    Calls Tryz.prog 239 #[.int .u8 n, .int .i64 base] w fun e w' => e = .returned (.tuple #[.int .i64 (adigit n base).1, .bool (adigit n base).2]) ∧ w = w' := by
  by_cases c1 : 48 ≤ n ∧ n ≤ 57
  · obtain ⟨c1, c2⟩ := c1
    by_cases c3 : base ≤ n - 48
    · have HE := hide (show adigit n base = (0, false) by simp [adigit, c1, c2, c3])
      go_enter Tryz.func239, Tryz.ntmps239
      go_wp2
      go_ret2
      exact ⟨by rw [HE.out]; rfl, rfl⟩
    · have HE := hide (show adigit n base = (n - 48, true) by simp [adigit, c1, c2, c3])
      go_enter Tryz.func239, Tryz.ntmps239
      go_wp2
      go_ret2
      exact ⟨by rw [HE.out]; rfl, rfl⟩
  by_cases d1 : 97 ≤ n ∧ n ≤ 102
  · obtain ⟨d1, d2⟩ := d1
    have e1 : ¬ n ≤ 57 := by omega
    by_cases c3 : base ≤ n - 97 + 10
    · have HE := hide (show adigit n base = (0, false) by simp [adigit, d1, d2, c3, e1])
      clear c1
      go_enter Tryz.func239, Tryz.ntmps239
      go_wp2
      go_ret2
      exact ⟨by rw [HE.out]; rfl, rfl⟩
    · have HE := hide (show adigit n base = (n - 97 + 10, true) by simp [adigit, d1, d2, c3, e1])
      clear c1
      go_enter Tryz.func239, Tryz.ntmps239
      go_wp2
      go_ret2
      exact ⟨by rw [HE.out]; rfl, rfl⟩
  by_cases f1 : 65 ≤ n ∧ n ≤ 70
  · obtain ⟨f1, f2⟩ := f1
    have e1 : ¬ n ≤ 57 := by omega
    have e2 : ¬ 97 ≤ n := by omega
    by_cases c3 : base ≤ n - 65 + 10
    · have HE := hide (show adigit n base = (0, false) by simp [adigit, f1, f2, c3, e1, e2])
      clear c1 d1
      go_enter Tryz.func239, Tryz.ntmps239
      go_wp2
      go_ret2
      exact ⟨by rw [HE.out]; rfl, rfl⟩
    · have HE := hide (show adigit n base = (n - 65 + 10, true) by simp [adigit, f1, f2, c3, e1, e2])
      clear c1 d1
      go_enter Tryz.func239, Tryz.ntmps239
      go_wp2
      go_ret2
      exact ⟨by rw [HE.out]; rfl, rfl⟩
  · have HE := hide (show adigit n base = (0, false) by simp [adigit, c1, d1, f1])
    by_cases g1 : n < 48
    · clear c1 d1 f1
      go_enter Tryz.func239, Tryz.ntmps239
      go_wp2
      go_ret2
      exact ⟨by rw [HE.out]; rfl, rfl⟩
    by_cases g2 : n < 65
    · have g3 : 57 < n := by omega
      clear c1 d1 f1
      go_enter Tryz.func239, Tryz.ntmps239
      go_wp2
      go_ret2
      exact ⟨by rw [HE.out]; rfl, rfl⟩
    by_cases g4 : n < 97
    · have g3 : 70 < n := by omega
      clear c1 d1 f1
      go_enter Tryz.func239, Tryz.ntmps239
      go_wp2
      go_ret2
      exact ⟨by rw [HE.out]; rfl, rfl⟩
    · have g3 : 102 < n := by omega
      clear c1 d1 f1
      go_enter Tryz.func239, Tryz.ntmps239
      go_wp2
      go_ret2
      exact ⟨by rw [HE.out]; rfl, rfl⟩
end Go.Proofs.YtchkhibgbnhjpaaGreatDoor

namespace Go.Proofs.YtchkhibgbnhjpaaGreatDoor
open Go.RowKit

theorem str_empty {s : ByteArray} (h : s.size = 0) : s.toList.isEmpty = true := by rw [ByteArray.toList_eq]; show (tl s).isEmpty = true; rw [tl_empty h]; rfl
theorem str_nonempty {s : ByteArray} (h : ¬ s.size = 0) : s.toList.isEmpty = false := by
  rw [ByteArray.toList_eq]; show (tl s).isEmpty = false
  have := tl_length s
  cases e : tl s with
  | nil => rw [e] at this; simp at this; omega
  | cons => rfl
theorem adigit_rng (n base : Int) : 0 ≤ (adigit n base).1 ∧ ((adigit n base).2 = true → (adigit n base).1 < base) := by
  unfold adigit
  simp only
  split
  · split
    · simp
    · simp only [true_implies]; omega
  · split
    · split
      · simp
      · simp only [true_implies]; omega
    · split
      · split
        · simp
        · simp only [true_implies]; omega
      · rw [if_pos (Int.le_refl _)]; simp
/- ascii.Number -/
def numGo (base most : Int) : Int → List UInt8 → Option Int
  | n, [] => some n
  | n, c :: r => if (adigit c.toNat base).2 then numGo base most (if n ≤ most then n * base + (adigit c.toNat base).1 else n) r else none
def number (l : List UInt8) (base most : Int) : Int × Bool :=
  if l = [] then (0, false) else
  match numGo base most 0 l with
  | none => (0, false)
  | some n => if most < n then (most + 1, true) else (n, true)

set_option maxHeartbeats 800000 in
theorem number8_any (s : ByteArray) (most : Int) (w : World) (hs : s.size ≤ 1000000) (hm0 : 0 ≤ most) (hm1 : most ≤ 4294967295) :
    Calls Tryz.prog 233 #[.string s, .int .i64 8, .int .i64 most] w fun e w' => e = .returned (.tuple #[.int .i64 (number (tl s) 8 most).1, .bool (number (tl s) 8 most).2]) ∧ w = w' := by
  by_cases he : s.size = 0
  · have HE := hide (show number (tl s) 8 most = (0, false) by rw [tl_empty he]; rfl)
    have he' : s.toList.isEmpty = true := str_empty he
    clear he
    go_enter Tryz.func233, Tryz.ntmps233
    go_wp2
    go_ret2
    exact ⟨by rw [HE.out]; rfl, rfl⟩
  have he' : s.toList.isEmpty = false := str_nonempty he
  have HNE := hide (show ¬ tl s = [] by intro h; have := tl_length s; rw [h] at this; simp at this; omega)
  go_enter Tryz.func233, Tryz.ntmps233
  go_wp2
  go_loop [8, 9] (fun x i => ∃ (k : Nat) (n : Int), k ≤ s.size ∧ i = .int .i64 k ∧ x = .int .i64 n ∧ 0 ≤ n ∧ n ≤ 4294967295 * 8 + 8 ∧ numGo 8 most 0 (tl s) = numGo 8 most n ((tl s).drop k)) (fun _ i => s.size - (intOf i).toNat)
  case atStart => exact ⟨0, 0, Nat.zero_le _, rfl, rfl, by omega, by omega, rfl⟩
  case round =>
    obtain ⟨k, n, hk, rfl, rfl, hn0, hn1, hE⟩ := hrel
    have HE := hide hE
    clear hE
    by_cases hlt : k < s.size
    · have hb := bb s[k]
      have hd := adigit_rng (s[k].toNat : Int) 8
      have HS := hide (show numGo 8 most n ((tl s).drop k) = if (adigit (s[k].toNat : Int) 8).2 then numGo 8 most (if n ≤ most then n * 8 + (adigit (s[k].toNat : Int) 8).1 else n) ((tl s).drop (k + 1)) else none by rw [tl_drop s k hlt, numGo])
      generalize hq : adigit (s[k].toNat : Int) 8 = q at *
      have HQ := hide hq
      clear hq
      obtain ⟨d, ok⟩ := q
      simp only at hd HS
      cases ok
      · have HF := hide (show number (tl s) 8 most = (0, false) by unfold number; rw [if_neg HNE.out, HE.out, HS.out]; rfl)
        go_wp2_with (go_at_call 239; refine (adigit_any _ _ _ (by omega) (by omega)).mono ?_; rintro e w' ⟨rfl, rfl⟩; rw [HQ.out])
        go_ret2
        exact ⟨by rw [HF.out]; rfl, rfl⟩
      · obtain ⟨hd0, hd1⟩ := hd
        have hd2 := hd1 rfl
        clear hd1
        by_cases hnm : n ≤ most
        · have HF := hide (show numGo 8 most 0 (tl s) = numGo 8 most (n * 8 + d) ((tl s).drop (k + 1)) by rw [HE.out, HS.out, if_pos rfl, if_pos hnm])
          go_wp2_with (go_at_call 239; refine (adigit_any _ _ _ (by omega) (by omega)).mono ?_; rintro e w' ⟨rfl, rfl⟩; rw [HQ.out])
          go_round
          case rel => exact ⟨k + 1, n * 8 + d, by omega, by go_num, rfl, by omega, by omega, HF.out⟩
          case measure => simp [intOf]; omega
        · have HF := hide (show numGo 8 most 0 (tl s) = numGo 8 most n ((tl s).drop (k + 1)) by rw [HE.out, HS.out, if_pos rfl, if_neg hnm])
          go_wp2_with (go_at_call 239; refine (adigit_any _ _ _ (by omega) (by omega)).mono ?_; rintro e w' ⟨rfl, rfl⟩; rw [HQ.out])
          go_round
          case rel => exact ⟨k + 1, n, by omega, by go_num, rfl, by omega, by omega, HF.out⟩
          case measure => simp [intOf]; omega
    · have HF := hide (show number (tl s) 8 most = if most < n then (most + 1, true) else (n, true) by unfold number; rw [if_neg HNE.out, HE.out, tl_drop_all s k (by omega), numGo])
      by_cases hnm : most < n
      · go_wp2
        go_ret2
        exact ⟨by rw [HF.out, if_pos hnm]; rfl, rfl⟩
      · have HF2 := hide (HF.out.trans (if_neg hnm))
        go_wp2
        go_ret2
        exact ⟨by rw [HF2.out]; rfl, rfl⟩

set_option maxHeartbeats 800000 in
theorem number10_any (s : ByteArray) (most : Int) (w : World) (hs : s.size ≤ 1000000) (hm0 : 0 ≤ most) (hm1 : most ≤ 4294967295) :
    Calls Tryz.prog 233 #[.string s, .int .i64 10, .int .i64 most] w fun e w' => e = .returned (.tuple #[.int .i64 (number (tl s) 10 most).1, .bool (number (tl s) 10 most).2]) ∧ w = w' := by
  by_cases he : s.size = 0
  · have HE := hide (show number (tl s) 10 most = (0, false) by rw [tl_empty he]; rfl)
    have he' : s.toList.isEmpty = true := str_empty he
    clear he
    go_enter Tryz.func233, Tryz.ntmps233
    go_wp2
    go_ret2
    exact ⟨by rw [HE.out]; rfl, rfl⟩
  have he' : s.toList.isEmpty = false := str_nonempty he
  have HNE := hide (show ¬ tl s = [] by intro h; have := tl_length s; rw [h] at this; simp at this; omega)
  go_enter Tryz.func233, Tryz.ntmps233
  go_wp2
  go_loop [8, 9] (fun x i => ∃ (k : Nat) (n : Int), k ≤ s.size ∧ i = .int .i64 k ∧ x = .int .i64 n ∧ 0 ≤ n ∧ n ≤ 4294967295 * 10 + 10 ∧ numGo 10 most 0 (tl s) = numGo 10 most n ((tl s).drop k)) (fun _ i => s.size - (intOf i).toNat)
  case atStart => exact ⟨0, 0, Nat.zero_le _, rfl, rfl, by omega, by omega, rfl⟩
  case round =>
    obtain ⟨k, n, hk, rfl, rfl, hn0, hn1, hE⟩ := hrel
    have HE := hide hE
    clear hE
    by_cases hlt : k < s.size
    · have hb := bb s[k]
      have hd := adigit_rng (s[k].toNat : Int) 10
      have HS := hide (show numGo 10 most n ((tl s).drop k) = if (adigit (s[k].toNat : Int) 10).2 then numGo 10 most (if n ≤ most then n * 10 + (adigit (s[k].toNat : Int) 10).1 else n) ((tl s).drop (k + 1)) else none by rw [tl_drop s k hlt, numGo])
      generalize hq : adigit (s[k].toNat : Int) 10 = q at *
      have HQ := hide hq
      clear hq
      obtain ⟨d, ok⟩ := q
      simp only at hd HS
      cases ok
      · have HF := hide (show number (tl s) 10 most = (0, false) by unfold number; rw [if_neg HNE.out, HE.out, HS.out]; rfl)
        go_wp2_with (go_at_call 239; refine (adigit_any _ _ _ (by omega) (by omega)).mono ?_; rintro e w' ⟨rfl, rfl⟩; rw [HQ.out])
        go_ret2
        exact ⟨by rw [HF.out]; rfl, rfl⟩
      · obtain ⟨hd0, hd1⟩ := hd
        have hd2 := hd1 rfl
        clear hd1
        by_cases hnm : n ≤ most
        · have HF := hide (show numGo 10 most 0 (tl s) = numGo 10 most (n * 10 + d) ((tl s).drop (k + 1)) by rw [HE.out, HS.out, if_pos rfl, if_pos hnm])
          go_wp2_with (go_at_call 239; refine (adigit_any _ _ _ (by omega) (by omega)).mono ?_; rintro e w' ⟨rfl, rfl⟩; rw [HQ.out])
          go_round
          case rel => exact ⟨k + 1, n * 10 + d, by omega, by go_num, rfl, by omega, by omega, HF.out⟩
          case measure => simp [intOf]; omega
        · have HF := hide (show numGo 10 most 0 (tl s) = numGo 10 most n ((tl s).drop (k + 1)) by rw [HE.out, HS.out, if_pos rfl, if_neg hnm])
          go_wp2_with (go_at_call 239; refine (adigit_any _ _ _ (by omega) (by omega)).mono ?_; rintro e w' ⟨rfl, rfl⟩; rw [HQ.out])
          go_round
          case rel => exact ⟨k + 1, n, by omega, by go_num, rfl, by omega, by omega, HF.out⟩
          case measure => simp [intOf]; omega
    · have HF := hide (show number (tl s) 10 most = if most < n then (most + 1, true) else (n, true) by unfold number; rw [if_neg HNE.out, HE.out, tl_drop_all s k (by omega), numGo])
      by_cases hnm : most < n
      · go_wp2
        go_ret2
        exact ⟨by rw [HF.out, if_pos hnm]; rfl, rfl⟩
      · have HF2 := hide (HF.out.trans (if_neg hnm))
        go_wp2
        go_ret2
        exact ⟨by rw [HF2.out]; rfl, rfl⟩

set_option maxHeartbeats 800000 in
theorem number16_any (s : ByteArray) (most : Int) (w : World) (hs : s.size ≤ 1000000) (hm0 : 0 ≤ most) (hm1 : most ≤ 4294967295) :
    Calls Tryz.prog 233 #[.string s, .int .i64 16, .int .i64 most] w fun e w' => e = .returned (.tuple #[.int .i64 (number (tl s) 16 most).1, .bool (number (tl s) 16 most).2]) ∧ w = w' := by
  by_cases he : s.size = 0
  · have HE := hide (show number (tl s) 16 most = (0, false) by rw [tl_empty he]; rfl)
    have he' : s.toList.isEmpty = true := str_empty he
    clear he
    go_enter Tryz.func233, Tryz.ntmps233
    go_wp2
    go_ret2
    exact ⟨by rw [HE.out]; rfl, rfl⟩
  have he' : s.toList.isEmpty = false := str_nonempty he
  have HNE := hide (show ¬ tl s = [] by intro h; have := tl_length s; rw [h] at this; simp at this; omega)
  go_enter Tryz.func233, Tryz.ntmps233
  go_wp2
  go_loop [8, 9] (fun x i => ∃ (k : Nat) (n : Int), k ≤ s.size ∧ i = .int .i64 k ∧ x = .int .i64 n ∧ 0 ≤ n ∧ n ≤ 4294967295 * 16 + 16 ∧ numGo 16 most 0 (tl s) = numGo 16 most n ((tl s).drop k)) (fun _ i => s.size - (intOf i).toNat)
  case atStart => exact ⟨0, 0, Nat.zero_le _, rfl, rfl, by omega, by omega, rfl⟩
  case round =>
    obtain ⟨k, n, hk, rfl, rfl, hn0, hn1, hE⟩ := hrel
    have HE := hide hE
    clear hE
    by_cases hlt : k < s.size
    · have hb := bb s[k]
      have hd := adigit_rng (s[k].toNat : Int) 16
      have HS := hide (show numGo 16 most n ((tl s).drop k) = if (adigit (s[k].toNat : Int) 16).2 then numGo 16 most (if n ≤ most then n * 16 + (adigit (s[k].toNat : Int) 16).1 else n) ((tl s).drop (k + 1)) else none by rw [tl_drop s k hlt, numGo])
      generalize hq : adigit (s[k].toNat : Int) 16 = q at *
      have HQ := hide hq
      clear hq
      obtain ⟨d, ok⟩ := q
      simp only at hd HS
      cases ok
      · have HF := hide (show number (tl s) 16 most = (0, false) by unfold number; rw [if_neg HNE.out, HE.out, HS.out]; rfl)
        go_wp2_with (go_at_call 239; refine (adigit_any _ _ _ (by omega) (by omega)).mono ?_; rintro e w' ⟨rfl, rfl⟩; rw [HQ.out])
        go_ret2
        exact ⟨by rw [HF.out]; rfl, rfl⟩
      · obtain ⟨hd0, hd1⟩ := hd
        have hd2 := hd1 rfl
        clear hd1
        by_cases hnm : n ≤ most
        · have HF := hide (show numGo 16 most 0 (tl s) = numGo 16 most (n * 16 + d) ((tl s).drop (k + 1)) by rw [HE.out, HS.out, if_pos rfl, if_pos hnm])
          go_wp2_with (go_at_call 239; refine (adigit_any _ _ _ (by omega) (by omega)).mono ?_; rintro e w' ⟨rfl, rfl⟩; rw [HQ.out])
          go_round
          case rel => exact ⟨k + 1, n * 16 + d, by omega, by go_num, rfl, by omega, by omega, HF.out⟩
          case measure => simp [intOf]; omega
        · have HF := hide (show numGo 16 most 0 (tl s) = numGo 16 most n ((tl s).drop (k + 1)) by rw [HE.out, HS.out, if_pos rfl, if_neg hnm])
          go_wp2_with (go_at_call 239; refine (adigit_any _ _ _ (by omega) (by omega)).mono ?_; rintro e w' ⟨rfl, rfl⟩; rw [HQ.out])
          go_round
          case rel => exact ⟨k + 1, n, by omega, by go_num, rfl, by omega, by omega, HF.out⟩
          case measure => simp [intOf]; omega
    · have HF := hide (show number (tl s) 16 most = if most < n then (most + 1, true) else (n, true) by unfold number; rw [if_neg HNE.out, HE.out, tl_drop_all s k (by omega), numGo])
      by_cases hnm : most < n
      · go_wp2
        go_ret2
        exact ⟨by rw [HF.out, if_pos hnm]; rfl, rfl⟩
      · have HF2 := hide (HF.out.trans (if_neg hnm))
        go_wp2
        go_ret2
        exact ⟨by rw [HF2.out]; rfl, rfl⟩
end Go.Proofs.YtchkhibgbnhjpaaGreatDoor

namespace Go.Proofs.YtchkhibgbnhjpaaGreatDoor
open Go.RowKit

/-- schemes.OwnPort -/
def strB (l : List Nat) : List UInt8 := l.map UInt8.ofNat
def ownPort (s : List UInt8) : Int × Bool :=
  if s = [104, 116, 116, 112] ∨ s = [119, 115] then (80, true) else if s = [104, 116, 116, 112, 115] ∨ s = [119, 115, 115] then (443, true) else if s = [102, 116, 112] then (21, true) else (0, false)
theorem eqB {s : ByteArray} {l : List UInt8} (h : tl s = l) : (s.toList == l) = true := by rw [ByteArray.toList_eq]; show (tl s == l) = true; rw [h]; simp
theorem neB {s : ByteArray} {l : List UInt8} (h : ¬ tl s = l) : (s.toList == l) = false := by rw [ByteArray.toList_eq]; show (tl s == l) = false; simpa using h
set_option maxHeartbeats 400000 in
theorem ownPort_any (s : ByteArray) (w : World) :
    Calls Tryz.prog 151 #[.string s] w fun e w' => e = .returned (.tuple #[.int .i64 (ownPort (tl s)).1, .bool (ownPort (tl s)).2]) ∧ w = w' := by
  by_cases h1 : tl s = [104, 116, 116, 112]
  · have HE := hide (show ownPort (tl s) = (80, true) by unfold ownPort; rw [if_pos (Or.inl h1)])
    have h1' := eqB h1
    clear h1
    go_enter Tryz.func151, Tryz.ntmps151
    go_wp2
    go_ret2
    exact ⟨by rw [HE.out]; rfl, rfl⟩
  have h1' := neB h1
  by_cases h2 : tl s = [119, 115]
  · have HE := hide (show ownPort (tl s) = (80, true) by unfold ownPort; rw [if_pos (Or.inr h2)])
    have h2' := eqB h2
    clear h1 h2
    go_enter Tryz.func151, Tryz.ntmps151
    go_wp2
    go_ret2
    exact ⟨by rw [HE.out]; rfl, rfl⟩
  have h2' := neB h2
  by_cases h3 : tl s = [104, 116, 116, 112, 115]
  · have HE := hide (show ownPort (tl s) = (443, true) by unfold ownPort; rw [if_neg (not_or.2 ⟨h1, h2⟩), if_pos (Or.inl h3)])
    have h3' := eqB h3
    clear h1 h2 h3
    go_enter Tryz.func151, Tryz.ntmps151
    go_wp2
    go_ret2
    exact ⟨by rw [HE.out]; rfl, rfl⟩
  have h3' := neB h3
  by_cases h4 : tl s = [119, 115, 115]
  · have HE := hide (show ownPort (tl s) = (443, true) by unfold ownPort; rw [if_neg (not_or.2 ⟨h1, h2⟩), if_pos (Or.inr h4)])
    have h4' := eqB h4
    clear h1 h2 h3 h4
    go_enter Tryz.func151, Tryz.ntmps151
    go_wp2
    go_ret2
    exact ⟨by rw [HE.out]; rfl, rfl⟩
  have h4' := neB h4
  by_cases h5 : tl s = [102, 116, 112]
  · have HE := hide (show ownPort (tl s) = (21, true) by unfold ownPort; rw [if_neg (not_or.2 ⟨h1, h2⟩), if_neg (not_or.2 ⟨h3, h4⟩), if_pos h5])
    have h5' := eqB h5
    clear h1 h2 h3 h4 h5
    go_enter Tryz.func151, Tryz.ntmps151
    go_wp2
    go_ret2
    exact ⟨by rw [HE.out]; rfl, rfl⟩
  have h5' := neB h5
  have HE := hide (show ownPort (tl s) = (0, false) by unfold ownPort; rw [if_neg (not_or.2 ⟨h1, h2⟩), if_neg (not_or.2 ⟨h3, h4⟩), if_neg h5])
  clear h1 h2 h3 h4 h5
  go_enter Tryz.func151, Tryz.ntmps151
  go_wp2
  go_ret2
  exact ⟨by rw [HE.out]; rfl, rfl⟩

/-- schemes.Special -/
def isSpecial (s : List UInt8) : Bool := (ownPort s).2 || s == [102, 105, 108, 101]
theorem special_any (s : ByteArray) (w : World) :
    Calls Tryz.prog 112 #[.string s] w fun e w' => e = .returned (.bool (isSpecial (tl s))) ∧ w = w' := by
  have HE := hide (show isSpecial (tl s) = ((ownPort (tl s)).2 || s.toList == [102, 105, 108, 101]) by rw [ByteArray.toList_eq]; rfl)
  generalize hq : ownPort (tl s) = q at *
  have HQ := hide hq
  clear hq
  obtain ⟨p, ok⟩ := q
  cases ok
  · go_enter Tryz.func112, Tryz.ntmps112
    go_wp2_with (go_at_call 151; refine (ownPort_any _ _).mono ?_; rintro e w' ⟨rfl, rfl⟩; rw [HQ.out])
    all_goals go_ret
    all_goals exact ⟨ret_bool (by rw [HE.out]; simp), rfl⟩
  · go_enter Tryz.func112, Tryz.ntmps112
    go_wp2_with (go_at_call 151; refine (ownPort_any _ _).mono ?_; rintro e w' ⟨rfl, rfl⟩; rw [HQ.out])
    all_goals go_ret
    all_goals exact ⟨ret_bool (by rw [HE.out]; simp), rfl⟩

/-- percent.capital -/
def capital (n : Int) : Int := if n < 10 then 48 + n else 65 + n - 10
theorem capital_any (n : Int) (w : World) (h0 : 0 ≤ n) (h1 : n < 16) :
    Calls Tryz.prog 118 #[.int .u8 n] w fun e w' => e = .returned (.int .u8 (capital n)) ∧ w = w' := by
  by_cases h : n < 10
  · have HE := hide (show capital n = 48 + n by simp [capital, h])
    go_enter Tryz.func118, Tryz.ntmps118
    go_wp2
    go_ret
    exact ⟨ret_int HE.out.symm, rfl⟩
  · have HE := hide (show capital n = 65 + n - 10 by simp [capital, h])
    go_enter Tryz.func118, Tryz.ntmps118
    go_wp2
    go_ret
    exact ⟨ret_int HE.out.symm, rfl⟩
end Go.Proofs.YtchkhibgbnhjpaaGreatDoor
