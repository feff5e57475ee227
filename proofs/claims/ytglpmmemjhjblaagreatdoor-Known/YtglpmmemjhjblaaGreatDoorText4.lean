import Derived.Test.YtglpmmemjhjblaaGreatDoorText2
namespace Go.Proofs.YtglpmmemjhjblaaGreatDoor
open Go.RowKit

/-- urlsref.digit -/
def digit (c : Int) : Int := if 48 ≤ c ∧ c ≤ 57 then c - 48 else if 97 ≤ c ∧ c ≤ 102 then c - 87 else if 65 ≤ c ∧ c ≤ 70 then c - 55 else -1
abbrev lowA : ByteArray := ⟨#[48, 49, 50, 51, 52, 53, 54, 55, 56, 57, 97, 98, 99, 100, 101, 102]⟩
theorem lowA_get : ∀ q : Fin 16, ((lowA[q.val]'q.isLt).toNat : Int) = if q.val < 10 then 48 + (q.val : Int) else 87 + (q.val : Int) := by decide
theorem lowA_lo (k : Nat) (h : k < 16) (h9 : k < 10) : ((lowA[k]'h).toNat : Int) = 48 + (k : Int) := by have := lowA_get ⟨k, h⟩; simpa [h9] using this
theorem lowA_hi (k : Nat) (h : k < 16) (h9 : ¬ k < 10) : ((lowA[k]'h).toNat : Int) = 87 + (k : Int) := by have := lowA_get ⟨k, h⟩; simpa [h9] using this

theorem dg_rng (c : Int) : -1 ≤ digit c ∧ digit c ≤ 15 := by unfold digit; split; omega; split; omega; split <;> omega
theorem dg_lo {c : Int} {k : Nat} (hk : k < 10) (h : ¬ c = 48 + (k : Int)) : ¬ digit c = k := by unfold digit; split; omega; split; omega; split <;> omega
theorem dg_hi {c : Int} {k : Nat} (hk : ¬ k < 10) (h : ¬ c = 87 + (k : Int)) (h2 : ¬ c = 55 + (k : Int)) : ¬ digit c = k := by unfold digit; split; omega; split; omega; split <;> omega
theorem dg_next {c : Int} {k : Nat} (h : ∀ j : Int, 0 ≤ j → j < k → ¬ (digit c = j)) (hk : ¬ digit c = k) : ∀ j : Int, 0 ≤ j → j < ((k + 1 : Nat) : Int) → ¬ (digit c = j) := by
  intro j h0 h1 hj
  by_cases e : j = k
  · exact hk (by omega)
  · exact h j h0 (by omega) hj

set_option maxHeartbeats 400000 in
theorem digit_any (c : Int) (w : World) :
    Calls Tryz.prog 184 #[.int .i64 c] w fun e w' => e = .returned (.int .i64 (digit c)) ∧ w = w' := by
  go_enter Tryz.func184, Tryz.ntmps184
  go_wp2
  go_loop [4] (fun i => ∃ k : Nat, k ≤ 16 ∧ i = .int .i64 k ∧ ∀ j : Int, 0 ≤ j → j < k → ¬ (digit c = j)) (fun i => 16 - (intOf i).toNat)
  case atStart => exact ⟨0, by omega, rfl, fun j h0 h1 => by omega⟩
  case round =>
    obtain ⟨k, hk, rfl, hno⟩ := hrel
    have HNO := hide hno
    clear hno
    by_cases hlt : k < 16
    · have hlt' : k < lowA.size := hlt
      by_cases h9 : k < 10
      · have hv := lowA_lo k hlt h9
        go_wp2
        · go_ret
          exact ⟨ret_int (by unfold digit; rw [if_pos (by omega)]; omega), rfl⟩
        · go_round
          case rel => exact ⟨k + 1, by omega, by go_num, dg_next HNO.out (dg_lo h9 (by first | assumption | (have h := ‹_ = false›; simpa using h)))⟩
          case measure => simp [intOf]; omega
      · have hv := lowA_hi k hlt h9
        go_wp2
        · go_ret
          exact ⟨ret_int (by unfold digit; rw [if_neg (by omega), if_pos (by omega)]; omega), rfl⟩
        · go_ret
          have h := ‹_ ∨ _›
          simp only [beq_iff_eq] at h
          exact ⟨ret_int (by unfold digit; rw [if_neg (by omega), if_neg (by omega), if_pos (by omega)]; omega), rfl⟩
        · have h := ‹_ = false ∧ _ = false›
          simp only [beq_eq_false_iff_ne, ne_eq] at h
          go_round
          case rel => exact ⟨k + 1, by omega, by go_num, dg_next HNO.out (dg_hi (by omega) h.1 (by omega))⟩
          case measure => simp [intOf]; omega
    · go_wp2
      go_ret
      exact ⟨ret_int (by
        have h := HNO.out
        have hr := dg_rng c
        by_cases e : digit c = -1
        · exact e.symm
        · exact absurd rfl (h (digit c) (by omega) (by omega))), rfl⟩

/-- urlsref.trimmed -/
def trimL (l : List Int) : List Int := l.dropWhile fun c => decide (c ≤ 32)
def trimR (l : List Int) : List Int := (l.reverse.dropWhile fun c => decide (c ≤ 32)).reverse
def trimmed (l : List Int) : List Int := trimR (trimL l)
theorem trimL_cons (c : Int) (l : List Int) : trimL (c :: l) = if c ≤ 32 then trimL l else c :: l := by
  by_cases h : c ≤ 32 <;> simp [trimL, h]
theorem trimR_snoc (c : Int) (l : List Int) : trimR (l ++ [c]) = if c ≤ 32 then trimR l else l ++ [c] := by
  by_cases h : c ≤ 32 <;> simp [trimR, h]

def sliceLen : Value → Nat | .slice _ n _ => n | _ => 0
/-- 'x[1:]' of a slice with an element, whether or not its capacity ends there. -/
theorem sl_tail {α : Type} {e : TypeId} {f : α → Value} {w : World} {b off cap : Nat} {c : α} {r : List α} (hr : RowAt e f w b off (c :: r)) (hlc : (c :: r).length ≤ cap) (hcap : cap ≤ maxLen) :
    SlAt e f w (.slice (some ⟨b, off + 1, none⟩) r.length (cap - 1)) r := by
  have h := sl_drop hr hlc hcap 1 (by simp)
  simpa using h
theorem sl_tail' {α : Type} {e : TypeId} {f : α → Value} {w : World} {b off : Nat} {c : α} {r : List α} (hr : RowAt e f w b off (c :: r)) (hlc : (c :: r).length ≤ 1) :
    SlAt e f w (.slice (some ⟨b, off, none⟩) r.length 0) r := by
  have h := sl_end hr 1 0 hlc (Nat.zero_le _)
  simpa using h
theorem sl_init {α : Type} {e : TypeId} {f : α → Value} {w : World} {b off cap : Nat} {c : α} {r : List α} (hr : RowAt e f w b off (r ++ [c])) (hlc : (r ++ [c]).length ≤ cap) (hcap : cap ≤ maxLen) :
    SlAt e f w (.slice (some ⟨b, off, none⟩) r.length cap) r := by
  have h := sl_take hr hlc hcap r.length (by simp)
  simpa using h

theorem sl_tail_if {α : Type} {e : TypeId} {f : α → Value} {w : World} {b off cap : Nat} {c : α} {r : List α} (hr : RowAt e f w b off (c :: r)) (hlc : (c :: r).length ≤ cap) (hcap : cap ≤ maxLen) :
    SlAt e f w (.slice (if cap = 1 then some ⟨b, off, none⟩ else some ⟨b, off + 1, none⟩) r.length (cap - 1)) r := by
  split
  · subst cap; exact sl_tail' hr hlc
  · exact sl_tail hr hlc hcap

set_option maxHeartbeats 400000 in
theorem trimmed_any (v : Value) (l : List Int) (w : World) (hv : IntsAt w v l) :
    Calls Tryz.prog 92 #[v] w fun e w' => ∃ v', e = .returned v' ∧ IntsAt w v' (trimmed l) ∧ w = w' := by
  go_enter Tryz.func92, Tryz.ntmps92
  go_wp2
  go_loop [0] (fun x => ∃ m, IntsAt w x m ∧ trimmed l = trimmed m) (fun x => sliceLen x)
  case atStart => exact ⟨l, hv, rfl⟩
  case round =>
    obtain ⟨m, hm, hE⟩ := hrel
    have HE := hide hE
    have HM := hide hm
    clear hE
    match m, hm, HE, HM with
    | [], hm, HE, HM =>
      obtain ⟨ao, cap, rfl, hlc, hcap, _, _⟩ := hm
      go_wp2
      go_loop [0] (fun x => ∃ m2, IntsAt w x m2 ∧ trimmed l = trimR m2) (fun x => sliceLen x)
      case atStart => exact ⟨_, HM.out, HE.out.trans (congrArg trimR (rfl))⟩
      case round =>
        obtain ⟨m2, hm2, hE2⟩ := hrel
        clear HE HM
        have HE := hide hE2
        have HM := hide hm2
        clear hE2
        rcases List.eq_nil_or_concat m2 with rfl | ⟨r2, c2, rfl⟩
        · obtain ⟨ao2, cap2, rfl, hlc2, hcap2, _, _⟩ := hm2
          go_wp2
          go_ret
          exact ⟨_, rfl, by rw [HE.out]; exact HM.out, rfl⟩
        · obtain ⟨b2, off2, cap2, rfl, hlc2, hcap2, hr2⟩ := hm2.open_ (k := 0) (by simp)
          have hc2 := hr2.cell (i := r2.length) (by simp)
          simp only [List.concat_eq_append, List.getElem_concat_length] at hc2
          have HR2 := hide hr2
          clear hr2 hm2
          simp only [List.concat_eq_append] at HE HR2 hlc2
          simp only [List.concat_eq_append, List.length_append, List.length_cons, List.length_nil, Nat.zero_add]
          have hlc3 : r2.length + 1 ≤ cap2 := by simpa using hlc2
          have HCAP2 := hide hcap2
          unfold maxLen at hcap2
          by_cases h322 : c2 ≤ 32
          · have HT2 := hide (show trimR (r2 ++ [c2]) = trimR r2 by rw [trimR_snoc, if_pos h322])
            go_wp2
            go_round
            case rel => exact ⟨r2, sl_init HR2.out (by simpa using hlc3) HCAP2.out, HE.out.trans HT2.out⟩
            case measure => simp [sliceLen]
          · have HT2 := hide (show trimR (r2 ++ [c2]) = r2 ++ [c2] by rw [trimR_snoc, if_neg h322])
            go_wp2
            go_ret
            exact ⟨_, rfl, by rw [HE.out, HT2.out]; simpa using HM.out, rfl⟩
    | c :: r, hm, HE, HM =>
      obtain ⟨b, off, cap, rfl, hlc, hcap, hr⟩ := hm.open_ (k := 0) (by simp)
      have hc0 := hr.cell (i := 0) (by simp)
      simp only [Nat.add_zero, List.getElem_cons_zero] at hc0
      have HR := hide hr
      have HCAP := hide hcap
      unfold maxLen at hcap
      have hlc1 : r.length + 1 ≤ cap := by simpa using hlc
      clear hr hm
      by_cases h32 : c ≤ 32
      · have HT := hide (show trimmed (c :: r) = trimmed r by unfold trimmed; rw [trimL_cons, if_pos h32])
        go_wp2
        go_round
        case rel => exact ⟨r, sl_tail_if HR.out (by simpa using hlc1) HCAP.out, HE.out.trans HT.out⟩
        case measure => simp [sliceLen]
      have HT := hide (show trimL (c :: r) = c :: r by rw [trimL_cons, if_neg h32])
      go_wp2
      go_loop [0] (fun x => ∃ m2, IntsAt w x m2 ∧ trimmed l = trimR m2) (fun x => sliceLen x)
      case atStart => exact ⟨_, HM.out, HE.out.trans (congrArg trimR (HT.out))⟩
      case round =>
        obtain ⟨m2, hm2, hE2⟩ := hrel
        clear HE HM
        have HE := hide hE2
        have HM := hide hm2
        clear hE2
        rcases List.eq_nil_or_concat m2 with rfl | ⟨r2, c2, rfl⟩
        · obtain ⟨ao2, cap2, rfl, hlc2, hcap2, _, _⟩ := hm2
          go_wp2
          go_ret
          exact ⟨_, rfl, by rw [HE.out]; exact HM.out, rfl⟩
        · obtain ⟨b2, off2, cap2, rfl, hlc2, hcap2, hr2⟩ := hm2.open_ (k := 0) (by simp)
          have hc2 := hr2.cell (i := r2.length) (by simp)
          simp only [List.concat_eq_append, List.getElem_concat_length] at hc2
          have HR2 := hide hr2
          clear hr2 hm2
          simp only [List.concat_eq_append] at HE HR2 hlc2
          simp only [List.concat_eq_append, List.length_append, List.length_cons, List.length_nil, Nat.zero_add]
          have hlc3 : r2.length + 1 ≤ cap2 := by simpa using hlc2
          have HCAP2 := hide hcap2
          unfold maxLen at hcap2
          by_cases h322 : c2 ≤ 32
          · have HT2 := hide (show trimR (r2 ++ [c2]) = trimR r2 by rw [trimR_snoc, if_pos h322])
            go_wp2
            go_round
            case rel => exact ⟨r2, sl_init HR2.out (by simpa using hlc3) HCAP2.out, HE.out.trans HT2.out⟩
            case measure => simp [sliceLen]
          · have HT2 := hide (show trimR (r2 ++ [c2]) = r2 ++ [c2] by rw [trimR_snoc, if_neg h322])
            go_wp2
            go_ret
            exact ⟨_, rfl, by rw [HE.out, HT2.out]; simpa using HM.out, rfl⟩
end Go.Proofs.YtglpmmemjhjblaaGreatDoor
