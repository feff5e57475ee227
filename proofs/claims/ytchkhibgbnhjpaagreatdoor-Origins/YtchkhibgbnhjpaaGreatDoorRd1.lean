import Derived.Test.YtchkhibgbnhjpaaGreatDoorPrt2
namespace Go.Proofs.YtchkhibgbnhjpaaGreatDoor
open Go.RowKit

/-- reading.trim -/
def blankB (b : UInt8) : Bool := decide ((b.toNat : Int) ≤ 32)
def trimB (l : List UInt8) : List UInt8 := ((l.dropWhile blankB).reverse.dropWhile blankB).reverse
theorem dropWhile_at (s : ByteArray) (k : Nat) (h1 : ((tl s).take k).all blankB = true) (h2 : (h : k < s.size) → blankB s[k] = false) : (tl s).dropWhile blankB = (tl s).drop k := by
  have e := List.take_append_drop k (tl s)
  conv => lhs; rw [← e]
  rw [List.dropWhile_append_of_pos (by intro a ha; exact List.all_eq_true.1 h1 a ha)]
  rcases Nat.lt_or_ge k s.size with h | h
  · rw [tl_drop s k h, List.dropWhile_cons_of_neg (by rw [h2 h]; decide)]
  · rw [tl_drop_all s k h]; rfl
theorem rdropWhile_at (l : List UInt8) (m : Nat) (hm : m ≤ l.length) (h1 : (l.drop m).all blankB = true) (h2 : (h : 0 < m) → blankB (l[m - 1]'(by omega)) = false) : (l.reverse.dropWhile blankB).reverse = l.take m := by
  have e := List.take_append_drop m l
  conv => lhs; rw [← e]
  rw [List.reverse_append, List.dropWhile_append_of_pos (by intro a ha; exact List.all_eq_true.1 h1 a (List.mem_reverse.1 ha))]
  rcases Nat.eq_zero_or_pos m with h | h
  · subst h; simp
  · have hs : l.take m = l.take (m - 1) ++ [l[m - 1]'(by omega)] := by
      rw [← List.take_succ_eq_append_getElem (by omega)]
      congr 1
      omega
    rw [hs, List.reverse_append, List.reverse_singleton, List.singleton_append, List.dropWhile_cons_of_neg (by rw [h2 h]; decide)]
    simp
theorem all_snoc (p : UInt8 → Bool) (l : List UInt8) (b : UInt8) : (l ++ [b]).all p = (l.all p && p b) := by simp
set_option maxHeartbeats 2000000 in
theorem trim_any (s : ByteArray) (w : World) (hs : s.size ≤ 1000000) :
    Calls Tryz.prog 83 #[.string s] w fun e w' => ∃ r : ByteArray, e = .returned (.string r) ∧ tl r = trimB (tl s) ∧ r.size ≤ s.size ∧ w = w' := by
  go_enter Tryz.func83, Tryz.ntmps83
  go_wp2
  go_loop [3] (fun i => ∃ k : Nat, k ≤ s.size ∧ i = .int .i64 k ∧ ((tl s).take k).all blankB = true) (fun i => s.size - (intOf i).toNat)
  case atStart => exact ⟨0, Nat.zero_le _, rfl, rfl⟩
  case round =>
    obtain ⟨k, hk, rfl, ha⟩ := hrel
    have HA := hide ha
    clear ha
    have main : ∀ (hb : (h : k < s.size) → blankB s[k] = false), Hid ((tl s).dropWhile blankB = (tl s).drop k) := fun hb => hide (dropWhile_at s k HA.out hb)
    have second : (hstop : Hid ((tl s).dropWhile blankB = (tl s).drop k)) → True := fun _ => trivial
    clear second
    by_cases hlt : k < s.size
    · have hb := bb s[k]
      by_cases hc : (s[k].toNat : Int) ≤ 32
      · have HN := hide (show ((tl s).take (k + 1)).all blankB = true by rw [tl_take_succ s k hlt, all_snoc, HA.out]; simp [blankB, hc])
        clear main
        go_wp2
        go_round
        case rel => exact ⟨k + 1, by omega, by go_num, HN.out⟩
        case measure => simp [intOf]; omega
      · have HD := main (fun _ => by simp [blankB]; omega)
        clear main
        go_wp2
        go_loop [4] (fun i => ∃ m : Nat, k ≤ m ∧ m ≤ s.size ∧ i = .int .i64 m ∧ ((tl s).drop m).all blankB = true) (fun i => (intOf i).toNat)
        case atStart => exact ⟨s.size, by omega, Nat.le_refl _, rfl, by rw [tl_drop_all s _ (Nat.le_refl _)]; rfl⟩
        case round =>
          obtain ⟨m, hkm, hm, rfl, hal⟩ := hrel
          have HAL := hide hal
          clear hal
          by_cases hgt : k < m
          · have hm1 : m - 1 < s.size := by omega
            have hb1 := bb (s[m - 1]'hm1)
            by_cases hc1 : ((s[m - 1]'hm1).toNat : Int) ≤ 32
            · have HN := hide (show ((tl s).drop (m - 1)).all blankB = true by rw [tl_drop s (m - 1) hm1, List.all_cons, show m - 1 + 1 = m by omega, HAL.out]; simp [blankB, hc1])
              go_wp2
              go_round
              case rel => exact ⟨m - 1, by omega, by omega, by rw [show ((m - 1 : Nat) : Int) = (m : Int) - 1 by omega], HN.out⟩
              case measure => simp [intOf]; omega
            · have HF := hide (show tl (s.extract k m) = trimB (tl s) by
                unfold trimB
                rw [HD.out, tl_extract, rdropWhile_at ((tl s).drop k) (m - k) (by rw [List.length_drop, tl_length]; omega) (by rw [List.drop_drop, show k + (m - k) = m by omega]; exact HAL.out) (fun h => by rw [List.getElem_drop]; show blankB ((tl s)[k + (m - k - 1)]'_) = false; simp only [show k + (m - k - 1) = m - 1 by omega]; rw [tl_get s (m - 1) hm1]; simp [blankB]; omega), List.drop_take])
              have hez : (s.extract k m).size ≤ s.size := size_ext s k m
              go_wp2
              go_ret
              exact ⟨s.extract k m, rfl, HF.out, hez, rfl⟩
          · have HF := hide (show tl (s.extract k m) = trimB (tl s) by
              unfold trimB
              rw [HD.out, tl_extract, rdropWhile_at ((tl s).drop k) (m - k) (by rw [List.length_drop, tl_length]; omega) (by rw [List.drop_drop, show k + (m - k) = m by omega]; exact HAL.out) (fun h => by omega), List.drop_take])
            have hez : (s.extract k m).size ≤ s.size := size_ext s k m
            go_wp2
            go_ret
            exact ⟨s.extract k m, rfl, HF.out, hez, rfl⟩
    · have HD := main (fun h => absurd h hlt)
      clear main
      go_wp2
      go_loop [4] (fun i => ∃ m : Nat, k ≤ m ∧ m ≤ s.size ∧ i = .int .i64 m) (fun i => (intOf i).toNat)
      case atStart => exact ⟨s.size, by omega, Nat.le_refl _, rfl⟩
      case round =>
        obtain ⟨m, hkm, hm, rfl⟩ := hrel
        have HF := hide (show tl (s.extract k m) = trimB (tl s) by
          unfold trimB
          rw [HD.out, tl_extract, tl_drop_all s k (by omega), List.drop_of_length_le (by rw [List.length_take, tl_length]; omega)]
          rfl)
        have hez : (s.extract k m).size ≤ s.size := size_ext s k m
        have hgt : ¬ k < m := by omega
        go_wp2
        go_ret
        exact ⟨s.extract k m, rfl, HF.out, hez, rfl⟩

/-- ascii.WithoutBreaks -/
def breakB (b : UInt8) : Bool := (b.toNat : Int) == 9 || (b.toNat : Int) == 10 || (b.toNat : Int) == 13
def noBreaks (l : List UInt8) : List UInt8 := l.filter fun b => !breakB b
theorem noBreaks_snoc (l : List UInt8) (b : UInt8) : noBreaks (l ++ [b]) = noBreaks l ++ (if breakB b = true then [] else [b]) := by
  unfold noBreaks
  rw [List.filter_append]
  cases h : breakB b <;> simp [h]
theorem noBreaks_len (l : List UInt8) : (noBreaks l).length ≤ l.length := List.length_filter_le _ _
set_option maxHeartbeats 2000000 in
theorem noBreaks_any (s : ByteArray) (w : World) (hs : s.size ≤ 1000000) :
    Calls Tryz.prog 84 #[.string s] w fun e w' => ∃ r : ByteArray, e = .returned (.string r) ∧ tl r = noBreaks (tl s) ∧ Nx w w' := by
  go_enter Tryz.func84, Tryz.ntmps84
  go_wp2
  go_loopw [3, 4] (fun o i wr => ∃ k : Nat, k ≤ s.size ∧ i = .int .i64 k ∧ OwnB wr w.heap.size o (noBreaks ((tl s).take k)) ∧ Nx w wr) (fun _ i _ => s.size - (intOf i).toNat)
  case atStart => exact ⟨0, Nat.zero_le _, rfl, own_start w, Nx.rfl.alloc _⟩
  case round =>
    obtain ⟨k, hk, rfl, hown, hnx⟩ := hrel
    by_cases hlt : k < s.size
    · have hb := bb s[k]
      have HTK := hide ((congrArg noBreaks (tl_take_succ s k hlt)).trans (noBreaks_snoc _ _))
      have hz := hnx.size
      have hsz : (noBreaks ((tl s).take k)).length < 1099511627776 := by have h := noBreaks_len ((tl s).take k); have := List.length_take_le k (tl s); omega
      have HO := hide hown
      have HN := hide hnx
      have HT2 := hide (toB_byte s[k])
      have HBR := hide (show breakB s[k] = ((s[k].toNat : Int) == 9 || (s[k].toNat : Int) == 10 || (s[k].toNat : Int) == 13) from rfl)
      clear hown hnx
      cases h9 : ((s[k].toNat : Int) == 9)
      · have n9 := bneT h9
        cases h10 : ((s[k].toNat : Int) == 10)
        · have n10 := bneT h10
          cases h13 : ((s[k].toNat : Int) == 13)
          · have n13 := bneT h13
            have HB := hide (show breakB s[k] = false by rw [HBR.out, h9, h10, h13]; rfl)
            go_wp2_with (at_builtin; go_must (refine app_byte1 wr (s[k].toNat : Int) rfl _ _ rfl w.heap.size _ _ rfl HO.out rfl (by omega) (by omega) hsz hz ?_; intro v' w2 ho1 hb1 hk1; have HO1 := hide ho1; clear ho1))
            go_roundw
            case rel => exact ⟨k + 1, by omega, by go_num, by rw [HTK.out, if_neg (by rw [HB.out]; decide)]; have h := HO1.out; rw [HT2.out] at h; exact h, HN.out.trans hb1⟩
            case measure => simp [intOf]; omega
          · have n13 := bneF h13
            have HB := hide (show breakB s[k] = true by rw [HBR.out, h13]; simp)
            go_wp2
            go_roundw
            case rel => exact ⟨k + 1, by omega, by go_num, by rw [HTK.out, if_pos HB.out, List.append_nil]; exact HO.out, HN.out⟩
            case measure => simp [intOf]; omega
        · have n10 := bneF h10
          have HB := hide (show breakB s[k] = true by rw [HBR.out, h10]; simp)
          go_wp2
          go_roundw
          case rel => exact ⟨k + 1, by omega, by go_num, by rw [HTK.out, if_pos HB.out, List.append_nil]; exact HO.out, HN.out⟩
          case measure => simp [intOf]; omega
      · have n9 := bneF h9
        have HB := hide (show breakB s[k] = true by rw [HBR.out, h9]; simp)
        go_wp2
        go_roundw
        case rel => exact ⟨k + 1, by omega, by go_num, by rw [HTK.out, if_pos HB.out, List.append_nil]; exact HO.out, HN.out⟩
        case measure => simp [intOf]; omega
    · rw [tl_take_all s k (by omega)] at hown
      have hcv := conv_own hown
      have HN := hide hnx
      clear hown hnx
      go_wp2
      go_ret
      exact ⟨_, rfl, tl_mk _, HN.out⟩
end Go.Proofs.YtchkhibgbnhjpaaGreatDoor
