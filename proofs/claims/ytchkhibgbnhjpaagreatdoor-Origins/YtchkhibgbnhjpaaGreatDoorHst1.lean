import Derived.Test.YtchkhibgbnhjpaaGreatDoorPgB
namespace Go.Proofs.YtchkhibgbnhjpaaGreatDoor
open Go.RowKit

/-- hosts.beyondASCII -/
def beyondB (l : List UInt8) : Bool := l.any fun b => decide (127 < (b.toNat : Int))
set_option maxHeartbeats 400000 in
theorem beyond_any (s : ByteArray) (w : World) (hs : s.size ≤ maxLen) :
    Calls Tryz.prog 242 #[.string s] w fun e w' => e = .returned (.bool (beyondB (tl s))) ∧ w = w' := by
  unfold maxLen at hs
  go_enter Tryz.func242, Tryz.ntmps242
  go_wp2
  go_loop [3] (fun i => ∃ k : Nat, k ≤ s.size ∧ i = .int .i64 k ∧ beyondB ((tl s).take k) = false) (fun i => s.size - (intOf i).toNat)
  case atStart => exact ⟨0, Nat.zero_le _, rfl, rfl⟩
  case round =>
    obtain ⟨k, hk, rfl, ha⟩ := hrel
    have HA := hide ha
    clear ha
    by_cases hlt : k < s.size
    · have hb := bb s[k]
      by_cases hc : 127 < (s[k].toNat : Int)
      · go_wp2
        go_ret
        exact ⟨ret_bool (any_hitB (fun b => decide (127 < (b.toNat : Int))) s k hlt (decide_eq_true hc)).symm, rfl⟩
      · go_wp2
        go_round
        case rel => exact ⟨k + 1, by omega, by go_num, by rw [tl_take_succ s k hlt]; unfold beyondB; rw [any_snoc]; rw [show ((tl s).take k).any (fun b => decide (127 < (b.toNat : Int))) = false from HA.out, Bool.false_or]; exact decide_eq_false hc⟩
        case measure => simp [intOf]; omega
    · go_wp2
      go_ret
      exact ⟨ret_bool (by rw [← HA.out, tl_take_all _ _ (by omega)]), rfl⟩

/-- hosts.anyPunycode -/
def xnStart (l : List UInt8) : Bool := decide (4 ≤ l.length) && (l.take 4 == [120, 110, 45, 45])
def puny (ps : List (List UInt8)) : Bool := ps.any xnStart
set_option maxHeartbeats 800000 in
theorem puny_any (v : Value) (bs : List ByteArray) (w : World) (hv : StrsAt w v bs) (hl : ∀ b ∈ bs, b.size ≤ 1000000) :
    Calls Tryz.prog 243 #[v] w fun e w' => e = .returned (.bool (puny (bs.map tl))) ∧ w = w' := by
  obtain ⟨ao, cap, rfl, hlc, hcap, hnone, hsome⟩ := hv
  have HL := hide hl
  clear hl
  unfold maxLen at hcap
  go_enter Tryz.func243, Tryz.ntmps243
  go_wp2
  go_loop [3] (fun i => ∃ k : Nat, k ≤ bs.length ∧ i = .int .i64 k ∧ ((bs.take k).map tl).any xnStart = false) (fun i => bs.length - (intOf i).toNat)
  case atStart => exact ⟨0, Nat.zero_le _, rfl, rfl⟩
  case round =>
    obtain ⟨k, hk, rfl, ha⟩ := hrel
    have HA := hide ha
    clear ha
    by_cases hlt : k < bs.length
    · obtain ⟨a, ha⟩ := sl_some hlt hnone
      subst ha
      obtain ⟨b, off, rfl, hr⟩ := hsome a rfl
      have hck := hr.cell hlt
      clear hnone hsome hr
      have hz := HL.out bs[k] (List.getElem_mem hlt)
      have HS := hide (show ((bs.take (k + 1)).map tl).any xnStart = xnStart (tl bs[k]) by
        rw [List.take_succ_eq_append_getElem hlt, List.map_append, List.map_cons, List.map_nil, any_snoc, HA.out, Bool.false_or])
      have HX := hide (show xnStart (tl bs[k]) = true → puny (bs.map tl) = true from fun h => List.any_eq_true.2 ⟨tl bs[k], List.mem_map.2 ⟨_, List.getElem_mem hlt, rfl⟩, h⟩)
      generalize bs[k] = p at *
      by_cases h4 : 4 ≤ p.size
      · by_cases hx : tl (p.extract 0 4) = [120, 110, 45, 45]
        · have HH := hide (HX.out (by unfold xnStart; rw [tl_length, ← tl_to p 4, hx]; simp [h4]))
          have hx' := eqB hx
          clear hx
          go_wp2
          go_ret
          exact ⟨ret_bool HH.out.symm, rfl⟩
        · have HN := hide (show xnStart (tl p) = false by
            unfold xnStart
            rw [← tl_to p 4]
            simp [hx])
          have hx' := neB hx
          clear hx
          go_wp2
          go_round
          case rel => exact ⟨k + 1, by omega, by go_num, by rw [HS.out]; exact HN.out⟩
          case measure => simp [intOf]; omega
      · have HN := hide (show xnStart (tl p) = false by
            unfold xnStart
            rw [tl_length]
            simp [h4])
        go_wp2
        go_round
        case rel => exact ⟨k + 1, by omega, by go_num, by rw [HS.out]; exact HN.out⟩
        case measure => simp [intOf]; omega
    · go_wp2
      go_ret
      exact ⟨ret_bool (by rw [← HA.out, List.take_of_length_le (by omega)]; rfl), rfl⟩

/-- hosts.plainDomain -/
def forbB : List UInt8 := [0, 9, 10, 13, 32, 35, 47, 58, 60, 62, 63, 64, 91, 92, 93, 94, 124]
def badB (b : UInt8) : Bool := decide ((b.toNat : Int) < 32) || (b.toNat : Int) == 37 || (b.toNat : Int) == 127 || among b.toNat forbB
def plainDom (l : List UInt8) : Bool := !(l.any badB) && !l.isEmpty
set_option maxHeartbeats 800000 in
theorem plainDom_any (s : ByteArray) (w : World) (hs : s.size ≤ maxLen) :
    Calls Tryz.prog 244 #[.string s] w fun e w' => e = .returned (.bool (plainDom (tl s))) ∧ w = w' := by
  unfold maxLen at hs
  go_enter Tryz.func244, Tryz.ntmps244
  go_wp2
  go_loop [3] (fun i => ∃ k : Nat, k ≤ s.size ∧ i = .int .i64 k ∧ ((tl s).take k).any badB = false) (fun i => s.size - (intOf i).toNat)
  case atStart => exact ⟨0, Nat.zero_le _, rfl, rfl⟩
  case round =>
    obtain ⟨k, hk, rfl, ha⟩ := hrel
    have HA := hide ha
    clear ha
    by_cases hlt : k < s.size
    · have hb := bb s[k]
      have HY := hide (show badB s[k] = true → plainDom (tl s) = false from fun h => by unfold plainDom; rw [any_hitB badB s k hlt h]; rfl)
      have HN := hide (show badB s[k] = false → ((tl s).take (k + 1)).any badB = false from fun h => by rw [tl_take_succ s k hlt, any_snoc, HA.out, h]; rfl)
      have HD := hide (show badB s[k] = (decide ((s[k].toNat : Int) < 32) || (s[k].toNat : Int) == 37 || (s[k].toNat : Int) == 127 || among s[k].toNat forbB) from rfl)
      by_cases h32 : (s[k].toNat : Int) < 32
      · have HH := hide (HY.out (by rw [HD.out]; simp [h32]))
        go_wp2
        go_ret
        exact ⟨ret_bool HH.out.symm, rfl⟩
      cases h37 : ((s[k].toNat : Int) == 37)
      · cases h127 : ((s[k].toNat : Int) == 127)
        · cases hA : among (s[k].toNat : Int) forbB
          · have HH := hide (HN.out (by rw [HD.out, h37, h127, hA]; simp [h32]))
            have HA2 := hide hA
            clear hA
            go_wp2_with (go_at_call 117; refine (contains_any _ _ _ (small_len (by decide))).mono ?_; rintro e w' ⟨rfl, rfl⟩; rw [show among (s[k].toNat : Int) (tl ⟨#[0, 9, 10, 13, 32, 35, 47, 58, 60, 62, 63, 64, 91, 92, 93, 94, 124]⟩) = false from HA2.out])
            go_round
            case rel => exact ⟨k + 1, by omega, by go_num, HH.out⟩
            case measure => simp [intOf]; omega
          · have HH := hide (HY.out (by rw [HD.out, hA]; simp))
            have HA2 := hide hA
            clear hA
            go_wp2_with (go_at_call 117; refine (contains_any _ _ _ (small_len (by decide))).mono ?_; rintro e w' ⟨rfl, rfl⟩; rw [show among (s[k].toNat : Int) (tl ⟨#[0, 9, 10, 13, 32, 35, 47, 58, 60, 62, 63, 64, 91, 92, 93, 94, 124]⟩) = true from HA2.out])
            go_ret
            exact ⟨ret_bool HH.out.symm, rfl⟩
        · have HH := hide (HY.out (by rw [HD.out, h127]; simp))
          go_wp2
          go_ret
          exact ⟨ret_bool HH.out.symm, rfl⟩
      · have HH := hide (HY.out (by rw [HD.out, h37]; simp))
        go_wp2
        go_ret
        exact ⟨ret_bool HH.out.symm, rfl⟩
    · have HF := hide (show plainDom (tl s) = !(tl s).isEmpty by
        have h := HA.out
        rw [tl_take_all _ _ (by omega)] at h
        unfold plainDom
        rw [h]; rfl)
      by_cases h0 : s.size = 0
      · have h0' := str_empty h0
        have HT := hide (tl_empty h0)
        clear h0
        go_wp2
        go_ret
        exact ⟨ret_bool (by rw [HF.out, HT.out]; rfl), rfl⟩
      · have h0' := str_nonempty h0
        have HT := hide (show (tl s).isEmpty = false by rw [← h0', ByteArray.toList_eq]; rfl)
        clear h0
        go_wp2
        go_ret
        exact ⟨ret_bool (by rw [HF.out, HT.out]; rfl), rfl⟩
end Go.Proofs.YtchkhibgbnhjpaaGreatDoor
