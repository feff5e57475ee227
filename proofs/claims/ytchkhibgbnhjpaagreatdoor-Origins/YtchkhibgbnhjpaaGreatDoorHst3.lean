import Derived.Test.YtchkhibgbnhjpaaGreatDoorHst1
import Derived.Test.YtchkhibgbnhjpaaGreatDoorHst2
namespace Go.Proofs.YtchkhibgbnhjpaaGreatDoor
open Go.RowKit

/-- hosts.withoutEmptyEnd -/
def noEnd (bs : List ByteArray) : List ByteArray := if 1 < bs.length ∧ tl (bs.getD (bs.length - 1) ⟨#[]⟩) = [] then bs.take (bs.length - 1) else bs
def noEndL (ps : List (List UInt8)) : List (List UInt8) := if 1 < ps.length ∧ ps.getD (ps.length - 1) [] = [] then ps.take (ps.length - 1) else ps
theorem bgetD_eq {bs : List ByteArray} {k : Nat} (h : k < bs.length) : bs.getD k ⟨#[]⟩ = bs[k] := by rw [List.getD_eq_getElem?_getD, List.getElem?_eq_getElem h]; rfl
theorem map_getDk (bs : List ByteArray) (k : Nat) : (bs.map tl).getD k [] = tl (bs.getD k ⟨#[]⟩) := by
  rw [List.getD_eq_getElem?_getD, List.getD_eq_getElem?_getD, List.getElem?_map]
  cases bs[k]? <;> rfl
theorem noEnd_map (bs : List ByteArray) : (noEnd bs).map tl = noEndL (bs.map tl) := by
  unfold noEnd noEndL
  rw [List.length_map, map_getDk]
  split
  · rw [List.map_take]
  · rfl
theorem noEnd_mem {bs : List ByteArray} {b : ByteArray} (h : b ∈ noEnd bs) : b ∈ bs := by
  unfold noEnd at h
  split at h
  · exact List.mem_of_mem_take h
  · exact h
theorem noEnd_len (bs : List ByteArray) : (noEnd bs).length ≤ bs.length := by
  unfold noEnd
  split
  · rw [List.length_take]; omega
  · omega
set_option maxHeartbeats 800000 in
theorem noEnd_any (v : Value) (bs : List ByteArray) (w : World) (hv : StrsAt w v bs) :
    Calls Tryz.prog 245 #[v] w fun e w' => ∃ v', e = .returned v' ∧ StrsAt w v' (noEnd bs) ∧ w = w' := by
  have HV := hide hv
  obtain ⟨ao, cap, rfl, hlc, hcap, hnone, hsome⟩ := hv
  have HCAP := hide hcap
  unfold maxLen at hcap
  by_cases h1 : 1 < bs.length
  · obtain ⟨a, ha⟩ := sl_some (k := 0) (by omega) hnone
    subst ha
    obtain ⟨b, off, rfl, hr⟩ := hsome a rfl
    have hck := hr.cell (i := bs.length - 1) (by omega)
    have HT := hide (sl_take hr hlc HCAP.out (bs.length - 1) (by omega))
    have hz : bs.length - 1 < bs.length := by omega
    clear hnone hsome hr
    by_cases hz0 : (bs[bs.length - 1]'hz).size = 0
    · have HE := hide (show noEnd bs = bs.take (bs.length - 1) by unfold noEnd; rw [if_pos ⟨h1, by rw [bgetD_eq hz, tl_empty hz0]⟩])
      have hz' := str_empty hz0
      clear hz0
      go_enter Tryz.func245, Tryz.ntmps245
      go_wp2
      go_ret
      exact ⟨_, rfl, by rw [HE.out]; exact HT.out, rfl⟩
    · have HE := hide (show noEnd bs = bs by unfold noEnd; rw [if_neg (by rintro ⟨-, h⟩; rw [bgetD_eq hz] at h; exact tl_ne hz0 h)])
      have hz' := str_nonempty hz0
      clear hz0
      go_enter Tryz.func245, Tryz.ntmps245
      go_wp2
      go_ret
      exact ⟨_, rfl, by rw [HE.out]; exact HV.out, rfl⟩
  · have HE := hide (show noEnd bs = bs by unfold noEnd; rw [if_neg (fun h => h1 h.1)])
    clear hnone hsome
    go_enter Tryz.func245, Tryz.ntmps245
    go_wp2
    go_ret
    exact ⟨_, rfl, by rw [HE.out]; exact HV.out, rfl⟩

/-- hosts.endsInNumber -/
def endsNum (ps : List (List UInt8)) : Bool := if ps.length = 0 then false else (number (ps.getD (ps.length - 1) []) 10 4294967295).2 || (readNum (ps.getD (ps.length - 1) [])).2
set_option maxHeartbeats 800000 in
theorem endsNum_any (v : Value) (bs : List ByteArray) (w : World) (hv : StrsAt w v bs) (hl : ∀ b ∈ bs, b.size ≤ 1000000) :
    Calls Tryz.prog 246 #[v] w fun e w' => e = .returned (.bool (endsNum (bs.map tl))) ∧ w = w' := by
  obtain ⟨ao, cap, rfl, hlc, hcap, hnone, hsome⟩ := hv
  unfold maxLen at hcap
  rcases Nat.eq_zero_or_pos bs.length with h0 | hpos
  · have HE := hide (show endsNum (bs.map tl) = false by unfold endsNum; rw [List.length_map, if_pos h0])
    have h0' : ((bs.length : Int) == 0) = true := by rw [h0]; rfl
    clear h0 hnone hsome hl
    go_enter Tryz.func246, Tryz.ntmps246
    go_wp2
    go_ret
    exact ⟨ret_bool HE.out.symm, rfl⟩
  · obtain ⟨a, ha⟩ := sl_some (k := 0) hpos hnone
    subst ha
    obtain ⟨b, off, rfl, hr⟩ := hsome a rfl
    have hz : bs.length - 1 < bs.length := by omega
    have hck := hr.cell (i := bs.length - 1) hz
    have hsz := hl _ (List.getElem_mem hz)
    have HE := hide (show endsNum (bs.map tl) = ((number (tl (bs[bs.length - 1]'hz)) 10 4294967295).2 || (readNum (tl (bs[bs.length - 1]'hz))).2) by
      unfold endsNum; rw [List.length_map, if_neg (by omega), map_getDk, bgetD_eq hz])
    have h0' : ((bs.length : Int) == 0) = false := beq_eq_false_iff_ne.2 (by omega)
    clear hnone hsome hr hl
    generalize bs[bs.length - 1]'hz = p at *
    cases hA : (number (tl p) 10 4294967295).2
    · have HA := hide hA
      clear hA
      go_enter Tryz.func246, Tryz.ntmps246
      go_wp2_with (first | (go_at_call 233; refine (number10_any _ _ _ hsz (by decide) (by decide)).mono ?_; rintro e w' ⟨rfl, rfl⟩; rw [HA.out]) | (go_at_call 255; refine (readNum_any _ _ hsz).mono ?_; rintro e w' ⟨rfl, rfl⟩))
      go_ret
      exact ⟨ret_bool (by rw [HE.out, HA.out]; rfl), rfl⟩
    · have HA := hide hA
      clear hA
      go_enter Tryz.func246, Tryz.ntmps246
      go_wp2_with (first | (go_at_call 233; refine (number10_any _ _ _ hsz (by decide) (by decide)).mono ?_; rintro e w' ⟨rfl, rfl⟩; rw [HA.out]) | (go_at_call 255; refine (readNum_any _ _ hsz).mono ?_; rintro e w' ⟨rfl, rfl⟩))
      go_ret
      exact ⟨ret_bool (by rw [HE.out, HA.out]; rfl), rfl⟩

/-- hosts.readIPv4 -/
def ip4Go : List (List UInt8) → Int → Int → Int × Bool
  | [], _, value => (value, true)
  | p :: r, room, value =>
    if (readNum p).2 = false then (0, false) else
    if room ≤ (readNum p).1 ∨ (r ≠ [] ∧ 255 < (readNum p).1) then (0, false) else
    if r ≠ [] then ip4Go r (room / 256) (value + (readNum p).1 * (room / 256)) else ip4Go r room (value + (readNum p).1)
def ip4 (ps : List (List UInt8)) : Int × Bool := if ps.length = 0 ∨ 4 < ps.length then (0, false) else ip4Go ps 4294967296 0
theorem ip4_step (bs : List ByteArray) (k : Nat) (h : k < bs.length) (room value : Int) : ip4Go ((bs.drop k).map tl) room value =
    if (readNum (tl bs[k])).2 = false then (0, false) else
    if room ≤ (readNum (tl bs[k])).1 ∨ (k + 1 < bs.length ∧ 255 < (readNum (tl bs[k])).1) then (0, false) else
    if k + 1 < bs.length then ip4Go ((bs.drop (k + 1)).map tl) (room / 256) (value + (readNum (tl bs[k])).1 * (room / 256)) else ip4Go ((bs.drop (k + 1)).map tl) room (value + (readNum (tl bs[k])).1) := by
  rw [List.drop_eq_getElem_cons h, List.map_cons, ip4Go]
  have hr : ((bs.drop (k + 1)).map tl ≠ []) ↔ k + 1 < bs.length := by
    constructor
    · intro hn
      rcases Nat.lt_or_ge (k + 1) bs.length with h | h
      · exact h
      · rw [List.drop_of_length_le h] at hn; exact absurd rfl hn
    · intro hlt hn
      have := congrArg List.length hn
      rw [List.length_map, List.length_drop] at this
      simp at this
      omega
  simp only [hr]
set_option maxHeartbeats 4000000 in
theorem ip4_any (v : Value) (bs : List ByteArray) (w : World) (hv : StrsAt w v bs) (hl : ∀ b ∈ bs, b.size ≤ 1000000) :
    Calls Tryz.prog 247 #[v] w fun e w' => e = .returned (.tuple #[.int .i64 (ip4 (bs.map tl)).1, .bool (ip4 (bs.map tl)).2]) ∧ w = w' := by
  obtain ⟨ao, cap, rfl, hlc, hcap, hnone, hsome⟩ := hv
  unfold maxLen at hcap
  have HL := hide hl
  clear hl
  by_cases hbad : bs.length = 0 ∨ 4 < bs.length
  · have HE := hide (show ip4 (bs.map tl) = (0, false) by unfold ip4; rw [List.length_map, if_pos hbad])
    clear hnone hsome
    rcases hbad with h0 | h4
    · have h0' : ((bs.length : Int) == 0) = true := by rw [h0]; rfl
      clear h0
      go_enter Tryz.func247, Tryz.ntmps247
      go_wp2
      go_ret2
      exact ⟨by rw [HE.out]; rfl, rfl⟩
    · have h0' : ((bs.length : Int) == 0) = false := beq_eq_false_iff_ne.2 (by omega)
      go_enter Tryz.func247, Tryz.ntmps247
      go_wp2
      go_ret2
      exact ⟨by rw [HE.out]; rfl, rfl⟩
  · have hpos : 0 < bs.length := by omega
    have h4 : bs.length ≤ 4 := by omega
    have HE := hide (show ip4 (bs.map tl) = ip4Go ((bs.drop 0).map tl) 4294967296 0 by unfold ip4; rw [List.length_map, if_neg hbad]; rfl)
    clear hbad
    have h0' : ((bs.length : Int) == 0) = false := beq_eq_false_iff_ne.2 (by omega)
    obtain ⟨a, ha⟩ := sl_some (k := 0) hpos hnone
    subst ha
    obtain ⟨b, off, rfl, hr⟩ := hsome a rfl
    have HR := hide hr
    clear hnone hsome hr
    go_enter Tryz.func247, Tryz.ntmps247
    go_wp2
    go_loop [4, 5, 6] (fun x r i => ∃ (k : Nat) (value room : Int), k ≤ bs.length ∧ i = .int .i64 k ∧ x = .int .i64 value ∧ r = .int .i64 room ∧ 0 ≤ value ∧ value ≤ k * 4294967296 ∧ 0 ≤ room ∧ room ≤ 4294967296 ∧ ip4 (bs.map tl) = ip4Go ((bs.drop k).map tl) room value) (fun _ _ i => bs.length - (intOf i).toNat)
    case atStart => exact ⟨0, 0, 4294967296, Nat.zero_le _, rfl, rfl, rfl, by omega, by omega, by omega, by omega, HE.out⟩
    case round =>
      obtain ⟨k, value, room, hk, rfl, rfl, rfl, hv0, hv1, hr0, hr1, hE⟩ := hrel
      by_cases hlt : k < bs.length
      · have hck := HR.out.cell hlt
        have hsz := HL.out _ (List.getElem_mem hlt)
        rw [ip4_step bs k hlt] at hE
        have hrn := readNum_rng (tl bs[k])
        have HE2 := hide hE
        clear hE
        generalize bs[k] = p at *
        generalize hq : readNum (tl p) = q at *
        have HQ := hide hq
        clear hq
        obtain ⟨n, ok⟩ := q
        simp only at HE2 hrn
        obtain ⟨hn0, hn1⟩ := hrn
        cases ok
        · have HF := hide (HE2.out.trans (if_pos rfl))
          clear HE2
          go_wp2_with (go_at_call 255; refine (readNum_any _ _ hsz).mono ?_; rintro e w' ⟨rfl, rfl⟩; rw [HQ.out])
          go_ret2
          exact ⟨by rw [HF.out]; rfl, rfl⟩
        · have HF := hide (HE2.out.trans (if_neg (by decide)))
          clear HE2
          by_cases hb : room ≤ n ∨ (k + 1 < bs.length ∧ 255 < n)
          · have HG := hide (HF.out.trans (if_pos hb))
            clear HF
            by_cases hrn : room ≤ n
            · clear hb
              go_wp2_with (go_at_call 255; refine (readNum_any _ _ hsz).mono ?_; rintro e w' ⟨rfl, rfl⟩; rw [HQ.out])
              all_goals go_ret2
              all_goals exact ⟨by rw [HG.out]; rfl, rfl⟩
            · have hb2 : k + 1 < bs.length ∧ 255 < n := by
                rcases hb with h | h
                · exact absurd h hrn
                · exact h
              obtain ⟨hb3, hb4⟩ := hb2
              have hlast : ((k : Int) == (bs.length : Int) - 1) = false := beq_eq_false_iff_ne.2 (by omega)
              clear hb
              go_wp2_with (go_at_call 255; refine (readNum_any _ _ hsz).mono ?_; rintro e w' ⟨rfl, rfl⟩; rw [HQ.out])
              all_goals go_ret2
              all_goals exact ⟨by rw [HG.out]; rfl, rfl⟩
          · have HG := hide (HF.out.trans (if_neg hb))
            clear HF
            have hrn : ¬ room ≤ n := fun h => hb (Or.inl h)
            by_cases hm : k + 1 < bs.length
            · have hn255 : ¬ 255 < n := fun h => hb (Or.inr ⟨hm, h⟩)
              have HH := hide (HG.out.trans (if_pos hm))
              have hlast : ((k : Int) == (bs.length : Int) - 1) = false := beq_eq_false_iff_ne.2 (by omega)
              clear hb HG
              have hd0 : 0 ≤ room / 256 := by omega
              have hd1 : room / 256 ≤ 16777216 := by omega
              have hm0 : 0 ≤ n * (room / 256) := Int.mul_nonneg hn0 hd0
              have hm1 : n * (room / 256) ≤ 255 * 16777216 := Int.mul_le_mul (by omega) hd1 hd0 (by decide)
              have HDV := hide (show Int.tdiv room 256 = room / 256 from Int.tdiv_eq_ediv_of_nonneg hr0)
              go_wp2_with (go_at_call 255; refine (readNum_any _ _ hsz).mono ?_; rintro e w' ⟨rfl, rfl⟩; rw [HQ.out])
              go_round
              case rel => exact ⟨k + 1, value + n * (room / 256), room / 256, by omega, by go_num, by go_num, by go_num, by omega, by omega, by omega, by omega, HH.out⟩
              case measure => simp [intOf]; omega
            · have HH := hide (HG.out.trans (if_neg hm))
              have hlast : ((k : Int) == (bs.length : Int) - 1) = true := by rw [beq_iff_eq]; omega
              clear hb HG
              go_wp2_with (go_at_call 255; refine (readNum_any _ _ hsz).mono ?_; rintro e w' ⟨rfl, rfl⟩; rw [HQ.out])
              go_round
              case rel => exact ⟨k + 1, value + n, room, by omega, by go_num, by go_num, rfl, by omega, by omega, by omega, by omega, HH.out⟩
              case measure => simp [intOf]; omega
      · have HF := hide (show ip4 (bs.map tl) = (value, true) by rw [hE, List.drop_of_length_le (by omega)]; rfl)
        clear hE
        go_wp2
        go_ret2
        exact ⟨by rw [HF.out]; rfl, rfl⟩
end Go.Proofs.YtchkhibgbnhjpaaGreatDoor
