import Derived.Test.YtglpmmemjhjblaaGreatDoorText
namespace Go.Proofs.YtglpmmemjhjblaaGreatDoor
open Go.RowKit

theorem own_on {w w' : World} {base : Nat} {e : TypeId} {size : Nat} {v : Value} {n : Nat} {xs : List Value} (h : w.ownsRow base e size v n xs) (hb : Nx w w') : w'.ownsRow base e size v n xs := by
  obtain ⟨h1, h2⟩ := h
  refine ⟨h1, ?_⟩
  rcases h2 with h2 | ⟨g, cap, cur, hv, hg, hh, r⟩
  · exact Or.inl h2
  · exact Or.inr ⟨g, cap, cur, hv, hg, (hb.block g (Array.getElem?_eq_some_iff.1 hh).1).trans hh, r⟩

def toB (n : Int) : UInt8 := UInt8.ofNat n.toNat
/-- urlsref.Bytes -/
def bytesOf (l : List Int) : List UInt8 := l.flatMap fun c => (utf c).map toB
theorem bytesOf_snoc (l : List Int) (c : Int) : bytesOf (l ++ [c]) = bytesOf l ++ (utf c).map toB := by simp [bytesOf]
theorem bytesOf_len (l : List Int) : (bytesOf l).length ≤ 4 * l.length := by
  induction l with
  | nil => simp [bytesOf]
  | cons c l ih =>
    have h := utf_len c
    simp only [bytesOf, List.flatMap_cons, List.length_append, List.length_map, List.length_cons] at *
    omega

set_option maxHeartbeats 800000 in
theorem bytes_any (v : Value) (l : List Int) (w : World) (hv : IntsAt w v l) (hn : l.length ≤ 1000000) (hp : ∀ c ∈ l, Pt c) :
    Calls Tryz.prog 125 #[v] w fun e w' => ∃ r : ByteArray, e = .returned (.string r) ∧ tl r = bytesOf l ∧ Nx w w' := by
  obtain ⟨ao, cap, rfl, hlc, hcap, hnone, hsome⟩ := hv
  unfold maxLen at hcap
  go_enter Tryz.func125, Tryz.ntmps125
  go_wp2
  go_loopw [3, 4] (fun o i wr => ∃ k : Nat, k ≤ l.length ∧ i = .int .i64 k ∧ OwnB wr w.heap.size o (bytesOf (l.take k)) ∧ Nx w wr) (fun _ i _ => l.length - (intOf i).toNat)
  case atStart => exact ⟨0, Nat.zero_le _, rfl, World.ownsRow_nil _ _ _ _, Nx.rfl⟩
  case round =>
    obtain ⟨k, hk, rfl, hown, hnx⟩ := hrel
    by_cases hlt : k < l.length
    · obtain ⟨a, ha⟩ := sl_some hlt hnone
      subst ha
      obtain ⟨b, off, rfl, hr⟩ := hsome a rfl
      have hck := (hr.on hnx).cell hlt
      have HPT := hide (hp l[k] (List.getElem_mem _))
      have HTK := hide ((congrArg bytesOf (take_snoc_i l k hlt)).trans (bytesOf_snoc (l.take k) l[k]))
      have hsz : (bytesOf (l.take k)).length ≤ 4000000 := by have := bytesOf_len (l.take k); have := List.length_take_le k l; omega
      have HUL := hide (utf_len l[k])
      have HO := hide hown
      have HN := hide hnx
      clear hnone hsome hr hown hnx hp
      go_wp2_with fail
      refine (utf_any _ _ HPT.out).mono ?_
      rintro e w1 ⟨u, rfl, hu, hn1⟩
      have HO1 := hide (own_on HO.out hn1)
      have HN1 := hide (HN.out.then hn1)
      have HU := hide hu
      clear hu hn1 HO HN
      obtain ⟨ub, uoff, ucap, rfl, hulc, hucap, hur⟩ := HU.out.open_ (k := 0) (utf_pos _)
      unfold maxLen at hucap
      have HUC := hide hur
      clear hur
      go_wp2_with fail
      go_loopw [3, 6] (fun o j wr2 => ∃ m : Nat, m ≤ (utf l[k]).length ∧ j = .int .i64 m ∧ OwnB wr2 w.heap.size o (bytesOf (l.take k) ++ ((utf l[k]).take m).map toB) ∧ Nx w wr2 ∧ RowAt 3 (Value.int .i64) wr2 ub uoff (utf l[k])) (fun _ j _ => (utf l[k]).length - (intOf j).toNat)
      case atStart => exact ⟨0, Nat.zero_le _, rfl, by simpa using HO1.out, HN1.out, HUC.out⟩
      case round =>
        clear HO1 HN1 HUC HU
        obtain ⟨m, hm, rfl, hown, hnx, hur⟩ := hrel
        by_cases hml : m < (utf l[k]).length
        · have hcm := hur.cell hml
          have hby := utf_byte HPT.out (List.getElem_mem hml)
          have hz := hnx.size
          have hsz2 : (bytesOf (l.take k) ++ ((utf l[k]).take m).map toB).length < 1099511627776 := by
            have := List.length_take_le m (utf l[k]); have := HUL.out
            simp only [List.length_append, List.length_map]; omega
          have HTM := hide (take_snoc_i (utf l[k]) m hml)
          have HO := hide hown
          have HN := hide hnx
          have HR := hide hur
          clear hown hnx hur
          obtain ⟨hby0, hby1⟩ := hby
          go_wp2_with (at_builtin; go_must (refine app_byte1 wr (utf l[k])[m] rfl _ _ rfl w.heap.size _ _ rfl HO.out rfl hby0 hby1 hsz2 hz ?_; intro v' w1 ho1 hb1 hk1; have HO1 := hide ho1; clear ho1))
          go_roundw
          case rel => exact ⟨m + 1, by omega, by go_num, by rw [HTM.out, List.map_append, ← List.append_assoc]; exact HO1.out, HN.out.trans hb1, HR.out.kp hk1 (by decide)⟩
          case measure => simp [intOf]; omega
        · go_wp2
          go_roundw
          case rel => exact ⟨k + 1, by omega, by go_num, by rw [HTK.out]; rw [List.take_of_length_le (l := utf l[k]) (by omega)] at hown; exact hown, hnx⟩
          case measure => simp [intOf]; omega
    · rw [List.take_of_length_le (by omega)] at hown
      have hcv := conv_own hown
      have HO := hide hown
      clear hown
      go_wp2
      go_ret
      exact ⟨_, rfl, tl_mk _, hnx⟩
end Go.Proofs.YtglpmmemjhjblaaGreatDoor
