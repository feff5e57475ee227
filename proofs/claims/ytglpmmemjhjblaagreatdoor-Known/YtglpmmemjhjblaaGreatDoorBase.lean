import Derived.Test.YtglpmmemjhjblaaGreatDoorProg
import Derived.WalkKit
import Derived.WalkSpells
import Derived.WalkLawsBesides
namespace Go.Proofs.YtglpmmemjhjblaaGreatDoor
open Go.RowKit

/-- The bytes of a string. -/
def tl (s : ByteArray) : List UInt8 := s.data.toList
theorem tl_length (s : ByteArray) : (tl s).length = s.size := by unfold tl ByteArray.size; rw [Array.length_toList]
theorem tl_get (s : ByteArray) (k : Nat) (h : k < s.size) : (tl s)[k]'(by rw [tl_length]; exact h) = s[k] := rfl
theorem tl_take_succ (s : ByteArray) (k : Nat) (h : k < s.size) : (tl s).take (k + 1) = (tl s).take k ++ [s[k]] := by
  rw [List.take_succ_eq_append_getElem (by rw [tl_length]; exact h), tl_get s k h]
theorem tl_drop (s : ByteArray) (k : Nat) (h : k < s.size) : (tl s).drop k = s[k] :: (tl s).drop (k + 1) := by
  rw [List.drop_eq_getElem_cons (by rw [tl_length]; exact h), tl_get s k h]
theorem tl_take_all (s : ByteArray) (k : Nat) (h : s.size ≤ k) : (tl s).take k = tl s := List.take_of_length_le (by rw [tl_length]; exact h)
theorem tl_drop_all (s : ByteArray) (k : Nat) (h : s.size ≤ k) : (tl s).drop k = [] := List.drop_of_length_le (by rw [tl_length]; exact h)
theorem tl_mk (l : List UInt8) : tl ⟨l.toArray⟩ = l := by simp [tl]
theorem tl_extract (s : ByteArray) (a b : Nat) : tl (s.extract a b) = ((tl s).take b).drop a := by
  unfold tl; rw [ByteArray.data_extract, Array.toList_extract, List.extract_eq_take_drop, List.drop_take]
theorem tl_inj {s t : ByteArray} (h : tl s = tl t) : s = t := by
  cases s with | mk a => cases t with | mk b => unfold tl at h; congr; exact Array.toList_inj.1 h
theorem hide {p : Prop} (h : p) : Hid p := h
theorem bb (b : UInt8) : b.toNat < 256 := b.toNat_lt
theorem ret_bool {a b : Bool} (h : a = b) : Ending.returned (.bool a) = .returned (.bool b) := by rw [h]
theorem ret_int {k : IntKind} {a b : Int} (h : a = b) : Ending.returned (.int k a) = .returned (.int k b) := by rw [h]

/-- urlsref.among -/
def among (c : Int) (t : List UInt8) : Bool := t.any fun b => (b.toNat : Int) == c
theorem among_snoc (c : Int) (t : List UInt8) (b : UInt8) : among c (t ++ [b]) = (among c t || (b.toNat : Int) == c) := by simp [among]
theorem among_hit (c : Int) (t : ByteArray) (k : Nat) (h : k < t.size) (he : ((t[k].toNat : Int) == c) = true) : among c (tl t) = true := by
  unfold among; rw [List.any_eq_true]; exact ⟨t[k], by rw [← tl_get t k h]; exact List.getElem_mem _, he⟩

set_option maxHeartbeats 400000 in
theorem among_any (c : Int) (t : ByteArray) (w : World) (ht : t.size ≤ maxLen) :
    Calls Tryz.prog 113 #[.int .i64 c, .string t] w fun e w' => e = .returned (.bool (among c (tl t))) ∧ w = w' := by
  unfold maxLen at ht
  go_enter Tryz.func113, Tryz.ntmps113
  go_wp2
  go_loop [5] (fun i => ∃ k : Nat, k ≤ t.size ∧ i = .int .i64 k ∧ among c ((tl t).take k) = false) (fun i => t.size - (intOf i).toNat)
  case atStart => exact ⟨0, Nat.zero_le _, rfl, rfl⟩
  case round =>
    obtain ⟨k, hk, rfl, ha⟩ := hrel
    have HA : Hid (among c ((tl t).take k) = false) := ha
    clear ha
    by_cases hlt : k < t.size
    · have hb := bb t[k]
      go_wp2
      · go_ret
        exact ⟨ret_bool (among_hit c t k hlt (by assumption)).symm, rfl⟩
      · go_round
        case rel => exact ⟨k + 1, by omega, by go_num, by rw [tl_take_succ t k hlt, among_snoc, HA.out]; assumption⟩
        case measure => simp [intOf]; omega
    · go_wp2
      go_ret
      exact ⟨ret_bool (by rw [← HA.out, tl_take_all _ _ (by omega)]), rfl⟩

/-- urlsref.alpha, urlsref.numeral -/
def alpha (c : Int) : Bool := decide ((97 ≤ c ∧ c ≤ 122) ∨ (65 ≤ c ∧ c ≤ 90))
def numeral (c : Int) : Bool := decide (48 ≤ c ∧ c ≤ 57)
theorem alpha_any (c : Int) (w : World) :
    Calls Tryz.prog 123 #[.int .i64 c] w fun e w' => e = .returned (.bool (alpha c)) ∧ w = w' := by
  go_enter Tryz.func123, Tryz.ntmps123
  go_wp2
  all_goals go_ret
  all_goals exact ⟨ret_bool (by rw [Bool.eq_iff_iff]; simp [alpha]; omega), rfl⟩
theorem numeral_any (c : Int) (w : World) :
    Calls Tryz.prog 124 #[.int .i64 c] w fun e w' => e = .returned (.bool (numeral c)) ∧ w = w' := by
  go_enter Tryz.func124, Tryz.ntmps124
  go_wp2
  all_goals go_ret
  all_goals exact ⟨ret_bool (by rw [Bool.eq_iff_iff]; simp [numeral]; omega), rfl⟩

/-- What the call leaves alone: all that was there. -/
abbrev Nx (w w' : World) : Prop := Below w.heap.size w w'
theorem Nx.rfl {w : World} : Nx w w := Below.refl _ _
theorem Nx.then {a b c : World} (h : Nx a b) (k : Nx b c) : Nx a c := h.trans (k.mono h.size)

/-- Blocks of cells that are no rows of e's stand as they stood. -/
def Kp (e : TypeId) (w w' : World) : Prop := ∀ (k : Nat) (cs : Array Value) (t : TypeId) (fz : Nat × Nat), w.heap[k]? = some (Obj.cells cs t fz) → t ≠ e → w'.heap[k]? = some (Obj.cells cs t fz)
theorem Kp.rfl {e : TypeId} {w : World} : Kp e w w := fun _ _ _ _ h _ => h
theorem Kp.then {e : TypeId} {a b c : World} (h : Kp e a b) (k : Kp e b c) : Kp e a c := fun i cs t fz hi hn => k i cs t fz (h i cs t fz hi hn) hn
theorem Nx.kp {e : TypeId} {w w' : World} (h : Nx w w') : Kp e w w' := fun k _ _ _ hk _ => (h.block k (Array.getElem?_eq_some_iff.1 hk).1).trans hk

/-- The row at block b, from cell off on, reads as the list l. -/
def RowAt {α : Type} (e : TypeId) (f : α → Value) (w : World) (b off : Nat) (l : List α) : Prop :=
  ∃ (cs : Array Value) (fz : Nat × Nat), w.heap[b]? = some (Obj.cells cs e fz) ∧ ∀ i, (h : i < l.length) → cs[off + i]? = some (f l[i])
/-- The slice value v reads, in w, as the list l. -/
def SlAt {α : Type} (e : TypeId) (f : α → Value) (w : World) (v : Value) (l : List α) : Prop :=
  ∃ ao cap, v = .slice ao l.length cap ∧ l.length ≤ cap ∧ cap ≤ maxLen ∧ (ao = none → l = [] ∧ cap = 0) ∧ ∀ a, ao = some a → ∃ b off, a = ⟨b, off, none⟩ ∧ RowAt e f w b off l

section
variable {α : Type} {e : TypeId} {f : α → Value} {w w' : World} {v : Value} {l : List α} {b off : Nat}
theorem RowAt.cell (h : RowAt e f w b off l) {i : Nat} (hi : i < l.length) : w.cell? ⟨b, off + i, none⟩ = some (f l[i]) := by
  obtain ⟨cs, fz, hh, hc⟩ := h
  simpa [World.cell?, hh] using hc i hi
theorem RowAt.lt (h : RowAt e f w b off l) : b < w.heap.size := by
  obtain ⟨cs, fz, hh, _⟩ := h
  exact (Array.getElem?_eq_some_iff.1 hh).1
theorem RowAt.on (h : RowAt e f w b off l) (hb : Nx w w') : RowAt e f w' b off l := by
  obtain ⟨cs, fz, hh, hc⟩ := h
  exact ⟨cs, fz, (hb.block b (Array.getElem?_eq_some_iff.1 hh).1).trans hh, hc⟩
theorem RowAt.kp {e' : TypeId} (h : RowAt e f w b off l) (hb : Kp e' w w') (he : e ≠ e') : RowAt e f w' b off l := by
  obtain ⟨cs, fz, hh, hc⟩ := h
  exact ⟨cs, fz, hb b cs e fz hh he, hc⟩
theorem RowAt.below {B : Nat} (h : RowAt e f w b off l) (hb : Below B w w') (hB : b < B) : RowAt e f w' b off l := by
  obtain ⟨cs, fz, hh, hc⟩ := h
  exact ⟨cs, fz, (hb.block b hB).trans hh, hc⟩
theorem RowAt.take (h : RowAt e f w b off l) (k : Nat) : RowAt e f w b off (l.take k) := by
  obtain ⟨cs, fz, hh, hc⟩ := h
  refine ⟨cs, fz, hh, fun i hi => ?_⟩
  rw [List.length_take] at hi
  rw [hc i (by omega), List.getElem_take]
theorem RowAt.drop (h : RowAt e f w b off l) (k : Nat) : RowAt e f w b (off + k) (l.drop k) := by
  obtain ⟨cs, fz, hh, hc⟩ := h
  refine ⟨cs, fz, hh, fun i hi => ?_⟩
  rw [List.length_drop] at hi
  rw [Nat.add_assoc, hc (k + i) (by omega), List.getElem_drop]

theorem SlAt.on (h : SlAt e f w v l) (hb : Nx w w') : SlAt e f w' v l := by
  obtain ⟨ao, cap, rfl, hlc, hcap, hnone, hsome⟩ := h
  refine ⟨ao, cap, rfl, hlc, hcap, hnone, fun a ha => ?_⟩
  obtain ⟨b, off, rfl, hr⟩ := hsome a ha
  exact ⟨b, off, rfl, hr.on hb⟩
theorem SlAt.kp {e' : TypeId} (h : SlAt e f w v l) (hb : Kp e' w w') (he : e ≠ e') : SlAt e f w' v l := by
  obtain ⟨ao, cap, rfl, hlc, hcap, hnone, hsome⟩ := h
  refine ⟨ao, cap, rfl, hlc, hcap, hnone, fun a ha => ?_⟩
  obtain ⟨b, off, rfl, hr⟩ := hsome a ha
  exact ⟨b, off, rfl, hr.kp hb he⟩
theorem SlAt.nil (w : World) : SlAt e f w (.slice none 0 0) [] := ⟨none, 0, rfl, by simp, Nat.zero_le _, fun _ => ⟨rfl, rfl⟩, nofun⟩
theorem SlAt.len (h : SlAt e f w v l) : l.length ≤ maxLen := by
  obtain ⟨ao, cap, rfl, hlc, hcap, _⟩ := h; exact Nat.le_trans hlc hcap
theorem sl_mk {cap : Nat} (hr : RowAt e f w b off l) (hlc : l.length ≤ cap) (hcap : cap ≤ maxLen) : SlAt e f w (.slice (some ⟨b, off, none⟩) l.length cap) l :=
  ⟨_, _, rfl, hlc, hcap, nofun, fun _ ha => ⟨b, off, (Option.some.inj ha).symm, hr⟩⟩
theorem sl_take {cap : Nat} (hr : RowAt e f w b off l) (hlc : l.length ≤ cap) (hcap : cap ≤ maxLen) (k : Nat) (hk : k ≤ l.length) :
    SlAt e f w (.slice (some ⟨b, off, none⟩) k cap) (l.take k) := by
  have hl : (l.take k).length = k := by rw [List.length_take]; omega
  have := sl_mk (cap := cap) (hr.take k) (by omega) hcap
  rwa [hl] at this
theorem sl_drop {cap : Nat} (hr : RowAt e f w b off l) (hlc : l.length ≤ cap) (hcap : cap ≤ maxLen) (k : Nat) (hk : k ≤ l.length) :
    SlAt e f w (.slice (some ⟨b, off + k, none⟩) (l.length - k) (cap - k)) (l.drop k) := by
  have hl : (l.drop k).length = l.length - k := List.length_drop
  have := sl_mk (cap := cap - k) (hr.drop k) (by omega) (by omega)
  rwa [hl] at this
theorem sl_end (hr : RowAt e f w b off l) (k c : Nat) (hk : l.length ≤ k) (hc : c ≤ maxLen) :
    SlAt e f w (.slice (some ⟨b, off, none⟩) (l.length - k) c) (l.drop k) := by
  have hl : l.drop k = [] := List.drop_of_length_le hk
  obtain ⟨cs, fz, hh, _⟩ := hr
  rw [hl, show l.length - k = 0 by omega]
  exact ⟨some ⟨b, off, none⟩, c, rfl, by simp, hc, nofun, fun _ ha => ⟨b, off, (Option.some.inj ha).symm, cs, fz, hh, fun i h => by simp at h⟩⟩
theorem sl_some {ao : Option Addr} {cap : Nat} {k : Nat} (hk : k < l.length) (hnone : ao = none → l = [] ∧ cap = 0) : ∃ a, ao = some a := by
  cases ao with
  | none => have := (hnone rfl).1; subst this; simp at hk
  | some a => exact ⟨a, rfl⟩
/-- A slice that has an element, opened. -/
theorem SlAt.open_ {k : Nat} (h : SlAt e f w v l) (hk : k < l.length) :
    ∃ b off cap, v = .slice (some ⟨b, off, none⟩) l.length cap ∧ l.length ≤ cap ∧ cap ≤ maxLen ∧ RowAt e f w b off l := by
  obtain ⟨ao, cap, rfl, hlc, hcap, hnone, hsome⟩ := h
  obtain ⟨a, rfl⟩ := sl_some hk hnone
  obtain ⟨b, off, rfl, hr⟩ := hsome a rfl
  exact ⟨b, off, cap, rfl, hlc, hcap, hr⟩
end
/-- A slice of integers, of strings, of bytes. -/
abbrev IntsAt (w : World) (v : Value) (l : List Int) : Prop := SlAt 3 (Value.int .i64) w v l
abbrev StrsAt (w : World) (v : Value) (l : List ByteArray) : Prop := SlAt 9 Value.string w v l

/-- urlsref.cut -/
def cut (l : List Int) (t : List UInt8) : List Int × List Int × Bool :=
  match l with
  | [] => ([], [], false)
  | c :: r => if among c t then ([], r, true) else (c :: (cut r t).1, (cut r t).2)
def CutTo (l : List Int) (t : List UInt8) (k : Nat) : Prop := cut l t = (l.take k ++ (cut (l.drop k) t).1, (cut (l.drop k) t).2)
theorem cutTo_zero (l : List Int) (t : List UInt8) : CutTo l t 0 := by simp [CutTo]
theorem cutTo_step {l : List Int} {t : List UInt8} {k : Nat} (hk : k < l.length) (h : CutTo l t k) (ha : among l[k] t = false) : CutTo l t (k + 1) := by
  unfold CutTo at *
  rw [h, List.drop_eq_getElem_cons hk, List.take_succ_eq_append_getElem hk, List.append_assoc]
  simp only [cut, ha, Bool.false_eq_true, if_false, List.cons_append, List.nil_append]
theorem cutTo_hit {l : List Int} {t : List UInt8} {k : Nat} (hk : k < l.length) (h : CutTo l t k) (ha : among l[k] t = true) : cut l t = (l.take k, l.drop (k + 1), true) := by
  unfold CutTo at h
  rw [h, List.drop_eq_getElem_cons hk]
  simp [cut, ha]
theorem cutTo_end {l : List Int} {t : List UInt8} {k : Nat} (hk : l.length ≤ k) (h : CutTo l t k) : cut l t = (l, [], false) := by
  unfold CutTo at h
  rw [h, List.drop_of_length_le hk, List.take_of_length_le hk]
  simp [cut]

set_option maxHeartbeats 400000 in
theorem cut_any (v : Value) (l : List Int) (t : ByteArray) (w : World) (ht : t.size ≤ maxLen) (hv : IntsAt w v l) :
    Calls Tryz.prog 93 #[v, .string t] w fun e w' => ∃ v1 v2, e = .returned (.tuple #[v1, v2, .bool (cut l (tl t)).2.2]) ∧ IntsAt w' v1 (cut l (tl t)).1 ∧ IntsAt w' v2 (cut l (tl t)).2.1 ∧ Nx w w' := by
  have HV : Hid (IntsAt w v l) := hv
  obtain ⟨ao, cap, rfl, hlc, hcap, hnone, hsome⟩ := hv
  have HCAP : Hid (cap ≤ maxLen) := hcap
  unfold maxLen at hcap
  go_enter Tryz.func93, Tryz.ntmps93
  go_wp2
  go_loop [7] (fun i => ∃ k : Nat, k ≤ l.length ∧ i = .int .i64 k ∧ CutTo l (tl t) k) (fun i => l.length - (intOf i).toNat)
  case atStart => exact ⟨0, Nat.zero_le _, rfl, cutTo_zero _ _⟩
  case round =>
    obtain ⟨k, hk, rfl, hto⟩ := hrel
    have HT : Hid (CutTo l (tl t) k) := hto
    clear hto
    by_cases hlt : k < l.length
    · obtain ⟨a, ha⟩ := sl_some hlt hnone
      subst ha
      obtain ⟨b, off, rfl, hr⟩ := hsome a rfl
      have hck := hr.cell hlt
      have HC := hide hr
      clear hnone hsome hr
      go_wp2_with (go_at_call 113; refine (among_any _ _ _ ht).mono ?_; rintro e w' ⟨rfl, rfl⟩)
      · have hr := cutTo_hit hlt HT.out (by assumption)
        have HR := hide hr
        clear hr
        go_region
        all_goals go_wp2
        all_goals go_ret3
        all_goals rw [HR.out]
        · have hcc : cap = k + 1 := by assumption
          subst hcc
          exact ⟨_, _, rfl, sl_take HC.out hlc HCAP.out k (by omega), sl_end HC.out (k + 1) 0 (by omega) (by simp), Nx.rfl.drew⟩
        · exact ⟨_, _, rfl, sl_take HC.out hlc HCAP.out k (by omega), sl_drop HC.out hlc HCAP.out (k + 1) (by omega), Nx.rfl.drew⟩
      · go_round
        case rel => exact ⟨k + 1, by omega, by go_num, cutTo_step hlt HT.out (by assumption)⟩
        case measure => simp [intOf]; omega
    · go_wp2
      go_ret3
      rw [cutTo_end (by omega) HT.out]
      exact ⟨_, _, rfl, HV.out, SlAt.nil _, Nx.rfl⟩
end Go.Proofs.YtglpmmemjhjblaaGreatDoor
