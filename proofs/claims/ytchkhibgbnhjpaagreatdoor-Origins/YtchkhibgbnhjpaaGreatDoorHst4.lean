import Derived.Test.YtchkhibgbnhjpaaGreatDoorHst3
namespace Go.Proofs.YtchkhibgbnhjpaaGreatDoor
open Go.RowKit

/-- All blocks but gb are as they were. -/
structure But (gb : Nat) (w w' : World) : Prop where
  os : w'.os = w.os
  tape : w'.tape = w.tape
  output : w'.output = w.output
  size : w.heap.size ≤ w'.heap.size
  block : ∀ k, k < w.heap.size → k ≠ gb → w'.heap[k]? = w.heap[k]?
theorem But.refl (gb : Nat) (w : World) : But gb w w := ⟨rfl, rfl, rfl, Nat.le_refl _, fun _ _ _ => rfl⟩
theorem But.then {gb : Nat} {a b c : World} (h : But gb a b) (k : But gb b c) : But gb a c :=
  ⟨k.os.trans h.os, k.tape.trans h.tape, k.output.trans h.output, Nat.le_trans h.size k.size, fun i hi hn => (k.block i (Nat.lt_of_lt_of_le hi h.size) hn).trans (h.block i hi hn)⟩
theorem But.nx {gb : Nat} {a b : World} (h : Nx a b) : But gb a b := ⟨h.os, h.tape, h.output, h.size, fun k hk _ => h.block k hk⟩
theorem But.set {gb : Nat} {a b : World} (h : But gb a b) (i : Nat) (u : Value) : But gb a (b.setCell ⟨gb, i, none⟩ u) :=
  h.then ⟨rfl, rfl, rfl, by simp [World.setCell], fun k _ hk => Below.heap_setCell _ _ _ _ hk⟩
theorem But.drew {gb : Nat} {a w : World} (h : But gb a w) : But gb a w.drew := ⟨h.os, h.tape, h.output, h.size, h.block⟩
theorem But.below {gb B : Nat} {a w : World} (h : But gb a w) (h1 : B ≤ gb) (h2 : B ≤ a.heap.size) : Below B a w := ⟨h.os, h.tape, h.output, h.size, fun k hk => h.block k (by omega) (by omega)⟩
theorem RowAt.but {α : Type} {e : TypeId} {f : α → Value} {w w' : World} {b off gb : Nat} {l : List α} (h : RowAt e f w b off l) (hb : But gb w w') (hn : b ≠ gb) : RowAt e f w' b off l := by
  obtain ⟨cs, fz, hh, hc⟩ := h
  exact ⟨cs, fz, (hb.block b (Array.getElem?_eq_some_iff.1 hh).1 hn).trans hh, hc⟩

/-- The groups of an address while they are read: their block. -/
def GrpAt (w : World) (gb : Nat) (ns : List Int) (n : Nat) : Prop := w.heap[gb]? = some (Obj.cells (ns.map (Value.int .i64) ++ [Value.int .i64 (n : Int)]).toArray 209 (0, 0)) ∧ ns.length = 8
theorem GrpAt.on {w w' : World} {gb n : Nat} {ns : List Int} (h : GrpAt w gb ns n) (hb : Nx w w') : GrpAt w' gb ns n :=
  ⟨(hb.block gb (Array.getElem?_eq_some_iff.1 h.1).1).trans h.1, h.2⟩
theorem GrpAt.but {w w' : World} {gb q n : Nat} {ns : List Int} (h : GrpAt w gb ns n) (hb : But q w w') (hn : gb ≠ q) : GrpAt w' gb ns n :=
  ⟨(hb.block gb (Array.getElem?_eq_some_iff.1 h.1).1 hn).trans h.1, h.2⟩
theorem GrpAt.cell {w : World} {gb n : Nat} {ns : List Int} (h : GrpAt w gb ns n) {i : Nat} (hi : i < ns.length) : w.cell? ⟨gb, i, none⟩ = some (.int .i64 ns[i]) := by
  have h1 := h.1
  simp [World.cell?, h1, List.getElem?_append, hi]
theorem GrpAt.count {w : World} {gb n : Nat} {ns : List Int} (h : GrpAt w gb ns n) : w.cell? ⟨gb, 8, none⟩ = some (.int .i64 (n : Int)) := by
  have h1 := h.1
  have h2 := h.2
  simp [World.cell?, h1, h2]
theorem GrpAt.free {w : World} {gb n : Nat} {ns : List Int} (h : GrpAt w gb ns n) (i : Nat) : w.frozen? ⟨gb, i, none⟩ = false := by
  have h1 := h.1
  simp [World.frozen?, h1]
theorem GrpAt.add {w : World} {gb n : Nat} {ns : List Int} (h : GrpAt w gb ns n) (hn : n < 8) (x : Int) : GrpAt ((w.setCell ⟨gb, n, none⟩ (.int .i64 x)).setCell ⟨gb, 8, none⟩ (.int .i64 ((n : Int) + 1))) gb (ns.set n x) (n + 1) := by
  obtain ⟨h1, h2⟩ := h
  refine ⟨?_, by rw [List.length_set]; exact h2⟩
  simp only [World.setCell, Array.getElem?_modify, if_pos, h1]
  simp [List.map_set, h2, hn]
/-- (*hosts.groups).add -/
def addG (g : List Int × Nat) (x : Int) : (List Int × Nat) × Bool := if g.2 < 8 then ((g.1.set g.2 x, g.2 + 1), true) else (g, false)
theorem addG_len (g : List Int × Nat) (x : Int) : (addG g x).1.1.length = g.1.length := by unfold addG; split <;> simp
theorem addG_le (g : List Int × Nat) (x : Int) (h : g.2 ≤ 8) : (addG g x).1.2 ≤ 8 := by unfold addG; split <;> simp <;> omega
set_option maxHeartbeats 1000000 in
theorem addG_any (gb : Nat) (g : List Int × Nat) (x : Int) (w : World) (h : GrpAt w gb g.1 g.2) :
    Calls Tryz.prog 259 #[.pointer (some ⟨gb, 0, none⟩), .int .i64 x] w fun e w' => e = .returned (.bool (addG g x).2) ∧ GrpAt w' gb (addG g x).1.1 (addG g x).1.2 ∧ But gb w w' := by
  obtain ⟨ns, n⟩ := g
  simp only at *
  have hl := h.2
  have hc8 := h.count
  have hf8 := h.free 8
  have HG := hide h
  by_cases hn : n < 8
  · have HE := hide (show addG (ns, n) x = ((ns.set n x, n + 1), true) from if_pos hn)
    have hnl : n < ns.length := by omega
    have hcn := h.cell (i := n) hnl
    have hfn := h.free n
    have HA := hide (h.add hn x)
    have HB := hide (((But.refl gb w).set n (.int .i64 x)).set 8 (.int .i64 ((n : Int) + 1)))
    have hne : (n : Int) ≤ 7 := by omega
    have HL := hide hl
    have hz : n ≠ 8 := by omega
    clear h hl
    go_enter Tryz.func259, Tryz.ntmps259
    go_wp2
    go_region
    all_goals go_wp2
    all_goals go_ret
    all_goals rw [HE.out]
    all_goals exact ⟨rfl, HA.out, HB.out.drew⟩
  · have HE := hide (show addG (ns, n) x = ((ns, n), false) from if_neg hn)
    have hne : 8 ≤ (n : Int) := by omega
    clear h hl
    go_enter Tryz.func259, Tryz.ntmps259
    go_wp2
    go_ret
    rw [HE.out]
    exact ⟨rfl, HG.out, But.refl _ _⟩
end Go.Proofs.YtchkhibgbnhjpaaGreatDoor
