import Derived.Test.YtchkhibgbnhjpaaGreatDoorPth3
namespace Go.Proofs.YtchkhibgbnhjpaaGreatDoor
open Go.RowKit
theorem own_mono {w : World} {base base' : Nat} {e : TypeId} {size : Nat} {v : Value} {n : Nat} {xs : List Value} (h : w.ownsRow base e size v n xs) (hb : base' ≤ base) : w.ownsRow base' e size v n xs := by
  obtain ⟨h1, h2 | ⟨g, cap, cur, h2, h3, h4⟩⟩ := h
  · exact ⟨h1, .inl h2⟩
  · exact ⟨h1, .inr ⟨g, cap, cur, h2, Nat.le_trans hb h3, h4⟩⟩
theorem PthAt.facts6 {w : World} {pb : Nat} {f s : Bool} {v : Value} (h : PthAt w pb f s v) : w.cell? ⟨pb, 0, none⟩ = some (.bool f) ∧ w.cell? ⟨pb, 1, none⟩ = some (.bool s) ∧ w.cell? ⟨pb, 2, none⟩ = some v ∧ w.frozen? ⟨pb, 0, none⟩ = false ∧ w.frozen? ⟨pb, 1, none⟩ = false ∧ w.frozen? ⟨pb, 2, none⟩ = false := by
  unfold PthAt at h
  refine ⟨?_, ?_, ?_, ?_, ?_, ?_⟩ <;> simp [World.cell?, World.frozen?, h]
/-- A block of cells of the type t. -/
def TyB (w : World) (pb : Nat) (t : TypeId) : Prop := ∃ (cs : Array Value) (fz : Nat × Nat), w.heap[pb]? = some (Obj.cells cs t fz)
theorem TyB.set {w : World} {pb : Nat} {t : TypeId} (h : TyB w pb t) (q i : Nat) (u : Value) : TyB (w.setCell ⟨q, i, none⟩ u) pb t := by
  obtain ⟨cs, fz, h⟩ := h
  by_cases hq : q = pb
  · subst hq
    simp only [TyB, World.setCell, Array.getElem?_modify, if_pos, h]
    exact ⟨_, _, rfl⟩
  · simp only [TyB, World.setCell, Array.getElem?_modify, if_neg hq]
    exact ⟨cs, fz, h⟩
theorem TyB.own {w : World} {pb base : Nat} {t : TypeId} (h : TyB w pb t) (ht : t ≠ 9) {v : Value} {bs : List ByteArray} (ho : OwnS w base v bs) (i : Nat) (u : Value) : OwnS (w.setCell ⟨pb, i, none⟩ u) base v bs := by
  obtain ⟨cs, fz, h⟩ := h
  obtain ⟨h1, ⟨rfl, h3⟩ | ⟨g, cap, cur, rfl, h4, h5, h6⟩⟩ := ho
  · exact ⟨h1, .inl ⟨rfl, h3⟩⟩
  · refine ⟨h1, .inr ⟨g, cap, cur, rfl, h4, ?_, h6⟩⟩
    have hne : pb ≠ g := by
      intro e
      subst e
      rw [h] at h5
      simp only [Option.some.injEq, Obj.cells.injEq] at h5
      exact ht h5.2.1
    simp only [World.setCell, Array.getElem?_modify, if_neg hne]
    exact h5
theorem PthAt.ty {w : World} {pb : Nat} {f s : Bool} {v : Value} (h : PthAt w pb f s v) : TyB w pb 168 := ⟨_, _, h⟩
theorem PthAt.far {w : World} {pb q : Nat} {f s : Bool} {v : Value} (h : PthAt w pb f s v) (hq : q ≠ pb) (i : Nat) (u : Value) : PthAt (w.setCell ⟨q, i, none⟩ u) pb f s v := by
  unfold PthAt at *
  simp only [World.setCell, Array.getElem?_modify, if_neg hq]
  exact h
theorem PthAt.all {w : World} {pb : Nat} {f s : Bool} {v : Value} (h : PthAt w pb f s v) (f' s' : Bool) (v' : Value) : PthAt (((w.setCell ⟨pb, 0, none⟩ (.bool f')).setCell ⟨pb, 1, none⟩ (.bool s')).setCell ⟨pb, 2, none⟩ v') pb f' s' v' := by
  unfold PthAt at *
  simp [World.setCell, Array.getElem?_modify, h]
/- paths.begin -/
def fileB : List UInt8 := [102, 105, 108, 101]
set_option maxHeartbeats 2000000 in
theorem begin_any (v : Value) (bs : List ByteArray) (sch : ByteArray) (w : World) (hv : StrsAt w v bs) (hl : bs.length ≤ 1000000) :
    Calls Tryz.prog 189 #[v, .string sch] w fun e w' => ∃ v', e = .returned (.agg #[.bool (tl sch == fileB), .bool (isSpecial (tl sch)), v']) ∧ OwnS w' w.heap.size v' bs ∧ Nx w w' := by
  have HV := hide hv
  clear hv
  go_enter Tryz.func189, Tryz.ntmps189
  have HX := hide (show (sch.toList == [102, 105, 108, 101]) = (tl sch == fileB) by rw [ByteArray.toList_eq]; rfl)
  go_wp2_with (go_at_call 112; refine (special_any _ _).mono ?_; rintro e w' ⟨rfl, rfl⟩)
  rw [HX.out]
  refine (copy_any v bs _ ?_ hl).mono ?_
  · exact HV.out.on ((Nx.rfl.alloc _).alloc _)
  rintro e w2 ⟨v2, rfl, ho, hn⟩
  have HP2 := hide (PthAt.on (show PthAt ((w.alloc (Obj.cells #[Value.bool false, Value.bool false, Value.slice none 0 0] 168)).alloc (Obj.cells #[Value.bool (tl sch == fileB), Value.bool (isSpecial (tl sch)), Value.slice none 0 0] 168)) (w.heap.size + 1) _ _ _ from by unfold PthAt; rw [show w.heap.size + 1 = (w.alloc (Obj.cells #[Value.bool false, Value.bool false, Value.slice none 0 0] 168)).heap.size by simp]; exact heap_alloc_new _ _) hn)
  have HR2 := hide (PthAt.on (show PthAt ((w.alloc (Obj.cells #[Value.bool false, Value.bool false, Value.slice none 0 0] 168)).alloc (Obj.cells #[Value.bool (tl sch == fileB), Value.bool (isSpecial (tl sch)), Value.slice none 0 0] 168)) w.heap.size _ _ _ from PthAt.on (heap_alloc_new w _) (Nx.rfl.alloc _)) hn)
  have HN2 := hide (show Nx w w2 from ((Nx.rfl.alloc _).alloc _).then hn)
  have HO2 := hide (show OwnS w2 w.heap.size v2 bs from own_mono ho (by simp; omega))
  obtain ⟨ao, cap, hv2⟩ : ∃ ao cap, v2 = .slice ao bs.length cap := by
    obtain ⟨h1, ⟨h2, h3⟩ | ⟨g', cap', cur, h2, h4⟩⟩ := HO2.out
    · exact ⟨none, 0, by rw [h2, h3]⟩
    · exact ⟨_, _, h2⟩
  subst hv2
  clear ho hn
  obtain ⟨hc0, hc1, hc2, hf2⟩ := HP2.out.facts
  obtain ⟨hd0, hd1, hd2, hg0, hg1, hg2⟩ := HR2.out.facts6
  have HTP := hide (HP2.out.ty)
  have HTR := hide (HR2.out.ty)
  have HR3 := hide ((HR2.out.far (q := w.heap.size + 1) (by omega) 2 (.slice ao bs.length cap)).all (tl sch == fileB) (isSpecial (tl sch)) (.slice ao bs.length cap))
  obtain ⟨hs0, hs1, hs2, -, -, -⟩ := HR3.out.facts6
  go_wp2
  exact bodyPost_ret (v := .agg #[.bool (tl sch == fileB), .bool (isSpecial (tl sch)), .slice ao bs.length cap]) (by simp [results, Tryz.results189, go_sem, hs0, hs1, hs2]) rfl ⟨_, rfl,
    ((HTR.out.set _ _ _).set _ _ _ |>.set _ _ _).own (by decide) (((HTR.out.set _ _ _).set _ _ _).own (by decide) ((HTR.out.set _ _ _).own (by decide) (HTP.out.own (by decide) HO2.out _ _) _ _) _ _) _ _,
    (((HN2.out.setCell (by simp) _).setCell (Nat.le_refl _) _).setCell (Nat.le_refl _) _).setCell (Nat.le_refl _) _⟩
end Go.Proofs.YtchkhibgbnhjpaaGreatDoor
