import Derived.Test.YtchkhibgbnhjpaaGreatDoorPth1
import Derived.Deep.OwnRows
import Derived.Laws.OwnMore
namespace Go.Proofs.YtchkhibgbnhjpaaGreatDoor
open Go.RowKit

/-- A row of strings of the call's own that is stored into. -/
def RowS (w : World) (nb : Nat) (ns : List ByteArray) : Prop := w.heap[nb]? = some (Obj.cells (ns.map Value.string).toArray 9 (0, 0))
theorem RowS.cell {w : World} {nb : Nat} {ns : List ByteArray} (h : RowS w nb ns) {i : Nat} (hi : i < ns.length) : w.cell? ⟨nb, i, none⟩ = some (.string ns[i]) := by
  unfold RowS at h
  simp [World.cell?, h, List.getElem?_eq_getElem hi]
theorem RowS.free {w : World} {nb : Nat} {ns : List ByteArray} (h : RowS w nb ns) (i : Nat) : w.frozen? ⟨nb, i, none⟩ = false := by
  unfold RowS at h
  simp [World.frozen?, h]
theorem RowS.set {w : World} {nb : Nat} {ns : List ByteArray} (h : RowS w nb ns) (i : Nat) (x : ByteArray) : RowS (w.setCell ⟨nb, i, none⟩ (.string x)) nb (ns.set i x) := by
  unfold RowS at *
  simp only [World.setCell, Array.getElem?_modify, if_pos, h]
  simp [List.map_set]
theorem rowS_start (w : World) (n : Nat) : RowS (w.alloc (.cells (madeCells #[Value.string ByteArray.empty] n) 9)) w.heap.size (List.replicate n ByteArray.empty) := by
  unfold RowS
  rw [heap_alloc_new]
  congr 2
  apply Array.toList_inj.1
  rw [toList_madeCells_one]
  simp
theorem RowS.own {w : World} {nb base : Nat} {ns : List ByteArray} (h : RowS w nb ns) (hb : base ≤ nb) (hl : ns.length ≤ maxLen) : OwnS w base (.slice (some ⟨nb, 0, none⟩) ns.length ns.length) ns :=
  ⟨by simp, .inr ⟨nb, ns.length, _, rfl, hb, h, Nat.le_refl _, hl, by simp, by rw [Nat.mul_one]; exact List.take_of_length_le (by simp)⟩⟩
theorem copy_step (bs : List ByteArray) (k : Nat) (h : k < bs.length) : (bs.take k ++ List.replicate (bs.length - k) ByteArray.empty).set k bs[k] = bs.take (k + 1) ++ List.replicate (bs.length - (k + 1)) ByteArray.empty := by
  rw [List.set_append_right k _ (by rw [List.length_take]; omega), List.length_take, show k - min k bs.length = 0 by omega, show bs.length - k = (bs.length - (k + 1)) + 1 by omega, List.replicate_succ, List.set_cons_zero, List.take_succ_eq_append_getElem h, List.append_assoc]
  rfl
theorem copy_end (bs : List ByteArray) (k : Nat) (h : bs.length ≤ k) : bs.take k ++ List.replicate (bs.length - k) ByteArray.empty = bs := by
  rw [List.take_of_length_le h, show bs.length - k = 0 by omega]
  simp
/- paths.Copy -/
set_option maxHeartbeats 2000000 in
theorem copy_any (v : Value) (bs : List ByteArray) (w : World) (hv : StrsAt w v bs) (hl : bs.length ≤ 1000000) :
    Calls Tryz.prog 195 #[v] w fun e w' => ∃ v', e = .returned v' ∧ OwnS w' w.heap.size v' bs ∧ Nx w w' := by
  obtain ⟨ao, cap, rfl, hlc, hcap, hnone, hsome⟩ := hv
  unfold maxLen at hcap
  have hmk := run_make_row' (P := Tryz.prog) 52 9 (.string ByteArray.empty) 16 Tryz.underlying52 infoStr rfl .i64 .i64 bs.length (by omega) (by omega)
  go_enter Tryz.func195, Tryz.ntmps195
  go_wp2
  clear hmk
  go_loopw [4] (fun i wr => ∃ k : Nat, k ≤ bs.length ∧ i = .int .i64 k ∧ RowS wr w.heap.size (bs.take k ++ List.replicate (bs.length - k) ByteArray.empty) ∧ Nx w wr) (fun i _ => bs.length - (intOf i).toNat)
  case atStart => exact ⟨0, Nat.zero_le _, rfl, by simpa using rowS_start w bs.length, Nx.rfl.alloc _⟩
  case round =>
    obtain ⟨k, hk, rfl, hrow, hnx⟩ := hrel
    by_cases hlt : k < bs.length
    · obtain ⟨a, ha⟩ := sl_some hlt hnone
      subst ha
      obtain ⟨b, off, rfl, hr⟩ := hsome a rfl
      have hck := (hr.on hnx).cell hlt
      have hc2 := hrow.cell (i := k) (by rw [List.length_append, List.length_take, List.length_replicate]; omega)
      have hf2 := hrow.free k
      have HR := hide (hrow.set k bs[k])
      rw [copy_step bs k hlt] at HR
      have HN := hide (show Nx w (wr.setCell ⟨w.heap.size, k, none⟩ (.string bs[k])) from Below.setCell hnx (Nat.le_refl _) _)
      clear hnone hsome hr hrow hnx
      go_wp2
      go_roundw
      case rel => exact ⟨k + 1, by omega, by go_num, HR.out, HN.out⟩
      case measure => simp [intOf]; omega
    · rw [copy_end bs k (by omega)] at hrow
      have HO := hide (hrow.own (Nat.le_refl _) (small_len hl))
      have HN := hide hnx
      clear hrow hnx
      go_wp2
      go_ret
      exact ⟨_, rfl, HO.out, HN.out⟩

/-- A path while it is read: its block. -/
def PthAt (w : World) (pb : Nat) (f s : Bool) (v : Value) : Prop := w.heap[pb]? = some (Obj.cells #[.bool f, .bool s, v] 168 (0, 0))
theorem PthAt.on {w w' : World} {pb : Nat} {f s : Bool} {v : Value} (h : PthAt w pb f s v) (hb : Nx w w') : PthAt w' pb f s v :=
  (hb.block pb (Array.getElem?_eq_some_iff.1 h).1).trans h
theorem PthAt.kp {w w' : World} {pb : Nat} {f s : Bool} {v : Value} (h : PthAt w pb f s v) (hb : Kp 9 w w') : PthAt w' pb f s v := hb pb _ _ _ h (by decide)
theorem PthAt.facts {w : World} {pb : Nat} {f s : Bool} {v : Value} (h : PthAt w pb f s v) : w.cell? ⟨pb, 0, none⟩ = some (.bool f) ∧ w.cell? ⟨pb, 1, none⟩ = some (.bool s) ∧ w.cell? ⟨pb, 2, none⟩ = some v ∧ w.frozen? ⟨pb, 2, none⟩ = false := by
  unfold PthAt at h
  refine ⟨?_, ?_, ?_, ?_⟩ <;> simp [World.cell?, World.frozen?, h]
theorem PthAt.set {w : World} {pb : Nat} {f s : Bool} {v : Value} (h : PthAt w pb f s v) (u : Value) : PthAt (w.setCell ⟨pb, 2, none⟩ u) pb f s u := by
  unfold PthAt at *
  simp only [World.setCell, Array.getElem?_modify, if_pos, h]
  rfl
theorem PthAt.own {w : World} {pb base : Nat} {f s : Bool} {v x : Value} {bs : List ByteArray} (h : PthAt w pb f s v) (ho : OwnS w base x bs) (u : Value) : OwnS (w.setCell ⟨pb, 2, none⟩ u) base x bs := by
  obtain ⟨h1, ⟨rfl, h3⟩ | ⟨g, cap, cur, rfl, h4, h5, h6⟩⟩ := ho
  · exact ⟨h1, .inl ⟨rfl, h3⟩⟩
  · refine ⟨h1, .inr ⟨g, cap, cur, rfl, h4, ?_, h6⟩⟩
    have hne : pb ≠ g := by
      intro e
      subst e
      unfold PthAt at h
      rw [h] at h5
      simp only [Option.some.injEq, Obj.cells.injEq] at h5
      exact absurd h5.2.1 (by decide)
    simp only [World.setCell, Array.getElem?_modify, if_neg hne]
    exact h5
theorem ownS_take {w : World} {base g n cap : Nat} {bs : List ByteArray} (h : OwnS w base (.slice (some ⟨g, 0, none⟩) n cap) bs) (k : Nat) (hk : k ≤ bs.length) : OwnS w base (.slice (some ⟨g, 0, none⟩) k cap) (bs.take k) := by
  obtain ⟨h1, ⟨h2, h3⟩ | ⟨g', cap', cur, h2, h4, h5, h6, h7, h8, h9⟩⟩ := h
  · cases h2
  · simp only [Value.slice.injEq, Option.some.injEq, Addr.mk.injEq] at h2
    obtain ⟨⟨rfl, -⟩, rfl, rfl⟩ := h2
    have hl : (bs.take k).length = k := by rw [List.length_take]; omega
    refine ⟨by simp, .inr ⟨g, cap, cur, by rw [hl], h4, h5, by omega, h7, h8, ?_⟩⟩
    rw [hl, List.map_take, ← h9, List.take_take]
    congr 1
    omega
theorem ownS_open {w : World} {base : Nat} {v : Value} {bs : List ByteArray} (h : OwnS w base v bs) (h0 : 0 < bs.length) : ∃ g cap, v = .slice (some ⟨g, 0, none⟩) bs.length cap ∧ bs.length ≤ cap ∧ cap ≤ maxLen := by
  obtain ⟨h1, ⟨h2, h3⟩ | ⟨g', cap', cur, h2, h4, h5, h6, h7, h8, h9⟩⟩ := h
  · omega
  · exact ⟨g', cap', h2, h6, h7⟩
theorem ownS_open0 {w : World} {base : Nat} {v : Value} (h : OwnS w base v []) : ∃ ao cap, v = .slice ao 0 cap := by
  obtain ⟨h1, ⟨h2, h3⟩ | ⟨g', cap', cur, h2, h4, h5, h6, h7, h8, h9⟩⟩ := h
  · exact ⟨_, _, h2⟩
  · exact ⟨_, _, h2⟩
/-- (*paths.path).shorten -/
def shortL (f : Bool) (ps : List (List UInt8)) : List (List UInt8) := if f = true ∧ ps.length = 1 ∧ writtenB (ps.getD 0 []) = true then ps else ps.take (ps.length - 1)
theorem shortL_len (f : Bool) (ps : List (List UInt8)) : (shortL f ps).length ≤ ps.length := by
  unfold shortL
  split
  · omega
  · rw [List.length_take]; omega
theorem map_getD (bs : List ByteArray) (h : 0 < bs.length) : (bs.map tl).getD 0 [] = tl bs[0] := by
  rw [List.getD_eq_getElem?_getD, List.getElem?_map, List.getElem?_eq_getElem h]; rfl
set_option maxHeartbeats 2000000 in
theorem shorten_any (pb base : Nat) (f s : Bool) (v : Value) (bs : List ByteArray) (w : World) (hp : PthAt w pb f s v) (ho : OwnS w base v bs) (hb : base ≤ pb) (hl : bs.length ≤ 1000000) :
    Calls Tryz.prog 226 #[.pointer (some ⟨pb, 0, none⟩)] w fun e w' => ∃ x v' bs', e = .returned x ∧ PthAt w' pb f s v' ∧ OwnS w' base v' bs' ∧ bs'.map tl = shortL f (bs.map tl) ∧ Below base w w' := by
  obtain ⟨hc0, hc1, hc2, hf2⟩ := hp.facts
  have HP := hide hp
  have HO := hide ho
  have HB := hide hb
  clear hp ho hb
  rcases Nat.eq_zero_or_pos bs.length with h0 | hpos
  · have e0 : bs = [] := List.eq_nil_of_length_eq_zero h0
    subst e0
    obtain ⟨ao, cap, rfl⟩ := ownS_open0 HO.out
    clear h0
    go_enter Tryz.func226, Tryz.ntmps226
    go_wp2
    exact bodyPost_ret (v := .tuple #[]) (by simp [results, Tryz.results226, go_sem]) rfl ⟨_, _, _, rfl, HP.out, HO.out, by cases f <;> rfl, Below.refl _ _⟩
  · obtain ⟨g, cap, rfl, hlc, hcm⟩ := ownS_open HO.out hpos
    have hrow := (own_row HO.out).open_ (k := 0) hpos
    obtain ⟨b, off, cap2, he, -, -, hr⟩ := hrow
    simp only [Value.slice.injEq, Option.some.injEq, Addr.mk.injEq] at he
    obtain ⟨⟨rfl, rfl, -⟩, -, rfl⟩ := he
    have hck := hr.cell (i := 0) hpos
    rw [Nat.add_zero] at hck
    have hn0 : ((bs.length : Int) == 0) = false := beq_eq_false_iff_ne.2 (by omega)
    unfold maxLen at hcm
    have HT := hide (ownS_take HO.out (bs.length - 1) (by omega))
    have HM := hide (map_getD bs hpos)
    by_cases hstop : f = true ∧ bs.length = 1 ∧ writtenB (tl bs[0]) = true
    · obtain ⟨rfl, hl1, hw⟩ := hstop
      have hl1' : ((bs.length : Int) == 1) = true := by rw [hl1]; rfl
      have HE := hide (show shortL true (bs.map tl) = bs.map tl by unfold shortL; rw [if_pos ⟨rfl, by rw [List.length_map]; exact hl1, by rw [HM.out]; exact hw⟩])
      have HW := hide hw
      clear hw hl1 hr
      go_enter Tryz.func226, Tryz.ntmps226
      go_wp2_with (go_at_call 224; refine (writtenD_any _ _).mono ?_; rintro e w' ⟨rfl, rfl⟩; rw [HW.out])
      exact bodyPost_ret (v := .tuple #[]) (by simp [results, Tryz.results226, go_sem]) rfl ⟨_, _, _, rfl, HP.out, HO.out, HE.out.symm, Below.refl _ _⟩
    · have HE := hide (show shortL f (bs.map tl) = (bs.take (bs.length - 1)).map tl by
        unfold shortL
        rw [if_neg (by rw [List.length_map, HM.out]; exact hstop), List.length_map, List.map_take])
      have HR := hide (show ∀ u, PthAt (w.setCell ⟨pb, 2, none⟩ u) pb f s u from fun u => HP.out.set u)
      have HS := hide (show ∀ u, OwnS (w.setCell ⟨pb, 2, none⟩ u) base (.slice (some ⟨g, 0, none⟩) (bs.length - 1) cap) (bs.take (bs.length - 1)) from fun u => HP.out.own HT.out u)
      have HX := hide (show ∀ u, Below base w (w.setCell ⟨pb, 2, none⟩ u) from fun u => (Below.refl base w).setCell HB.out u)
      cases f
      · clear hstop hr
        go_enter Tryz.func226, Tryz.ntmps226
        go_wp2
        exact bodyPost_end (v := .tuple #[]) (by simp [results, Tryz.results226, go_sem]) rfl ⟨_, _, _, rfl, HR.out _, HS.out _, HE.out.symm, HX.out _⟩
      · by_cases hl1 : bs.length = 1
        · have hw : writtenB (tl bs[0]) = false := by
            cases h : writtenB (tl bs[0])
            · rfl
            · exact absurd ⟨rfl, hl1, h⟩ hstop
          have hl1' : ((bs.length : Int) == 1) = true := by rw [hl1]; rfl
          have HW := hide hw
          clear hw hl1 hstop hr
          go_enter Tryz.func226, Tryz.ntmps226
          go_wp2_with (go_at_call 224; refine (writtenD_any _ _).mono ?_; rintro e w' ⟨rfl, rfl⟩; rw [HW.out])
          exact bodyPost_end (v := .tuple #[]) (by simp [results, Tryz.results226, go_sem]) rfl ⟨_, _, _, rfl, HR.out _, HS.out _, HE.out.symm, HX.out _⟩
        · have hl1' : ((bs.length : Int) == 1) = false := beq_eq_false_iff_ne.2 (by omega)
          clear hstop hl1 hr
          go_enter Tryz.func226, Tryz.ntmps226
          go_wp2
          exact bodyPost_end (v := .tuple #[]) (by simp [results, Tryz.results226, go_sem]) rfl ⟨_, _, _, rfl, HR.out _, HS.out _, HE.out.symm, HX.out _⟩
end Go.Proofs.YtchkhibgbnhjpaaGreatDoor
