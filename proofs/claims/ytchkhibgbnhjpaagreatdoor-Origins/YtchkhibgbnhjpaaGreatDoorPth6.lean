import Derived.Test.YtchkhibgbnhjpaaGreatDoorPth5
namespace Go.Proofs.YtchkhibgbnhjpaaGreatDoor
open Go.RowKit

theorem pth_new (w : World) (f s : Bool) (v : Value) : PthAt (w.alloc (Obj.cells #[.bool f, .bool s, v] 168)) w.heap.size f s v := heap_alloc_new w _
theorem ownS_open' {w : World} {base : Nat} {v : Value} {bs : List ByteArray} (h : OwnS w base v bs) : ∃ ao n cap, v = .slice ao n cap := by
  obtain ⟨h1, ⟨h2, h3⟩ | ⟨g', cap', cur, h2, h4⟩⟩ := h
  · exact ⟨_, _, _, h2⟩
  · exact ⟨_, _, _, h2⟩
/-- paths.Read -/
def readL (t sch : List UInt8) : List (List UInt8) := followL (sch == fileB) (isSpecial sch) [] t
set_option maxHeartbeats 2000000 in
theorem pread_any (t sch : ByteArray) (w : World) (ht : t.size ≤ 100000) :
    Calls Tryz.prog 155 #[.string t, .string sch] w fun e w' => ∃ v bs, e = .returned v ∧ OwnS w' w.heap.size v bs ∧ bs.map tl = readL (tl t) (tl sch) ∧ bs.length ≤ t.size + 1 ∧ Nx w w' := by
  go_enter Tryz.func155, Tryz.ntmps155
  go_wp2_with fail
  refine (begin_any _ [] sch w (SlAt.nil w) (by simp)).mono ?_
  rintro e w1 ⟨v1, rfl, ho, hn⟩
  obtain ⟨ao, n, cap, rfl⟩ := ownS_open' ho
  have hz := hn.size
  have HP := hide (pth_new w1 (tl sch == fileB) (isSpecial (tl sch)) (.slice ao n cap))
  have HO := hide (show OwnS (w1.alloc (Obj.cells #[.bool (tl sch == fileB), .bool (isSpecial (tl sch)), .slice ao n cap] 168)) w.heap.size (.slice ao n cap) [] from World.ownsRow.alloc ho _)
  have HN := hide (show Nx w (w1.alloc (Obj.cells #[.bool (tl sch == fileB), .bool (isSpecial (tl sch)), .slice ao n cap] 168)) from hn.alloc _)
  clear ho hn
  go_wp2_with fail
  refine (follow_any' w1.heap.size w.heap.size _ _ _ [] t _ HP.out HO.out hz (by simp; omega) (by simp) ht).mono ?_
  rintro e w2 ⟨x, v2, bs, rfl, h1, h2, h3, h4, h5⟩
  obtain ⟨ao2, n2, cap2, rfl⟩ := ownS_open' h2
  obtain ⟨-, -, hc2, -⟩ := h1.facts
  have H2 := hide h2
  have H3 := hide h3
  have H4 := hide h4
  have H5 := hide (show Nx w w2 from HN.out.trans h5)
  clear h1 h2 h3 h4 h5 HP HO HN
  go_wp2
  go_ret
  exact ⟨_, _, rfl, H2.out, H3.out, by have := H4.out; simpa using this, H5.out⟩
/-- paths.Beside -/
def besideL (base : List (List UInt8)) (t sch : List UInt8) : List (List UInt8) := followL (sch == fileB) (isSpecial sch) (shortL (sch == fileB) base) t
set_option maxHeartbeats 2000000 in
theorem pbeside_any (v : Value) (cs : List ByteArray) (t sch : ByteArray) (w : World) (hv : StrsAt w v cs) (hl : cs.length ≤ 100000) (ht : t.size ≤ 100000) :
    Calls Tryz.prog 194 #[v, .string t, .string sch] w fun e w' => ∃ v bs, e = .returned v ∧ OwnS w' w.heap.size v bs ∧ bs.map tl = besideL (cs.map tl) (tl t) (tl sch) ∧ bs.length ≤ cs.length + t.size + 1 ∧ Nx w w' := by
  go_enter Tryz.func194, Tryz.ntmps194
  go_wp2_with fail
  refine (begin_any _ cs sch w hv (by omega)).mono ?_
  rintro e w1 ⟨v1, rfl, ho, hn⟩
  obtain ⟨ao, n, cap, rfl⟩ := ownS_open' ho
  have hz := hn.size
  have HP := hide (pth_new w1 (tl sch == fileB) (isSpecial (tl sch)) (.slice ao n cap))
  have HO := hide (show OwnS (w1.alloc (Obj.cells #[.bool (tl sch == fileB), .bool (isSpecial (tl sch)), .slice ao n cap] 168)) w.heap.size (.slice ao n cap) cs from World.ownsRow.alloc ho _)
  have HN := hide (show Nx w (w1.alloc (Obj.cells #[.bool (tl sch == fileB), .bool (isSpecial (tl sch)), .slice ao n cap] 168)) from hn.alloc _)
  clear ho hn hv
  go_wp2_with fail
  refine (shorten_any w1.heap.size w.heap.size _ _ _ cs _ HP.out HO.out hz (by omega)).mono ?_
  rintro e w3 ⟨x, v3, bs3, rfl, h1, h2, h3, h5⟩
  have hl3 := shortL_map_len h3
  have hz3 : w.heap.size ≤ w3.heap.size := Nat.le_trans (by simp; omega) h5.size
  have H1 := hide h1
  have H2 := hide h2
  have H3 := hide h3
  have H5 := hide (show Nx w w3 from HN.out.trans h5)
  clear h1 h2 h3 h5 HP HO HN
  go_wp2_with fail
  refine (follow_any' w1.heap.size w.heap.size _ _ _ bs3 t _ H1.out H2.out hz hz3 (by omega) ht).mono ?_
  rintro e w2 ⟨x, v2, bs, rfl, h1, h2, h3, h4, h5⟩
  obtain ⟨ao2, n2, cap2, rfl⟩ := ownS_open' h2
  obtain ⟨-, -, hc2, -⟩ := h1.facts
  have G2 := hide h2
  have G3 := hide h3
  have G4 := hide h4
  have G5 := hide (show Nx w w2 from H5.out.trans h5)
  clear h1 h2 h3 h4 h5
  go_wp2
  go_ret
  exact ⟨_, _, rfl, G2.out, by rw [G3.out, H3.out]; rfl, by have := G4.out; omega, G5.out⟩
/-- paths.OnDrive -/
def onDriveL (base : List (List UInt8)) (t : List UInt8) : List (List UInt8) :=
  if base = [] ∨ writtenB (base.getD 0 []) = false ∨ driveAhead t = true then readL t fileB else followL true true (base.take 1) t
theorem file_special : isSpecial fileB = true := by decide
theorem onDriveL_read {base : List (List UInt8)} {t : List UInt8} (h : base = [] ∨ writtenB (base.getD 0 []) = false ∨ driveAhead t = true) : onDriveL base t = readL t fileB := if_pos h
theorem onDriveL_go {base : List (List UInt8)} {t : List UInt8} (h1 : base ≠ []) (h2 : writtenB (base.getD 0 []) = true) (h3 : driveAhead t = false) : onDriveL base t = followL true true (base.take 1) t :=
  if_neg (by rintro (h | h | h); exact h1 h; rw [h2] at h; cases h; rw [h3] at h; cases h)
set_option maxHeartbeats 4000000 in
theorem onDrive_any (v : Value) (cs : List ByteArray) (t : ByteArray) (w : World) (hv : StrsAt w v cs) (ht : t.size ≤ 100000) :
    Calls Tryz.prog 186 #[v, .string t] w fun e w' => ∃ v bs, e = .returned v ∧ OwnS w' w.heap.size v bs ∧ bs.map tl = onDriveL (cs.map tl) (tl t) ∧ bs.length ≤ t.size + 2 ∧ Nx w w' := by
  have HV := hide hv
  obtain ⟨ao, cap, rfl, hlc, hcap, hnone, hsome⟩ := hv
  have HCAP := hide hcap
  unfold maxLen at hcap
  have HRD : Hid (tl (⟨#[102, 105, 108, 101]⟩ : ByteArray) = fileB) := hide rfl
  rcases Nat.eq_zero_or_pos cs.length with h0 | hpos
  · have e0 : cs = [] := List.eq_nil_of_length_eq_zero h0
    subst e0
    have HE := hide (onDriveL_read (base := ([] : List ByteArray).map tl) (t := tl t) (Or.inl rfl))
    clear h0 hnone hsome
    go_enter Tryz.func186, Tryz.ntmps186
    go_wp2_with fail
    refine (pread_any t _ w ht).mono ?_
    rintro e w1 ⟨v1, bs, rfl, h1, h2, h3, h4⟩
    have H1 := hide h1
    have H2 := hide h2
    have H3 := hide h3
    have H4 := hide h4
    clear h1 h2 h3 h4
    go_wp2
    go_ret
    exact ⟨_, _, rfl, H1.out, by rw [HE.out, H2.out]; rfl, by have := H3.out; omega, H4.out⟩
  · obtain ⟨a, ha⟩ := sl_some (k := 0) hpos hnone
    subst ha
    obtain ⟨b, off, rfl, hr⟩ := hsome a rfl
    have hck := hr.cell (i := 0) hpos
    rw [Nat.add_zero] at hck
    have HM := hide (map_getD cs hpos)
    have HNE := hide (show cs.map tl ≠ [] from fun h => by have := congrArg List.length h; rw [List.length_map] at this; simp at this; subst this; simp at hpos)
    have hn0 : ((cs.length : Int) == 0) = false := beq_eq_false_iff_ne.2 (by omega)
    have HS1 := hide (sl_take hr hlc HCAP.out 1 hpos)
    clear hnone hsome hr
    cases hw : writtenB (tl cs[0])
    · have HW := hide hw
      have HE := hide (onDriveL_read (base := cs.map tl) (t := tl t) (Or.inr (Or.inl (by rw [HM.out]; exact hw))))
      clear hw
      go_enter Tryz.func186, Tryz.ntmps186
      go_wp2_with (first | (go_at_call 224; refine (writtenD_any _ _).mono ?_; rintro e w' ⟨rfl, rfl⟩; rw [HW.out]) | fail)
      refine (pread_any t _ w ht).mono ?_
      rintro e w1 ⟨v1, bs, rfl, h1, h2, h3, h4⟩
      have H1 := hide h1
      have H2 := hide h2
      have H3 := hide h3
      have H4 := hide h4
      clear h1 h2 h3 h4
      go_wp2
      go_ret
      exact ⟨_, _, rfl, H1.out, by rw [HE.out, H2.out]; rfl, by have := H3.out; omega, H4.out⟩
    · have HW := hide hw
      clear hw
      cases hd : driveAhead (tl t)
      · have HD := hide hd
        have HE := hide (onDriveL_go (base := cs.map tl) (t := tl t) HNE.out (by rw [HM.out]; exact HW.out) hd)
        clear hd
        go_enter Tryz.func186, Tryz.ntmps186
        go_wp2_with (first | (go_at_call 224; refine (writtenD_any _ _).mono ?_; rintro e w' ⟨rfl, rfl⟩; rw [HW.out]) | fail)
        refine (driveAhead_any t _ (small_len (by omega))).mono ?_
        rintro e w0 ⟨rfl, hn0⟩
        rw [HD.out]
        have HN0 := hide hn0
        have HS2 := hide (HS1.out.on hn0)
        clear hn0
        go_wp2_with fail
        refine (begin_any _ (cs.take 1) _ w0 HS2.out (by rw [List.length_take]; omega)).mono ?_
        rintro e w1 ⟨v1, rfl, ho, hn⟩
        rw [HRD.out, file_special, show (fileB == fileB) = true from rfl]
        obtain ⟨ao, n, cap, rfl⟩ := ownS_open' ho
        have hz0 := HN0.out.size
        have hz := hn.size
        have HP := hide (pth_new w1 true true (.slice ao n cap))
        have HO := hide (show OwnS (w1.alloc (Obj.cells #[.bool true, .bool true, .slice ao n cap] 168)) w.heap.size (.slice ao n cap) (cs.take 1) from World.ownsRow.alloc (own_mono ho hz0) _)
        have HN := hide (show Nx w (w1.alloc (Obj.cells #[.bool true, .bool true, .slice ao n cap] 168)) from (HN0.out.then hn).alloc _)
        clear ho hn
        go_wp2_with fail
        refine (follow_any' w1.heap.size w.heap.size _ _ _ (cs.take 1) t _ HP.out HO.out (by omega) (by simp; omega) (by rw [List.length_take]; omega) ht).mono ?_
        rintro e w2 ⟨x, v2, bs, rfl, h1, h2, h3, h4, h5⟩
        obtain ⟨ao2, n2, cap2, rfl⟩ := ownS_open' h2
        obtain ⟨-, -, hc2, -⟩ := h1.facts
        have G2 := hide h2
        have G3 := hide h3
        have G4 := hide h4
        have G5 := hide (show Nx w w2 from HN.out.trans h5)
        clear h1 h2 h3 h4 h5 HP HO HN
        go_wp2
        go_ret
        exact ⟨_, _, rfl, G2.out, by rw [G3.out, HE.out, List.map_take], by have := G4.out; rw [List.length_take] at this; omega, G5.out⟩
      · have HD := hide hd
        have HE := hide (onDriveL_read (base := cs.map tl) (t := tl t) (Or.inr (Or.inr hd)))
        clear hd
        go_enter Tryz.func186, Tryz.ntmps186
        go_wp2_with (first | (go_at_call 224; refine (writtenD_any _ _).mono ?_; rintro e w' ⟨rfl, rfl⟩; rw [HW.out]) | fail)
        refine (driveAhead_any t _ (small_len (by omega))).mono ?_
        rintro e w0 ⟨rfl, hn0⟩
        rw [HD.out]
        have HN0 := hide hn0
        clear hn0
        go_wp2_with fail
        refine (pread_any t _ w0 ht).mono ?_
        rintro e w1 ⟨v1, bs, rfl, h1, h2, h3, h4⟩
        have H1 := hide (own_mono h1 HN0.out.size)
        have H2 := hide h2
        have H3 := hide h3
        have H4 := hide (HN0.out.then h4)
        clear h1 h2 h3 h4
        go_wp2
        go_ret
        exact ⟨_, _, rfl, H1.out, by rw [HE.out, H2.out]; rfl, by have := H3.out; omega, H4.out⟩
end Go.Proofs.YtchkhibgbnhjpaaGreatDoor
