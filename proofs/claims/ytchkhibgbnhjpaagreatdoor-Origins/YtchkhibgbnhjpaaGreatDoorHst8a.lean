import Derived.Test.YtchkhibgbnhjpaaGreatDoorHst7
namespace Go.Proofs.YtchkhibgbnhjpaaGreatDoor
open Go.RowKit

/-- Eight numbers in a block of their own. -/
def ArrAt (w : World) (gb : Nat) (ns : List Int) : Prop := w.heap[gb]? = some (Obj.cells (ns.map (Value.int .i64)).toArray 201 (0, 0)) ∧ ns.length = 8
theorem ArrAt.on {w w' : World} {gb : Nat} {ns : List Int} (h : ArrAt w gb ns) (hb : Nx w w') : ArrAt w' gb ns :=
  ⟨(hb.block gb (Array.getElem?_eq_some_iff.1 h.1).1).trans h.1, h.2⟩
theorem ArrAt.but {w w' : World} {gb q : Nat} {ns : List Int} (h : ArrAt w gb ns) (hb : But q w w') (hn : gb ≠ q) : ArrAt w' gb ns :=
  ⟨(hb.block gb (Array.getElem?_eq_some_iff.1 h.1).1 hn).trans h.1, h.2⟩
theorem ArrAt.cell {w : World} {gb : Nat} {ns : List Int} (h : ArrAt w gb ns) {i : Nat} (hi : i < ns.length) : w.cell? ⟨gb, i, none⟩ = some (.int .i64 ns[i]) := by
  have h1 := h.1
  simp [World.cell?, h1, List.getElem?_eq_getElem hi]
theorem ArrAt.free {w : World} {gb : Nat} {ns : List Int} (h : ArrAt w gb ns) (i : Nat) : w.frozen? ⟨gb, i, none⟩ = false := by
  have h1 := h.1
  simp [World.frozen?, h1]
theorem ArrAt.set {w : World} {gb : Nat} {ns : List Int} (h : ArrAt w gb ns) (i : Nat) (x : Int) : ArrAt (w.setCell ⟨gb, i, none⟩ (.int .i64 x)) gb (ns.set i x) := by
  obtain ⟨h1, h2⟩ := h
  refine ⟨?_, by rw [List.length_set]; exact h2⟩
  simp only [World.setCell, Array.getElem?_modify, if_pos, h1]
  simp [List.map_set]
theorem ArrAt.nine {w : World} {gb : Nat} {a0 a1 a2 a3 a4 a5 a6 a7 : Int} (h : ArrAt w gb [a0, a1, a2, a3, a4, a5, a6, a7]) :
    w.cell? ⟨gb, 0, none⟩ = some (.int .i64 a0) ∧ w.cell? ⟨gb, 1, none⟩ = some (.int .i64 a1) ∧ w.cell? ⟨gb, 2, none⟩ = some (.int .i64 a2) ∧ w.cell? ⟨gb, 3, none⟩ = some (.int .i64 a3) ∧ w.cell? ⟨gb, 4, none⟩ = some (.int .i64 a4) ∧ w.cell? ⟨gb, 5, none⟩ = some (.int .i64 a5) ∧ w.cell? ⟨gb, 6, none⟩ = some (.int .i64 a6) ∧ w.cell? ⟨gb, 7, none⟩ = some (.int .i64 a7) := by
  have h1 := h.1
  refine ⟨?_, ?_, ?_, ?_, ?_, ?_, ?_, ?_⟩ <;> simp [World.cell?, h1]
theorem ArrAt.put {w : World} {gb : Nat} {ns : List Int} (h : ArrAt w gb ns) (a0 a1 a2 a3 a4 a5 a6 a7 : Int) :
    ArrAt ((((((((w.setCell ⟨gb, 0, none⟩ (.int .i64 a0)).setCell ⟨gb, 1, none⟩ (.int .i64 a1)).setCell ⟨gb, 2, none⟩ (.int .i64 a2)).setCell ⟨gb, 3, none⟩ (.int .i64 a3)).setCell ⟨gb, 4, none⟩ (.int .i64 a4)).setCell ⟨gb, 5, none⟩ (.int .i64 a5)).setCell ⟨gb, 6, none⟩ (.int .i64 a6)).setCell ⟨gb, 7, none⟩ (.int .i64 a7)) gb [a0, a1, a2, a3, a4, a5, a6, a7] := by
  obtain ⟨h1, h2⟩ := h
  match ns, h2 with
  | [_, _, _, _, _, _, _, _], _ =>
    refine ⟨?_, rfl⟩
    simp [World.setCell, Array.getElem?_modify, h1]
theorem arr_new (w : World) (a0 a1 a2 a3 a4 a5 a6 a7 : Int) : ArrAt (w.alloc (Obj.cells #[.int .i64 a0, .int .i64 a1, .int .i64 a2, .int .i64 a3, .int .i64 a4, .int .i64 a5, .int .i64 a6, .int .i64 a7] 201)) w.heap.size [a0, a1, a2, a3, a4, a5, a6, a7] := ⟨heap_alloc_new w _, rfl⟩
theorem grp_new' (w : World) (a0 a1 a2 a3 a4 a5 a6 a7 : Int) (n : Nat) : GrpAt (w.alloc (Obj.cells #[.int .i64 a0, .int .i64 a1, .int .i64 a2, .int .i64 a3, .int .i64 a4, .int .i64 a5, .int .i64 a6, .int .i64 a7, .int .i64 (n : Int)] 209)) w.heap.size [a0, a1, a2, a3, a4, a5, a6, a7] n := ⟨heap_alloc_new w _, rfl⟩
theorem eight_nx {w wr : World} {rb : Nat} (hrb : w.heap.size = rb) (h : Nx w wr) (x0 x1 x2 x3 x4 x5 x6 x7 : Value) : Nx w ((((((((wr.setCell ⟨rb, 0, none⟩ x0).setCell ⟨rb, 1, none⟩ x1).setCell ⟨rb, 2, none⟩ x2).setCell ⟨rb, 3, none⟩ x3).setCell ⟨rb, 4, none⟩ x4).setCell ⟨rb, 5, none⟩ x5).setCell ⟨rb, 6, none⟩ x6).setCell ⟨rb, 7, none⟩ x7) := by
  subst hrb
  exact (((((((h.setCell (Nat.le_refl _) _).setCell (Nat.le_refl _) _).setCell (Nat.le_refl _) _).setCell (Nat.le_refl _) _).setCell (Nat.le_refl _) _).setCell (Nat.le_refl _) _).setCell (Nat.le_refl _) _).setCell (Nat.le_refl _) _
/-- hosts.readWhole -/
def wholeL (l : List UInt8) : List Int × Bool := if (readGrp l true).2 = false ∨ (readGrp l true).1.2 ≠ 8 then (zeros8, false) else ((readGrp l true).1.1, true)
set_option maxHeartbeats 4000000 in
theorem wholeL_any (s : ByteArray) (w : World) (hs : s.size ≤ 1000000) :
    Calls Tryz.prog 251 #[.string s] w fun e w' => ∃ (a0 a1 a2 a3 a4 a5 a6 a7 : Int) (ok : Bool), e = .returned (.tuple #[.agg #[.int .i64 a0, .int .i64 a1, .int .i64 a2, .int .i64 a3, .int .i64 a4, .int .i64 a5, .int .i64 a6, .int .i64 a7], .bool ok]) ∧ wholeL (tl s) = ([a0, a1, a2, a3, a4, a5, a6, a7], ok) ∧ Nx w w' := by
  have HD := hide (show wholeL (tl s) = if (readGrp (tl s) true).2 = false ∨ (readGrp (tl s) true).1.2 ≠ 8 then (zeros8, false) else ((readGrp (tl s) true).1.1, true) from rfl)
  go_enter Tryz.func251, Tryz.ntmps251
  go_wp2_with fail
  refine (readGrp_any s true _ hs).mono ?_
  rintro e w1 ⟨a0, a1, a2, a3, a4, a5, a6, a7, n, ok, rfl, hq, hn⟩
  have HR := hide (show ArrAt w1 w.heap.size zeros8 from (arr_new w 0 0 0 0 0 0 0 0).on hn)
  have HN := hide (show Nx w w1 from (Nx.rfl.alloc _).then hn)
  rw [hq] at HD
  simp only at HD
  clear hq hn
  generalize hrb : w.heap.size = rb at *
  have HRB := hide hrb
  clear hrb
  obtain ⟨z0, z1, z2, z3, z4, z5, z6, z7⟩ := HR.out.nine
  have f0 := HR.out.free 0
  have f1 := HR.out.free 1
  have f2 := HR.out.free 2
  have f3 := HR.out.free 3
  have f4 := HR.out.free 4
  have f5 := HR.out.free 5
  have f6 := HR.out.free 6
  have f7 := HR.out.free 7
  have hlt : rb < w1.heap.size := (Array.getElem?_eq_some_iff.1 HR.out.1).1
  cases ok
  · have HE := hide (HD.out.trans (if_pos (Or.inl rfl)))
    clear HD
    go_wp2
    obtain ⟨y0, y1, y2, y3, y4, y5, y6, y7⟩ := ((HR.out.put 0 0 0 0 0 0 0 0).on (Nx.rfl.alloc (Obj.cells #[.int .i64 a0, .int .i64 a1, .int .i64 a2, .int .i64 a3, .int .i64 a4, .int .i64 a5, .int .i64 a6, .int .i64 a7, .int .i64 (n : Int)] 209))).nine
    exact bodyPost_ret (v := .tuple #[.agg #[.int .i64 0, .int .i64 0, .int .i64 0, .int .i64 0, .int .i64 0, .int .i64 0, .int .i64 0, .int .i64 0], .bool false]) (by simp [results, Tryz.results251, go_sem, y0, y1, y2, y3, y4, y5, y6, y7]) rfl ⟨0, 0, 0, 0, 0, 0, 0, 0, false, rfl, HE.out, (eight_nx HRB.out HN.out _ _ _ _ _ _ _ _).alloc _⟩
  · by_cases h8 : n = 8
    · have HE := hide (HD.out.trans (if_neg (by rintro (h | h); cases h; exact h h8)))
      have h8' : ((n : Int) != 8) = false := by rw [h8]; rfl
      clear HD h8
      go_wp2
      obtain ⟨y0, y1, y2, y3, y4, y5, y6, y7⟩ := ((HR.out.put a0 a1 a2 a3 a4 a5 a6 a7).on (Nx.rfl.alloc (Obj.cells #[.int .i64 a0, .int .i64 a1, .int .i64 a2, .int .i64 a3, .int .i64 a4, .int .i64 a5, .int .i64 a6, .int .i64 a7, .int .i64 (n : Int)] 209))).nine
      exact bodyPost_ret (v := .tuple #[.agg #[.int .i64 a0, .int .i64 a1, .int .i64 a2, .int .i64 a3, .int .i64 a4, .int .i64 a5, .int .i64 a6, .int .i64 a7], .bool true]) (by simp [results, Tryz.results251, go_sem, y0, y1, y2, y3, y4, y5, y6, y7]) rfl ⟨a0, a1, a2, a3, a4, a5, a6, a7, true, rfl, HE.out, (eight_nx HRB.out HN.out _ _ _ _ _ _ _ _).alloc _⟩
    · have HE := hide (HD.out.trans (if_pos (Or.inr h8)))
      have h8' : ((n : Int) != 8) = true := bneT (beq_eq_false_iff_ne.2 (by omega))
      clear HD h8
      go_wp2
      obtain ⟨y0, y1, y2, y3, y4, y5, y6, y7⟩ := ((HR.out.put 0 0 0 0 0 0 0 0).on (Nx.rfl.alloc (Obj.cells #[.int .i64 a0, .int .i64 a1, .int .i64 a2, .int .i64 a3, .int .i64 a4, .int .i64 a5, .int .i64 a6, .int .i64 a7, .int .i64 (n : Int)] 209))).nine
      exact bodyPost_ret (v := .tuple #[.agg #[.int .i64 0, .int .i64 0, .int .i64 0, .int .i64 0, .int .i64 0, .int .i64 0, .int .i64 0, .int .i64 0], .bool false]) (by simp [results, Tryz.results251, go_sem, y0, y1, y2, y3, y4, y5, y6, y7]) rfl ⟨0, 0, 0, 0, 0, 0, 0, 0, false, rfl, HE.out, (eight_nx HRB.out HN.out _ _ _ _ _ _ _ _).alloc _⟩
/-- hosts.readIPv6 -/
def putGo : List Int → Nat → List Int → List Int
  | ns, _, [] => ns
  | ns, i, x :: r => putGo (ns.set i x) (i + 1) r
def ip6 (l : List UInt8) : List Int × Bool :=
  if (cutGap l).2.2 = false then wholeL l else
  if (readGrp (cutGap l).1 false).2 = false ∨ (readGrp (cutGap l).2.1 true).2 = false ∨ 7 < (readGrp (cutGap l).1 false).1.2 + (readGrp (cutGap l).2.1 true).1.2 then (zeros8, false)
  else (putGo (readGrp (cutGap l).1 false).1.1 (8 - (readGrp (cutGap l).2.1 true).1.2) ((readGrp (cutGap l).2.1 true).1.1.take (readGrp (cutGap l).2.1 true).1.2), true)
theorem cutGap_len (l : List UInt8) : (cutGap l).1.length ≤ l.length ∧ (cutGap l).2.1.length ≤ l.length := by
  match l with
  | [] => exact ⟨by simp [cutGap], by simp [cutGap]⟩
  | [_] => exact ⟨by simp [cutGap], by simp [cutGap]⟩
  | c :: d :: r =>
    have ih := cutGap_len (d :: r)
    rw [cutGap]
    split
    · exact ⟨by simp, by simp; omega⟩
    · split
      · simp only [List.length_cons] at *
        exact ⟨by omega, by omega⟩
      · exact ⟨by simp, by simp⟩
theorem put_step (ns bl : List Int) (i k m : Nat) (hk : k < m) (hl : m ≤ bl.length) : putGo ns i ((bl.take m).drop k) = putGo (ns.set i (bl[k]'(by omega))) (i + 1) ((bl.take m).drop (k + 1)) := by
  have h1 : k < (bl.take m).length := by rw [List.length_take]; omega
  rw [List.drop_eq_getElem_cons h1, putGo, List.getElem_take]
theorem addGrp_le (g : List Int × Nat) (l : List UInt8) (h : g.2 ≤ 8) : (addGrp g l).1.2 ≤ 8 := by
  unfold addGrp
  split
  · exact h
  · exact addG_le _ _ h
theorem addDot_le (g : List Int × Nat) (l : List UInt8) (h : g.2 ≤ 8) : (addDot g l).1.2 ≤ 8 := by
  unfold addDot
  split
  · exact h
  · split
    · exact h
    · split
      · exact addG_le _ _ h
      · exact addG_le _ _ (addG_le _ _ h)
theorem grpGo_le (en : Bool) (ps : List (List UInt8)) : ∀ g q, g.2 ≤ 8 → grpGo en g ps = some q → q.2 ≤ 8 := by
  induction ps with
  | nil => intro g q h e; rw [grpGo] at e; cases e; exact h
  | cons p r ih =>
    intro g q h e
    rw [grpGo] at e
    split at e
    · split at e
      · exact ih _ _ (addDot_le g p h) e
      · cases e
    · split at e
      · exact ih _ _ (addGrp_le g p h) e
      · cases e
theorem readGrp_le (l : List UInt8) (en : Bool) : (readGrp l en).1.2 ≤ 8 := by
  unfold readGrp
  split
  · decide
  · split
    · decide
    · rename_i g e
      exact grpGo_le en _ _ _ (by decide) e
set_option maxHeartbeats 8000000 in
theorem ip6_any (s : ByteArray) (w : World) (hs : s.size ≤ 1000000) :
    Calls Tryz.prog 240 #[.string s] w fun e w' => ∃ (a0 a1 a2 a3 a4 a5 a6 a7 : Int) (ok : Bool), e = .returned (.tuple #[.agg #[.int .i64 a0, .int .i64 a1, .int .i64 a2, .int .i64 a3, .int .i64 a4, .int .i64 a5, .int .i64 a6, .int .i64 a7], .bool ok]) ∧ ip6 (tl s) = ([a0, a1, a2, a3, a4, a5, a6, a7], ok) ∧ Nx w w' := by
  have HD := hide (show ip6 (tl s) = if (cutGap (tl s)).2.2 = false then wholeL (tl s) else
    if (readGrp (cutGap (tl s)).1 false).2 = false ∨ (readGrp (cutGap (tl s)).2.1 true).2 = false ∨ 7 < (readGrp (cutGap (tl s)).1 false).1.2 + (readGrp (cutGap (tl s)).2.1 true).1.2 then (zeros8, false)
    else (putGo (readGrp (cutGap (tl s)).1 false).1.1 (8 - (readGrp (cutGap (tl s)).2.1 true).1.2) ((readGrp (cutGap (tl s)).2.1 true).1.1.take (readGrp (cutGap (tl s)).2.1 true).1.2), true) from rfl)
  have hcl := cutGap_len (tl s)
  rw [tl_length] at hcl
  go_enter Tryz.func240, Tryz.ntmps240
  go_wp2_with fail
  refine (cutGap_any s _ hs).mono ?_
  rintro e w1 ⟨⟨x, y, rfl, hx, hy⟩, hn1⟩
  have HR1 := hide (show ArrAt w1 w.heap.size zeros8 from (arr_new w 0 0 0 0 0 0 0 0).on hn1)
  have HN1 := hide (show Nx w w1 from (Nx.rfl.alloc _).then hn1)
  rw [← hx, ← hy] at HD hcl
  rw [tl_length, tl_length] at hcl
  generalize (cutGap (tl s)).2.2 = gap at *
  obtain ⟨hxl, hyl⟩ := hcl
  clear hx hy hn1
  generalize hrb : w.heap.size = rb at *
  have HRB := hide hrb
  clear hrb
  cases gap
  · have HE := hide (HD.out.trans (if_pos rfl))
    clear HD
    go_wp2_with fail
    refine (wholeL_any s _ hs).mono ?_
    rintro e w2 ⟨a0, a1, a2, a3, a4, a5, a6, a7, ok, rfl, hq, hn⟩
    have HQ := hide (HE.out.trans hq)
    have HR := hide (HR1.out.on hn)
    have HN := hide (HN1.out.then hn)
    clear hq hn
    obtain ⟨z0, z1, z2, z3, z4, z5, z6, z7⟩ := HR.out.nine
    have f0 := HR.out.free 0
    have f1 := HR.out.free 1
    have f2 := HR.out.free 2
    have f3 := HR.out.free 3
    have f4 := HR.out.free 4
    have f5 := HR.out.free 5
    have f6 := HR.out.free 6
    have f7 := HR.out.free 7
    go_wp2
    obtain ⟨y0, y1, y2, y3, y4, y5, y6, y7⟩ := (HR.out.put a0 a1 a2 a3 a4 a5 a6 a7).nine
    exact bodyPost_ret (v := .tuple #[.agg #[.int .i64 a0, .int .i64 a1, .int .i64 a2, .int .i64 a3, .int .i64 a4, .int .i64 a5, .int .i64 a6, .int .i64 a7], .bool ok]) (by simp [results, Tryz.results240, go_sem, y0, y1, y2, y3, y4, y5, y6, y7]) rfl ⟨a0, a1, a2, a3, a4, a5, a6, a7, ok, rfl, HQ.out, eight_nx HRB.out HN.out _ _ _ _ _ _ _ _⟩
  · have HD2 := hide (HD.out.trans (if_neg (by decide)))
    clear HD
    go_wp2_with fail
    refine (readGrp_any x false _ (by omega)).mono ?_
    rintro e w2 ⟨c0, c1, c2, c3, c4, c5, c6, c7, fn, fok, rfl, hq1, hn2⟩
    have hfn : fn ≤ 8 := by have := readGrp_le (tl x) false; rw [hq1] at this; exact this
    rw [hq1] at HD2
    have HR2 := hide (HR1.out.on hn2)
    have HN2 := hide (HN1.out.then hn2)
    clear hq1 hn2 HR1 HN1
    go_wp2_with fail
    refine (readGrp_any y true _ (by omega)).mono ?_
    rintro e w3 ⟨b0, b1, b2, b3, b4, b5, b6, b7, bn, bok, rfl, hq2, hn3⟩
    have hbn : bn ≤ 8 := by have := readGrp_le (tl y) true; rw [hq2] at this; exact this
    rw [hq2] at HD2
    simp only at HD2
    have HR3 := hide (HR2.out.on ((Nx.rfl.alloc _).then hn3))
    have HN3 := hide (HN2.out.then ((Nx.rfl.alloc _).then hn3))
    have HF3 := hide (GrpAt.on (grp_new' w2 c0 c1 c2 c3 c4 c5 c6 c7 fn) hn3)
    generalize hfb : w2.heap.size = fb at *
    have hlf : fb < w3.heap.size := (Array.getElem?_eq_some_iff.1 HF3.out.1).1
    have hlr : rb < w3.heap.size := (Array.getElem?_eq_some_iff.1 HR3.out.1).1
    clear hq2 hn3 hfb HR2 HN2
    obtain ⟨z0, z1, z2, z3, z4, z5, z6, z7⟩ := HR3.out.nine
    obtain ⟨g0, g1, g2, g3, g4, g5, g6, g7, g8⟩ := HF3.out.nine
    have f0 := HR3.out.free 0
    have f1 := HR3.out.free 1
    have f2 := HR3.out.free 2
    have f3 := HR3.out.free 3
    have f4 := HR3.out.free 4
    have f5 := HR3.out.free 5
    have f6 := HR3.out.free 6
    have f7 := HR3.out.free 7
    by_cases hbad : fok = false ∨ bok = false ∨ 7 < fn + bn
    · have HE := hide (HD2.out.trans (if_pos hbad))
      clear HD2
      cases fok
      · clear hbad
        go_wp2
        obtain ⟨y0, y1, y2, y3, y4, y5, y6, y7⟩ := ((HR3.out.put 0 0 0 0 0 0 0 0).on (Nx.rfl.alloc (Obj.cells #[.int .i64 b0, .int .i64 b1, .int .i64 b2, .int .i64 b3, .int .i64 b4, .int .i64 b5, .int .i64 b6, .int .i64 b7, .int .i64 (bn : Int)] 209))).nine
        exact bodyPost_ret (v := .tuple #[.agg #[.int .i64 0, .int .i64 0, .int .i64 0, .int .i64 0, .int .i64 0, .int .i64 0, .int .i64 0, .int .i64 0], .bool false]) (by simp [results, Tryz.results240, go_sem, y0, y1, y2, y3, y4, y5, y6, y7]) rfl ⟨0, 0, 0, 0, 0, 0, 0, 0, false, rfl, HE.out, (eight_nx HRB.out HN3.out _ _ _ _ _ _ _ _).alloc _⟩
      · cases bok
        · clear hbad
          go_wp2
          obtain ⟨y0, y1, y2, y3, y4, y5, y6, y7⟩ := ((HR3.out.put 0 0 0 0 0 0 0 0).on (Nx.rfl.alloc (Obj.cells #[.int .i64 b0, .int .i64 b1, .int .i64 b2, .int .i64 b3, .int .i64 b4, .int .i64 b5, .int .i64 b6, .int .i64 b7, .int .i64 (bn : Int)] 209))).nine
          exact bodyPost_ret (v := .tuple #[.agg #[.int .i64 0, .int .i64 0, .int .i64 0, .int .i64 0, .int .i64 0, .int .i64 0, .int .i64 0, .int .i64 0], .bool false]) (by simp [results, Tryz.results240, go_sem, y0, y1, y2, y3, y4, y5, y6, y7]) rfl ⟨0, 0, 0, 0, 0, 0, 0, 0, false, rfl, HE.out, (eight_nx HRB.out HN3.out _ _ _ _ _ _ _ _).alloc _⟩
        · have h7 : 7 < (fn : Int) + (bn : Int) := by
            rcases hbad with h | h | h
            · cases h
            · cases h
            · omega
          clear hbad
          go_wp2
          obtain ⟨y0, y1, y2, y3, y4, y5, y6, y7⟩ := ((HR3.out.put 0 0 0 0 0 0 0 0).on (Nx.rfl.alloc (Obj.cells #[.int .i64 b0, .int .i64 b1, .int .i64 b2, .int .i64 b3, .int .i64 b4, .int .i64 b5, .int .i64 b6, .int .i64 b7, .int .i64 (bn : Int)] 209))).nine
          exact bodyPost_ret (v := .tuple #[.agg #[.int .i64 0, .int .i64 0, .int .i64 0, .int .i64 0, .int .i64 0, .int .i64 0, .int .i64 0, .int .i64 0], .bool false]) (by simp [results, Tryz.results240, go_sem, y0, y1, y2, y3, y4, y5, y6, y7]) rfl ⟨0, 0, 0, 0, 0, 0, 0, 0, false, rfl, HE.out, (eight_nx HRB.out HN3.out _ _ _ _ _ _ _ _).alloc _⟩
    · have HE := hide (HD2.out.trans (if_neg hbad))
      clear HD2
      have hfok : fok = true := by cases fok; exact absurd (Or.inl rfl) hbad; rfl
      have hbok : bok = true := by cases bok; exact absurd (Or.inr (Or.inl rfl)) hbad; rfl
      have h7 : (fn : Int) + (bn : Int) ≤ 7 := by have : ¬ 7 < fn + bn := fun h => hbad (Or.inr (Or.inr h)); omega
      subst hfok
      subst hbok
      clear hbad
      have HG4 := hide (show GrpAt ((w3.alloc (Obj.cells #[.int .i64 b0, .int .i64 b1, .int .i64 b2, .int .i64 b3, .int .i64 b4, .int .i64 b5, .int .i64 b6, .int .i64 b7, .int .i64 (bn : Int)] 209)).alloc (Obj.cells #[.int .i64 c0, .int .i64 c1, .int .i64 c2, .int .i64 c3, .int .i64 c4, .int .i64 c5, .int .i64 c6, .int .i64 c7] 201)) w3.heap.size [b0, b1, b2, b3, b4, b5, b6, b7] bn from (grp_new' w3 b0 b1 b2 b3 b4 b5 b6 b7 bn).on (Nx.rfl.alloc _))
      have HA4 := hide (show ArrAt ((w3.alloc (Obj.cells #[.int .i64 b0, .int .i64 b1, .int .i64 b2, .int .i64 b3, .int .i64 b4, .int .i64 b5, .int .i64 b6, .int .i64 b7, .int .i64 (bn : Int)] 209)).alloc (Obj.cells #[.int .i64 c0, .int .i64 c1, .int .i64 c2, .int .i64 c3, .int .i64 c4, .int .i64 c5, .int .i64 c6, .int .i64 c7] 201)) (w3.heap.size + 1) [c0, c1, c2, c3, c4, c5, c6, c7] from by have := arr_new (w3.alloc (Obj.cells #[.int .i64 b0, .int .i64 b1, .int .i64 b2, .int .i64 b3, .int .i64 b4, .int .i64 b5, .int .i64 b6, .int .i64 b7, .int .i64 (bn : Int)] 209)) c0 c1 c2 c3 c4 c5 c6 c7; simpa using this)
      have HR4 := hide (show ArrAt ((w3.alloc (Obj.cells #[.int .i64 b0, .int .i64 b1, .int .i64 b2, .int .i64 b3, .int .i64 b4, .int .i64 b5, .int .i64 b6, .int .i64 b7, .int .i64 (bn : Int)] 209)).alloc (Obj.cells #[.int .i64 c0, .int .i64 c1, .int .i64 c2, .int .i64 c3, .int .i64 c4, .int .i64 c5, .int .i64 c6, .int .i64 c7] 201)) rb zeros8 from HR3.out.on ((Nx.rfl.alloc _).alloc _))
      have HN4 := hide (show Nx w ((w3.alloc (Obj.cells #[.int .i64 b0, .int .i64 b1, .int .i64 b2, .int .i64 b3, .int .i64 b4, .int .i64 b5, .int .i64 b6, .int .i64 b7, .int .i64 (bn : Int)] 209)).alloc (Obj.cells #[.int .i64 c0, .int .i64 c1, .int .i64 c2, .int .i64 c3, .int .i64 c4, .int .i64 c5, .int .i64 c6, .int .i64 c7] 201)) from (HN3.out.alloc _).alloc _)
      go_wp2
      generalize hbb : w3.heap.size = bb at *
      generalize ((w3.alloc (Obj.cells #[.int .i64 b0, .int .i64 b1, .int .i64 b2, .int .i64 b3, .int .i64 b4, .int .i64 b5, .int .i64 b6, .int .i64 b7, .int .i64 (bn : Int)] 209)).alloc (Obj.cells #[.int .i64 c0, .int .i64 c1, .int .i64 c2, .int .i64 c3, .int .i64 c4, .int .i64 c5, .int .i64 c6, .int .i64 c7] 201)) = w4 at *
      clear z0 z1 z2 z3 z4 z5 z6 z7 g0 g1 g2 g3 g4 g5 g6 g7 g8 f0 f1 f2 f3 f4 f5 f6 f7 HF3 HR3 HN3 hlf hbb
      go_loopw [12] (fun i wr => ∃ (k : Nat) (ns : List Int), k ≤ bn ∧ i = .int .i64 k ∧ ArrAt wr (bb + 1) ns ∧ putGo [c0, c1, c2, c3, c4, c5, c6, c7] (8 - bn) (List.take bn [b0, b1, b2, b3, b4, b5, b6, b7]) = putGo ns (8 - bn + k) ((List.take bn [b0, b1, b2, b3, b4, b5, b6, b7]).drop k) ∧ But (bb + 1) w4 wr) (fun i _ => bn - (intOf i).toNat)
      case atStart => exact ⟨0, _, Nat.zero_le _, rfl, HA4.out, rfl, But.refl _ _⟩
      case round =>
        obtain ⟨k, ns, hk, rfl, hA, hE, hbut⟩ := hrel
        have HA := hide hA
        have HBT := hide hbut
        have HG := hide (HG4.out.but hbut (by omega))
        have hc8 := HG.out.count
        clear hA hbut
        by_cases hlt : k < bn
        · have hk8 : k < [b0, b1, b2, b3, b4, b5, b6, b7].length := by simp; omega
          have hE2 := hE.trans (put_step ns [b0, b1, b2, b3, b4, b5, b6, b7] _ k bn hlt (by simp; omega))
          have hck := HG.out.cell (i := k) hk8
          obtain ⟨m, hm⟩ : ∃ m : Nat, m = 8 - bn + k := ⟨_, rfl⟩
          have hml : m < ns.length := by have := HA.out.2; omega
          have hcm := HA.out.cell hml
          have hfm := HA.out.free m
          have HAS := hide (HA.out.set m ([b0, b1, b2, b3, b4, b5, b6, b7][k]'hk8))
          have HBS := hide (HBT.out.set m (.int .i64 ([b0, b1, b2, b3, b4, b5, b6, b7][k]'hk8)))
          rw [← hm] at hE2
          generalize [b0, b1, b2, b3, b4, b5, b6, b7][k]'hk8 = u at *
          have hmi : (8 : Int) - (bn : Int) + (k : Int) = (m : Int) := by omega
          have hm8 : (m : Int) < 8 := by omega
          have HE2 := hide hE2
          have HM := hide hm
          generalize ns[m] = un at *
          clear hE2 hE hm
          go_wp2
          go_region
          all_goals go_wp2
          all_goals exact ⟨⟨k + 1, ns.set m u, by omega, by simp, HAS.out, by rw [HE2.out, show 8 - bn + (k + 1) = m + 1 by have := HM.out; omega], HBS.out.drew⟩, by simp [intOf]; omega⟩
        · rw [List.drop_of_length_le (by rw [List.length_take]; omega), putGo] at hE
          obtain ⟨a0, a1, a2, a3, a4, a5, a6, a7, hg8⟩ := eight HA.out.2
          subst hg8
          have HQ := hide (HE.out.trans (by rw [hE]))
          clear hE
          have HR := hide (HR4.out.but HBT.out (by omega))
          have HN := hide (HN4.out.trans (HBT.out.below (by rw [HRB.out]; omega) HN4.out.size))
          obtain ⟨z0, z1, z2, z3, z4, z5, z6, z7⟩ := HR.out.nine
          obtain ⟨g0, g1, g2, g3, g4, g5, g6, g7⟩ := HA.out.nine
          have f0 := HR.out.free 0
          have f1 := HR.out.free 1
          have f2 := HR.out.free 2
          have f3 := HR.out.free 3
          have f4 := HR.out.free 4
          have f5 := HR.out.free 5
          have f6 := HR.out.free 6
          have f7 := HR.out.free 7
          go_wp2
          obtain ⟨y0, y1, y2, y3, y4, y5, y6, y7⟩ := (HR.out.put a0 a1 a2 a3 a4 a5 a6 a7).nine
          exact bodyPost_ret (v := .tuple #[.agg #[.int .i64 a0, .int .i64 a1, .int .i64 a2, .int .i64 a3, .int .i64 a4, .int .i64 a5, .int .i64 a6, .int .i64 a7], .bool true]) (by simp [results, Tryz.results240, go_sem, y0, y1, y2, y3, y4, y5, y6, y7]) rfl ⟨a0, a1, a2, a3, a4, a5, a6, a7, true, rfl, HQ.out, eight_nx HRB.out HN.out _ _ _ _ _ _ _ _⟩
end Go.Proofs.YtchkhibgbnhjpaaGreatDoor
