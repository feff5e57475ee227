import Derived.Test.YtchkhibgbnhjpaaGreatDoorHst6
namespace Go.Proofs.YtchkhibgbnhjpaaGreatDoor
open Go.RowKit

def zeros8 : List Int := [0, 0, 0, 0, 0, 0, 0, 0]
def zeroG : List Int × Nat := (zeros8, 0)
/-- hosts.readGroups -/
def grpGo (en : Bool) : List Int × Nat → List (List UInt8) → Option (List Int × Nat)
  | g, [] => some g
  | g, p :: r =>
    if en = true ∧ r = [] ∧ among 46 p = true then (if (addDot g p).2 = true then grpGo en (addDot g p).1 r else none)
    else (if (addGrp g p).2 = true then grpGo en (addGrp g p).1 r else none)
def readGrp (l : List UInt8) (en : Bool) : (List Int × Nat) × Bool :=
  if l = [] then (zeroG, true) else
  match grpGo en zeroG (bsplit 58 l) with
  | none => (zeroG, false)
  | some g => (g, true)
theorem grp_step (en : Bool) (bs : List ByteArray) (k : Nat) (h : k < bs.length) (g : List Int × Nat) : grpGo en g ((bs.drop k).map tl) =
    if en = true ∧ k + 1 = bs.length ∧ among 46 (tl bs[k]) = true then (if (addDot g (tl bs[k])).2 = true then grpGo en (addDot g (tl bs[k])).1 ((bs.drop (k + 1)).map tl) else none)
    else (if (addGrp g (tl bs[k])).2 = true then grpGo en (addGrp g (tl bs[k])).1 ((bs.drop (k + 1)).map tl) else none) := by
  rw [List.drop_eq_getElem_cons h, List.map_cons, grpGo]
  have hr : ((bs.drop (k + 1)).map tl = []) ↔ k + 1 = bs.length := by
    constructor
    · intro hn
      have := congrArg List.length hn
      rw [List.length_map, List.length_drop] at this
      simp at this
      omega
    · intro hlt
      rw [List.drop_of_length_le (by omega)]
      rfl
  simp only [hr]
/-- The nine cells of a group's block, each by itself. -/
theorem GrpAt.nine {w : World} {gb n : Nat} {a0 a1 a2 a3 a4 a5 a6 a7 : Int} (h : GrpAt w gb [a0, a1, a2, a3, a4, a5, a6, a7] n) :
    w.cell? ⟨gb, 0, none⟩ = some (.int .i64 a0) ∧ w.cell? ⟨gb, 1, none⟩ = some (.int .i64 a1) ∧ w.cell? ⟨gb, 2, none⟩ = some (.int .i64 a2) ∧ w.cell? ⟨gb, 3, none⟩ = some (.int .i64 a3) ∧ w.cell? ⟨gb, 4, none⟩ = some (.int .i64 a4) ∧ w.cell? ⟨gb, 5, none⟩ = some (.int .i64 a5) ∧ w.cell? ⟨gb, 6, none⟩ = some (.int .i64 a6) ∧ w.cell? ⟨gb, 7, none⟩ = some (.int .i64 a7) ∧ w.cell? ⟨gb, 8, none⟩ = some (.int .i64 (n : Int)) := by
  have h1 := h.1
  refine ⟨?_, ?_, ?_, ?_, ?_, ?_, ?_, ?_, ?_⟩ <;> simp [World.cell?, h1]
theorem GrpAt.put {w : World} {gb n : Nat} {ns : List Int} (h : GrpAt w gb ns n) (a0 a1 a2 a3 a4 a5 a6 a7 : Int) (m : Nat) (m' : Int) (hm : m' = (m : Int)) :
    GrpAt (((((((((w.setCell ⟨gb, 0, none⟩ (.int .i64 a0)).setCell ⟨gb, 1, none⟩ (.int .i64 a1)).setCell ⟨gb, 2, none⟩ (.int .i64 a2)).setCell ⟨gb, 3, none⟩ (.int .i64 a3)).setCell ⟨gb, 4, none⟩ (.int .i64 a4)).setCell ⟨gb, 5, none⟩ (.int .i64 a5)).setCell ⟨gb, 6, none⟩ (.int .i64 a6)).setCell ⟨gb, 7, none⟩ (.int .i64 a7)).setCell ⟨gb, 8, none⟩ (.int .i64 m')) gb [a0, a1, a2, a3, a4, a5, a6, a7] m := by
  subst hm
  obtain ⟨h1, h2⟩ := h
  match ns, h2 with
  | [_, _, _, _, _, _, _, _], _ =>
    refine ⟨?_, rfl⟩
    simp [World.setCell, Array.getElem?_modify, h1]
theorem eight {l : List Int} (h : l.length = 8) : ∃ a0 a1 a2 a3 a4 a5 a6 a7, l = [a0, a1, a2, a3, a4, a5, a6, a7] := by
  match l, h with
  | [a0, a1, a2, a3, a4, a5, a6, a7], _ => exact ⟨a0, a1, a2, a3, a4, a5, a6, a7, rfl⟩
theorem grp_new (w : World) : GrpAt (w.alloc (Obj.cells #[.int .i64 0, .int .i64 0, .int .i64 0, .int .i64 0, .int .i64 0, .int .i64 0, .int .i64 0, .int .i64 0, .int .i64 0] 209)) w.heap.size zeros8 0 := ⟨heap_alloc_new w _, rfl⟩
theorem addDot_len (g : List Int × Nat) (l : List UInt8) : (addDot g l).1.1.length = g.1.length := by
  unfold addDot
  split
  · rfl
  · split
    · rfl
    · split
      · rw [addG_len]
      · rw [addG_len, addG_len]
theorem addGrp_len (g : List Int × Nat) (l : List UInt8) : (addGrp g l).1.1.length = g.1.length := by
  unfold addGrp
  split
  · rfl
  · rw [addG_len]
theorem row_ne {w : World} {b off gb n : Nat} {l : List ByteArray} {ns : List Int} (h : RowAt 9 Value.string w b off l) (hg : GrpAt w gb ns n) : b ≠ gb := by
  rintro rfl
  obtain ⟨cs, fz, hh, -⟩ := h
  have h1 := hg.1
  rw [hh] at h1
  simp only [Option.some.injEq, Obj.cells.injEq] at h1
  exact absurd h1.2.1 (by decide)
theorem bsplit_len (n : Int) (l : List UInt8) : (bsplit n l).length ≤ l.length + 1 := by
  induction l with
  | nil => simp [bsplit]
  | cons c r ih =>
    rw [bsplit]
    split
    · simp; omega
    · obtain ⟨x, q, hx⟩ := bsplit_ne n r
      rw [hx] at ih ⊢
      simp at ih ⊢
      omega
theorem nine_nx {w wr : World} {rb : Nat} (hrb : w.heap.size = rb) (h : Nx w wr) (x0 x1 x2 x3 x4 x5 x6 x7 x8 : Value) : Nx w (((((((((wr.setCell ⟨rb, 0, none⟩ x0).setCell ⟨rb, 1, none⟩ x1).setCell ⟨rb, 2, none⟩ x2).setCell ⟨rb, 3, none⟩ x3).setCell ⟨rb, 4, none⟩ x4).setCell ⟨rb, 5, none⟩ x5).setCell ⟨rb, 6, none⟩ x6).setCell ⟨rb, 7, none⟩ x7).setCell ⟨rb, 8, none⟩ x8) := by
  subst hrb
  exact ((((((((h.setCell (Nat.le_refl _) _).setCell (Nat.le_refl _) _).setCell (Nat.le_refl _) _).setCell (Nat.le_refl _) _).setCell (Nat.le_refl _) _).setCell (Nat.le_refl _) _).setCell (Nat.le_refl _) _).setCell (Nat.le_refl _) _).setCell (Nat.le_refl _) _
set_option maxHeartbeats 8000000 in
theorem readGrp_any (s : ByteArray) (en : Bool) (w : World) (hs : s.size ≤ 1000000) :
    Calls Tryz.prog 252 #[.string s, .bool en] w fun e w' => ∃ (a0 a1 a2 a3 a4 a5 a6 a7 : Int) (n : Nat) (ok : Bool), e = .returned (.tuple #[.agg #[.int .i64 a0, .int .i64 a1, .int .i64 a2, .int .i64 a3, .int .i64 a4, .int .i64 a5, .int .i64 a6, .int .i64 a7, .int .i64 (n : Int)], .bool ok]) ∧ readGrp (tl s) en = (([a0, a1, a2, a3, a4, a5, a6, a7], n), ok) ∧ Nx w w' := by
  by_cases h0 : s.size = 0
  · have HE := hide (show readGrp (tl s) en = (zeroG, true) by unfold readGrp; rw [if_pos (tl_empty h0)])
    have h0' := str_empty h0
    clear h0
    go_enter Tryz.func252, Tryz.ntmps252
    go_wp2
    exact bodyPost_ret (v := .tuple #[.agg #[.int .i64 0, .int .i64 0, .int .i64 0, .int .i64 0, .int .i64 0, .int .i64 0, .int .i64 0, .int .i64 0, .int .i64 0], .bool true]) (by simp [results, Tryz.results252, go_sem]) rfl ⟨0, 0, 0, 0, 0, 0, 0, 0, 0, true, rfl, HE.out, Nx.rfl.alloc _⟩
  · have h0' := str_nonempty h0
    have HE := hide (show readGrp (tl s) en = match grpGo en zeroG (bsplit 58 (tl s)) with | none => (zeroG, false) | some g => (g, true) by unfold readGrp; rw [if_neg (tl_ne h0)])
    clear h0
    go_enter Tryz.func252, Tryz.ntmps252
    go_wp2_with fail
    refine (split_any s 58 _ hs).mono ?_
    rintro e w1 ⟨v, bs, rfl, hv, hbs, hn⟩
    have HR0 := hide (show GrpAt w1 w.heap.size zeros8 0 from ((grp_new w).on (Nx.rfl.alloc _)).on hn)
    have HG0 := hide (show GrpAt w1 (w.heap.size + 1) zeros8 0 from (show GrpAt ((w.alloc _).alloc _) (w.heap.size + 1) zeros8 0 by have := grp_new (w.alloc (Obj.cells #[.int .i64 0, .int .i64 0, .int .i64 0, .int .i64 0, .int .i64 0, .int .i64 0, .int .i64 0, .int .i64 0, .int .i64 0] 209)); simpa using this).on hn)
    have HN1 := hide (show Nx w w1 from ((Nx.rfl.alloc _).alloc _).then hn)
    have HBS := hide hbs
    have HSZ := hide (show ∀ b ∈ bs, b.size ≤ 1000000 from fun b hb => Nat.le_trans (bsplit_size hbs b hb) hs)
    have hz : w.heap.size + 2 ≤ w1.heap.size := by have := hn.size; simpa using this
    obtain ⟨ao, cap, rfl, hlc, hcap, hnone, hsome⟩ := hv
    unfold maxLen at hcap
    have HRW := hide (show ∀ k, k < bs.length → ∃ b off, ao = some ⟨b, off, none⟩ ∧ RowAt 9 Value.string w1 b off bs ∧ b ≠ w.heap.size + 1 from fun k hk => by
      obtain ⟨a, ha⟩ := sl_some hk hnone
      obtain ⟨b, off, rfl, hr⟩ := hsome a ha
      exact ⟨b, off, ha, hr, row_ne hr HG0.out⟩)
    have hbl : bs.length ≤ s.size + 1 := by have h1 := congrArg List.length hbs; rw [List.length_map] at h1; rw [h1]; have := bsplit_len 58 (tl s); rw [tl_length] at this; exact this
    clear hnone hsome hbs hn
    generalize hrb : w.heap.size = rb at *
    have HRB := hide hrb
    clear hrb
    go_wp2
    go_loopw [8] (fun i wr => ∃ (k : Nat) (g : List Int × Nat), k ≤ bs.length ∧ i = .int .i64 k ∧ g.1.length = 8 ∧ GrpAt wr (rb + 1) g.1 g.2 ∧ grpGo en zeroG (bsplit 58 (tl s)) = grpGo en g ((bs.drop k).map tl) ∧ But (rb + 1) w1 wr) (fun i _ => bs.length - (intOf i).toNat)
    case atStart => exact ⟨0, zeroG, Nat.zero_le _, rfl, rfl, HG0.out, by rw [← HBS.out]; rfl, But.refl _ _⟩
    case round =>
      obtain ⟨k, g, hk, rfl, hgl, hg, hE, hbut⟩ := hrel
      have HGL := hide hgl
      have HG := hide hg
      have HBT := hide hbut
      have HRR := hide (HR0.out.but hbut (by omega))
      clear hgl hg hbut
      by_cases hlt : k < bs.length
      · obtain ⟨b, off, rfl, hr, hne⟩ := HRW.out k hlt
        have hck := (hr.but HBT.out hne).cell hlt
        have hsz := HSZ.out _ (List.getElem_mem hlt)
        rw [grp_step en bs k hlt] at hE
        have HE2 := hide hE
        clear hE hr hne HRW
        generalize bs[k] = p at *
        have HPUT := hide (fun w2 (hb2 : But (rb + 1) wr w2) => (HRR.out.but hb2 (by omega)))
        have KEY := hide (show grpGo en zeroG (bsplit 58 (tl s)) = none → readGrp (tl s) en = (zeroG, false) from fun h => by rw [HE.out, h])
        by_cases hdot : en = true ∧ k + 1 = bs.length ∧ among 46 (tl p) = true
        · have HF := hide (HE2.out.trans (if_pos hdot))
          obtain ⟨rfl, hlast, hA⟩ := hdot
          have HA := hide hA
          have hl' : ((k : Int) == (bs.length : Int) - 1) = true := by rw [beq_iff_eq]; omega
          clear HE2 hA hlast
          go_wp2_with (first | (go_at_call 117; refine (contains_any _ _ _ (small_len hsz)).mono ?_; rintro e w' ⟨rfl, rfl⟩; rw [HA.out]) | fail)
          refine (addDot_any (rb + 1) g p _ HG.out hsz).mono ?_
          rintro e w2 ⟨rfl, h1, h2⟩
          have HLN := hide ((addDot_len g (tl p)).trans HGL.out)
          generalize addDot g (tl p) = q at *
          obtain ⟨g2, ok⟩ := q
          simp only at *
          have HG2 := hide h1
          have HB2 := hide (HBT.out.then h2)
          have HR2 := hide (HPUT.out w2 h2)
          clear h1 h2
          cases ok
          · have HF2 := hide (KEY.out (HF.out.trans (if_neg (by decide))))
            obtain ⟨z0, z1, z2, z3, z4, z5, z6, z7, z8⟩ := HR2.out.nine
            have f0 := HR2.out.free 0
            have f1 := HR2.out.free 1
            have f2 := HR2.out.free 2
            have f3 := HR2.out.free 3
            have f4 := HR2.out.free 4
            have f5 := HR2.out.free 5
            have f6 := HR2.out.free 6
            have f7 := HR2.out.free 7
            have f8 := HR2.out.free 8
            have HP := hide (HR2.out.put 0 0 0 0 0 0 0 0 0 0 rfl)
            have HNF := hide (show ∀ x0 x1 x2 x3 x4 x5 x6 x7 x8, Nx w (((((((((w2.setCell ⟨rb, 0, none⟩ x0).setCell ⟨rb, 1, none⟩ x1).setCell ⟨rb, 2, none⟩ x2).setCell ⟨rb, 3, none⟩ x3).setCell ⟨rb, 4, none⟩ x4).setCell ⟨rb, 5, none⟩ x5).setCell ⟨rb, 6, none⟩ x6).setCell ⟨rb, 7, none⟩ x7).setCell ⟨rb, 8, none⟩ x8) from nine_nx HRB.out (HN1.out.trans (HB2.out.below (by rw [HRB.out]; omega) HN1.out.size)))
            go_wp2
            obtain ⟨y0, y1, y2, y3, y4, y5, y6, y7, y8⟩ := HP.out.nine
            exact bodyPost_ret (v := .tuple #[.agg #[.int .i64 0, .int .i64 0, .int .i64 0, .int .i64 0, .int .i64 0, .int .i64 0, .int .i64 0, .int .i64 0, .int .i64 0], .bool false]) (by simp [results, Tryz.results252, go_sem, y0, y1, y2, y3, y4, y5, y6, y7, y8]) rfl ⟨0, 0, 0, 0, 0, 0, 0, 0, 0, false, rfl, HF2.out, HNF.out _ _ _ _ _ _ _ _ _⟩
          · have HF2 := hide (HF.out.trans (if_pos rfl))
            clear HF
            go_wp2
            go_roundw
            case rel => exact ⟨k + 1, g2, by omega, by go_num, HLN.out, HG2.out, HF2.out, HB2.out⟩
            case measure => simp [intOf]; omega
        · have HF := hide (HE2.out.trans (if_neg hdot))
          clear HE2
          have hcase : (en = true ∧ k + 1 = bs.length → among 46 (tl p) = false) := fun h => by
            cases hA : among 46 (tl p)
            · rfl
            · exact absurd ⟨h.1, h.2, hA⟩ hdot
          have CC := hide hcase
          clear hcase hdot
          cases en
          · go_wp2_with fail
            refine (addGrp_any (rb + 1) g p _ HG.out hsz).mono ?_
            rintro e w2 ⟨rfl, h1, h2⟩
            have HLN := hide ((addGrp_len g (tl p)).trans HGL.out)
            generalize addGrp g (tl p) = q at *
            obtain ⟨g2, ok⟩ := q
            simp only at *
            have HG2 := hide h1
            have HB2 := hide (HBT.out.then h2)
            have HR2 := hide (HPUT.out w2 h2)
            clear h1 h2
            cases ok
            · have HF2 := hide (KEY.out (HF.out.trans (if_neg (by decide))))
              obtain ⟨z0, z1, z2, z3, z4, z5, z6, z7, z8⟩ := HR2.out.nine
              have f0 := HR2.out.free 0
              have f1 := HR2.out.free 1
              have f2 := HR2.out.free 2
              have f3 := HR2.out.free 3
              have f4 := HR2.out.free 4
              have f5 := HR2.out.free 5
              have f6 := HR2.out.free 6
              have f7 := HR2.out.free 7
              have f8 := HR2.out.free 8
              have HP := hide (HR2.out.put 0 0 0 0 0 0 0 0 0 0 rfl)
              have HNF := hide (show ∀ x0 x1 x2 x3 x4 x5 x6 x7 x8, Nx w (((((((((w2.setCell ⟨rb, 0, none⟩ x0).setCell ⟨rb, 1, none⟩ x1).setCell ⟨rb, 2, none⟩ x2).setCell ⟨rb, 3, none⟩ x3).setCell ⟨rb, 4, none⟩ x4).setCell ⟨rb, 5, none⟩ x5).setCell ⟨rb, 6, none⟩ x6).setCell ⟨rb, 7, none⟩ x7).setCell ⟨rb, 8, none⟩ x8) from nine_nx HRB.out (HN1.out.trans (HB2.out.below (by rw [HRB.out]; omega) HN1.out.size)))
              go_wp2
              obtain ⟨y0, y1, y2, y3, y4, y5, y6, y7, y8⟩ := HP.out.nine
              exact bodyPost_ret (v := .tuple #[.agg #[.int .i64 0, .int .i64 0, .int .i64 0, .int .i64 0, .int .i64 0, .int .i64 0, .int .i64 0, .int .i64 0, .int .i64 0], .bool false]) (by simp [results, Tryz.results252, go_sem, y0, y1, y2, y3, y4, y5, y6, y7, y8]) rfl ⟨0, 0, 0, 0, 0, 0, 0, 0, 0, false, rfl, HF2.out, HNF.out _ _ _ _ _ _ _ _ _⟩
            · have HF2 := hide (HF.out.trans (if_pos rfl))
              clear HF
              go_wp2
              go_roundw
              case rel => exact ⟨k + 1, g2, by omega, by go_num, HLN.out, HG2.out, HF2.out, HB2.out⟩
              case measure => simp [intOf]; omega
          · by_cases hlast : k + 1 = bs.length
            · have HA := hide (CC.out ⟨rfl, hlast⟩)
              have hl' : ((k : Int) == (bs.length : Int) - 1) = true := by rw [beq_iff_eq]; omega
              clear hlast CC
              go_wp2_with (first | (go_at_call 117; refine (contains_any _ _ _ (small_len hsz)).mono ?_; rintro e w' ⟨rfl, rfl⟩; rw [HA.out]) | fail)
              refine (addGrp_any (rb + 1) g p _ HG.out hsz).mono ?_
              rintro e w2 ⟨rfl, h1, h2⟩
              have HLN := hide ((addGrp_len g (tl p)).trans HGL.out)
              generalize addGrp g (tl p) = q at *
              obtain ⟨g2, ok⟩ := q
              simp only at *
              have HG2 := hide h1
              have HB2 := hide (HBT.out.then h2)
              have HR2 := hide (HPUT.out w2 h2)
              clear h1 h2
              cases ok
              · have HF2 := hide (KEY.out (HF.out.trans (if_neg (by decide))))
                obtain ⟨z0, z1, z2, z3, z4, z5, z6, z7, z8⟩ := HR2.out.nine
                have f0 := HR2.out.free 0
                have f1 := HR2.out.free 1
                have f2 := HR2.out.free 2
                have f3 := HR2.out.free 3
                have f4 := HR2.out.free 4
                have f5 := HR2.out.free 5
                have f6 := HR2.out.free 6
                have f7 := HR2.out.free 7
                have f8 := HR2.out.free 8
                have HP := hide (HR2.out.put 0 0 0 0 0 0 0 0 0 0 rfl)
                have HNF := hide (show ∀ x0 x1 x2 x3 x4 x5 x6 x7 x8, Nx w (((((((((w2.setCell ⟨rb, 0, none⟩ x0).setCell ⟨rb, 1, none⟩ x1).setCell ⟨rb, 2, none⟩ x2).setCell ⟨rb, 3, none⟩ x3).setCell ⟨rb, 4, none⟩ x4).setCell ⟨rb, 5, none⟩ x5).setCell ⟨rb, 6, none⟩ x6).setCell ⟨rb, 7, none⟩ x7).setCell ⟨rb, 8, none⟩ x8) from nine_nx HRB.out (HN1.out.trans (HB2.out.below (by rw [HRB.out]; omega) HN1.out.size)))
                go_wp2
                obtain ⟨y0, y1, y2, y3, y4, y5, y6, y7, y8⟩ := HP.out.nine
                exact bodyPost_ret (v := .tuple #[.agg #[.int .i64 0, .int .i64 0, .int .i64 0, .int .i64 0, .int .i64 0, .int .i64 0, .int .i64 0, .int .i64 0, .int .i64 0], .bool false]) (by simp [results, Tryz.results252, go_sem, y0, y1, y2, y3, y4, y5, y6, y7, y8]) rfl ⟨0, 0, 0, 0, 0, 0, 0, 0, 0, false, rfl, HF2.out, HNF.out _ _ _ _ _ _ _ _ _⟩
              · have HF2 := hide (HF.out.trans (if_pos rfl))
                clear HF
                go_wp2
                go_roundw
                case rel => exact ⟨k + 1, g2, by omega, by go_num, HLN.out, HG2.out, HF2.out, HB2.out⟩
                case measure => simp [intOf]; omega
            · have hl' : ((k : Int) == (bs.length : Int) - 1) = false := beq_eq_false_iff_ne.2 (by omega)
              clear hlast CC
              go_wp2_with fail
              refine (addGrp_any (rb + 1) g p _ HG.out hsz).mono ?_
              rintro e w2 ⟨rfl, h1, h2⟩
              have HLN := hide ((addGrp_len g (tl p)).trans HGL.out)
              generalize addGrp g (tl p) = q at *
              obtain ⟨g2, ok⟩ := q
              simp only at *
              have HG2 := hide h1
              have HB2 := hide (HBT.out.then h2)
              have HR2 := hide (HPUT.out w2 h2)
              clear h1 h2
              cases ok
              · have HF2 := hide (KEY.out (HF.out.trans (if_neg (by decide))))
                obtain ⟨z0, z1, z2, z3, z4, z5, z6, z7, z8⟩ := HR2.out.nine
                have f0 := HR2.out.free 0
                have f1 := HR2.out.free 1
                have f2 := HR2.out.free 2
                have f3 := HR2.out.free 3
                have f4 := HR2.out.free 4
                have f5 := HR2.out.free 5
                have f6 := HR2.out.free 6
                have f7 := HR2.out.free 7
                have f8 := HR2.out.free 8
                have HP := hide (HR2.out.put 0 0 0 0 0 0 0 0 0 0 rfl)
                have HNF := hide (show ∀ x0 x1 x2 x3 x4 x5 x6 x7 x8, Nx w (((((((((w2.setCell ⟨rb, 0, none⟩ x0).setCell ⟨rb, 1, none⟩ x1).setCell ⟨rb, 2, none⟩ x2).setCell ⟨rb, 3, none⟩ x3).setCell ⟨rb, 4, none⟩ x4).setCell ⟨rb, 5, none⟩ x5).setCell ⟨rb, 6, none⟩ x6).setCell ⟨rb, 7, none⟩ x7).setCell ⟨rb, 8, none⟩ x8) from nine_nx HRB.out (HN1.out.trans (HB2.out.below (by rw [HRB.out]; omega) HN1.out.size)))
                go_wp2
                obtain ⟨y0, y1, y2, y3, y4, y5, y6, y7, y8⟩ := HP.out.nine
                exact bodyPost_ret (v := .tuple #[.agg #[.int .i64 0, .int .i64 0, .int .i64 0, .int .i64 0, .int .i64 0, .int .i64 0, .int .i64 0, .int .i64 0, .int .i64 0], .bool false]) (by simp [results, Tryz.results252, go_sem, y0, y1, y2, y3, y4, y5, y6, y7, y8]) rfl ⟨0, 0, 0, 0, 0, 0, 0, 0, 0, false, rfl, HF2.out, HNF.out _ _ _ _ _ _ _ _ _⟩
              · have HF2 := hide (HF.out.trans (if_pos rfl))
                clear HF
                go_wp2
                go_roundw
                case rel => exact ⟨k + 1, g2, by omega, by go_num, HLN.out, HG2.out, HF2.out, HB2.out⟩
                case measure => simp [intOf]; omega
      · have HF := hide (show readGrp (tl s) en = (g, true) by rw [HE.out, hE, List.drop_of_length_le (by omega)]; rfl)
        clear hE
        obtain ⟨a0, a1, a2, a3, a4, a5, a6, a7, hg8⟩ := eight HGL.out
        obtain ⟨g1, n⟩ := g
        simp only at hg8
        subst hg8
        simp only at *
        obtain ⟨z0, z1, z2, z3, z4, z5, z6, z7, z8⟩ := HG.out.nine
        obtain ⟨x0, x1, x2, x3, x4, x5, x6, x7, x8⟩ := HRR.out.nine
        have f0 := HRR.out.free 0
        have f1 := HRR.out.free 1
        have f2 := HRR.out.free 2
        have f3 := HRR.out.free 3
        have f4 := HRR.out.free 4
        have f5 := HRR.out.free 5
        have f6 := HRR.out.free 6
        have f7 := HRR.out.free 7
        have f8 := HRR.out.free 8
        have HP := hide (HRR.out.put a0 a1 a2 a3 a4 a5 a6 a7 n (n : Int) rfl)
        have HNF := hide (show ∀ x0 x1 x2 x3 x4 x5 x6 x7 x8, Nx w (((((((((wr.setCell ⟨rb, 0, none⟩ x0).setCell ⟨rb, 1, none⟩ x1).setCell ⟨rb, 2, none⟩ x2).setCell ⟨rb, 3, none⟩ x3).setCell ⟨rb, 4, none⟩ x4).setCell ⟨rb, 5, none⟩ x5).setCell ⟨rb, 6, none⟩ x6).setCell ⟨rb, 7, none⟩ x7).setCell ⟨rb, 8, none⟩ x8) from nine_nx HRB.out (HN1.out.trans (HBT.out.below (by rw [HRB.out]; omega) HN1.out.size)))
        go_wp2
        obtain ⟨y0, y1, y2, y3, y4, y5, y6, y7, y8⟩ := HP.out.nine
        exact bodyPost_ret (v := .tuple #[.agg #[.int .i64 a0, .int .i64 a1, .int .i64 a2, .int .i64 a3, .int .i64 a4, .int .i64 a5, .int .i64 a6, .int .i64 a7, .int .i64 (n : Int)], .bool true]) (by simp [results, Tryz.results252, go_sem, y0, y1, y2, y3, y4, y5, y6, y7, y8]) rfl ⟨a0, a1, a2, a3, a4, a5, a6, a7, n, true, rfl, HF.out, HNF.out _ _ _ _ _ _ _ _ _⟩
end Go.Proofs.YtchkhibgbnhjpaaGreatDoor
