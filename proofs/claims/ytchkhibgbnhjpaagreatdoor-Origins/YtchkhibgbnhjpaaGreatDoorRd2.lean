import Derived.Test.YtchkhibgbnhjpaaGreatDoorRd1
namespace Go.Proofs.YtchkhibgbnhjpaaGreatDoor
open Go.RowKit

/-- schemes.isScheme -/
def markB (b : UInt8) : Bool := (b.toNat : Int) == 43 || (b.toNat : Int) == 45 || (b.toNat : Int) == 46 || decide (48 ≤ (b.toNat : Int) ∧ (b.toNat : Int) ≤ 57) || alpha b.toNat
def schemeB (l : List UInt8) : Bool := match l with | [] => false | c :: r => alpha c.toNat && r.all markB
theorem all_take_false (p : UInt8 → Bool) (s : ByteArray) (k : Nat) (h : k < s.size) (he : p s[k] = false) (h1 : 1 ≤ k) : ((tl s).drop 1).all p = false := by
  rw [List.all_eq_false]
  refine ⟨s[k], ?_, by rw [he]; decide⟩
  rw [← tl_get s k h]
  rw [show (tl s)[k]'(by rw [tl_length]; exact h) = ((tl s).drop 1)[k - 1]'(by rw [List.length_drop, tl_length]; omega) by rw [List.getElem_drop]; congr 1; omega]
  exact List.getElem_mem _
set_option maxHeartbeats 2000000 in
theorem schemeB_any (s : ByteArray) (w : World) (hs : s.size ≤ 1000000) :
    Calls Tryz.prog 149 #[.string s] w fun e w' => e = .returned (.bool (schemeB (tl s))) ∧ w = w' := by
  by_cases h0 : s.size = 0
  · have HE := hide (show schemeB (tl s) = false by rw [tl_empty h0]; rfl)
    have h0' := str_empty h0
    clear h0
    go_enter Tryz.func149, Tryz.ntmps149
    go_wp2
    go_ret
    exact ⟨ret_bool HE.out.symm, rfl⟩
  have hpos : 0 < s.size := by omega
  have h0' := str_nonempty h0
  have hb0 := bb (s[0]'hpos)
  have HD := hide (show schemeB (tl s) = (alpha (s[0]'hpos).toNat && ((tl s).drop 1).all markB) by have := tl_drop s 0 hpos; rw [List.drop_zero] at this; rw [this]; rfl)
  clear h0
  cases hA : alpha ((s[0]'hpos).toNat : Int)
  · have HA := hide hA
    have HE := hide (show schemeB (tl s) = false by rw [HD.out, hA]; rfl)
    clear hA
    go_enter Tryz.func149, Tryz.ntmps149
    go_wp2_with (go_at_call 184; refine (letter_any _ _).mono ?_; rintro e w' ⟨rfl, rfl⟩; rw [HA.out])
    go_ret
    exact ⟨ret_bool HE.out.symm, rfl⟩
  · have HA := hide hA
    have HE := hide (show schemeB (tl s) = ((tl s).drop 1).all markB by rw [HD.out, hA]; rfl)
    clear hA HD
    go_enter Tryz.func149, Tryz.ntmps149
    go_wp2_with (go_at_call 184; refine (letter_any _ _).mono ?_; rintro e w' ⟨rfl, rfl⟩; rw [HA.out])
    go_loop [3] (fun i => ∃ k : Nat, 1 ≤ k ∧ k ≤ s.size ∧ i = .int .i64 k ∧ (((tl s).take k).drop 1).all markB = true) (fun i => s.size - (intOf i).toNat)
    case atStart => exact ⟨1, by omega, by omega, rfl, by rw [List.drop_of_length_le (by rw [List.length_take]; omega)]; rfl⟩
    case round =>
      obtain ⟨k, hk1, hk, rfl, ha⟩ := hrel
      have HAL := hide ha
      clear ha
      by_cases hlt : k < s.size
      · have hb := bb s[k]
        have HY := hide (show markB s[k] = true → (((tl s).take (k + 1)).drop 1).all markB = true from fun h => by
          rw [tl_take_succ s k hlt, List.drop_append_of_le_length (by rw [List.length_take, tl_length]; omega), all_snoc, HAL.out, h]; rfl)
        have HNO := hide (show markB s[k] = false → schemeB (tl s) = false from fun h => by rw [HE.out]; exact all_take_false markB s k hlt h hk1)
        have HM := hide (show markB s[k] = ((s[k].toNat : Int) == 43 || (s[k].toNat : Int) == 45 || (s[k].toNat : Int) == 46 || decide (48 ≤ (s[k].toNat : Int) ∧ (s[k].toNat : Int) ≤ 57) || alpha s[k].toNat) from rfl)
        cases h43 : ((s[k].toNat : Int) == 43)
        · cases h45 : ((s[k].toNat : Int) == 45)
          · cases h46 : ((s[k].toNat : Int) == 46)
            · by_cases hd : 48 ≤ (s[k].toNat : Int) ∧ (s[k].toNat : Int) ≤ 57
              · have HG := hide (HY.out (by rw [HM.out, decide_eq_true hd]; simp))
                obtain ⟨hd1, hd2⟩ := hd
                clear HY HNO
                go_wp2
                go_round
                case rel => exact ⟨k + 1, by omega, by omega, by go_num, HG.out⟩
                case measure => simp [intOf]; omega
              · cases hal : alpha (s[k].toNat : Int)
                · have HG := hide (HNO.out (by rw [HM.out, h43, h45, h46, decide_eq_false hd, hal]; rfl))
                  have HALP := hide hal
                  clear HY HNO hal
                  by_cases hd1 : 48 ≤ (s[k].toNat : Int)
                  · have hd2 : ¬ (s[k].toNat : Int) ≤ 57 := fun h => hd ⟨hd1, h⟩
                    clear hd
                    go_wp2_with (go_at_call 184; refine (letter_any _ _).mono ?_; rintro e w' ⟨rfl, rfl⟩; rw [HALP.out])
                    go_ret
                    exact ⟨ret_bool HG.out.symm, rfl⟩
                  · clear hd
                    go_wp2_with (go_at_call 184; refine (letter_any _ _).mono ?_; rintro e w' ⟨rfl, rfl⟩; rw [HALP.out])
                    go_ret
                    exact ⟨ret_bool HG.out.symm, rfl⟩
                · have HG := hide (HY.out (by rw [HM.out, hal]; simp))
                  have HALP := hide hal
                  clear HY HNO hal
                  by_cases hd1 : 48 ≤ (s[k].toNat : Int)
                  · have hd2 : ¬ (s[k].toNat : Int) ≤ 57 := fun h => hd ⟨hd1, h⟩
                    clear hd
                    go_wp2_with (go_at_call 184; refine (letter_any _ _).mono ?_; rintro e w' ⟨rfl, rfl⟩; rw [HALP.out])
                    go_round
                    case rel => exact ⟨k + 1, by omega, by omega, by go_num, HG.out⟩
                    case measure => simp [intOf]; omega
                  · clear hd
                    go_wp2_with (go_at_call 184; refine (letter_any _ _).mono ?_; rintro e w' ⟨rfl, rfl⟩; rw [HALP.out])
                    go_round
                    case rel => exact ⟨k + 1, by omega, by omega, by go_num, HG.out⟩
                    case measure => simp [intOf]; omega
            · have HG := hide (HY.out (by rw [HM.out, h46]; simp))
              clear HY HNO
              go_wp2
              go_round
              case rel => exact ⟨k + 1, by omega, by omega, by go_num, HG.out⟩
              case measure => simp [intOf]; omega
          · have HG := hide (HY.out (by rw [HM.out, h45]; simp))
            clear HY HNO
            go_wp2
            go_round
            case rel => exact ⟨k + 1, by omega, by omega, by go_num, HG.out⟩
            case measure => simp [intOf]; omega
        · have HG := hide (HY.out (by rw [HM.out, h43]; simp))
          clear HY HNO
          go_wp2
          go_round
          case rel => exact ⟨k + 1, by omega, by omega, by go_num, HG.out⟩
          case measure => simp [intOf]; omega
      · have HF := hide (show schemeB (tl s) = true by rw [HE.out]; have h := HAL.out; rw [tl_take_all s k (by omega)] at h; exact h)
        go_wp2
        go_ret
        exact ⟨ret_bool HF.out.symm, rfl⟩

/-- schemes.Cut -/
def cutSch (l : List UInt8) : List UInt8 × List UInt8 × Bool :=
  if (bcut (isB 58) l).2.2 = true ∧ schemeB (bcut (isB 58) l).1 = true then (lower (bcut (isB 58) l).1, (bcut (isB 58) l).2.1, true) else ([], l, false)
set_option maxHeartbeats 2000000 in
theorem cutSch_any (s : ByteArray) (w : World) (hs : s.size ≤ 1000000) :
    Calls Tryz.prog 110 #[.string s] w fun e w' => CutIs (cutSch (tl s)) e ∧ Nx w w' := by
  have HD := hide (show cutSch (tl s) = if (bcut (isB 58) (tl s)).2.2 = true ∧ schemeB (bcut (isB 58) (tl s)).1 = true then (lower (bcut (isB 58) (tl s)).1, (bcut (isB 58) (tl s)).2.1, true) else ([], tl s, false) from rfl)
  have hcl := bcut_len (isB 58) (tl s)
  go_enter Tryz.func110, Tryz.ntmps110
  go_wp2_with fail
  refine (acut_any s 58 _ (small_len hs)).mono ?_
  rintro e w1 ⟨⟨a, b, rfl, ha, hb⟩, hn1⟩
  have has : a.size ≤ 1000000 := by have h := hcl.1; rw [← ha, tl_length, tl_length] at h; omega
  rw [← ha, ← hb] at HD
  have HN1 := hide hn1
  clear ha hb hn1 hcl
  generalize (bcut (isB 58) (tl s)).2.2 = found at *
  cases found
  · have HE := hide (HD.out.trans (if_neg (by rintro ⟨h, -⟩; cases h)))
    clear HD
    go_wp2
    go_ret3
    exact ⟨⟨⟨#[]⟩, s, by rw [HE.out]; rfl, by rw [HE.out]; rfl, by rw [HE.out]⟩, HN1.out⟩
  · cases hsc : schemeB (tl a)
    · have HE := hide (HD.out.trans (if_neg (by rintro ⟨-, h⟩; rw [hsc] at h; cases h)))
      have HSC := hide hsc
      clear HD hsc
      go_wp2_with (go_at_call 149; refine (schemeB_any _ _ has).mono ?_; rintro e w' ⟨rfl, rfl⟩; rw [HSC.out])
      go_ret3
      exact ⟨⟨⟨#[]⟩, s, by rw [HE.out]; rfl, by rw [HE.out]; rfl, by rw [HE.out]⟩, HN1.out⟩
    · have HE := hide (HD.out.trans (if_pos ⟨rfl, hsc⟩))
      have HSC := hide hsc
      clear HD hsc
      go_wp2_with (first | (go_at_call 149; refine (schemeB_any _ _ has).mono ?_; rintro e w' ⟨rfl, rfl⟩; rw [HSC.out]) | (go_at_call 150; refine (alower_any _ _ has).mono ?_; rintro e w2 ⟨r, rfl, hr, hn2⟩; have HR := hide hr; have HN2 := hide (HN1.out.then hn2); clear hr hn2))
      go_ret3
      exact ⟨⟨r, b, by rw [HE.out]; rfl, by rw [HE.out]; exact HR.out, by rw [HE.out]⟩, HN2.out⟩

/-- percent.OfQuery -/
def querySet (sch : List UInt8) : Int := if isSpecial sch = true then 3 else 2
set_option maxHeartbeats 1000000 in
theorem querySet_any (s : ByteArray) (w : World) :
    Calls Tryz.prog 113 #[.bool (isSpecial (tl s))] w fun e w' => e = .returned (.int .i64 (querySet (tl s))) ∧ w = w' := by
  cases h : isSpecial (tl s)
  · have HE := hide (show querySet (tl s) = 2 from if_neg (by rw [h]; decide))
    clear h
    go_enter Tryz.func113, Tryz.ntmps113
    go_wp2
    go_ret
    exact ⟨ret_int HE.out.symm, rfl⟩
  · have HE := hide (show querySet (tl s) = 3 from if_pos h)
    clear h
    go_enter Tryz.func113, Tryz.ntmps113
    go_wp2
    go_ret
    exact ⟨ret_int HE.out.symm, rfl⟩

/-- hosts.CutPort -/
def cutPortGo (inb : Bool) : List UInt8 → Option (List UInt8 × List UInt8)
  | [] => none
  | c :: r => if (c.toNat : Int) = 91 then (cutPortGo true r).map (fun q => (c :: q.1, q.2)) else if (c.toNat : Int) = 93 then (cutPortGo false r).map (fun q => (c :: q.1, q.2))
    else if (c.toNat : Int) = 58 ∧ inb = false then some ([], r) else (cutPortGo inb r).map (fun q => (c :: q.1, q.2))
def cutPort (l : List UInt8) : List UInt8 × List UInt8 × Bool := match cutPortGo false l with | none => (l, [], false) | some q => (q.1, q.2, true)
def CpTo (l : List UInt8) (k : Nat) (inb : Bool) : Prop := cutPortGo false l = (cutPortGo inb (l.drop k)).map (fun q => (l.take k ++ q.1, q.2))
theorem cpTo_zero (l : List UInt8) : CpTo l 0 false := by
  unfold CpTo
  rw [List.drop_zero, List.take_zero]
  cases cutPortGo false l <;> rfl
theorem cpTo_go {s : ByteArray} {k : Nat} {inb inb' : Bool} (hk : k < s.size) (h : CpTo (tl s) k inb) (hs : cutPortGo inb (s[k] :: (tl s).drop (k + 1)) = (cutPortGo inb' ((tl s).drop (k + 1))).map (fun q => (s[k] :: q.1, q.2))) : CpTo (tl s) (k + 1) inb' := by
  unfold CpTo at *
  rw [h, tl_drop s k hk, hs, tl_take_succ s k hk]
  cases cutPortGo inb' ((tl s).drop (k + 1)) with
  | none => rfl
  | some q => simp
theorem cpTo_hit {s : ByteArray} {k : Nat} (hk : k < s.size) (h : CpTo (tl s) k false) (h91 : ¬ (s[k].toNat : Int) = 91) (h93 : ¬ (s[k].toNat : Int) = 93) (h58 : (s[k].toNat : Int) = 58) : cutPort (tl s) = ((tl s).take k, (tl s).drop (k + 1), true) := by
  unfold CpTo at h
  rw [tl_drop s k hk, cutPortGo, if_neg h91, if_neg h93, if_pos ⟨h58, rfl⟩] at h
  unfold cutPort
  rw [h]
  simp
theorem cpTo_end {s : ByteArray} {k : Nat} {inb : Bool} (hk : s.size ≤ k) (h : CpTo (tl s) k inb) : cutPort (tl s) = (tl s, [], false) := by
  unfold CpTo at h
  rw [tl_drop_all s k hk] at h
  unfold cutPort
  rw [h]
  rfl
set_option maxHeartbeats 2000000 in
theorem cutPort_any (s : ByteArray) (w : World) (hs : s.size ≤ 1000000) :
    Calls Tryz.prog 205 #[.string s] w fun e w' => CutIs (cutPort (tl s)) e ∧ Nx w w' := by
  go_enter Tryz.func205, Tryz.ntmps205
  go_wp2
  go_loop [5, 6] (fun b i => ∃ (k : Nat) (inb : Bool), k ≤ s.size ∧ b = .bool inb ∧ i = .int .i64 k ∧ CpTo (tl s) k inb) (fun _ i => s.size - (intOf i).toNat)
  case atStart => exact ⟨0, false, Nat.zero_le _, rfl, rfl, cpTo_zero _⟩
  case round =>
    obtain ⟨k, inb, hk, rfl, rfl, ha⟩ := hrel
    have HA := hide ha
    clear ha
    by_cases hlt : k < s.size
    · have hb := bb s[k]
      cases h91 : ((s[k].toNat : Int) == 91)
      · have e91 : ¬ (s[k].toNat : Int) = 91 := by simpa using h91
        cases h93 : ((s[k].toNat : Int) == 93)
        · have e93 : ¬ (s[k].toNat : Int) = 93 := by simpa using h93
          cases h58 : ((s[k].toNat : Int) == 58)
          · have e58 : ¬ (s[k].toNat : Int) = 58 := by simpa using h58
            have HG := hide (cpTo_go (inb' := inb) hlt HA.out (by rw [cutPortGo, if_neg e91, if_neg e93, if_neg (fun h => e58 h.1)]))
            clear e91 e93 e58
            go_wp2
            go_round
            case rel => exact ⟨k + 1, inb, by omega, rfl, by go_num, HG.out⟩
            case measure => simp [intOf]; omega
          · cases inb
            · have HR := hide (cpTo_hit hlt HA.out e91 e93 (by simpa using h58))
              clear e91 e93
              go_wp2
              go_region
              all_goals go_wp2
              all_goals go_ret3
              all_goals exact ⟨⟨_, _, by rw [HR.out]; rfl, by rw [HR.out, tl_to], by rw [HR.out, tl_from]⟩, Nx.rfl.drew⟩
            · have HG := hide (cpTo_go (inb' := true) hlt HA.out (by rw [cutPortGo, if_neg e91, if_neg e93, if_neg (fun h => by cases h.2)]))
              clear e91 e93
              go_wp2
              go_round
              case rel => exact ⟨k + 1, true, by omega, rfl, by go_num, HG.out⟩
              case measure => simp [intOf]; omega
        · have HG := hide (cpTo_go (inb' := false) hlt HA.out (by rw [cutPortGo, if_neg e91, if_pos (by simpa using h93)]))
          clear e91
          go_wp2
          go_round
          case rel => exact ⟨k + 1, false, by omega, rfl, by go_num, HG.out⟩
          case measure => simp [intOf]; omega
      · have HG := hide (cpTo_go (inb' := true) hlt HA.out (by rw [cutPortGo, if_pos (by simpa using h91)]))
        go_wp2
        go_round
        case rel => exact ⟨k + 1, true, by omega, rfl, by go_num, HG.out⟩
        case measure => simp [intOf]; omega
    · have HR := hide (cpTo_end (Nat.le_of_not_lt hlt) HA.out)
      go_wp2
      go_ret3
      exact ⟨⟨_, _, by rw [HR.out]; rfl, by rw [HR.out], by rw [HR.out]; rfl⟩, Nx.rfl⟩

/-- hosts.ReadFile -/
def localB : List UInt8 := [108, 111, 99, 97, 108, 104, 111, 115, 116]
def fileHostL (l : List UInt8) : List UInt8 × Int := if l = [] then ([], 0) else if (hostL l true).2 ≠ 0 then ([], (hostL l true).2) else if (hostL l true).1 = localB then ([], 0) else ((hostL l true).1, 0)
set_option maxHeartbeats 2000000 in
theorem fileHost_any (s : ByteArray) (w : World) (hs : s.size ≤ 1000000) (ht : Tb w) :
    Calls Tryz.prog 204 #[.string s] w fun e w' => ∃ r : ByteArray, e = .returned (.tuple #[.string r, .int .i64 (fileHostL (tl s)).2]) ∧ tl r = (fileHostL (tl s)).1 ∧ Nx w w' := by
  by_cases h0 : s.size = 0
  · have HE := hide (show fileHostL (tl s) = ([], 0) from if_pos (tl_empty h0))
    have h0' := str_empty h0
    clear h0
    go_enter Tryz.func204, Tryz.ntmps204
    go_wp2
    go_ret2
    exact ⟨⟨#[]⟩, by rw [HE.out]; rfl, by rw [HE.out]; rfl, Nx.rfl⟩
  · have HE := hide (show fileHostL (tl s) = if (hostL (tl s) true).2 ≠ 0 then ([], (hostL (tl s) true).2) else if (hostL (tl s) true).1 = localB then ([], 0) else ((hostL (tl s) true).1, 0) from if_neg (tl_ne h0))
    have h0' := str_nonempty h0
    clear h0
    go_enter Tryz.func204, Tryz.ntmps204
    go_wp2_with fail
    refine (hostL_any s true _ hs ht).mono ?_
    rintro e w1 ⟨r, rfl, hr, hn⟩
    have HN := hide hn
    rw [← hr] at HE
    have HR := hide hr
    clear hn hr
    generalize (hostL (tl s) true).2 = err at *
    by_cases he : err = 0
    · subst he
      have HE2 := hide (HE.out.trans (if_neg (by decide)))
      clear HE
      by_cases hl : tl r = localB
      · have HE3 := hide (HE2.out.trans (if_pos hl))
        have hl' := eqB hl
        unfold localB at hl'
        clear HE2 hl
        go_wp2
        go_ret2
        exact ⟨⟨#[]⟩, by rw [HE3.out]; rfl, by rw [HE3.out]; rfl, HN.out⟩
      · have HE3 := hide (HE2.out.trans (if_neg hl))
        have hl' := neB hl
        unfold localB at hl'
        clear HE2 hl
        go_wp2
        go_ret2
        exact ⟨r, by rw [HE3.out]; rfl, by rw [HE3.out], HN.out⟩
    · have HE2 := hide (HE.out.trans (if_pos he))
      have he' : (err != 0) = true := bneT (beq_eq_false_iff_ne.2 he)
      clear HE he
      go_wp2
      go_ret2
      exact ⟨⟨#[]⟩, by rw [HE2.out]; rfl, by rw [HE2.out]; rfl, HN.out⟩
end Go.Proofs.YtchkhibgbnhjpaaGreatDoor
