import Derived.Test.YtglpmmemjhjblaaGreatDoorHst8a
import Derived.Test.YtglpmmemjhjblaaGreatDoorPth3
import Derived.Test.YtglpmmemjhjblaaGreatDoorFmt1
import Derived.Test.YtglpmmemjhjblaaGreatDoorShf
namespace Go.Proofs.YtglpmmemjhjblaaGreatDoor
open Go.RowKit

/-- hosts.longestRun -/
def lrGo : Nat → Nat → Nat → Nat → List Int → Nat × Nat
  | _, st, ln, _, [] => (st, ln)
  | i, st, ln, run, x :: r =>
    if ln < (if x = 0 then run + 1 else 0) then lrGo (i + 1) (i + 1 - (if x = 0 then run + 1 else 0)) (if x = 0 then run + 1 else 0) (if x = 0 then run + 1 else 0) r
    else lrGo (i + 1) st ln (if x = 0 then run + 1 else 0) r
def longRun (ns : List Int) : Nat × Nat := lrGo 0 8 1 0 ns
theorem lrGo_rng (ns : List Int) : ∀ i st ln run, st ≤ 8 → 1 ≤ ln → ln ≤ 8 → run ≤ i → i + ns.length ≤ 8 → (lrGo i st ln run ns).1 ≤ 8 ∧ 1 ≤ (lrGo i st ln run ns).2 ∧ (lrGo i st ln run ns).2 ≤ 8 := by
  induction ns with
  | nil => intro i st ln run h1 h2 h3 h4 h5; rw [lrGo]; exact ⟨h1, h2, h3⟩
  | cons x r ih =>
    intro i st ln run h1 h2 h3 h4 h5
    rw [List.length_cons] at h5
    have hr : (if x = 0 then run + 1 else 0) ≤ i + 1 := by split <;> omega
    rw [lrGo]
    generalize (if x = 0 then run + 1 else 0) = run' at *
    split
    · exact ih _ _ _ _ (by omega) (by omega) (by omega) hr (by omega)
    · exact ih _ _ _ _ h1 h2 h3 hr (by omega)
theorem lr_step (ns : List Int) (k : Nat) (h : k < ns.length) (st ln run : Nat) : lrGo k st ln run (ns.drop k) =
    if ln < (if ns[k] = 0 then run + 1 else 0) then lrGo (k + 1) (k + 1 - (if ns[k] = 0 then run + 1 else 0)) (if ns[k] = 0 then run + 1 else 0) (if ns[k] = 0 then run + 1 else 0) (ns.drop (k + 1))
    else lrGo (k + 1) st ln (if ns[k] = 0 then run + 1 else 0) (ns.drop (k + 1)) := by
  rw [List.drop_eq_getElem_cons h, lrGo]
set_option maxHeartbeats 4000000 in
theorem longRun_any (a0 a1 a2 a3 a4 a5 a6 a7 : Int) (w : World) :
    Calls Tryz.prog 218 #[.agg #[.int .i64 a0, .int .i64 a1, .int .i64 a2, .int .i64 a3, .int .i64 a4, .int .i64 a5, .int .i64 a6, .int .i64 a7]] w fun e w' => e = .returned (.tuple #[.int .i64 ((longRun [a0, a1, a2, a3, a4, a5, a6, a7]).1 : Nat), .int .i64 ((longRun [a0, a1, a2, a3, a4, a5, a6, a7]).2 : Nat)]) ∧ Nx w w' := by
  have HA := hide (arr_new w a0 a1 a2 a3 a4 a5 a6 a7)
  have HN := hide (show Nx w (w.alloc (Obj.cells #[.int .i64 a0, .int .i64 a1, .int .i64 a2, .int .i64 a3, .int .i64 a4, .int .i64 a5, .int .i64 a6, .int .i64 a7] 180)) from Nx.rfl.alloc _)
  have HD := hide (show longRun [a0, a1, a2, a3, a4, a5, a6, a7] = lrGo 0 8 1 0 ([a0, a1, a2, a3, a4, a5, a6, a7].drop 0) from rfl)
  have h8 : [a0, a1, a2, a3, a4, a5, a6, a7].length = 8 := rfl
  generalize [a0, a1, a2, a3, a4, a5, a6, a7] = ns at *
  go_enter Tryz.func218, Tryz.ntmps218
  go_wp2
  generalize (w.alloc (Obj.cells #[.int .i64 a0, .int .i64 a1, .int .i64 a2, .int .i64 a3, .int .i64 a4, .int .i64 a5, .int .i64 a6, .int .i64 a7] 180)) = w1 at *
  have H8 := hide h8
  clear h8
  go_loop [4, 5, 6, 7] (fun s l r i => ∃ (k st ln run : Nat), k ≤ 8 ∧ s = .int .i64 st ∧ l = .int .i64 ln ∧ r = .int .i64 run ∧ i = .int .i64 k ∧ st ≤ 8 ∧ ln ≤ 8 ∧ run ≤ k ∧ longRun ns = lrGo k st ln run (ns.drop k)) (fun _ _ _ i => 8 - (intOf i).toNat)
  case atStart => exact ⟨0, 8, 1, 0, by omega, rfl, rfl, rfl, rfl, by omega, by omega, by omega, HD.out⟩
  case round =>
    obtain ⟨k, st, ln, run, hk, rfl, rfl, rfl, rfl, h1, h2, h3, hE⟩ := hrel
    by_cases hlt : k < 8
    · have hkl : k < ns.length := by have := H8.out; omega
      have hck := HA.out.cell hkl
      rw [lr_step ns k hkl] at hE
      have HE := hide hE
      clear hE
      generalize ns[k] = x at *
      cases hx : (x == 0)
      · have hx0 : ¬ x = 0 := by simpa using hx
        rw [if_neg hx0] at HE
        have HE2 := hide (HE.out.trans (if_neg (by omega)))
        clear HE hx0
        go_wp2
        go_round
        case rel => exact ⟨k + 1, st, ln, 0, by omega, rfl, rfl, rfl, by go_num, h1, h2, by omega, HE2.out⟩
        case measure => simp [intOf]; omega
      · have hx0 : x = 0 := by simpa using hx
        rw [if_pos hx0] at HE
        subst hx0
        by_cases hb : ln < run + 1
        · have HE2 := hide (HE.out.trans (if_pos hb))
          have hbi : (ln : Int) < (run : Int) + 1 := by omega
          clear HE
          go_wp2
          go_round
          case rel => exact ⟨k + 1, k + 1 - (run + 1), run + 1, run + 1, by omega, by rw [show ((k + 1 - (run + 1) : Nat) : Int) = (k : Int) - ((run : Int) + 1) + 1 by omega], by go_num, by go_num, by go_num, by omega, by omega, by omega, HE2.out⟩
          case measure => simp [intOf]; omega
        · have HE2 := hide (HE.out.trans (if_neg hb))
          have hbi : (run : Int) + 1 ≤ (ln : Int) := by omega
          clear HE
          go_wp2
          go_round
          case rel => exact ⟨k + 1, st, ln, run + 1, by omega, rfl, rfl, by go_num, by go_num, h1, h2, by omega, HE2.out⟩
          case measure => simp [intOf]; omega
    · have HE2 := hide (show longRun ns = (st, ln) by rw [hE, List.drop_of_length_le (by have := H8.out; omega), lrGo])
      clear hE
      go_wp2
      go_ret2
      exact ⟨by rw [HE2.out]; rfl, HN.out⟩

/-- hosts.writeIPv6 -/
def w6Go (ns : List Int) (st ln : Nat) : Nat → Nat → List UInt8
  | 0, _ => []
  | f + 1, i => if 8 ≤ i then [] else if i = st then [58, 58] ++ w6Go ns st ln f (i + ln) else (if 0 < i ∧ i ≠ st + ln then [58] else []) ++ hexD (ns.getD i 0).toNat ++ w6Go ns st ln f (i + 1)
def text6 (ns : List Int) : List UInt8 := w6Go ns (longRun ns).1 (longRun ns).2 8 0
theorem w6_end (ns : List Int) (st ln f i : Nat) (h : 8 ≤ i) : w6Go ns st ln f i = [] := by
  cases f with
  | zero => rfl
  | succ f => rw [w6Go, if_pos h]
theorem igetD {ns : List Int} {k : Nat} (h : k < ns.length) : ns.getD k 0 = ns[k] := by rw [List.getD_eq_getElem?_getD, List.getElem?_eq_getElem h]; rfl
set_option maxHeartbeats 4000000 in
theorem text6_any (a0 a1 a2 a3 a4 a5 a6 a7 : Int) (w : World) (ht : Tb w) (hp : ∀ x ∈ [a0, a1, a2, a3, a4, a5, a6, a7], 0 ≤ x ∧ x ≤ 65535) :
    Calls Tryz.prog 205 #[.agg #[.int .i64 a0, .int .i64 a1, .int .i64 a2, .int .i64 a3, .int .i64 a4, .int .i64 a5, .int .i64 a6, .int .i64 a7]] w fun e w' => ∃ r : ByteArray, e = .returned (.string r) ∧ tl r = text6 [a0, a1, a2, a3, a4, a5, a6, a7] ∧ Nx w w' := by
  have HA := hide (arr_new w a0 a1 a2 a3 a4 a5 a6 a7)
  have HN := hide (show Nx w (w.alloc (Obj.cells #[.int .i64 a0, .int .i64 a1, .int .i64 a2, .int .i64 a3, .int .i64 a4, .int .i64 a5, .int .i64 a6, .int .i64 a7] 180)) from Nx.rfl.alloc _)
  have HLR := hide (longRun_any a0 a1 a2 a3 a4 a5 a6 a7)
  have h8 : [a0, a1, a2, a3, a4, a5, a6, a7].length = 8 := rfl
  have HP := hide hp
  have HTB := hide ht
  clear hp ht
  generalize [a0, a1, a2, a3, a4, a5, a6, a7] = ns at *
  have hrg := lrGo_rng ns 0 8 1 0 (by omega) (by omega) (by omega) (by omega) (by omega)
  change (longRun ns).1 ≤ 8 ∧ 1 ≤ (longRun ns).2 ∧ (longRun ns).2 ≤ 8 at hrg
  have HD := hide (show text6 ns = w6Go ns (longRun ns).1 (longRun ns).2 8 0 from rfl)
  have H8 := hide h8
  clear h8
  go_enter Tryz.func205, Tryz.ntmps205
  go_wp2_with fail
  refine (HLR.out _).mono ?_
  rintro e w2 ⟨rfl, hn2⟩
  have HA2 := hide (HA.out.on hn2)
  have HN2 := hide (HN.out.then hn2)
  clear hn2 HA HN HLR
  generalize longRun ns = q at *
  obtain ⟨st, ln⟩ := q
  simp only at *
  obtain ⟨hst, hln1, hln8⟩ := hrg
  go_wp2
  go_loopw [5, 6] (fun t i wr => ∃ (f k : Nat) (txt : ByteArray), t = .string txt ∧ i = .int .i64 k ∧ 8 ≤ k + f ∧ k ≤ 16 ∧ f ≤ 8 ∧ txt.size + 5 * f ≤ 40 ∧ text6 ns = tl txt ++ w6Go ns st ln f k ∧ Nx w2 wr) (fun _ i _ => 8 - (intOf i).toNat)
  case atStart => exact ⟨8, 0, ⟨#[]⟩, rfl, rfl, by omega, by omega, by omega, by decide, by rw [HD.out]; rfl, Nx.rfl⟩
  case round =>
    obtain ⟨f, k, txt, rfl, rfl, hf, hk, hf8, hsz, hE, hnx⟩ := hrel
    have HN3 := hide (HN2.out.then hnx)
    have HNX := hide hnx
    have HA3 := hide (HA2.out.on hnx)
    clear hnx
    by_cases hlt : k < 8
    · cases f with
      | zero => omega
      | succ f =>
        rw [w6Go, if_neg (by omega)] at hE
        by_cases hks : k = st
        · have HE := hide (hE.trans (by rw [if_pos hks]))
          have hks' : ((k : Int) == (st : Int)) = true := by rw [hks]; simp
          clear hE hks
          go_wp2
          go_roundw
          case rel => exact ⟨f, k + ln, _, rfl, by go_num, by omega, by omega, by omega, by rw [size_append']; show txt.size + 2 + _ ≤ _; omega, by rw [HE.out, tl_append', List.append_assoc]; rfl, HNX.out⟩
          case measure => simp [intOf]; omega
        · rw [if_neg hks] at hE
          have hks' : ((k : Int) == (st : Int)) = false := beq_eq_false_iff_ne.2 (by omega)
          have hkl : k < ns.length := by have := H8.out; omega
          have hck := HA3.out.cell hkl
          have hrx := HP.out _ (List.getElem_mem hkl)
          rw [igetD hkl] at hE
          have HE := hide hE
          clear hE hks
          generalize ns[k] = x at *
          obtain ⟨xn, rfl⟩ : ∃ xn : Nat, x = (xn : Int) := ⟨x.toNat, by omega⟩
          have hxl : xn ≤ 65535 := by omega
          rw [Int.toNat_natCast] at HE
          have HTB3 := hide (HTB.out.on HN3.out)
          have hx4 := hexD_len xn
          by_cases hc : 0 < k ∧ k ≠ st + ln
          · have HE2 := hide (HE.out.trans (by rw [if_pos hc]))
            obtain ⟨hc1, hc2⟩ := hc
            have hc2' : ((k : Int) != (st : Int) + (ln : Int)) = true := bneT (beq_eq_false_iff_ne.2 (by omega))
            clear HE
            go_wp2_with fail
            refine (fmt16_any xn hxl _ HTB3.out.2).mono ?_
            rintro e w4 ⟨r, rfl, hr, hn4⟩
            have hrs : r.size ≤ 4 := by rw [← tl_length, hr]; omega
            have HR := hide hr
            have HN4 := hide (HNX.out.then hn4)
            clear hr hn4
            go_wp2
            go_roundw
            case rel => exact ⟨f, k + 1, _, rfl, by go_num, by omega, by omega, by omega, by rw [size_append', size_append']; show txt.size + 1 + _ + _ ≤ _; omega, by rw [HE2.out, tl_append', tl_append', HR.out, List.append_assoc, List.append_assoc, List.append_assoc]; rfl, HN4.out⟩
            case measure => simp [intOf]; omega
          · have HE2 := hide (HE.out.trans (by rw [if_neg hc, List.nil_append]))
            clear HE
            by_cases hk0 : 0 < k
            · have hc2 : k = st + ln := by
                rcases Nat.decEq k (st + ln) with h | h
                · exact absurd ⟨hk0, h⟩ hc
                · exact h
              have hc2' : ((k : Int) != (st : Int) + (ln : Int)) = false := bneF (by rw [beq_iff_eq]; omega)
              clear hc hc2
              go_wp2_with fail
              refine (fmt16_any xn hxl _ HTB3.out.2).mono ?_
              rintro e w4 ⟨r, rfl, hr, hn4⟩
              have hrs : r.size ≤ 4 := by rw [← tl_length, hr]; omega
              have HR := hide hr
              have HN4 := hide (HNX.out.then hn4)
              clear hr hn4
              go_wp2
              go_roundw
              case rel => exact ⟨f, k + 1, _, rfl, by go_num, by omega, by omega, by omega, by rw [size_append']; omega, by rw [HE2.out, tl_append', HR.out, List.append_assoc], HN4.out⟩
              case measure => simp [intOf]; omega
            · have hk00 : k ≤ 0 := by omega
              clear hc
              go_wp2_with fail
              refine (fmt16_any xn hxl _ HTB3.out.2).mono ?_
              rintro e w4 ⟨r, rfl, hr, hn4⟩
              have hrs : r.size ≤ 4 := by rw [← tl_length, hr]; omega
              have HR := hide hr
              have HN4 := hide (HNX.out.then hn4)
              clear hr hn4
              go_wp2
              go_roundw
              case rel => exact ⟨f, k + 1, _, rfl, by go_num, by omega, by omega, by omega, by rw [size_append']; omega, by rw [HE2.out, tl_append', HR.out, List.append_assoc], HN4.out⟩
              case measure => simp [intOf]; omega
    · have HE := hide (show tl txt = text6 ns by rw [hE, w6_end _ _ _ _ _ (by omega), List.append_nil])
      clear hE
      go_wp2
      go_ret
      exact ⟨_, rfl, HE.out, HN3.out⟩
end Go.Proofs.YtglpmmemjhjblaaGreatDoor
