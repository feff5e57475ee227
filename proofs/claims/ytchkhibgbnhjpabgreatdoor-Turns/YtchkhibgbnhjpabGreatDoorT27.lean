import Derived.Test.YtchkhibgbnhjpabGreatDoorV03
import Derived.Test.YtchkhibgbnhjpabGreatDoorT26
import Derived.ChangeMaps5
namespace Go.Proofs.YtchkhibgbnhjpabGreatDoor
open Go.ChangeShapes Go.WideShapes Go.ChangeAt Go.RowKit Go.ChangeMaps
set_option maxRecDepth 20000 in
theorem turns_contract (H : Type) (enc : TypeId × Value → H) (W : World) (base : Nat) (args : Array Value) (ds gs : List (DataW H)) (before : List MemPlace)
    (hval : ∀ (j : Nat) t v, Tryz.f5.params[j]? = some t → args[j]? = some v → Value.okWide Tryz.prog W .any base t v)
    (hW : DataW.Whole enc Tryz.prog Tryz.f5.params.toList Rows.turnsSpec.vars false W args.toList ds gs before) (hL : laidMetH Tryz.prog Rows.turnsRow.laid W) :
    Calls Tryz.prog 5 args W fun e W' => ∃ v, e = .returned v ∧ Rows.turnsSpec.post enc Tryz.prog Tryz.f5 false true false false W args v W' := by
  have hW' := hW
  obtain ⟨p, q, hA0, hV, rfl, hfz, hnd⟩ := hW
  have hA : DataW.TrodAll enc Tryz.prog W 0 (fun _ => true) true Tryz.f5.params.toList args.toList ds p := hA0
  rw [Tryz.params5] at hA hval
  obtain ⟨v0, vs0, d0, ds0, p0, q0, hargs, rfl, rfl, h0, r0⟩ := trodAll_cons hA
  obtain ⟨v1, vs1, d1, ds1, p1, q1, rfl, rfl, rfl, h1, r1⟩ := trodAll_cons r0
  obtain ⟨v2, vs2, d2, ds2, p2, q2, rfl, rfl, rfl, h2, r2⟩ := trodAll_cons r1
  obtain ⟨rfl, rfl, rfl⟩ := trodAll_nil r2
  obtain rfl : args = #[v0, v1, v2] := by cases args; simp_all
  obtain ⟨rfl, rfl⟩ := trodVars_none hV
  have hv0 : Value.okWide Tryz.prog W .any base 9 v0 := hval 0 9 v0 rfl rfl
  have hv1 : Value.okWide Tryz.prog W .any base 3 v1 := hval 1 3 v1 rfl rfl
  have hv2 : Value.okWide Tryz.prog W .any base 9 v2 := hval 2 9 v2 rfl rfl
  obtain ⟨x0, rfl, rfl, rfl, hx0⟩ := open_string (P := Tryz.prog) Tryz.underlying9 hv0 h0
  obtain ⟨x1, rfl, rfl, rfl, hx1⟩ := open_int (P := Tryz.prog) Tryz.underlying3 hv1 h1
  have hy1 : -9223372036854775808 ≤ x1 ∧ x1 ≤ 9223372036854775807 := by
    have h1 : (decide (IntKind.i64.min ≤ x1) && decide (x1 ≤ IntKind.i64.max)) = true := hx1
    rw [Bool.and_eq_true, decide_eq_true_eq, decide_eq_true_eq, show IntKind.i64.min = -9223372036854775808 by decide, show IntKind.i64.max = 9223372036854775807 by decide] at h1
    exact h1
  obtain ⟨x2, rfl, rfl, rfl, hx2⟩ := open_string (P := Tryz.prog) Tryz.underlying9 hv2 h2
  clear hA0
  simp only [List.append_nil] at hW'
  refine (Zy7 x0 x1 x2 W hx0 hy1 hx2 (Zs1 hL)).mono fun e W' ⟨he, hnx⟩ => ?_
  subst he
  exact ⟨_, rfl, _, _, _, [], [], [], hW', trodAll_cons_mk (shut_bool Tryz.underlying4 _) trodAll_mk0, trodAll_cons_mk (shut_string Tryz.underlying9 hx0) (trodAll_cons_mk (shut_int Tryz.underlying3 hx1) (trodAll_cons_mk (shut_string Tryz.underlying9 hx2) trodAll_mk0)), rfl, hnx.frame _, fun h => by cases h⟩
theorem Zy8 (os : Os) : laidMet Tryz.prog Rows.turnsRow.laid ((ZfC os).forCall (fun _ _ => 0) ⟨#[], #[.string ⟨#[]⟩, .int .i64 0, .string ⟨#[]⟩], []⟩).memory :=
  laidMet_of_run' 8 (by kernel_rfl) (by kernel_rfl)
theorem Zyd (os : Os) {H : Type} (enc : TypeId × Value → H) : ∃ places, DataW.whole enc Tryz.prog ((ZfC os).forCall (fun _ _ => 0) ⟨#[], #[.string ⟨#[]⟩, .int .i64 0, .string ⟨#[]⟩], []⟩).memory Tryz.f5.params.toList Rows.turnsSpec.vars false #[Value.string ⟨#[]⟩, Value.int .i64 0, Value.string ⟨#[]⟩].toList 8 = some ([.lit (.string []), .lit (.int .i64 0), .lit (.string [])], [], places) :=
  ⟨[], by kernel_rfl⟩
set_option maxRecDepth 100000 in
theorem ZxG (os : Os) (started : os.Started) (H : Type) (enc : TypeId × Value → H) (F : Stop.Interp) :
    ReturnsInHanded {} Tryz.checked os 5 .any ((OpenSpec.ofChange Rows.turnsSpec).preRow enc Tryz.prog Tryz.f5 Rows.turnsRow.domain false Rows.turnsRow.laid) (((OpenSpec.ofChange Rows.turnsSpec).at F).post enc Tryz.prog Tryz.f5 false true false false) := by
  obtain ⟨places, hx⟩ := Zyd os enc
  refine returnsInHanded_of_row (C := Tryz.checked) (s := OpenSpec.ofChange Rows.turnsSpec) Zuv started (by kernel_rfl) Tryz.func5
    (witness_row_at (enc := enc) (C := Tryz.checked) false (ZfC os) #[.string ⟨#[]⟩, .int .i64 0, .string ⟨#[]⟩] rfl (by kernel_rfl) (by kernel_rfl) (by kernel_rfl)
      (OpenSpec.preRow_of_cond 8 hx (by kernel_rfl) (fun k hk => by cases hk) (by kernel_rfl) (Zy8 os))) ?_
  intro W base args ds gs before hval hW _ _ _ hL _ _
  exact turns_contract H enc W base args ds gs before hval hW hL
theorem turns_c1 : (Rows.turnsRow.inPlace == Tryz.prog.inPlace 5) = true := by kernel_rfl
theorem turns_c2 : (Rows.turnsRow.unfollowed == Tryz.prog.unfollowed 5) = true := by kernel_rfl
theorem turns_c3 : (Rows.turnsRow.recurses == Tryz.prog.recurses 5) = true := by kernel_rfl
theorem turns_c4 : (Rows.turnsRow.named == Tryz.prog.varsNamed 5) = true := by kernel_rfl
theorem turns_c5 : laidOutB Tryz.prog = true := by kernel_rfl
theorem turns_c6 : mapsRowed Tryz.prog = true := by kernel_rfl
theorem ZxH : joinedFacts Tryz.prog 5 Tryz.f5 (OpenSpec.ofChange Rows.turnsSpec).bare Rows.turnsRow = true := by
  simp only [joinedFacts, Bool.and_eq_true]
  exact ⟨⟨⟨⟨⟨⟨⟨⟨⟨⟨⟨⟨⟨⟨⟨⟨⟨⟨⟨⟨⟨⟨⟨⟨⟨⟨⟨⟨⟨⟨⟨by kernel_rfl, turns_c5⟩, turns_c6⟩, by kernel_rfl⟩, by kernel_rfl⟩, by kernel_rfl⟩, by kernel_rfl⟩, by kernel_rfl⟩, by kernel_rfl⟩, turns_c1⟩, turns_c2⟩, turns_c3⟩, turns_c4⟩, by kernel_rfl⟩, by kernel_rfl⟩, by kernel_rfl⟩, by kernel_rfl⟩, by kernel_rfl⟩, by kernel_rfl⟩, by kernel_rfl⟩, by kernel_rfl⟩, by kernel_rfl⟩, by kernel_rfl⟩, by kernel_rfl⟩, by kernel_rfl⟩, by kernel_rfl⟩, by kernel_rfl⟩, by kernel_rfl⟩, by kernel_rfl⟩, by kernel_rfl⟩, by kernel_rfl⟩, by kernel_rfl⟩
theorem Zy9 : Rows.TurnsSaid :=
  OpenClaim.holds_of_cond 5 Tryz.f5 rfl rfl rfl rfl rfl rfl rfl ⟨rfl, rfl, rfl, rfl, rfl⟩ rfl rfl rfl rfl rfl (by kernel_rfl) Tryz.func5 ZxH
    (of_decide_eq_true (by kernel_rfl)) (by unfold Func.isWrapper; first | (rw [if_pos (by decide +kernel)]; kernel_rfl) | (rw [if_neg (by decide +kernel)]; exact ⟨rfl, rfl⟩))
    (fun os started H enc _ F => by rw [OpenClaim.pre_eq_preRow]; exact ZxG os started H enc F)
theorem Zye (f : FuncId) (fn : Func) (hf : Tryz.pinned.checked.prog.funcNamed "urls/urlskeep.Turns" = some f) (hfn : Tryz.pinned.checked.prog.funcs[f]? = some fn) :
    false = Tryz.pinned.checked.prog.looks [] ∧ ∀ (j : Nat) t, fn.params[j]? = some t → Tryz.pinned.checked.prog.wantsStandIn t = false := by
  obtain rfl : f = 5 := Option.some.inj ((show Tryz.prog.funcNamed "urls/urlskeep.Turns" = some 5 by kernel_rfl).symm.trans hf) |>.symm
  obtain rfl : fn = Tryz.f5 := (Option.some.inj (Tryz.func5.symm.trans hfn)).symm
  refine ⟨by kernel_rfl, fun j t ht => ?_⟩
  rw [Tryz.params5] at ht
  match j, ht with
  | 0, ht =>
    obtain rfl : 9 = t := by simpa using ht
    exact (show Tryz.prog.wantsStandIn 9 = false by kernel_rfl)
  | 1, ht =>
    obtain rfl : 3 = t := by simpa using ht
    exact (show Tryz.prog.wantsStandIn 3 = false by kernel_rfl)
  | 2, ht =>
    obtain rfl : 9 = t := by simpa using ht
    exact (show Tryz.prog.wantsStandIn 9 = false by kernel_rfl)
  | j + 3, ht => simp at ht
theorem turns_card : Rows.TurnsCardSaid :=
  Claim7.holds_tied_plain_at .later [] _ _ _ _ Zy9 (fun _ h => by cases h) (by kernel_rfl) (fun _ h => by cases h) turns_row_tie rfl ⟨rfl, rfl⟩ (by kernel_rfl) rfl Zye (by kernel_rfl)
end Go.Proofs.YtchkhibgbnhjpabGreatDoor
