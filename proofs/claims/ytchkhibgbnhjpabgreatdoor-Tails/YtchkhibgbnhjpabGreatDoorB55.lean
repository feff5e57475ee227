import Derived.Test.YtchkhibgbnhjpabGreatDoorB04
import Derived.Test.YtchkhibgbnhjpabGreatDoorB54
import Derived.ChangeMaps5
namespace Go.Proofs.YtchkhibgbnhjpabGreatDoor
open Go.ChangeShapes Go.WideShapes Go.ChangeAt Go.RowKit Go.ChangeMaps
set_option maxRecDepth 20000 in
theorem tails_contract (H : Type) (enc : TypeId × Value → H) (W : World) (base : Nat) (args : Array Value) (ds gs : List (DataW H)) (before : List MemPlace)
    (hval : ∀ (j : Nat) t v, Tryz.f4.params[j]? = some t → args[j]? = some v → Value.okWide Tryz.prog W .any base t v)
    (hW : DataW.Whole enc Tryz.prog Tryz.f4.params.toList Rows.tailsSpec.vars false W args.toList ds gs before) (hL : laidMetH Tryz.prog Rows.tailsRow.laid W) :
    Calls Tryz.prog 4 args W fun e W' => ∃ v, e = .returned v ∧ Rows.tailsSpec.post enc Tryz.prog Tryz.f4 false true false false W args v W' := by
  have hW' := hW
  obtain ⟨p, q, hA0, hV, rfl, hfz, hnd⟩ := hW
  have hA : DataW.TrodAll enc Tryz.prog W 0 (fun _ => true) true Tryz.f4.params.toList args.toList ds p := hA0
  rw [Tryz.params4] at hA hval
  obtain ⟨v0, vs0, d0, ds0, p0, q0, hargs, rfl, rfl, h0, r0⟩ := trodAll_cons hA
  obtain ⟨v1, vs1, d1, ds1, p1, q1, rfl, rfl, rfl, h1, r1⟩ := trodAll_cons r0
  obtain ⟨rfl, rfl, rfl⟩ := trodAll_nil r1
  obtain rfl : args = #[v0, v1] := by cases args; simp_all
  obtain ⟨rfl, rfl⟩ := trodVars_none hV
  have hv0 : Value.okWide Tryz.prog W .any base 9 v0 := hval 0 9 v0 rfl rfl
  have hv1 : Value.okWide Tryz.prog W .any base 9 v1 := hval 1 9 v1 rfl rfl
  obtain ⟨s, rfl, rfl, rfl, hs⟩ := open_string (P := Tryz.prog) Tryz.underlying9 hv0 h0
  obtain ⟨b, rfl, rfl, rfl, hb⟩ := open_string (P := Tryz.prog) Tryz.underlying9 hv1 h1
  clear hA0
  simp only [List.append_nil] at hW'
  refine (ZqR s b W hs hb (Zvu hL)).mono fun e W' ⟨he, hnx⟩ => ?_
  subst he
  exact ⟨_, rfl, _, _, _, [], [], [], hW', trodAll_cons_mk (shut_bool Tryz.underlying4 _) trodAll_mk0, trodAll_cons_mk (shut_string Tryz.underlying9 hs) (trodAll_cons_mk (shut_string Tryz.underlying9 hb) trodAll_mk0), rfl, hnx.frame _, fun h => by cases h⟩
theorem ZqS (os : Os) : laidMet Tryz.prog Rows.tailsRow.laid ((ZdU os).forCall (fun _ _ => 0) ⟨#[], #[.string ⟨#[]⟩, .string ⟨#[]⟩], []⟩).memory :=
  laidMet_of_run' 8 (by kernel_rfl) (by kernel_rfl)
theorem Zn1 (os : Os) {H : Type} (enc : TypeId × Value → H) : ∃ places, DataW.whole enc Tryz.prog ((ZdU os).forCall (fun _ _ => 0) ⟨#[], #[.string ⟨#[]⟩, .string ⟨#[]⟩], []⟩).memory Tryz.f4.params.toList Rows.tailsSpec.vars false #[Value.string ⟨#[]⟩, Value.string ⟨#[]⟩].toList 8 = some ([.lit (.string []), .lit (.string [])], [], places) :=
  ⟨[], by kernel_rfl⟩
set_option maxRecDepth 100000 in
theorem Zmw (os : Os) (started : os.Started) (H : Type) (enc : TypeId × Value → H) (F : Stop.Interp) :
    ReturnsInHanded {} Tryz.checked os 4 .any ((OpenSpec.ofChange Rows.tailsSpec).preRow enc Tryz.prog Tryz.f4 Rows.tailsRow.domain false Rows.tailsRow.laid) (((OpenSpec.ofChange Rows.tailsSpec).at F).post enc Tryz.prog Tryz.f4 false true false false) := by
  obtain ⟨places, hx⟩ := Zn1 os enc
  refine returnsInHanded_of_row (C := Tryz.checked) (s := OpenSpec.ofChange Rows.tailsSpec) ZxX started (by kernel_rfl) Tryz.func4
    (witness_row_at (enc := enc) (C := Tryz.checked) false (ZdU os) #[.string ⟨#[]⟩, .string ⟨#[]⟩] rfl (by kernel_rfl) (by kernel_rfl) (by kernel_rfl)
      (OpenSpec.preRow_of_cond 8 hx (by kernel_rfl) (fun k hk => by cases hk) (by kernel_rfl) (ZqS os))) ?_
  intro W base args ds gs before hval hW _ _ _ hL _ _
  exact tails_contract H enc W base args ds gs before hval hW hL
theorem tails_c1 : (Rows.tailsRow.inPlace == Tryz.prog.inPlace 4) = true := by kernel_rfl
theorem tails_c2 : (Rows.tailsRow.unfollowed == Tryz.prog.unfollowed 4) = true := by kernel_rfl
theorem tails_c3 : (Rows.tailsRow.recurses == Tryz.prog.recurses 4) = true := by kernel_rfl
theorem tails_c4 : (Rows.tailsRow.named == Tryz.prog.varsNamed 4) = true := by kernel_rfl
theorem tails_c5 : laidOutB Tryz.prog = true := by kernel_rfl
theorem tails_c6 : mapsRowed Tryz.prog = true := by kernel_rfl
theorem Zmx : joinedFacts Tryz.prog 4 Tryz.f4 (OpenSpec.ofChange Rows.tailsSpec).bare Rows.tailsRow = true := by
  simp only [joinedFacts, Bool.and_eq_true]
  exact ⟨⟨⟨⟨⟨⟨⟨⟨⟨⟨⟨⟨⟨⟨⟨⟨⟨⟨⟨⟨⟨⟨⟨⟨⟨⟨⟨⟨⟨⟨⟨by kernel_rfl, tails_c5⟩, tails_c6⟩, by kernel_rfl⟩, by kernel_rfl⟩, by kernel_rfl⟩, by kernel_rfl⟩, by kernel_rfl⟩, by kernel_rfl⟩, tails_c1⟩, tails_c2⟩, tails_c3⟩, tails_c4⟩, by kernel_rfl⟩, by kernel_rfl⟩, by kernel_rfl⟩, by kernel_rfl⟩, by kernel_rfl⟩, by kernel_rfl⟩, by kernel_rfl⟩, by kernel_rfl⟩, by kernel_rfl⟩, by kernel_rfl⟩, by kernel_rfl⟩, by kernel_rfl⟩, by kernel_rfl⟩, by kernel_rfl⟩, by kernel_rfl⟩, by kernel_rfl⟩, by kernel_rfl⟩, by kernel_rfl⟩, by kernel_rfl⟩
theorem ZqT : Rows.TailsSaid :=
  OpenClaim.holds_of_cond 4 Tryz.f4 rfl rfl rfl rfl rfl rfl rfl ⟨rfl, rfl, rfl, rfl, rfl⟩ rfl rfl rfl rfl rfl (by kernel_rfl) Tryz.func4 Zmx
    (of_decide_eq_true (by kernel_rfl)) (by unfold Func.isWrapper; first | (rw [if_pos (by decide +kernel)]; kernel_rfl) | (rw [if_neg (by decide +kernel)]; exact ⟨rfl, rfl⟩))
    (fun os started H enc _ F => by rw [OpenClaim.pre_eq_preRow]; exact Zmw os started H enc F)
theorem Zn2 (f : FuncId) (fn : Func) (hf : Tryz.pinned.checked.prog.funcNamed "urls/urlslaw.Tails" = some f) (hfn : Tryz.pinned.checked.prog.funcs[f]? = some fn) :
    false = Tryz.pinned.checked.prog.looks [] ∧ ∀ (j : Nat) t, fn.params[j]? = some t → Tryz.pinned.checked.prog.wantsStandIn t = false := by
  obtain rfl : f = 4 := Option.some.inj ((show Tryz.prog.funcNamed "urls/urlslaw.Tails" = some 4 by kernel_rfl).symm.trans hf) |>.symm
  obtain rfl : fn = Tryz.f4 := (Option.some.inj (Tryz.func4.symm.trans hfn)).symm
  refine ⟨by kernel_rfl, fun j t ht => ?_⟩
  rw [Tryz.params4] at ht
  have hm : t = 9 := by simpa using Array.mem_of_getElem? ht
  subst hm
  exact (show Tryz.prog.wantsStandIn 9 = false by kernel_rfl)
theorem tails_card : Rows.TailsCardSaid :=
  Claim7.holds_tied_plain_at .later [] _ _ _ _ ZqT (fun _ h => by cases h) (by kernel_rfl) (fun _ h => by cases h) tails_row_tie rfl ⟨rfl, rfl⟩ (by kernel_rfl) rfl Zn2 (by kernel_rfl)
end Go.Proofs.YtchkhibgbnhjpabGreatDoor
