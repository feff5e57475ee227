import Derived.Test.YtchkhibgbnhjpaaGreatDoorEmpA
import Derived.Test.YtchkhibgbnhjpaaGreatDoorUrlA
import Derived.Test.YtchkhibgbnhjpaaGreatDoorInvA
import Derived.Test.YtchkhibgbnhjpaaGreatDoorLaid
import Derived.ChangeMaps5
namespace Go.Proofs.YtchkhibgbnhjpaaGreatDoor
open Go.RowKit

set_option maxHeartbeats 8000000 in
/-- urlskeep.Empty answers true. -/
theorem empty_full (s t : ByteArray) (w : World) (hs : s.size ≤ maxLen) (hb : t.size ≤ maxLen) (ht : Tb w) :
    Calls Tryz.prog 10 #[.string s, .string t] w fun e w' => e = .returned (.bool true) ∧ Nx w w' := by
  have HTB := hide ht
  have HAS := hide (at_new s ⟨#[]⟩ false w hs (small_len (by decide)) ht)
  have HSU := hide (st_parse (tl s) (tl ⟨#[]⟩) false)
  have HLU := hide (pm_parse (tl s) (tl ⟨#[]⟩) false)
  have HLT := hide hb
  clear ht hs hb
  generalize parseU (tl s) (tl ⟨#[]⟩) false = x at *
  go_enter Tryz.func10, Tryz.ntmps10
  go_wp2_with fail
  refine HAS.out.mono ?_
  rintro e w1 ⟨hp, hn⟩
  have HN := hide hn
  clear hn HAS
  rcases hp with rfl | ⟨hx0, ib, pb, r, bs, rfl, hi, hu, hr, hnew⟩
  · go_wp2
    go_ret
    exact ⟨rfl, HN.out⟩
  · have HEM := hide (empty_any ib pb r x.1 bs t w w1 HN.out hnew hi hu hr HTB.out (HSU.out hx0) (Nat.le_trans HLU.out (by decide)) HLT.out)
    clear hi hu hr hx0 hnew HSU
    go_wp2_with fail
    refine HEM.out.mono ?_
    rintro e w2 ⟨rfl, hn2⟩
    have HN2 := hide hn2
    clear hn2
    go_wp2
    go_ret
    exact ⟨rfl, HN2.out⟩
end Go.Proofs.YtchkhibgbnhjpaaGreatDoor

namespace Go.Proofs.YtchkhibgbnhjpaaGreatDoor
open Go.ChangeShapes Go.WideShapes Go.ChangeAt Go.RowKit Go.ChangeMaps

set_option maxRecDepth 20000 in
theorem empty_contract (H : Type) (enc : TypeId × Value → H) (W : World) (base : Nat) (args : Array Value) (ds gs : List (DataW H)) (before : List MemPlace)
    (hval : ∀ (j : Nat) t v, Tryz.f10.params[j]? = some t → args[j]? = some v → Value.okWide Tryz.prog W .any base t v)
    (hW : DataW.Whole enc Tryz.prog Tryz.f10.params.toList Rows.emptySpec.vars false W args.toList ds gs before) (hL : laidMetH Tryz.prog Rows.emptyRow.laid W) :
    Calls Tryz.prog 10 args W fun e W' => ∃ v, e = .returned v ∧ Rows.emptySpec.post enc Tryz.prog Tryz.f10 false true false false W args v W' := by
  have hW' := hW
  obtain ⟨p, q, hA0, hV, rfl, hfz, hnd⟩ := hW
  have hA : DataW.TrodAll enc Tryz.prog W 0 (fun _ => true) true Tryz.f10.params.toList args.toList ds p := hA0
  rw [Tryz.params10] at hA hval
  obtain ⟨v0, vs0, d0, ds0, p0, q0, hargs, rfl, rfl, h0, r0⟩ := trodAll_cons hA
  obtain ⟨v1, vs1, d1, ds1, p1, q1, rfl, rfl, rfl, h1, r1⟩ := trodAll_cons r0
  obtain ⟨rfl, rfl, rfl⟩ := trodAll_nil r1
  obtain rfl : args = #[v0, v1] := by cases args; simp_all
  obtain ⟨rfl, rfl⟩ := trodVars_none hV
  have hv0 : Value.okWide Tryz.prog W .any base 9 v0 := hval 0 9 v0 rfl rfl
  have hv1 : Value.okWide Tryz.prog W .any base 9 v1 := hval 1 9 v1 rfl rfl
  obtain ⟨s, rfl, rfl, rfl, hs⟩ := open_string (P := Tryz.prog) Tryz.underlying9 hv0 h0
  obtain ⟨b, rfl, rfl, rfl, hb⟩ := open_string (P := Tryz.prog) Tryz.underlying9 hv1 h1
  clear hA0
  simp only [List.append_nil] at hW'
  refine (empty_full s b W hs hb (laidTb hL)).mono fun e W' ⟨he, hnx⟩ => ?_
  subst he
  exact ⟨_, rfl, _, _, _, [], [], [], hW', trodAll_cons_mk (shut_bool Tryz.underlying4 _) trodAll_mk0, trodAll_cons_mk (shut_string Tryz.underlying9 hs) (trodAll_cons_mk (shut_string Tryz.underlying9 hb) trodAll_mk0), rfl, hnx.frame _, fun h => by cases h⟩
theorem empty_laid (os : Os) : laidMet Tryz.prog Rows.emptyRow.laid ((laidWorld os).forCall (fun _ _ => 0) ⟨#[], #[.string ⟨#[]⟩, .string ⟨#[]⟩], []⟩).memory :=
  laidMet_of_run' 8 (by kernel_rfl) (by kernel_rfl)
theorem empty_reads (os : Os) {H : Type} (enc : TypeId × Value → H) : ∃ places, DataW.whole enc Tryz.prog ((laidWorld os).forCall (fun _ _ => 0) ⟨#[], #[.string ⟨#[]⟩, .string ⟨#[]⟩], []⟩).memory Tryz.f10.params.toList Rows.emptySpec.vars false #[Value.string ⟨#[]⟩, Value.string ⟨#[]⟩].toList 8 = some ([.lit (.string []), .lit (.string [])], [], places) :=
  ⟨[], by kernel_rfl⟩
set_option maxRecDepth 100000 in
theorem empty_lifted (os : Os) (started : os.Started) (H : Type) (enc : TypeId × Value → H) (F : Stop.Interp) :
    ReturnsInHanded {} Tryz.checked os 10 .any ((OpenSpec.ofChange Rows.emptySpec).preRow enc Tryz.prog Tryz.f10 Rows.emptyRow.domain false Rows.emptyRow.laid) (((OpenSpec.ofChange Rows.emptySpec).at F).post enc Tryz.prog Tryz.f10 false true false false) := by
  obtain ⟨places, hx⟩ := empty_reads os enc
  refine returnsInHanded_of_row (C := Tryz.checked) (s := OpenSpec.ofChange Rows.emptySpec) ownK started (by kernel_rfl) Tryz.func10
    (witness_row_at (enc := enc) (C := Tryz.checked) false (laidWorld os) #[.string ⟨#[]⟩, .string ⟨#[]⟩] rfl (by kernel_rfl) (by kernel_rfl) (by kernel_rfl)
      (OpenSpec.preRow_of_cond 8 hx (by kernel_rfl) (fun k hk => by cases hk) (by kernel_rfl) (empty_laid os))) ?_
  intro W base args ds gs before hval hW _ _ _ hL _ _
  exact empty_contract H enc W base args ds gs before hval hW hL
theorem empty_said : Rows.EmptySaid :=
  OpenClaim.holds_of_cond 10 Tryz.f10 rfl rfl rfl rfl rfl rfl rfl ⟨rfl, rfl, rfl, rfl, rfl⟩ rfl rfl rfl rfl rfl (by kernel_rfl) Tryz.func10 (by kernel_rfl)
    (of_decide_eq_true (by kernel_rfl)) (by unfold Func.isWrapper; first | (rw [if_pos (by decide +kernel)]; kernel_rfl) | (rw [if_neg (by decide +kernel)]; exact ⟨rfl, rfl⟩))
    (fun os started H enc _ F => by rw [OpenClaim.pre_eq_preRow]; exact empty_lifted os started H enc F)
theorem empty_plain (f : FuncId) (fn : Func) (hf : Tryz.pinned.checked.prog.funcNamed "urls/urlskeep.Empty" = some f) (hfn : Tryz.pinned.checked.prog.funcs[f]? = some fn) :
    false = Tryz.pinned.checked.prog.looks [] ∧ ∀ (j : Nat) t, fn.params[j]? = some t → Tryz.pinned.checked.prog.wantsStandIn t = false := by
  obtain rfl : f = 10 := Option.some.inj ((show Tryz.prog.funcNamed "urls/urlskeep.Empty" = some 10 by kernel_rfl).symm.trans hf) |>.symm
  obtain rfl : fn = Tryz.f10 := (Option.some.inj (Tryz.func10.symm.trans hfn)).symm
  refine ⟨by kernel_rfl, fun j t ht => ?_⟩
  rw [Tryz.params10] at ht
  have hm : t = 9 := by simpa using Array.mem_of_getElem? ht
  subst hm
  exact (show Tryz.prog.wantsStandIn 9 = false by kernel_rfl)
theorem empty_card : Rows.EmptyCardSaid :=
  Claim7.holds_tied_plain_at .later [] _ _ _ _ empty_said (fun _ h => by cases h) (by kernel_rfl) (fun _ h => by cases h) empty_row_tie rfl ⟨rfl, rfl⟩ (by kernel_rfl) rfl empty_plain (by kernel_rfl)
end Go.Proofs.YtchkhibgbnhjpaaGreatDoor
