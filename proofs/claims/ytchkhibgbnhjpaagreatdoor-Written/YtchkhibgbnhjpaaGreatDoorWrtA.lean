import Derived.Test.YtchkhibgbnhjpaaGreatDoorWrt1
import Derived.Test.YtchkhibgbnhjpaaGreatDoorWrt2
import Derived.Test.YtchkhibgbnhjpaaGreatDoorGet1
import Derived.Test.YtchkhibgbnhjpaaGreatDoorAtA
import Derived.Test.YtchkhibgbnhjpaaGreatDoorInvA
import Derived.Test.YtchkhibgbnhjpaaGreatDoorLaid
import Derived.ChangeMaps5
namespace Go.Proofs.YtchkhibgbnhjpaaGreatDoor
open Go.RowKit

/-- What Get tells of a well-formed URL is what written asks. -/
theorem written_any (u : U) (h : Wf u) (l0 : u.sch.length ≤ 1000000) (l1 : u.nam.length ≤ 1000000) (l2 : u.pw.length ≤ 1000000) (l5 : u.q.length ≤ 1000000) (l6 : u.fr.length ≤ 1000000) (e : Ending) (he : AllIs e u) :
    ∃ v, e = .returned v ∧ ∀ w, Calls Tryz.prog 22 #[v] w fun e w' => e = .returned (.bool true) ∧ Nx w w' := by
  obtain ⟨t0, t1, t2, t3, t4, t5, t6, t7, t8, t9, t10, rfl, h0, h1, h2, h3, h4, h5, h6, h7, h8, h9, h10, s5, s8⟩ := he
  refine ⟨_, rfl, fun w => ?_⟩
  have hcand : ∀ k, candL (tl t2) (userL (tl t3) (tl t4)) (tl t5) (tl t8) (tl t9) (tl t10) k = candU u k := fun k => by rw [h2, h3, h4, h5, h8, h9, h10]; rfl
  have z2 : t2.size ≤ 200000000000 := by rw [← tl_length, h2]; unfold protocolU; simp; omega
  have z3 : t3.size ≤ 200000000000 := by rw [← tl_length, h3]; omega
  have z4 : t4.size ≤ 200000000000 := by rw [← tl_length, h4]; omega
  have z9 : t9.size ≤ 200000000000 := by
    rw [← tl_length, h9]; unfold searchU markedL
    split
    · simp
    · simp; omega
  have z10 : t10.size ≤ 200000000000 := by
    rw [← tl_length, h10]; unfold hashU markedL
    split
    · simp
    · simp; omega
  have hc : ∃ k, k < 12 ∧ candL (tl t2) (userL (tl t3) (tl t4)) (tl t5) (tl t8) (tl t9) (tl t10) k = tl t0 := ⟨ownK' u, ownK'_lt u, by rw [hcand, h0]; exact href_cand h⟩
  have hok : ∀ k, candL (tl t2) (userL (tl t3) (tl t4)) (tl t5) (tl t8) (tl t9) (tl t10) k = tl t0 → (∀ j, j < k → candL (tl t2) (userL (tl t3) (tl t4)) (tl t5) (tl t8) (tl t9) (tl t10) j ≠ tl t0) → k % 3 = 0 ∨ (userL (tl t3) (tl t4) = [] ∧ tl t5 = []) := by
    intro k hk hj
    rw [hcand, h0] at hk
    have := cand_ok h hk (fun j hlt e => hj j hlt (by rw [hcand, h0]; exact e))
    rw [h3, h4, h5]
    exact this
  by_cases hu : t3.size = 0
  · exact written_e t0 t1 t2 t3 t4 t5 t6 t7 t8 t9 t10 w z2 z3 z4 s5 s8 z9 z10 hc hok hu
  · exact written_n t0 t1 t2 t3 t4 t5 t6 t7 t8 t9 t10 w z2 z3 z4 s5 s8 z9 z10 hc hok hu
end Go.Proofs.YtchkhibgbnhjpaaGreatDoor

namespace Go.Proofs.YtchkhibgbnhjpaaGreatDoor
open Go.RowKit

set_option maxHeartbeats 8000000 in
/-- urlskeep.Written answers true, where a blob's path is short enough to be read again. -/
theorem written_walk (s base : ByteArray) (based : Bool) (w : World) (hs : s.size ≤ maxLen) (hb : base.size ≤ maxLen) (ht : Tb w)
    (hpl : (parseU (tl s) (tl base) based).1.sch = [98, 108, 111, 98] → (pathU (parseU (tl s) (tl base) based).1).length ≤ 9000) :
    Calls Tryz.prog 6 #[.string s, .string base, .bool based] w fun e w' => e = .returned (.bool true) ∧ Nx w w' := by
  have HTB := hide ht
  have HAT := hide (at_any s base based w hs hb ht)
  have HWF := hide (wf_parse (tl s) (tl base) based)
  have HPL := hide hpl
  clear ht hpl hs hb
  generalize parseU (tl s) (tl base) based = x at *
  go_enter Tryz.func6, Tryz.ntmps6
  go_wp2_with fail
  refine HAT.out.mono ?_
  rintro e w1 ⟨hp, hn⟩
  have HN := hide hn
  clear hn HAT
  rcases hp with rfl | ⟨-, ib, pb, r, bs, rfl, hi, hu, hr⟩
  · go_wp2
    go_ret
    exact ⟨rfl, HN.out⟩
  · have hc := hi.cell
    have HU := hide hu
    have HR := hide hr
    clear hi hu hr
    go_wp2_with fail
    refine (get_any pb r x.1 bs _ HU.out HR.out (HTB.out.on HN.out) HPL.out).mono ?_
    rintro e w2 ⟨ha, hn2⟩
    have hz := HR.out.five
    obtain ⟨v, rfl, hv⟩ := written_any x.1 HWF.out hz.1 hz.2.1 hz.2.2.1 hz.2.2.2.1 hz.2.2.2.2 e ha
    have HV := hide hv
    have HN2 := hide (HN.out.then hn2)
    clear ha hn2 hz hv
    go_wp2_with fail
    refine (HV.out _).mono ?_
    rintro e w3 ⟨rfl, hn3⟩
    have HN3 := hide (HN2.out.then hn3)
    clear hn3
    go_wp2
    go_ret
    exact ⟨rfl, HN3.out⟩
end Go.Proofs.YtchkhibgbnhjpaaGreatDoor

namespace Go.Proofs.YtchkhibgbnhjpaaGreatDoor
open Go.RowKit

/-- urlskeep.Written answers true. -/
theorem written_full (s base : ByteArray) (based : Bool) (w : World) (hs : s.size ≤ maxLen) (hb : base.size ≤ maxLen) (ht : Tb w) :
    Calls Tryz.prog 6 #[.string s, .string base, .bool based] w fun e w' => e = .returned (.bool true) ∧ Nx w w' :=
  written_walk s base based w hs hb ht (fun _ => Nat.le_trans (pm_parse _ _ _) (by decide))
end Go.Proofs.YtchkhibgbnhjpaaGreatDoor

namespace Go.Proofs.YtchkhibgbnhjpaaGreatDoor
open Go.ChangeShapes Go.WideShapes Go.ChangeAt Go.RowKit Go.ChangeMaps

set_option maxRecDepth 20000 in
theorem written_contract (H : Type) (enc : TypeId × Value → H) (W : World) (base : Nat) (args : Array Value) (ds gs : List (DataW H)) (before : List MemPlace)
    (hval : ∀ (j : Nat) t v, Tryz.f6.params[j]? = some t → args[j]? = some v → Value.okWide Tryz.prog W .any base t v)
    (hW : DataW.Whole enc Tryz.prog Tryz.f6.params.toList Rows.writtenSpec.vars false W args.toList ds gs before) (hL : laidMetH Tryz.prog Rows.writtenRow.laid W) :
    Calls Tryz.prog 6 args W fun e W' => ∃ v, e = .returned v ∧ Rows.writtenSpec.post enc Tryz.prog Tryz.f6 false true false false W args v W' := by
  have hW' := hW
  obtain ⟨p, q, hA0, hV, rfl, hfz, hnd⟩ := hW
  have hA : DataW.TrodAll enc Tryz.prog W 0 (fun _ => true) true Tryz.f6.params.toList args.toList ds p := hA0
  rw [Tryz.params6] at hA hval
  obtain ⟨v0, vs0, d0, ds0, p0, q0, hargs, rfl, rfl, h0, r0⟩ := trodAll_cons hA
  obtain ⟨v1, vs1, d1, ds1, p1, q1, rfl, rfl, rfl, h1, r1⟩ := trodAll_cons r0
  obtain ⟨v2, vs2, d2, ds2, p2, q2, rfl, rfl, rfl, h2, r2⟩ := trodAll_cons r1
  obtain ⟨rfl, rfl, rfl⟩ := trodAll_nil r2
  obtain rfl : args = #[v0, v1, v2] := by cases args; simp_all
  obtain ⟨rfl, rfl⟩ := trodVars_none hV
  have hv0 : Value.okWide Tryz.prog W .any base 9 v0 := hval 0 9 v0 rfl rfl
  have hv1 : Value.okWide Tryz.prog W .any base 9 v1 := hval 1 9 v1 rfl rfl
  have hv2 : Value.okWide Tryz.prog W .any base 4 v2 := hval 2 4 v2 rfl rfl
  obtain ⟨s, rfl, rfl, rfl, hs⟩ := open_string (P := Tryz.prog) Tryz.underlying9 hv0 h0
  obtain ⟨b, rfl, rfl, rfl, hb⟩ := open_string (P := Tryz.prog) Tryz.underlying9 hv1 h1
  obtain ⟨c, rfl, rfl, rfl⟩ := open_bool (P := Tryz.prog) Tryz.underlying4 hv2 h2
  clear hA0
  simp only [List.append_nil] at hW'
  refine (written_full s b c W hs hb (laidTb hL)).mono fun e W' ⟨he, hnx⟩ => ?_
  subst he
  exact ⟨_, rfl, _, _, _, [], [], [], hW', trodAll_cons_mk (shut_bool Tryz.underlying4 _) trodAll_mk0, trodAll_cons_mk (shut_string Tryz.underlying9 hs) (trodAll_cons_mk (shut_string Tryz.underlying9 hb) (trodAll_cons_mk (shut_bool Tryz.underlying4 _) trodAll_mk0)), rfl, hnx.frame _, fun h => by cases h⟩
theorem written_laid (os : Os) : laidMet Tryz.prog Rows.writtenRow.laid ((laidWorld os).forCall (fun _ _ => 0) ⟨#[], #[.string ⟨#[]⟩, .string ⟨#[]⟩, .bool false], []⟩).memory :=
  laidMet_of_run' 8 (by kernel_rfl) (by kernel_rfl)
theorem written_reads (os : Os) {H : Type} (enc : TypeId × Value → H) : ∃ places, DataW.whole enc Tryz.prog ((laidWorld os).forCall (fun _ _ => 0) ⟨#[], #[.string ⟨#[]⟩, .string ⟨#[]⟩, .bool false], []⟩).memory Tryz.f6.params.toList Rows.writtenSpec.vars false #[Value.string ⟨#[]⟩, Value.string ⟨#[]⟩, Value.bool false].toList 8 = some ([.lit (.string []), .lit (.string []), .lit (.bool false)], [], places) :=
  ⟨[], by kernel_rfl⟩
set_option maxRecDepth 100000 in
theorem written_lifted (os : Os) (started : os.Started) (H : Type) (enc : TypeId × Value → H) (F : Stop.Interp) :
    ReturnsInHanded {} Tryz.checked os 6 .any ((OpenSpec.ofChange Rows.writtenSpec).preRow enc Tryz.prog Tryz.f6 Rows.writtenRow.domain false Rows.writtenRow.laid) (((OpenSpec.ofChange Rows.writtenSpec).at F).post enc Tryz.prog Tryz.f6 false true false false) := by
  obtain ⟨places, hx⟩ := written_reads os enc
  refine returnsInHanded_of_row (C := Tryz.checked) (s := OpenSpec.ofChange Rows.writtenSpec) ownK started (by kernel_rfl) Tryz.func6
    (witness_row_at (enc := enc) (C := Tryz.checked) false (laidWorld os) #[.string ⟨#[]⟩, .string ⟨#[]⟩, .bool false] rfl (by kernel_rfl) (by kernel_rfl) (by kernel_rfl)
      (OpenSpec.preRow_of_cond 8 hx (by kernel_rfl) (fun k hk => by cases hk) (by kernel_rfl) (written_laid os))) ?_
  intro W base args ds gs before hval hW _ _ _ hL _ _
  exact written_contract H enc W base args ds gs before hval hW hL
theorem written_said : Rows.WrittenSaid :=
  OpenClaim.holds_of_cond 6 Tryz.f6 rfl rfl rfl rfl rfl rfl rfl ⟨rfl, rfl, rfl, rfl, rfl⟩ rfl rfl rfl rfl rfl (by kernel_rfl) Tryz.func6 (by kernel_rfl)
    (of_decide_eq_true (by kernel_rfl)) (by unfold Func.isWrapper; first | (rw [if_pos (by decide +kernel)]; kernel_rfl) | (rw [if_neg (by decide +kernel)]; exact ⟨rfl, rfl⟩))
    (fun os started H enc _ F => by rw [OpenClaim.pre_eq_preRow]; exact written_lifted os started H enc F)
theorem written_plain (f : FuncId) (fn : Func) (hf : Tryz.pinned.checked.prog.funcNamed "urls/urlskeep.Written" = some f) (hfn : Tryz.pinned.checked.prog.funcs[f]? = some fn) :
    false = Tryz.pinned.checked.prog.looks [] ∧ ∀ (j : Nat) t, fn.params[j]? = some t → Tryz.pinned.checked.prog.wantsStandIn t = false := by
  obtain rfl : f = 6 := Option.some.inj ((show Tryz.prog.funcNamed "urls/urlskeep.Written" = some 6 by kernel_rfl).symm.trans hf) |>.symm
  obtain rfl : fn = Tryz.f6 := (Option.some.inj (Tryz.func6.symm.trans hfn)).symm
  refine ⟨by kernel_rfl, fun j t ht => ?_⟩
  rw [Tryz.params6] at ht
  have hm : t = 9 ∨ t = 4 := by simpa using Array.mem_of_getElem? ht
  rcases hm with rfl | rfl
  · exact (show Tryz.prog.wantsStandIn 9 = false by kernel_rfl)
  · exact (show Tryz.prog.wantsStandIn 4 = false by kernel_rfl)
theorem written_card : Rows.WrittenCardSaid :=
  Claim7.holds_tied_plain_at .later [] _ _ _ _ written_said (fun _ h => by cases h) (by kernel_rfl) (fun _ h => by cases h) written_row_tie rfl ⟨rfl, rfl⟩ (by kernel_rfl) rfl written_plain (by kernel_rfl)
end Go.Proofs.YtchkhibgbnhjpaaGreatDoor
