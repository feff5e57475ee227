import Derived.Test.YtchkhibgbnhjpabGreatDoorT20
import Derived.Test.YtchkhibgbnhjpabGreatDoorT22
namespace Go.Proofs.YtchkhibgbnhjpabGreatDoor
open Go.ChangeShapes Go.WideShapes Go.ChangeAt Go.RowKit Go.ChangeMaps
set_option maxRecDepth 20000 in
theorem ZM1 {H : Type} {enc : TypeId × Value → H} {W : World} {v : Value} {d : DataW H} {p : List MemPlace} (hv : ∃ a len cap, v = .slice a len cap) (h : DataW.Trod enc Tryz.prog W 0 (fun _ => true) true 57 v d p) :
    ∃ l : List Op6, OpsAt W v l ∧ (∀ o ∈ l, o.Ok) ∧ ∀ W', Nx W W' → DataW.Trod enc Tryz.prog W' 0 (fun b => decide (b < W.heap.size)) true 57 v d p := by
  obtain ⟨a0, len0, cap0, rfl⟩ := hv
  obtain ⟨fuel, hf⟩ := h
  have ce : Tryz.prog.cellsOf 45 = 6 := by kernel_rfl
  have ci : Tryz.prog.cellsOf 3 = 1 := by kernel_rfl
  have cs1 : Tryz.prog.cellsOf 9 = 1 := by kernel_rfl
  rcases Deep.open_slice (P := Tryz.prog) Tryz.underlying57 hf with ⟨hc, hx⟩ | ⟨a, len, cap, m, n, D, Pl, hc, -, hl, hm, hmm, hx, hall⟩
  · simp only [Value.cells, List.cons.injEq, Value.slice.injEq, and_true] at hc
    obtain ⟨rfl, rfl, rfl⟩ := hc
    simp only [Prod.mk.injEq] at hx
    obtain ⟨rfl, rfl⟩ := hx
    exact ⟨[], ⟨none, 0, rfl, Nat.le_refl _, Nat.zero_le _, fun i o ho => by cases ho⟩, (fun o ho => by cases ho), fun W' _ => ⟨1, by simp [DataW.trod, Value.cells, Tryz.underlying57]⟩⟩
  · simp only [Value.cells, List.cons.injEq, Value.slice.injEq, and_true] at hc
    obtain ⟨rfl, rfl, rfl⟩ := hc
    simp only [if_true] at hmm
    subst hmm
    simp only [Prod.mk.injEq] at hx
    obtain ⟨rfl, rfl⟩ := hx
    have each : ∀ i, i < m → ∃ o : Op6, W.cells? 0 (a.add (i * 6)) 6 = some o.v.toList ∧ o.Ok ∧ (∀ (W' : World) (sp : Nat → Bool), DataW.trod enc Tryz.prog W' 0 sp true 2 45 o.v.toList = some (D i, Pl i)) := by
      intro i hi
      obtain ⟨cs', h1, h2⟩ := hall i hi
      rw [ce] at h1
      obtain ⟨xs, k, -, hxy, hlc, hxl, hfd⟩ := DataW.trod_struct Tryz.underlying45 h2
      rw [ce] at hlc
      match xs, hxl, cs', hlc with
      | [y0, y1, y2, y3, y4, y5], _, [v0, v1, v2, v3, v4, v5], _ =>
        have g0 := hfd 0 _ rfl
        have g1 := hfd 1 _ rfl
        have g2 := hfd 2 _ rfl
        have g3 := hfd 3 _ rfl
        have g4 := hfd 4 _ rfl
        have g5 := hfd 5 _ rfl
        simp [ci, cs1] at g0 g1 g2 g3 g4 g5
        obtain ⟨n0, e0, f0, w0⟩ := DataW.trod_int Tryz.underlying3 g0
        obtain ⟨n1, e1, f1, w1⟩ := DataW.trod_int Tryz.underlying3 g1
        obtain ⟨n2, e2, f2, w2⟩ := DataW.trod_int Tryz.underlying3 g2
        obtain ⟨n3, e3, f3, w3⟩ := DataW.trod_int Tryz.underlying3 g3
        obtain ⟨s4, e4, f4, w4⟩ := DataW.trod_string Tryz.underlying9 g4
        obtain ⟨s5, e5, f5, w5⟩ := DataW.trod_string Tryz.underlying9 g5
        simp only [List.cons.injEq, and_true] at e0 e1 e2 e3 e4 e5
        subst e0 e1 e2 e3 e4 e5 f0 f1 f2 f3 f4 f5
        have lim : ∀ x : Int, (Lit.int .i64 x).wf = true → -9223372036854775808 ≤ x ∧ x ≤ 9223372036854775807 := fun x hx => by
          have h1 : (decide (IntKind.i64.min ≤ x) && decide (x ≤ IntKind.i64.max)) = true := hx
          rw [Bool.and_eq_true, decide_eq_true_eq, decide_eq_true_eq, show IntKind.i64.min = -9223372036854775808 by decide, show IntKind.i64.max = 9223372036854775807 by decide] at h1
          exact h1
        refine ⟨⟨n0, n1, n2, n3, s4, s5⟩, h1, ⟨(lim _ w1).1, (lim _ w1).2, (lim _ w2).1, (lim _ w2).2, w4, w5⟩, fun W' sp => ?_⟩
        rw [trod_struct_mk (n := 1) (xs := [(.lit (.int .i64 n0), []), (.lit (.int .i64 n1), []), (.lit (.int .i64 n2), []), (.lit (.int .i64 n3), []), (.lit (.string s4.data.toList), []), (.lit (.string s5.data.toList), [])]) Tryz.underlying45 (by rw [ce]; rfl) (by simp [Op6.v, ci, cs1, Tryz.underlying3, Tryz.underlying9, DataW.trod, w0, w1, w2, w3, w4, w5]), hxy]
    haveI : Inhabited Op6 := ⟨⟨0, 0, 0, 0, ⟨#[]⟩, ⟨#[]⟩⟩⟩
    obtain ⟨q, hq⟩ := Deep.choose_lt (α := Op6) each
    have hspot : 0 < m → ∃ b off, a = ⟨b, off, none⟩ := fun hpos => by
      obtain ⟨-, -, hc⟩ := World.cells?_some (hq 0 hpos).1
      have h1 := (hc 0 (by decide)).trans (show (q 0).v.toList[0]? = some (.int .i64 (q 0).k) from rfl)
      obtain ⟨b, off, spot⟩ := a
      have hs : spot = none := by simpa [Addr.add] using World.cell?_spot h1
      subst hs
      exact ⟨b, off, rfl⟩
    have hcell : ∀ i, i < m → ∀ (j : Nat) (x : Value), (q i).v[j]? = some x → ∃ b off, a = ⟨b, off, none⟩ ∧ W.cell? ⟨b, off + i * 6 + j, none⟩ = some x := by
      intro i hi j x hx
      obtain ⟨-, -, hc⟩ := World.cells?_some (hq i hi).1
      have hj : j < 6 := (Array.getElem?_eq_some_iff.1 hx).1
      have h1 := hc j hj
      rw [show (q i).v.toList[j]? = some x by rw [← hx]; simp, Deep.add_add] at h1
      obtain ⟨b, off, rfl⟩ := hspot (by omega)
      refine ⟨b, off, rfl, ?_⟩
      rw [Addr.add_lit] at h1
      rw [Nat.add_assoc]
      exact h1
    have hget : ∀ (i : Nat) (o : Op6), ((List.range len0).map q)[i]? = some o → i < len0 ∧ o = q i := fun i o ho => by
      rw [List.getElem?_map] at ho
      obtain ⟨k, h1, h2⟩ := Option.map_eq_some_iff.1 ho
      obtain ⟨h3, h4⟩ := List.getElem?_eq_some_iff.1 h1
      rw [List.length_range] at h3
      rw [List.getElem_range] at h4
      subst h4
      exact ⟨h3, h2.symm⟩
    refine ⟨(List.range len0).map q, ⟨some a, m, by simp, by simp; exact hl, hm, fun i o ho => ?_⟩, fun o ho => ?_, fun W' hn => ?_⟩
    · obtain ⟨h1, rfl⟩ := hget i o ho
      obtain ⟨b, off, rfl, -⟩ := hcell i (by omega) 0 _ rfl
      refine ⟨b, off, rfl, fun j x hx => ?_⟩
      obtain ⟨b', off', e, hc⟩ := hcell i (by omega) j x hx
      cases e
      exact hc
    · obtain ⟨i, hi, rfl⟩ := List.mem_map.1 ho
      exact (hq i (by have := List.mem_range.1 hi; omega)).2.1
    · have hx : ∀ i, i < m → ∃ cs n, W'.cells? 0 (a.add (i * Tryz.prog.cellsOf 45)) (Tryz.prog.cellsOf 45) = some cs ∧ DataW.trod enc Tryz.prog W' 0 (fun b => decide (b < W.heap.size)) true n 45 cs = some (D i, Pl i) := fun i hi => by
        refine ⟨_, 2, ?_, (hq i hi).2.2 W' _⟩
        obtain ⟨b, off, rfl, -⟩ := hcell i hi 0 _ rfl
        rw [ce, Addr.add_lit]
        refine cells?_of (Nat.zero_le _) rfl fun j hj => ?_
        have hjv : j < (q i).v.size := hj
        obtain ⟨b', off', e, hc⟩ := hcell i hi j _ (Array.getElem?_eq_getElem hjv)
        cases e
        rw [(World.cell?_of_block (hn.block b (World.block_lt_of_cell? W _ hc))).trans hc]
        simp [hjv]
      rcases Nat.eq_zero_or_pos m with rfl | hpos
      · cases hb : decide (a.block < W.heap.size)
        · have := Deep.shut_slice (enc := enc) (w := W') (spare := fun b => decide (b < W.heap.size)) (held := true) (a := a) (len := len0) (cap := 0) Tryz.underlying57 (Nat.zero_le _) hl hm hb D Pl (fun i hi => hx i (by omega))
          obtain rfl : len0 = 0 := by omega
          exact this
        · exact Deep.shut_slice_whole Tryz.underlying57 (Nat.zero_le _) hl hm hb D Pl hx
      · obtain ⟨b, off, rfl, hc⟩ := hcell 0 hpos 0 _ rfl
        exact Deep.shut_slice_whole Tryz.underlying57 (Nat.zero_le _) hl hm (decide_eq_true (World.block_lt_of_cell? W _ hc)) D Pl hx
set_option maxRecDepth 20000 in
theorem lists_contract (H : Type) (enc : TypeId × Value → H) (W : World) (base : Nat) (args : Array Value) (ds gs : List (DataW H)) (before : List MemPlace)
    (hval : ∀ (j : Nat) t v, Tryz.f8.params[j]? = some t → args[j]? = some v → Value.okWide Tryz.prog W .any base t v)
    (hW : DataW.Whole enc Tryz.prog Tryz.f8.params.toList Rows.listsSpec.vars false W args.toList ds gs before) (hL : laidMetH Tryz.prog Rows.listsRow.laid W) :
    Calls Tryz.prog 8 args W fun e W' => ∃ v, e = .returned v ∧ Rows.listsSpec.post enc Tryz.prog Tryz.f8 false true false false W args v W' := by
  have hW' := hW
  obtain ⟨p, q, hA0, hV, rfl, hfz, hnd⟩ := hW
  have hA : DataW.TrodAll enc Tryz.prog W 0 (fun _ => true) true Tryz.f8.params.toList args.toList ds p := hA0
  rw [Tryz.params8] at hA hval
  obtain ⟨v0, vs0, d0, ds0, p0, q0, hargs, rfl, rfl, h0, r0⟩ := trodAll_cons hA
  obtain ⟨rfl, rfl, rfl⟩ := trodAll_nil r0
  obtain rfl : args = #[v0] := by cases args; simp_all
  obtain ⟨rfl, rfl⟩ := trodVars_none hV
  have hv0 : Value.okWide Tryz.prog W .any base 57 v0 := hval 0 57 v0 rfl rfl
  obtain ⟨l, hl, hok, hre⟩ := ZM1 (okWide_slice (P := Tryz.prog) Tryz.underlying57 hv0) h0
  clear hA0
  simp only [List.append_nil] at hW'
  refine (@ZM2 flT v0 l W hl hok (ZNw hL) (fun _ => trivial)).mono fun e W' ⟨he, hnx⟩ => ?_
  subst he
  exact ⟨_, rfl, _, _, _, [], _, [], hW', trodAll_cons_mk (shut_bool Tryz.underlying4 _) trodAll_mk0, trodAll_cons_mk (hre W' hnx) trodAll_mk0, rfl, hnx.frame _, fun h => by cases h⟩
set_option maxRecDepth 100000 in
theorem ZF3 (os : Os) (started : os.Started) (H : Type) (enc : TypeId × Value → H) (F : Stop.Interp) :
    ReturnsInHanded {} Tryz.checked os 8 .any ((OpenSpec.ofChange Rows.listsSpec).preRow enc Tryz.prog Tryz.f8 Rows.listsRow.domain false Rows.listsRow.laid) (((OpenSpec.ofChange Rows.listsSpec).at F).post enc Tryz.prog Tryz.f8 false true false false) := by
  obtain ⟨places, hx⟩ := ZG8 os enc
  refine returnsInHanded_of_row (C := Tryz.checked) (s := OpenSpec.ofChange Rows.listsSpec) ZNM started (by kernel_rfl) Tryz.func8
    (witness_row_at (enc := enc) (C := Tryz.checked) false (ZDK os) #[.slice none 0 0] rfl (by kernel_rfl) (by kernel_rfl) (by kernel_rfl)
      (OpenSpec.preRow_of_cond 8 hx (by kernel_rfl) (fun k hk => by cases hk) (by kernel_rfl) (ZI3 os))) ?_
  intro W base args ds gs before hval hW _ _ _ hL _ _
  exact lists_contract H enc W base args ds gs before hval hW hL
theorem ZI4 : Rows.ListsSaid :=
  OpenClaim.holds_of_cond 8 Tryz.f8 rfl rfl rfl rfl rfl rfl rfl ⟨rfl, rfl, rfl, rfl, rfl⟩ rfl rfl rfl rfl rfl (by kernel_rfl) Tryz.func8 ZF4
    (of_decide_eq_true (by kernel_rfl)) (by unfold Func.isWrapper; first | (rw [if_pos (by decide +kernel)]; kernel_rfl) | (rw [if_neg (by decide +kernel)]; exact ⟨rfl, rfl⟩))
    (fun os started H enc _ F => by rw [OpenClaim.pre_eq_preRow]; exact ZF3 os started H enc F)
theorem ZG9 (f : FuncId) (fn : Func) (hf : Tryz.pinned.checked.prog.funcNamed "urls/urlslaw.Lists" = some f) (hfn : Tryz.pinned.checked.prog.funcs[f]? = some fn) :
    false = Tryz.pinned.checked.prog.looks [] ∧ ∀ (j : Nat) t, fn.params[j]? = some t → Tryz.pinned.checked.prog.wantsStandIn t = false := by
  obtain rfl : f = 8 := Option.some.inj ((show Tryz.prog.funcNamed "urls/urlslaw.Lists" = some 8 by kernel_rfl).symm.trans hf) |>.symm
  obtain rfl : fn = Tryz.f8 := (Option.some.inj (Tryz.func8.symm.trans hfn)).symm
  refine ⟨by kernel_rfl, fun j t ht => ?_⟩
  rw [Tryz.params8] at ht
  have hm : t = 57 := by simpa using Array.mem_of_getElem? ht
  subst hm
  exact (show Tryz.prog.wantsStandIn 57 = false by kernel_rfl)
theorem lists_card : Rows.ListsCardSaid :=
  Claim7.holds_tied_plain_at .later [] _ _ _ _ ZI4 (fun _ h => by cases h) (by kernel_rfl) (fun _ h => by cases h) lists_row_tie rfl ⟨rfl, rfl⟩ (by kernel_rfl) rfl ZG9 (by kernel_rfl)
end Go.Proofs.YtchkhibgbnhjpabGreatDoor
