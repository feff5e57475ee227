import Derived.Test.YtchkhibgbnhjpaaGreatDoorRrB
import Derived.Test.YtchkhibgbnhjpaaGreatDoorOrgA
import Derived.Test.YtchkhibgbnhjpaaGreatDoorSnd7
import Derived.Test.YtchkhibgbnhjpaaGreatDoorGet1
import Derived.Deep.Cut
import Derived.Test.YtchkhibgbnhjpaaGreatDoorSnd8
import Derived.Test.YtchkhibgbnhjpaaGreatDoorAtA
import Derived.Test.YtchkhibgbnhjpaaGreatDoorInvA
import Derived.Test.YtchkhibgbnhjpaaGreatDoorLaid
import Derived.ChangeMaps5
namespace Go.Proofs.YtchkhibgbnhjpaaGreatDoor
open Go.RowKit

/-- The URL that an origin's text is. -/
def ovU (v : U) : U := { zeroU with sch := v.sch, hh := true, host := v.host, hp := v.hp, port := v.port, segs := [[]] }
theorem readL_nil (sch : List UInt8) : readL [] sch = [[]] := by
  have e : joinL (sch == fileB) [] [] = [[]] := by
    unfold joinL
    rw [if_neg (fun x => by cases x.2.2)]
    show [en4 []] = _
    rw [en4_nil]
  unfold readL followL
  rw [splitP, segsGo]
  unfold takeL
  rw [e]
  exact if_pos rfl
theorem placed_special {s : List UInt8} (h : isSpecial s = true) (hf : s ≠ fileB) : placedB s = true := by
  unfold isSpecial at h
  have h2 : (s == [102, 105, 108, 101]) = false := beq_eq_false_iff_ne.2 hf
  rw [h2, Bool.or_false] at h
  unfold ownPort at h
  unfold placedB
  split at h
  · next e => rcases e with e | e <;> (rw [e]; decide)
  split at h
  · next e => rcases e with e | e <;> (rw [e]; decide)
  split at h
  · next e => rw [e]; decide
  · cases h
theorem special_placed {s : List UInt8} (h : placedB s = true) : isSpecial s = true ∧ s ≠ fileB := by
  unfold placedB at h
  simp only [Bool.or_eq_true, beq_iff_eq] at h
  rcases h with (((h | h) | h) | h) | h <;> (rw [h]; decide)
theorem origin_fix {v : U} (h : St' v) (hsp : isSpecial v.sch = true) (hf : v.sch ≠ fileB) : againstU (placeOriginU v) zeroU = (ovU v, 0) := by
  have hne := h.sd.hst hsp hf
  have hhp : hostPortU v ≠ [] := by
    unfold hostPortU
    split
    · simp
    · exact hne
  have e1 : placeOriginU v = v.sch ++ 58 :: (47 :: 47 :: hostPortU v) := by unfold placeOriginU; simp
  have hcl : Cl (placeOriginU v) := by
    rw [e1]
    refine cl_app (sch_cl h.sd.sc) (cl_app (a := [58, 47, 47]) ?_ ?_)
    · intro b hb; simp only [List.mem_cons, List.not_mem_nil, or_false] at hb; rcases hb with rfl | rfl | rfl <;> decide
    · intro b hb; have := hostPort_no h b hb; exact ⟨this.1, this.2.1, this.2.2.1⟩
  have hpr : Pr (placeOriginU v) := by
    rw [e1]
    refine pr_app h.sd.sc.pr (pr_app (a := [58, 47, 47]) (pr_cons (by decide) (by decide) (pr_cons (by decide) (by decide) (pr_one (by decide) (by decide)))) ?_)
    show Pr (if v.hp = true then v.host ++ [58] ++ portTextU v else v.host)
    split
    · next hp =>
      refine pr_app (pr_app h.sd.phost (pr_one (by decide) (by decide))) ?_
      unfold portTextU
      rw [if_pos hp]
      exact (decD_dg (by have := (h.sd.port hp).1; omega)).pr
    · exact h.sd.phost
  have hw := whole_id hpr (fun c r e => (hcl c (by rw [e]; simp)).2.2) hcl.noEnd
  have n35 : ∀ b ∈ placeOriginU v, isB 35 b = false := fun b hb => isB_ne (c := 35) rfl (hcl b hb).1
  have n63 : ∀ b ∈ 47 :: 47 :: hostPortU v, isB 63 b = false := fun b hb => isB_ne (c := 63) rfl (hcl b (by rw [e1]; simp only [List.mem_append, List.mem_cons] at hb ⊢; exact Or.inr (Or.inr hb))).2.1
  have nsl : ∀ b ∈ hostPortU v, slB true b = false := fun b hb => by have := hostPort_no h b hb; exact slB_no this.2.2.2.1 this.2.2.2.2.1
  have n64 : ∀ b ∈ hostPortU v, isB 64 b = false := fun b hb => isB_ne (c := 64) rfl (hostPort_no h b hb).2.2.2.2.2
  unfold againstU
  rw [hw, bcut_all n35]
  simp only
  have ha : aheadU (placeOriginU v) false zeroU = (ovU v, 0) := by
    unfold aheadU
    rw [e1, cutSch_fix h.sd.sc]
    simp only
    rw [if_pos trivial]
    unfold restU
    rw [if_neg h.sd.sc.ne, if_pos rfl, bcut_all n63]
    simp only
    have hfr : freshU v.sch false [] = { zeroU with sch := v.sch } := by unfold freshU; rw [enc_clean_nil]; rfl
    rw [hfr]
    unfold schemedU
    simp only
    rw [if_neg hf, if_pos hsp]
    have hc2 : countSl false (47 :: 47 :: hostPortU v) = countSl false (hostPortU v) + 2 := by rw [countSl_cons, countSl_cons]
    have hc3 : countSl true (47 :: 47 :: hostPortU v) = 2 := by
      rw [countSl_cons, countSl_cons]
      cases hp : hostPortU v with
      | nil => exact absurd hp hhp
      | cons c m => rw [countSl_no _ (nsl c (by rw [hp]; simp))]
    unfold specialU
    rw [if_neg (fun x => by have := x.2; omega), hc3]
    show authorityU { zeroU with sch := v.sch } (hostPortU v) = _
    have hpl := place_fix (w := { zeroU with sch := v.sch }) h hf rfl rfl rfl
    unfold authorityU
    simp only
    rw [hsp, bcut_all nsl]
    simp only
    rw [bcutLast_all n64]
    simp only
    rw [if_neg (fun x => by cases x.1)]
    have hz1 : encU (bcut (isB 58) []).1 = [] := encU_nil
    have hz2 : encU (bcut (isB 58) []).2.1 = [] := encU_nil
    rw [hz1, hz2]
    show authEnd (placeU { zeroU with sch := v.sch } (hostPortU v)) v.sch [] (true || false) = _
    rw [hpl]
    unfold authEnd
    rw [if_neg (by intro x; exact x rfl), if_pos (show (true || false) = true from rfl), readL_nil]
    rfl
  rw [ha]
  unfold ended
  rw [if_neg (by intro x; exact x rfl), enc_clean_nil]
  rfl
theorem origin_or {u : U} (h : St u) : originU u = nullB ∨ ∃ v, St' v ∧ isSpecial v.sch = true ∧ v.sch ≠ fileB ∧ originU u = placeOriginU v := by
  unfold originU
  split
  · next hp => exact Or.inr ⟨u, h.st, (special_placed hp).1, (special_placed hp).2, rfl⟩
  split
  · unfold blobOriginU
    split
    · exact Or.inl rfl
    next h1 =>
      split
      · exact Or.inl rfl
      next h2 =>
        have hk := (st_against (pathU u) (base := zeroU) (Or.inl rfl) (Classical.not_not.1 h1)).st
        have hs : (textU (pathU u)).1.sch = [104, 116, 116, 112] ∨ (textU (pathU u)).1.sch = [104, 116, 116, 112, 115] := by
          by_cases e : (textU (pathU u)).1.sch = [104, 116, 116, 112]
          · exact Or.inl e
          · exact Or.inr (Classical.byContradiction fun e2 => h2 ⟨e, e2⟩)
        refine Or.inr ⟨_, hk, ?_, ?_, rfl⟩
        · show isSpecial (textU (pathU u)).1.sch = true
          rcases hs with e | e <;> (rw [e]; decide)
        · show (textU (pathU u)).1.sch ≠ fileB
          rcases hs with e | e <;> (rw [e]; decide)
  · exact Or.inl rfl
/-- An origin's text, read. -/
theorem origin_read {u : U} (h : St u) (hn : originU u ≠ nullB) (hl : (originU u).length ≤ 160) : ∃ v, parseU (originU u) [] false = (v, 0) ∧ originU v = originU u ∧ pathU v = [47] ∧ searchU v = [] ∧ hashU v = [] ∧ v.nam = [] ∧ v.sch ≠ [98, 108, 111, 98] := by
  rcases origin_or h with e | ⟨v, hv, hsp, hf, e⟩
  · exact absurd e hn
  · refine ⟨ovU v, ?_, ?_, rfl, rfl, rfl, rfl, ?_⟩
    · unfold parseU
      rw [if_neg (by rintro (x | x); omega; cases x.1), if_neg (by intro x; exact x rfl)]
      show againstU (originU u) zeroU = _
      rw [e]
      exact origin_fix hv hsp hf
    · rw [e]
      show originU (ovU v) = placeOriginU v
      unfold originU
      rw [if_pos (show placedB (ovU v).sch = true from placed_special hsp hf)]
      rfl
    · intro x
      have x' : v.sch = [98, 108, 111, 98] := x
      rw [x'] at hsp
      exact absurd hsp (by decide)
theorem origin_placed {u : U} (h : isSpecial u.sch = true) (hf : u.sch ≠ fileB) : originU u = protocolU u ++ [47, 47] ++ hostPortU u := by
  unfold originU
  rw [if_pos (placed_special h hf)]
  unfold placeOriginU protocolU
  simp
theorem origin_none {u : U} (h : ¬ (isSpecial u.sch = true ∧ u.sch ≠ fileB)) (hb : u.sch ≠ [98, 108, 111, 98]) : originU u = nullB := by
  unfold originU
  rw [if_neg (fun x => h (special_placed x)), if_neg hb]
end Go.Proofs.YtchkhibgbnhjpaaGreatDoor

namespace Go.Proofs.YtchkhibgbnhjpaaGreatDoor
open Go.RowKit

abbrev blobP : List UInt8 := [98, 108, 111, 98, 58]
set_option maxRecDepth 8000 in
set_option maxHeartbeats 16000000 in
theorem originK_any (h og p us pw ho hn po pa se ha : ByteArray) (w : World) (ht : Tb w) (lp : p.size ≤ 1000001) (lho : ho.size ≤ 200000000000)
    (k1 : specialPro (tl p) = true → ¬ tl p = fileP → tl og = tl p ++ [47, 47] ++ tl ho)
    (k2 : ¬ (specialPro (tl p) = true ∧ ¬ tl p = fileP) → ¬ tl p = blobP → tl og = nullB)
    (k3 : ¬ tl og = nullB → og.size ≤ 160 → ∃ v, parseU (tl og) [] false = (v, 0) ∧ originU v = tl og ∧ pathU v = [47] ∧ searchU v = [] ∧ hashU v = [] ∧ v.nam = [] ∧ v.sch ≠ [98, 108, 111, 98]) :
    Calls Tryz.prog 23 #[.agg #[.string h, .string og, .string p, .string us, .string pw, .string ho, .string hn, .string po, .string pa, .string se, .string ha]] w fun e w' => e = .returned (.bool true) ∧ Nx w w' := by
  have HTB := hide ht
  have K1 := hide k1
  have K2 := hide k2
  have K3 := hide k3
  have HBS : Hid (tl p = blobP → specialPro (tl p) = false) := hide (fun e => by rw [e]; decide)
  clear ht k1 k2 k3
  have HSP := hide (specialPro_any p)
  generalize specialPro (tl p) = sp at *
  by_cases hb : tl p = blobP
  · have hsp := HBS.out hb
    subst hsp
    have hb1 := eqB hb
    have hb2 := neqF7 hb1
    clear hb
    by_cases hnl : tl og = nullB
    · have hn' := eqB hnl
      unfold nullB at hn'
      clear hnl
      go_enter Tryz.func23, Tryz.ntmps23
      go_wp2_with (go_at_call 33; refine (HSP.out _).mono ?_; rintro e w' ⟨rfl, rfl⟩)
      go_ret
      exact ⟨rfl, Nx.rfl.alloc _⟩
    · have hn' := neB hnl
      unfold nullB at hn'
      by_cases hl : og.size ≤ 160
      · obtain ⟨v, v1, v2, v3, v4, v5, v6, v7⟩ := K3.out hnl hl
        have HPA := hide (fun w1 (hn : Nx w w1) => parseU_any og ⟨#[]⟩ false w1 (small_len (by omega)) (small_len (by decide)) (HTB.out.on hn))
        rw [show tl (⟨#[]⟩ : ByteArray) = [] from rfl, v1] at HPA
        have V2 := hide v2
        have V3 := hide v3
        have V4 := hide v4
        have V5 := hide v5
        have V6 := hide v6
        have V7 := hide v7
        have HC0 : Hid (C11 (w.alloc (Obj.cells #[.string h, .string og, .string p, .string us, .string pw, .string ho, .string hn, .string po, .string pa, .string se, .string ha] 34)) w.heap.size (.string h) (.string og) (.string p) (.string us) (.string pw) (.string ho) (.string hn) (.string po) (.string pa) (.string se) (.string ha)) := hide (heap_alloc_new w _)
        clear hnl v1 v2 v3 v4 v5 v6 v7
        go_enter Tryz.func23, Tryz.ntmps23
        go_wp2_with (first | (go_at_call 33; refine (HSP.out _).mono ?_; rintro e w' ⟨rfl, rfl⟩) | fail)
        refine (HPA.out _ (Nx.rfl.alloc _)).mono ?_
        rintro e w1 ⟨hp, hn1⟩
        rcases hp with ⟨he, -⟩ | ⟨-, pb, r, bs, rfl, hu, hr⟩
        · exact absurd rfl he
        have HN1 := hide (show Nx w w1 from (Nx.rfl.alloc _).then hn1)
        have HC1 := hide (HC0.out.on hn1)
        have HU := hide hu
        have HR := hide hr
        clear hn1 hu hr HC0
        go_wp2_with fail
        refine (get_any pb r v bs _ HU.out HR.out (HTB.out.on HN1.out) (fun e => absurd e V7.out)).mono ?_
        rintro e w2 ⟨⟨t0, t1, t2, t3, t4, t5, t6, t7, t8, t9, t10, rfl, g0, g1, g2, g3, g4, g5, g6, g7, g8, g9, g10, -, -⟩, hn2⟩
        have HN2 := hide (HN1.out.then hn2)
        have HC2 := hide (HC1.out.on hn2)
        have q1 := strEq7 (show tl t1 = tl og by rw [g1, V2.out])
        have q8 : (t8.toList == [47]) = true := eqB (by rw [g8, V3.out])
        have q9 := str_empty (s := t9) (by rw [← tl_length, g9, V4.out]; rfl)
        have q10 := str_empty (s := t10) (by rw [← tl_length, g10, V5.out]; rfl)
        have q3 := str_empty (s := t3) (by rw [← tl_length, g3, V6.out]; rfl)
        obtain ⟨-, c1, -⟩ := HC2.out.cells
        have hlb : w.heap.size < w2.heap.size := (Array.getElem?_eq_some_iff.1 HC2.out).1
        clear g0 g1 g2 g3 g4 g5 g6 g7 g8 g9 g10 hn2 HC1 HU HR V2 V3 V4 V5 V6 V7 HPA K1 K2 K3
        go_wp2
        go_ret
        exact ⟨rfl, HN2.out.alloc _⟩
      · have hl' : 160 < og.size := by omega
        clear hl hnl
        go_enter Tryz.func23, Tryz.ntmps23
        go_wp2_with (go_at_call 33; refine (HSP.out _).mono ?_; rintro e w' ⟨rfl, rfl⟩)
        go_ret
        exact ⟨rfl, Nx.rfl.alloc _⟩
  · have hb1 := neB hb
    have hb2 := neqT7 hb1
    by_cases hf : tl p = fileP
    · have hf1 := eqB hf
      have hf2 := neqF7 hf1
      have hn' := eqB (K2.out (fun x => x.2 hf) hb)
      unfold nullB at hn'
      clear hf hb
      cases sp
      · go_enter Tryz.func23, Tryz.ntmps23
        go_wp2_with (go_at_call 33; refine (HSP.out _).mono ?_; rintro e w' ⟨rfl, rfl⟩)
        go_ret
        exact ⟨rfl, Nx.rfl.alloc _⟩
      · go_enter Tryz.func23, Tryz.ntmps23
        go_wp2_with (go_at_call 33; refine (HSP.out _).mono ?_; rintro e w' ⟨rfl, rfl⟩)
        go_ret
        exact ⟨rfl, Nx.rfl.alloc _⟩
    · have hf1 := neB hf
      have hf2 := neqT7 hf1
      cases sp
      · have hn' := eqB (K2.out (fun x => by cases x.1) hb)
        unfold nullB at hn'
        clear hf hb
        go_enter Tryz.func23, Tryz.ntmps23
        go_wp2_with (go_at_call 33; refine (HSP.out _).mono ?_; rintro e w' ⟨rfl, rfl⟩)
        go_ret
        exact ⟨rfl, Nx.rfl.alloc _⟩
      · have he := strEq7 (show tl og = tl (p ++ (⟨#[47, 47]⟩ : ByteArray) ++ ho) by rw [K1.out rfl hf, tlApp7, tlApp7]; rfl)
        have he' : (og.toList != (p ++ (⟨#[47, 47]⟩ : ByteArray) ++ ho).toList) = false := by simp only [bne, he]; rfl
        clear hf hb
        by_cases hnl : tl og = nullB
        · have hn' := eqB hnl
          unfold nullB at hn'
          clear hnl
          go_enter Tryz.func23, Tryz.ntmps23
          go_wp2_with (go_at_call 33; refine (HSP.out _).mono ?_; rintro e w' ⟨rfl, rfl⟩)
          go_ret
          exact ⟨rfl, Nx.rfl.alloc _⟩
        · have hn' := neB hnl
          unfold nullB at hn'
          by_cases hl : og.size ≤ 160
          · obtain ⟨v, v1, v2, v3, v4, v5, v6, v7⟩ := K3.out hnl hl
            have HPA := hide (fun w1 (hn : Nx w w1) => parseU_any og ⟨#[]⟩ false w1 (small_len (by omega)) (small_len (by decide)) (HTB.out.on hn))
            rw [show tl (⟨#[]⟩ : ByteArray) = [] from rfl, v1] at HPA
            have V2 := hide v2
            have V3 := hide v3
            have V4 := hide v4
            have V5 := hide v5
            have V6 := hide v6
            have V7 := hide v7
            have HC0 : Hid (C11 (w.alloc (Obj.cells #[.string h, .string og, .string p, .string us, .string pw, .string ho, .string hn, .string po, .string pa, .string se, .string ha] 34)) w.heap.size (.string h) (.string og) (.string p) (.string us) (.string pw) (.string ho) (.string hn) (.string po) (.string pa) (.string se) (.string ha)) := hide (heap_alloc_new w _)
            clear hnl v1 v2 v3 v4 v5 v6 v7
            go_enter Tryz.func23, Tryz.ntmps23
            go_wp2_with (first | (go_at_call 33; refine (HSP.out _).mono ?_; rintro e w' ⟨rfl, rfl⟩) | fail)
            refine (HPA.out _ (Nx.rfl.alloc _)).mono ?_
            rintro e w1 ⟨hp, hn1⟩
            rcases hp with ⟨he, -⟩ | ⟨-, pb, r, bs, rfl, hu, hr⟩
            · exact absurd rfl he
            have HN1 := hide (show Nx w w1 from (Nx.rfl.alloc _).then hn1)
            have HC1 := hide (HC0.out.on hn1)
            have HU := hide hu
            have HR := hide hr
            clear hn1 hu hr HC0
            go_wp2_with fail
            refine (get_any pb r v bs _ HU.out HR.out (HTB.out.on HN1.out) (fun e => absurd e V7.out)).mono ?_
            rintro e w2 ⟨⟨t0, t1, t2, t3, t4, t5, t6, t7, t8, t9, t10, rfl, g0, g1, g2, g3, g4, g5, g6, g7, g8, g9, g10, -, -⟩, hn2⟩
            have HN2 := hide (HN1.out.then hn2)
            have HC2 := hide (HC1.out.on hn2)
            have q1 := strEq7 (show tl t1 = tl og by rw [g1, V2.out])
            have q8 : (t8.toList == [47]) = true := eqB (by rw [g8, V3.out])
            have q9 := str_empty (s := t9) (by rw [← tl_length, g9, V4.out]; rfl)
            have q10 := str_empty (s := t10) (by rw [← tl_length, g10, V5.out]; rfl)
            have q3 := str_empty (s := t3) (by rw [← tl_length, g3, V6.out]; rfl)
            obtain ⟨-, c1, -⟩ := HC2.out.cells
            have hlb : w.heap.size < w2.heap.size := (Array.getElem?_eq_some_iff.1 HC2.out).1
            clear g0 g1 g2 g3 g4 g5 g6 g7 g8 g9 g10 hn2 HC1 HU HR V2 V3 V4 V5 V6 V7 HPA K1 K2 K3
            go_wp2
            go_ret
            exact ⟨rfl, HN2.out.alloc _⟩
          · have hl' : 160 < og.size := by omega
            clear hl hnl
            go_enter Tryz.func23, Tryz.ntmps23
            go_wp2_with (go_at_call 33; refine (HSP.out _).mono ?_; rintro e w' ⟨rfl, rfl⟩)
            go_ret
            exact ⟨rfl, Nx.rfl.alloc _⟩
end Go.Proofs.YtchkhibgbnhjpaaGreatDoor

namespace Go.Proofs.YtchkhibgbnhjpaaGreatDoor
open Go.RowKit

/-- What Get tells of a URL that stands is what origin asks. -/
theorem originK_true (u : U) (h : St u) (l0 : u.sch.length ≤ 1000000) (e : Ending) (he : AllIs e u) :
    ∃ v, e = .returned v ∧ ∀ w, Tb w → Calls Tryz.prog 23 #[v] w fun e w' => e = .returned (.bool true) ∧ Nx w w' := by
  obtain ⟨t0, t1, t2, t3, t4, t5, t6, t7, t8, t9, t10, rfl, h0, h1, h2, h3, h4, h5, h6, h7, h8, h9, h10, s5, s8⟩ := he
  refine ⟨_, rfl, fun w ht => ?_⟩
  have hpro : tl t2 = u.sch ++ [58] := h2
  have z2 : t2.size ≤ 1000001 := by rw [← tl_length, hpro, List.length_append]; simp; exact l0
  have hsp : specialPro (tl t2) = isSpecial u.sch := by rw [hpro, specialPro_eq]
  refine originK_any t0 t1 t2 t3 t4 t5 t6 t7 t8 t9 t10 w ht z2 s5 ?_ ?_ ?_
  · intro e ef
    rw [hsp] at e
    rw [hpro] at ef
    rw [h1, h2, h5]
    exact origin_placed e (fun x => ef (proto_file.2 x))
  · intro e eb
    rw [hsp, hpro] at e
    rw [hpro] at eb
    rw [h1]
    refine origin_none (fun x => e ⟨x.1, fun y => x.2 (proto_file.1 y)⟩) (fun x => eb (by rw [x]; rfl))
  · intro e el
    rw [h1] at e ⊢
    exact origin_read h e (by rw [← h1, tl_length]; exact el)
set_option maxHeartbeats 8000000 in
/-- urlskeep.Origins answers true. -/
theorem origins_full (s base : ByteArray) (based : Bool) (w : World) (hs : s.size ≤ maxLen) (hb : base.size ≤ maxLen) (ht : Tb w) :
    Calls Tryz.prog 7 #[.string s, .string base, .bool based] w fun e w' => e = .returned (.bool true) ∧ Nx w w' := by
  have HTB := hide ht
  have HAT := hide (at_any s base based w hs hb ht)
  have HSD := hide (st_parse (tl s) (tl base) based)
  have HPL := hide (pm_parse (tl s) (tl base) based)
  clear ht hs hb
  generalize parseU (tl s) (tl base) based = x at *
  go_enter Tryz.func7, Tryz.ntmps7
  go_wp2_with fail
  refine HAT.out.mono ?_
  rintro e w1 ⟨hp, hn⟩
  have HN := hide hn
  clear hn HAT
  rcases hp with rfl | ⟨hx0, ib, pb, r, bs, rfl, hi, hu, hr⟩
  · go_wp2
    go_ret
    exact ⟨rfl, HN.out⟩
  · have hc := hi.cell
    have HU := hide hu
    have HR := hide hr
    have HS := hide (HSD.out hx0)
    clear hi hu hr hx0 HSD
    go_wp2_with fail
    refine (get_any pb r x.1 bs _ HU.out HR.out (HTB.out.on HN.out) (fun _ => Nat.le_trans HPL.out (by decide))).mono ?_
    rintro e w2 ⟨ha, hn2⟩
    have hz := HR.out.five
    obtain ⟨v, rfl, hv⟩ := originK_true x.1 HS.out hz.1 e ha
    have HV := hide hv
    have HN2 := hide (HN.out.then hn2)
    clear ha hn2 hz hv
    go_wp2_with fail
    refine (HV.out _ (HTB.out.on HN2.out)).mono ?_
    rintro e w3 ⟨rfl, hn3⟩
    have HN3 := hide (HN2.out.then hn3)
    clear hn3
    go_wp2
    go_ret
    exact ⟨rfl, HN3.out⟩
end Go.Proofs.YtchkhibgbnhjpaaGreatDoor

namespace Go.Proofs.YtchkhibgbnhjpaaGreatDoor
open Go.ChangeShapes Go.WideShapes Go.ChangeAt Go.RowKit Go.ChangeMaps

set_option maxRecDepth 20000 in
theorem origins_contract (H : Type) (enc : TypeId × Value → H) (W : World) (base : Nat) (args : Array Value) (ds gs : List (DataW H)) (before : List MemPlace)
    (hval : ∀ (j : Nat) t v, Tryz.f7.params[j]? = some t → args[j]? = some v → Value.okWide Tryz.prog W .any base t v)
    (hW : DataW.Whole enc Tryz.prog Tryz.f7.params.toList Rows.originsSpec.vars false W args.toList ds gs before) (hL : laidMetH Tryz.prog Rows.originsRow.laid W) :
    Calls Tryz.prog 7 args W fun e W' => ∃ v, e = .returned v ∧ Rows.originsSpec.post enc Tryz.prog Tryz.f7 false true false false W args v W' := by
  have hW' := hW
  obtain ⟨p, q, hA0, hV, rfl, hfz, hnd⟩ := hW
  have hA : DataW.TrodAll enc Tryz.prog W 0 (fun _ => true) true Tryz.f7.params.toList args.toList ds p := hA0
  rw [Tryz.params7] at hA hval
  obtain ⟨v0, vs0, d0, ds0, p0, q0, hargs, rfl, rfl, h0, r0⟩ := trodAll_cons hA
  obtain ⟨v1, vs1, d1, ds1, p1, q1, rfl, rfl, rfl, h1, r1⟩ := trodAll_cons r0
  obtain ⟨v2, vs2, d2, ds2, p2, q2, rfl, rfl, rfl, h2, r2⟩ := trodAll_cons r1
  obtain ⟨rfl, rfl, rfl⟩ := trodAll_nil r2
  obtain rfl : args = #[v0, v1, v2] := by cases args; simp_all
  obtain ⟨rfl, rfl⟩ := trodVars_none hV
  have hv0 : Value.okWide Tryz.prog W .any base 9 v0 := hval 0 9 v0 rfl rfl
  have hv1 : Value.okWide Tryz.prog W .any base 9 v1 := hval 1 9 v1 rfl rfl
  have hv2 : Value.okWide Tryz.prog W .any base 4 v2 := hval 2 4 v2 rfl rfl
  obtain ⟨s, rfl, rfl, rfl, hs⟩ := open_string (P := Tryz.prog) Tryz.underlying9 hv0 h0
  obtain ⟨b, rfl, rfl, rfl, hb⟩ := open_string (P := Tryz.prog) Tryz.underlying9 hv1 h1
  obtain ⟨c, rfl, rfl, rfl⟩ := open_bool (P := Tryz.prog) Tryz.underlying4 hv2 h2
  clear hA0
  simp only [List.append_nil] at hW'
  refine (origins_full s b c W hs hb (laidTb hL)).mono fun e W' ⟨he, hnx⟩ => ?_
  subst he
  exact ⟨_, rfl, _, _, _, [], [], [], hW', trodAll_cons_mk (shut_bool Tryz.underlying4 _) trodAll_mk0, trodAll_cons_mk (shut_string Tryz.underlying9 hs) (trodAll_cons_mk (shut_string Tryz.underlying9 hb) (trodAll_cons_mk (shut_bool Tryz.underlying4 _) trodAll_mk0)), rfl, hnx.frame _, fun h => by cases h⟩
theorem origins_laid (os : Os) : laidMet Tryz.prog Rows.originsRow.laid ((laidWorld os).forCall (fun _ _ => 0) ⟨#[], #[.string ⟨#[]⟩, .string ⟨#[]⟩, .bool false], []⟩).memory :=
  laidMet_of_run' 8 (by kernel_rfl) (by kernel_rfl)
theorem origins_reads (os : Os) {H : Type} (enc : TypeId × Value → H) : ∃ places, DataW.whole enc Tryz.prog ((laidWorld os).forCall (fun _ _ => 0) ⟨#[], #[.string ⟨#[]⟩, .string ⟨#[]⟩, .bool false], []⟩).memory Tryz.f7.params.toList Rows.originsSpec.vars false #[Value.string ⟨#[]⟩, Value.string ⟨#[]⟩, Value.bool false].toList 8 = some ([.lit (.string []), .lit (.string []), .lit (.bool false)], [], places) :=
  ⟨[], by kernel_rfl⟩
set_option maxRecDepth 100000 in
theorem origins_lifted (os : Os) (started : os.Started) (H : Type) (enc : TypeId × Value → H) (F : Stop.Interp) :
    ReturnsInHanded {} Tryz.checked os 7 .any ((OpenSpec.ofChange Rows.originsSpec).preRow enc Tryz.prog Tryz.f7 Rows.originsRow.domain false Rows.originsRow.laid) (((OpenSpec.ofChange Rows.originsSpec).at F).post enc Tryz.prog Tryz.f7 false true false false) := by
  obtain ⟨places, hx⟩ := origins_reads os enc
  refine returnsInHanded_of_row (C := Tryz.checked) (s := OpenSpec.ofChange Rows.originsSpec) ownK started (by kernel_rfl) Tryz.func7
    (witness_row_at (enc := enc) (C := Tryz.checked) false (laidWorld os) #[.string ⟨#[]⟩, .string ⟨#[]⟩, .bool false] rfl (by kernel_rfl) (by kernel_rfl) (by kernel_rfl)
      (OpenSpec.preRow_of_cond 8 hx (by kernel_rfl) (fun k hk => by cases hk) (by kernel_rfl) (origins_laid os))) ?_
  intro W base args ds gs before hval hW _ _ _ hL _ _
  exact origins_contract H enc W base args ds gs before hval hW hL
theorem origins_said : Rows.OriginsSaid :=
  OpenClaim.holds_of_cond 7 Tryz.f7 rfl rfl rfl rfl rfl rfl rfl ⟨rfl, rfl, rfl, rfl, rfl⟩ rfl rfl rfl rfl rfl (by kernel_rfl) Tryz.func7 (by kernel_rfl)
    (of_decide_eq_true (by kernel_rfl)) (by unfold Func.isWrapper; first | (rw [if_pos (by decide +kernel)]; kernel_rfl) | (rw [if_neg (by decide +kernel)]; exact ⟨rfl, rfl⟩))
    (fun os started H enc _ F => by rw [OpenClaim.pre_eq_preRow]; exact origins_lifted os started H enc F)
theorem origins_plain (f : FuncId) (fn : Func) (hf : Tryz.pinned.checked.prog.funcNamed "urls/urlskeep.Origins" = some f) (hfn : Tryz.pinned.checked.prog.funcs[f]? = some fn) :
    false = Tryz.pinned.checked.prog.looks [] ∧ ∀ (j : Nat) t, fn.params[j]? = some t → Tryz.pinned.checked.prog.wantsStandIn t = false := by
  obtain rfl : f = 7 := Option.some.inj ((show Tryz.prog.funcNamed "urls/urlskeep.Origins" = some 7 by kernel_rfl).symm.trans hf) |>.symm
  obtain rfl : fn = Tryz.f7 := (Option.some.inj (Tryz.func7.symm.trans hfn)).symm
  refine ⟨by kernel_rfl, fun j t ht => ?_⟩
  rw [Tryz.params7] at ht
  have hm : t = 9 ∨ t = 4 := by simpa using Array.mem_of_getElem? ht
  rcases hm with rfl | rfl
  · exact (show Tryz.prog.wantsStandIn 9 = false by kernel_rfl)
  · exact (show Tryz.prog.wantsStandIn 4 = false by kernel_rfl)
theorem origins_card : Rows.OriginsCardSaid :=
  Claim7.holds_tied_plain_at .later [] _ _ _ _ origins_said (fun _ h => by cases h) (by kernel_rfl) (fun _ h => by cases h) origins_row_tie rfl ⟨rfl, rfl⟩ (by kernel_rfl) rfl origins_plain (by kernel_rfl)
end Go.Proofs.YtchkhibgbnhjpaaGreatDoor
