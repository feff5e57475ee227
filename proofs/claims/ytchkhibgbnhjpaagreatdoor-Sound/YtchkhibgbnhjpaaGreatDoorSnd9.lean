import Derived.Test.YtchkhibgbnhjpaaGreatDoorSnd7
import Derived.Test.YtchkhibgbnhjpaaGreatDoorSnd8
import Derived.Test.YtchkhibgbnhjpaaGreatDoorGet1
import Derived.Test.YtchkhibgbnhjpaaGreatDoorAtA
import Derived.Test.YtchkhibgbnhjpaaGreatDoorInvA
namespace Go.Proofs.YtchkhibgbnhjpaaGreatDoor
open Go.RowKit

theorem begins_yes {s t : ByteArray} {r : List UInt8} (h : tl s = tl t ++ r) : (decide (t.size ≤ s.size) && ((tl s).take t.size == tl t)) = true := by
  have h1 : t.size ≤ s.size := by rw [← tl_length, ← tl_length, h, List.length_append]; omega
  rw [decide_eq_true h1, h, ← tl_length, List.take_left']
  · simp
  · rfl
theorem begins_true {s t : ByteArray} {r : List UInt8} (h : tl s = tl t ++ r) (w : World) : Calls Tryz.prog 37 #[.string s, .string t] w fun e w' => e = .returned (.bool true) ∧ w = w' := by
  refine (begins_any s t w).mono ?_
  rintro e w' ⟨rfl, rfl⟩
  exact ⟨by rw [begins_yes h], rfl⟩
theorem user_len (u : U) : (userU u).length ≤ u.nam.length + u.pw.length + 2 := by
  unfold userU
  split
  · simp
  split
  · simp; omega
  · simp; omega
theorem marked_len (m t : List UInt8) : (markedL m t).length ≤ m.length + t.length := by unfold markedL; split <;> simp
theorem href_len (u : U) : (hrefU u).length ≤ u.sch.length + 10 + u.nam.length + u.pw.length + (hostPortU u).length + (pathU u).length + u.q.length + u.fr.length := by
  have h1 := user_len u
  have h2 : (frontU u).length ≤ 2 + (userU u).length + (hostPortU u).length := by
    unfold frontU
    split
    · simp; omega
    split
    · simp; omega
    · simp
  have h3 : (if u.hq = true then [63] ++ u.q else []).length ≤ 1 + u.q.length := by split <;> simp <;> omega
  have h4 : (if u.hf = true then [35] ++ u.fr else []).length ≤ 1 + u.fr.length := by split <;> simp <;> omega
  unfold hrefU protocolU
  simp only [List.length_append, List.length_cons, List.length_nil] at *
  omega
/-- What Get tells of a sound URL is what sound asks. -/
theorem sound_true (u : U) (h : Sd u) (l0 : u.sch.length ≤ 999999) (l1 : u.nam.length ≤ 1000000) (l2 : u.pw.length ≤ 1000000) (l5 : u.q.length ≤ 1000000) (l6 : u.fr.length ≤ 1000000) (l7 : u.host.length ≤ 1000000) (e : Ending) (he : AllIs e u) :
    ∃ v, e = .returned v ∧ ∀ w, Calls Tryz.prog 20 #[v] w fun e w' => e = .returned (.bool true) ∧ Nx w w' := by
  obtain ⟨t0, t1, t2, t3, t4, t5, t6, t7, t8, t9, t10, rfl, h0, h1, h2, h3, h4, h5, h6, h7, h8, h9, h10, s5, s8⟩ := he
  refine ⟨_, rfl, fun w => ?_⟩
  have z0 : t0.size ≤ maxLen := by
    have := href_len u
    rw [← h0, ← h5, ← h8, tl_length, tl_length, tl_length] at this
    unfold maxLen
    omega
  have z2 : t2.size = u.sch.length + 1 := by rw [← tl_length, h2]; unfold protocolU; simp
  have z6 : t6.size ≤ 1000000 := by rw [← tl_length, h6]; exact l7
  have z7 : t7.size ≤ 5 := by
    rw [← tl_length, h7]; unfold portTextU
    split
    · exact decD_len _
    · simp
  have z9 : t9.size ≤ 1000001 := by
    have := marked_len [63] u.q
    rw [← tl_length, h9]; unfold searchU
    simp only [List.length_cons, List.length_nil] at this
    omega
  have z10 : t10.size ≤ 1000001 := by
    have := marked_len [35] u.fr
    rw [← tl_length, h10]; unfold hashU
    simp only [List.length_cons, List.length_nil] at this
    omega
  have hne := List.length_pos_iff.2 h.sc.ne
  have hpro : tl t2 = u.sch ++ [58] := h2
  have p7 : t7.size = 0 ↔ u.hp = false := by
    rw [← tl_length, h7]; unfold portTextU
    constructor
    · intro e
      cases hp : u.hp
      · rfl
      · rw [hp] at e; exact absurd (List.length_eq_zero_iff.1 e) (decD_ne _)
    · intro e; rw [e]; rfl
  refine sound_any t0 t1 t2 t3 t4 t5 t6 t7 t8 t9 t10 w z6 (by omega) z9 z10 ?_ ?_ ?_ ?_ ?_ ?_ ?_ ?_ ?_ ?_ ?_
  · intro w
    refine plain_true t0 w z0 fun k hk => ?_
    have := href_pr h _ (by rw [← h0]; exact tl_mem t0 k hk)
    omega
  · intro w
    have hat : ∀ k (hk : k < t2.size), (u.sch ++ [58])[k]? = some t2[k] := fun k hk => by rw [← hpro]; exact tl_at t2 k hk
    refine schemed_true t2 w (by omega) (by omega) ?_ ?_ ?_
    · have := hat (t2.size - 1) (by omega)
      rw [List.getElem?_append_right (show u.sch.length ≤ t2.size - 1 by omega), show t2.size - 1 - u.sch.length = 0 by omega] at this
      simp only [List.getElem?_cons_zero, Option.some.injEq] at this
      rw [← this]; rfl
    · have := hat 0 (by omega)
      rw [List.getElem?_append_left hne] at this
      cases hs : u.sch with
      | nil => exact absurd hs h.sc.ne
      | cons c r =>
        rw [hs] at this
        simp only [List.getElem?_cons_zero, Option.some.injEq] at this
        have hf := h.sc.first c r hs
        rw [← this]
        omega
    · intro k hk
      have := hat k (by omega)
      rw [List.getElem?_append_left (show k < u.sch.length by omega)] at this
      have ha := h.sc.all _ (List.mem_of_getElem? this)
      unfold SchB
      omega
  · intro w
    have hdg := portText_dg h
    refine ported_true t2 t7 w (by omega) ?_ ?_ ?_ ?_ ?_
    · intro k hk
      have := hdg _ (by rw [← h7]; exact tl_mem t7 k hk)
      omega
    · intro k hk
      rw [h7]
      unfold portTextU
      split
      · next hp => exact decD_pre (h.port hp).1 k
      · simp [vD]
    · by_cases h1 : 1 < t7.size
      · refine Or.inr ⟨h1, ?_⟩
        have hp : u.hp = true := by
          cases hp : u.hp
          · have := p7.2 hp; omega
          · rfl
        have e7 : tl t7 = decD u.port := by rw [h7]; unfold portTextU; rw [if_pos hp]
        obtain ⟨c, r, hc, hc1⟩ := decD_first (h.port hp).1 (by rw [← e7, tl_length]; exact h1)
        have := tl_at t7 0 (by omega)
        rw [e7, hc] at this
        simp only [List.getElem?_cons_zero, Option.some.injEq] at this
        rw [← this]
        exact hc1
      · exact Or.inl (by omega)
    · rw [h7, hpro]; exact ownText_ne h
    · intro e
      rw [hpro] at e
      exact p7.2 (h.who (Or.inr (proto_file.1 e))).2.2
  · intro w
    refine begins_true (r := frontU u ++ pathU u ++ (if u.hq = true then [63] ++ u.q else []) ++ (if u.hf = true then [35] ++ u.fr else [])) ?_ w
    rw [h0, h2]
    unfold hrefU
    simp only [List.append_assoc]
  · intro e w
    rw [hpro, specialPro_eq] at e
    have hs := h.sp e
    cases hg : u.segs with
    | nil => exact absurd hg hs.2
    | cons x r =>
      refine begins_true (r := x ++ joinSl r) ?_ w
      rw [h8]
      unfold pathU
      rw [if_neg (by rw [hs.1]; decide), hg]
      unfold joinSl
      rw [List.flatMap_cons, List.append_assoc]
      rfl
  · intro e
    rw [← tl_length, h9] at e
    unfold searchU markedL at h9 e
    by_cases hq : u.q = []
    · rw [if_pos hq] at e; exact absurd rfl e
    · rw [if_neg hq] at h9
      have hl := List.length_pos_iff.2 hq
      exact ⟨by rw [← tl_length, h9]; simp; omega, fun w => begins_true h9 w⟩
  · intro e
    rw [← tl_length, h10] at e
    unfold hashU markedL at h10 e
    by_cases hq : u.fr = []
    · rw [if_pos hq] at e; exact absurd rfl e
    · rw [if_neg hq] at h10
      have hl := List.length_pos_iff.2 hq
      exact ⟨by rw [← tl_length, h10]; simp; omega, fun w => begins_true h10 w⟩
  · intro e
    rw [h5, h6]
    unfold hostPortU
    rw [if_neg (by rw [p7.1 e]; decide)]
  · intro e
    have hp : u.hp = true := by
      cases hp : u.hp
      · exact absurd (p7.2 hp) e
      · rfl
    rw [h5, h6, h7]
    unfold hostPortU
    rw [if_pos hp]
  · intro e ef e0
    rw [hpro, specialPro_eq] at e
    rw [hpro] at ef
    rw [← tl_length, h6] at e0
    exact h.hst e (fun x => ef (proto_file.2 x)) (List.length_eq_zero_iff.1 e0)
  · intro e
    have hw : u.nam = [] ∧ u.pw = [] ∧ u.hp = false := by
      refine h.who ?_
      rcases e with e | e
      · rw [← tl_length, h6] at e; exact Or.inl (List.length_eq_zero_iff.1 e)
      · rw [hpro] at e; exact Or.inr (proto_file.1 e)
    exact ⟨by rw [← tl_length, h3, hw.1]; rfl, by rw [← tl_length, h4, hw.2.1]; rfl, p7.2 hw.2.2⟩
set_option maxHeartbeats 8000000 in
/-- urlskeep.Sound answers true. -/
theorem sound_full (s base : ByteArray) (based : Bool) (w : World) (hs : s.size ≤ maxLen) (hb : base.size ≤ maxLen) (ht : Tb w) :
    Calls Tryz.prog 5 #[.string s, .string base, .bool based] w fun e w' => e = .returned (.bool true) ∧ Nx w w' := by
  have HTB := hide ht
  have HAT := hide (at_any s base based w hs hb ht)
  have HSD := hide (sd_parse (tl s) (tl base) based)
  have HPL := hide (pm_parse (tl s) (tl base) based)
  clear ht hs hb
  generalize parseU (tl s) (tl base) based = x at *
  go_enter Tryz.func5, Tryz.ntmps5
  go_wp2_with fail
  refine HAT.out.mono ?_
  rintro e w1 ⟨hp, hn⟩
  have HN := hide hn
  clear hn HAT
  rcases hp with rfl | ⟨hx0, ib, pb, r, bs, rfl, hi, hu, hr⟩
  · go_wp2
    go_ret
    exact ⟨rfl, HN.out⟩
  · have hc := hi.cell
    have HU := hide hu
    have HR := hide hr
    have HS := hide (HSD.out hx0)
    clear hi hu hr hx0 HSD
    go_wp2_with fail
    refine (get_any pb r x.1 bs _ HU.out HR.out (HTB.out.on HN.out) (fun _ => Nat.le_trans HPL.out (by decide))).mono ?_
    rintro e w2 ⟨ha, hn2⟩
    have hz := HR.out.five
    have hzh : x.1.host.length ≤ 1000000 := by rw [← HR.out.eq]; show (tl r.host).length ≤ _; rw [tl_length]; have := HR.out.lhost; omega
    have hzs : x.1.sch.length ≤ 999999 := by rw [← HR.out.eq]; show (tl r.sch).length ≤ _; rw [tl_length]; have := HR.out.lsch; omega
    obtain ⟨v, rfl, hv⟩ := sound_true x.1 HS.out hzs hz.2.1 hz.2.2.1 hz.2.2.2.1 hz.2.2.2.2 hzh e ha
    have HV := hide hv
    have HN2 := hide (HN.out.then hn2)
    clear ha hn2 hz hv hzh hzs
    go_wp2_with fail
    refine (HV.out _).mono ?_
    rintro e w3 ⟨rfl, hn3⟩
    have HN3 := hide (HN2.out.then hn3)
    clear hn3
    go_wp2
    go_ret
    exact ⟨rfl, HN3.out⟩
end Go.Proofs.YtchkhibgbnhjpaaGreatDoor
