import Derived.Test.YtchkhibgbnhjpaaGreatDoorSndA
import Derived.Deep.Cut
namespace Go.Proofs.YtchkhibgbnhjpaaGreatDoor
open Go.RowKit

theorem tlApp7 (a b : ByteArray) : tl (a ++ b) = tl a ++ tl b := by simp [tl]
theorem strEq7 {a b : ByteArray} (h : tl a = tl b) : (a.toList == b.toList) = true := by rw [ByteArray.toList_eq, ByteArray.toList_eq]; show (tl a == tl b) = true; rw [h]; simp
theorem neqT7 {s : ByteArray} {l : List UInt8} (h : (s.toList == l) = false) : (s.toList != l) = true := by simp only [bne, h]; rfl
theorem neqF7 {s : ByteArray} {l : List UInt8} (h : (s.toList == l) = true) : (s.toList != l) = false := by simp only [bne, h]; rfl
abbrev fileP : List UInt8 := [102, 105, 108, 101, 58]
set_option maxRecDepth 8000 in
set_option maxHeartbeats 16000000 in
theorem sound_any (h og p us pw ho hn po pa se ha : ByteArray) (w : World) (lhn : hn.size ≤ 1000000) (lpo : po.size ≤ 1000000) (lse : se.size ≤ 1000001) (lha : ha.size ≤ 1000001)
    (c1 : ∀ w, Calls Tryz.prog 34 #[.string h] w fun e w' => e = .returned (.bool true) ∧ w = w')
    (c2 : ∀ w, Calls Tryz.prog 35 #[.string p] w fun e w' => e = .returned (.bool true) ∧ w = w')
    (c3 : ∀ w, Calls Tryz.prog 36 #[.string p, .string po] w fun e w' => e = .returned (.bool true) ∧ w = w')
    (c4 : ∀ w, Calls Tryz.prog 37 #[.string h, .string p] w fun e w' => e = .returned (.bool true) ∧ w = w')
    (c5 : specialPro (tl p) = true → ∀ w, Calls Tryz.prog 37 #[.string pa, .string ⟨#[47]⟩] w fun e w' => e = .returned (.bool true) ∧ w = w')
    (c6 : ¬ se.size = 0 → 1 < se.size ∧ ∀ w, Calls Tryz.prog 37 #[.string se, .string ⟨#[63]⟩] w fun e w' => e = .returned (.bool true) ∧ w = w')
    (c7 : ¬ ha.size = 0 → 1 < ha.size ∧ ∀ w, Calls Tryz.prog 37 #[.string ha, .string ⟨#[35]⟩] w fun e w' => e = .returned (.bool true) ∧ w = w')
    (k0 : po.size = 0 → tl ho = tl hn) (k1 : ¬ po.size = 0 → tl ho = tl hn ++ [58] ++ tl po)
    (k2 : specialPro (tl p) = true → ¬ tl p = fileP → ¬ hn.size = 0)
    (k3 : hn.size = 0 ∨ tl p = fileP → us.size = 0 ∧ pw.size = 0 ∧ po.size = 0) :
    Calls Tryz.prog 20 #[.agg #[.string h, .string og, .string p, .string us, .string pw, .string ho, .string hn, .string po, .string pa, .string se, .string ha]] w fun e w' => e = .returned (.bool true) ∧ Nx w w' := by
  have C1 := hide c1
  have C2 := hide c2
  have C3 := hide c3
  have C4 := hide c4
  have C5 := hide c5
  have C6 := hide c6
  have C7 := hide c7
  have K0 := hide k0
  have K1 := hide k1
  have K2 := hide k2
  have K3 := hide k3
  have KF : Hid (specialPro (tl p) = false → ¬ tl p = fileP) := hide (fun e ef => by rw [ef] at e; exact absurd e (by decide))
  clear c1 c2 c3 c4 c5 c6 c7 k0 k1 k2 k3
  have HSP := hide (specialPro_any p)
  generalize specialPro (tl p) = sp at *
  go_enter Tryz.func20, Tryz.ntmps20
  go_upto_if 49 with (first | (go_at_call 33; refine (HSP.out _).mono ?_; rintro e w' ⟨rfl, rfl⟩) | (go_at_call 34; refine (C1.out _).mono ?_; rintro e w' ⟨rfl, rfl⟩) | (go_at_call 35; refine (C2.out _).mono ?_; rintro e w' ⟨rfl, rfl⟩) | (go_at_call 36; refine (C3.out _).mono ?_; rintro e w' ⟨rfl, rfl⟩) | (go_at_call 37; refine (C4.out _).mono ?_; rintro e w' ⟨rfl, rfl⟩))
  go_cut [8] from 12 (fun s wx => ∃ hx : ByteArray, s = .string hx ∧ tl hx = tl ho ∧ wx = w.alloc (Obj.cells #[.string h, .string og, .string p, .string us, .string pw, .string ho, .string hn, .string po, .string pa, .string se, .string ha] 34))
  case first =>
    by_cases hp : po.size = 0
    · have hp' := str_empty hp
      have HK := hide (K0.out hp)
      clear hp
      go_wp2
      all_goals try exact absurd (by assumption : (!po.toList.isEmpty) = true) (by rw [hp']; decide)
      go_meet
      case rel => exact ⟨hn, rfl, HK.out.symm, rfl⟩
    · have hp' := str_nonempty hp
      have HK := hide (K1.out hp)
      clear hp
      go_wp2
      all_goals try exact absurd (by assumption : (!po.toList.isEmpty) = false) (by rw [hp']; decide)
      go_meet
      case rel => exact ⟨hn ++ (⟨#[58]⟩ : ByteArray) ++ po, rfl, by rw [HK.out, tlApp7, tlApp7]; rfl, rfl⟩
  case rest =>
    obtain ⟨hx, rfl, hhx, rfl⟩ := hcut
    have hho := strEq7 hhx.symm
    have hho' : (ho.toList != hx.toList) = false := by simp only [bne, hho]; rfl
    clear hhx
    clear C1 C2 C3 C4 K0 K1 HSP
    by_cases hz : hn.size = 0
    · have KE := K3.out (Or.inl hz)
      have hz' := str_empty hz
      cases sp
      · have hf := neB (KF.out rfl)
        have hf' := neqT7 hf
        clear hz K2 K3 KF
        obtain ⟨e1, e2, e3⟩ := KE
        have e1' := str_empty e1
        have e2' := str_empty e2
        have e3' := str_empty e3
        clear e1 e2 e3
        have CP := hide (begins_any pa ⟨#[47]⟩)
        generalize (decide ((⟨#[47]⟩ : ByteArray).size ≤ pa.size) && ((tl pa).take (⟨#[47]⟩ : ByteArray).size == tl ⟨#[47]⟩)) = bp at CP
        go_upto_region 18 with (first | (go_at_call 37; refine (CP.out _).mono ?_; rintro e w' ⟨rfl, rfl⟩) | fail)
        by_cases hse : se.size = 0
        · have hse' := str_empty hse
          have CS := hide (begins_any se ⟨#[63]⟩)
          generalize (decide ((⟨#[63]⟩ : ByteArray).size ≤ se.size) && ((tl se).take (⟨#[63]⟩ : ByteArray).size == tl ⟨#[63]⟩)) = bs at CS
          clear hse
          by_cases hha : ha.size = 0
          · have hha' := str_empty hha
            have CH := hide (begins_any ha ⟨#[35]⟩)
            generalize (decide ((⟨#[35]⟩ : ByteArray).size ≤ ha.size) && ((tl ha).take (⟨#[35]⟩ : ByteArray).size == tl ⟨#[35]⟩)) = bh at CH
            clear hha
            clear C5 C6 C7
            go_upto_region 19 with (go_at_call 37; refine (CS.out _).mono ?_; rintro e w' ⟨rfl, rfl⟩)
            go_wp2_with (go_at_call 37; refine (CH.out _).mono ?_; rintro e w' ⟨rfl, rfl⟩)
            all_goals go_ret
            all_goals first | exact ⟨rfl, Nx.rfl.alloc _⟩ | exact ⟨ret_bool (decide_eq_true (by omega)), Nx.rfl.alloc _⟩
          · have hha' := str_nonempty hha
            have hha2 := (C7.out hha).1
            have CH := hide (C7.out hha).2
            clear hha
            clear C5 C6 C7
            go_upto_region 19 with (go_at_call 37; refine (CS.out _).mono ?_; rintro e w' ⟨rfl, rfl⟩)
            go_wp2_with (go_at_call 37; refine (CH.out _).mono ?_; rintro e w' ⟨rfl, rfl⟩)
            all_goals go_ret
            all_goals first | exact ⟨rfl, Nx.rfl.alloc _⟩ | exact ⟨ret_bool (decide_eq_true (by omega)), Nx.rfl.alloc _⟩
        · have hse' := str_nonempty hse
          have hse2 := (C6.out hse).1
          have CS := hide (C6.out hse).2
          clear hse
          by_cases hha : ha.size = 0
          · have hha' := str_empty hha
            have CH := hide (begins_any ha ⟨#[35]⟩)
            generalize (decide ((⟨#[35]⟩ : ByteArray).size ≤ ha.size) && ((tl ha).take (⟨#[35]⟩ : ByteArray).size == tl ⟨#[35]⟩)) = bh at CH
            clear hha
            clear C5 C6 C7
            go_upto_region 19 with (go_at_call 37; refine (CS.out _).mono ?_; rintro e w' ⟨rfl, rfl⟩)
            go_wp2_with (go_at_call 37; refine (CH.out _).mono ?_; rintro e w' ⟨rfl, rfl⟩)
            all_goals go_ret
            all_goals first | exact ⟨rfl, Nx.rfl.alloc _⟩ | exact ⟨ret_bool (decide_eq_true (by omega)), Nx.rfl.alloc _⟩
          · have hha' := str_nonempty hha
            have hha2 := (C7.out hha).1
            have CH := hide (C7.out hha).2
            clear hha
            clear C5 C6 C7
            go_upto_region 19 with (go_at_call 37; refine (CS.out _).mono ?_; rintro e w' ⟨rfl, rfl⟩)
            go_wp2_with (go_at_call 37; refine (CH.out _).mono ?_; rintro e w' ⟨rfl, rfl⟩)
            all_goals go_ret
            all_goals first | exact ⟨rfl, Nx.rfl.alloc _⟩ | exact ⟨ret_bool (decide_eq_true (by omega)), Nx.rfl.alloc _⟩
      · have hpf : tl p = fileP := Classical.byContradiction fun hh => K2.out rfl hh hz
        have hf := eqB hpf
        have hf' := neqF7 hf
        clear hz K2 K3 KF hpf
        obtain ⟨e1, e2, e3⟩ := KE
        have e1' := str_empty e1
        have e2' := str_empty e2
        have e3' := str_empty e3
        clear e1 e2 e3
        have CP := hide (C5.out rfl)
        go_upto_region 18 with (first | (go_at_call 37; refine (CP.out _).mono ?_; rintro e w' ⟨rfl, rfl⟩) | fail)
        by_cases hse : se.size = 0
        · have hse' := str_empty hse
          have CS := hide (begins_any se ⟨#[63]⟩)
          generalize (decide ((⟨#[63]⟩ : ByteArray).size ≤ se.size) && ((tl se).take (⟨#[63]⟩ : ByteArray).size == tl ⟨#[63]⟩)) = bs at CS
          clear hse
          by_cases hha : ha.size = 0
          · have hha' := str_empty hha
            have CH := hide (begins_any ha ⟨#[35]⟩)
            generalize (decide ((⟨#[35]⟩ : ByteArray).size ≤ ha.size) && ((tl ha).take (⟨#[35]⟩ : ByteArray).size == tl ⟨#[35]⟩)) = bh at CH
            clear hha
            clear C5 C6 C7
            go_upto_region 19 with (go_at_call 37; refine (CS.out _).mono ?_; rintro e w' ⟨rfl, rfl⟩)
            go_wp2_with (go_at_call 37; refine (CH.out _).mono ?_; rintro e w' ⟨rfl, rfl⟩)
            all_goals go_ret
            all_goals first | exact ⟨rfl, Nx.rfl.alloc _⟩ | exact ⟨ret_bool (decide_eq_true (by omega)), Nx.rfl.alloc _⟩
          · have hha' := str_nonempty hha
            have hha2 := (C7.out hha).1
            have CH := hide (C7.out hha).2
            clear hha
            clear C5 C6 C7
            go_upto_region 19 with (go_at_call 37; refine (CS.out _).mono ?_; rintro e w' ⟨rfl, rfl⟩)
            go_wp2_with (go_at_call 37; refine (CH.out _).mono ?_; rintro e w' ⟨rfl, rfl⟩)
            all_goals go_ret
            all_goals first | exact ⟨rfl, Nx.rfl.alloc _⟩ | exact ⟨ret_bool (decide_eq_true (by omega)), Nx.rfl.alloc _⟩
        · have hse' := str_nonempty hse
          have hse2 := (C6.out hse).1
          have CS := hide (C6.out hse).2
          clear hse
          by_cases hha : ha.size = 0
          · have hha' := str_empty hha
            have CH := hide (begins_any ha ⟨#[35]⟩)
            generalize (decide ((⟨#[35]⟩ : ByteArray).size ≤ ha.size) && ((tl ha).take (⟨#[35]⟩ : ByteArray).size == tl ⟨#[35]⟩)) = bh at CH
            clear hha
            clear C5 C6 C7
            go_upto_region 19 with (go_at_call 37; refine (CS.out _).mono ?_; rintro e w' ⟨rfl, rfl⟩)
            go_wp2_with (go_at_call 37; refine (CH.out _).mono ?_; rintro e w' ⟨rfl, rfl⟩)
            all_goals go_ret
            all_goals first | exact ⟨rfl, Nx.rfl.alloc _⟩ | exact ⟨ret_bool (decide_eq_true (by omega)), Nx.rfl.alloc _⟩
          · have hha' := str_nonempty hha
            have hha2 := (C7.out hha).1
            have CH := hide (C7.out hha).2
            clear hha
            clear C5 C6 C7
            go_upto_region 19 with (go_at_call 37; refine (CS.out _).mono ?_; rintro e w' ⟨rfl, rfl⟩)
            go_wp2_with (go_at_call 37; refine (CH.out _).mono ?_; rintro e w' ⟨rfl, rfl⟩)
            all_goals go_ret
            all_goals first | exact ⟨rfl, Nx.rfl.alloc _⟩ | exact ⟨ret_bool (decide_eq_true (by omega)), Nx.rfl.alloc _⟩
    · have hz' := str_nonempty hz
      by_cases hpf : tl p = fileP
      · have KE := K3.out (Or.inr hpf)
        have hsp : sp = true := by cases sp; exact absurd hpf (KF.out rfl); rfl
        subst hsp
        have hf := eqB hpf
        have hf' := neqF7 hf
        clear hz K2 K3 KF hpf
        obtain ⟨e1, e2, e3⟩ := KE
        have e1' := str_empty e1
        have e2' := str_empty e2
        have e3' := str_empty e3
        clear e1 e2 e3
        have CP := hide (C5.out rfl)
        go_upto_region 18 with (first | (go_at_call 37; refine (CP.out _).mono ?_; rintro e w' ⟨rfl, rfl⟩) | fail)
        by_cases hse : se.size = 0
        · have hse' := str_empty hse
          have CS := hide (begins_any se ⟨#[63]⟩)
          generalize (decide ((⟨#[63]⟩ : ByteArray).size ≤ se.size) && ((tl se).take (⟨#[63]⟩ : ByteArray).size == tl ⟨#[63]⟩)) = bs at CS
          clear hse
          by_cases hha : ha.size = 0
          · have hha' := str_empty hha
            have CH := hide (begins_any ha ⟨#[35]⟩)
            generalize (decide ((⟨#[35]⟩ : ByteArray).size ≤ ha.size) && ((tl ha).take (⟨#[35]⟩ : ByteArray).size == tl ⟨#[35]⟩)) = bh at CH
            clear hha
            clear C5 C6 C7
            go_upto_region 19 with (go_at_call 37; refine (CS.out _).mono ?_; rintro e w' ⟨rfl, rfl⟩)
            go_wp2_with (go_at_call 37; refine (CH.out _).mono ?_; rintro e w' ⟨rfl, rfl⟩)
            all_goals go_ret
            all_goals first | exact ⟨rfl, Nx.rfl.alloc _⟩ | exact ⟨ret_bool (decide_eq_true (by omega)), Nx.rfl.alloc _⟩
          · have hha' := str_nonempty hha
            have hha2 := (C7.out hha).1
            have CH := hide (C7.out hha).2
            clear hha
            clear C5 C6 C7
            go_upto_region 19 with (go_at_call 37; refine (CS.out _).mono ?_; rintro e w' ⟨rfl, rfl⟩)
            go_wp2_with (go_at_call 37; refine (CH.out _).mono ?_; rintro e w' ⟨rfl, rfl⟩)
            all_goals go_ret
            all_goals first | exact ⟨rfl, Nx.rfl.alloc _⟩ | exact ⟨ret_bool (decide_eq_true (by omega)), Nx.rfl.alloc _⟩
        · have hse' := str_nonempty hse
          have hse2 := (C6.out hse).1
          have CS := hide (C6.out hse).2
          clear hse
          by_cases hha : ha.size = 0
          · have hha' := str_empty hha
            have CH := hide (begins_any ha ⟨#[35]⟩)
            generalize (decide ((⟨#[35]⟩ : ByteArray).size ≤ ha.size) && ((tl ha).take (⟨#[35]⟩ : ByteArray).size == tl ⟨#[35]⟩)) = bh at CH
            clear hha
            clear C5 C6 C7
            go_upto_region 19 with (go_at_call 37; refine (CS.out _).mono ?_; rintro e w' ⟨rfl, rfl⟩)
            go_wp2_with (go_at_call 37; refine (CH.out _).mono ?_; rintro e w' ⟨rfl, rfl⟩)
            all_goals go_ret
            all_goals first | exact ⟨rfl, Nx.rfl.alloc _⟩ | exact ⟨ret_bool (decide_eq_true (by omega)), Nx.rfl.alloc _⟩
          · have hha' := str_nonempty hha
            have hha2 := (C7.out hha).1
            have CH := hide (C7.out hha).2
            clear hha
            clear C5 C6 C7
            go_upto_region 19 with (go_at_call 37; refine (CS.out _).mono ?_; rintro e w' ⟨rfl, rfl⟩)
            go_wp2_with (go_at_call 37; refine (CH.out _).mono ?_; rintro e w' ⟨rfl, rfl⟩)
            all_goals go_ret
            all_goals first | exact ⟨rfl, Nx.rfl.alloc _⟩ | exact ⟨ret_bool (decide_eq_true (by omega)), Nx.rfl.alloc _⟩
      · have hf := neB hpf
        have hf' := neqT7 hf
        clear hz K2 K3 KF hpf
        cases sp
        · skip
          have CP := hide (begins_any pa ⟨#[47]⟩)
          generalize (decide ((⟨#[47]⟩ : ByteArray).size ≤ pa.size) && ((tl pa).take (⟨#[47]⟩ : ByteArray).size == tl ⟨#[47]⟩)) = bp at CP
          go_upto_region 18 with (first | (go_at_call 37; refine (CP.out _).mono ?_; rintro e w' ⟨rfl, rfl⟩) | fail)
          by_cases hse : se.size = 0
          · have hse' := str_empty hse
            have CS := hide (begins_any se ⟨#[63]⟩)
            generalize (decide ((⟨#[63]⟩ : ByteArray).size ≤ se.size) && ((tl se).take (⟨#[63]⟩ : ByteArray).size == tl ⟨#[63]⟩)) = bs at CS
            clear hse
            by_cases hha : ha.size = 0
            · have hha' := str_empty hha
              have CH := hide (begins_any ha ⟨#[35]⟩)
              generalize (decide ((⟨#[35]⟩ : ByteArray).size ≤ ha.size) && ((tl ha).take (⟨#[35]⟩ : ByteArray).size == tl ⟨#[35]⟩)) = bh at CH
              clear hha
              clear C5 C6 C7
              go_upto_region 19 with (go_at_call 37; refine (CS.out _).mono ?_; rintro e w' ⟨rfl, rfl⟩)
              go_wp2_with (go_at_call 37; refine (CH.out _).mono ?_; rintro e w' ⟨rfl, rfl⟩)
              all_goals go_ret
              all_goals first | exact ⟨rfl, Nx.rfl.alloc _⟩ | exact ⟨ret_bool (decide_eq_true (by omega)), Nx.rfl.alloc _⟩
            · have hha' := str_nonempty hha
              have hha2 := (C7.out hha).1
              have CH := hide (C7.out hha).2
              clear hha
              clear C5 C6 C7
              go_upto_region 19 with (go_at_call 37; refine (CS.out _).mono ?_; rintro e w' ⟨rfl, rfl⟩)
              go_wp2_with (go_at_call 37; refine (CH.out _).mono ?_; rintro e w' ⟨rfl, rfl⟩)
              all_goals go_ret
              all_goals first | exact ⟨rfl, Nx.rfl.alloc _⟩ | exact ⟨ret_bool (decide_eq_true (by omega)), Nx.rfl.alloc _⟩
          · have hse' := str_nonempty hse
            have hse2 := (C6.out hse).1
            have CS := hide (C6.out hse).2
            clear hse
            by_cases hha : ha.size = 0
            · have hha' := str_empty hha
              have CH := hide (begins_any ha ⟨#[35]⟩)
              generalize (decide ((⟨#[35]⟩ : ByteArray).size ≤ ha.size) && ((tl ha).take (⟨#[35]⟩ : ByteArray).size == tl ⟨#[35]⟩)) = bh at CH
              clear hha
              clear C5 C6 C7
              go_upto_region 19 with (go_at_call 37; refine (CS.out _).mono ?_; rintro e w' ⟨rfl, rfl⟩)
              go_wp2_with (go_at_call 37; refine (CH.out _).mono ?_; rintro e w' ⟨rfl, rfl⟩)
              all_goals go_ret
              all_goals first | exact ⟨rfl, Nx.rfl.alloc _⟩ | exact ⟨ret_bool (decide_eq_true (by omega)), Nx.rfl.alloc _⟩
            · have hha' := str_nonempty hha
              have hha2 := (C7.out hha).1
              have CH := hide (C7.out hha).2
              clear hha
              clear C5 C6 C7
              go_upto_region 19 with (go_at_call 37; refine (CS.out _).mono ?_; rintro e w' ⟨rfl, rfl⟩)
              go_wp2_with (go_at_call 37; refine (CH.out _).mono ?_; rintro e w' ⟨rfl, rfl⟩)
              all_goals go_ret
              all_goals first | exact ⟨rfl, Nx.rfl.alloc _⟩ | exact ⟨ret_bool (decide_eq_true (by omega)), Nx.rfl.alloc _⟩
        · skip
          have CP := hide (C5.out rfl)
          go_upto_region 18 with (first | (go_at_call 37; refine (CP.out _).mono ?_; rintro e w' ⟨rfl, rfl⟩) | fail)
          by_cases hse : se.size = 0
          · have hse' := str_empty hse
            have CS := hide (begins_any se ⟨#[63]⟩)
            generalize (decide ((⟨#[63]⟩ : ByteArray).size ≤ se.size) && ((tl se).take (⟨#[63]⟩ : ByteArray).size == tl ⟨#[63]⟩)) = bs at CS
            clear hse
            by_cases hha : ha.size = 0
            · have hha' := str_empty hha
              have CH := hide (begins_any ha ⟨#[35]⟩)
              generalize (decide ((⟨#[35]⟩ : ByteArray).size ≤ ha.size) && ((tl ha).take (⟨#[35]⟩ : ByteArray).size == tl ⟨#[35]⟩)) = bh at CH
              clear hha
              clear C5 C6 C7
              go_upto_region 19 with (go_at_call 37; refine (CS.out _).mono ?_; rintro e w' ⟨rfl, rfl⟩)
              go_wp2_with (go_at_call 37; refine (CH.out _).mono ?_; rintro e w' ⟨rfl, rfl⟩)
              all_goals go_ret
              all_goals first | exact ⟨rfl, Nx.rfl.alloc _⟩ | exact ⟨ret_bool (decide_eq_true (by omega)), Nx.rfl.alloc _⟩
            · have hha' := str_nonempty hha
              have hha2 := (C7.out hha).1
              have CH := hide (C7.out hha).2
              clear hha
              clear C5 C6 C7
              go_upto_region 19 with (go_at_call 37; refine (CS.out _).mono ?_; rintro e w' ⟨rfl, rfl⟩)
              go_wp2_with (go_at_call 37; refine (CH.out _).mono ?_; rintro e w' ⟨rfl, rfl⟩)
              all_goals go_ret
              all_goals first | exact ⟨rfl, Nx.rfl.alloc _⟩ | exact ⟨ret_bool (decide_eq_true (by omega)), Nx.rfl.alloc _⟩
          · have hse' := str_nonempty hse
            have hse2 := (C6.out hse).1
            have CS := hide (C6.out hse).2
            clear hse
            by_cases hha : ha.size = 0
            · have hha' := str_empty hha
              have CH := hide (begins_any ha ⟨#[35]⟩)
              generalize (decide ((⟨#[35]⟩ : ByteArray).size ≤ ha.size) && ((tl ha).take (⟨#[35]⟩ : ByteArray).size == tl ⟨#[35]⟩)) = bh at CH
              clear hha
              clear C5 C6 C7
              go_upto_region 19 with (go_at_call 37; refine (CS.out _).mono ?_; rintro e w' ⟨rfl, rfl⟩)
              go_wp2_with (go_at_call 37; refine (CH.out _).mono ?_; rintro e w' ⟨rfl, rfl⟩)
              all_goals go_ret
              all_goals first | exact ⟨rfl, Nx.rfl.alloc _⟩ | exact ⟨ret_bool (decide_eq_true (by omega)), Nx.rfl.alloc _⟩
            · have hha' := str_nonempty hha
              have hha2 := (C7.out hha).1
              have CH := hide (C7.out hha).2
              clear hha
              clear C5 C6 C7
              go_upto_region 19 with (go_at_call 37; refine (CS.out _).mono ?_; rintro e w' ⟨rfl, rfl⟩)
              go_wp2_with (go_at_call 37; refine (CH.out _).mono ?_; rintro e w' ⟨rfl, rfl⟩)
              all_goals go_ret
              all_goals first | exact ⟨rfl, Nx.rfl.alloc _⟩ | exact ⟨ret_bool (decide_eq_true (by omega)), Nx.rfl.alloc _⟩
end Go.Proofs.YtchkhibgbnhjpaaGreatDoor
