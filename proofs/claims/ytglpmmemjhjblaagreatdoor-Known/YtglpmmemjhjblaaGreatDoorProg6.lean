import Derived.Test.YtglpmmemjhjblaaGreatDoorProg5
namespace Go.Proofs.YtglpmmemjhjblaaGreatDoor
open Go.RowKit

theorem app_str {ops : Array Oper} {rest : List Oper} {o : Oper} {a : Act} {Q : Exit → Act → World → Prop} (w : World) (q : ByteArray)
    (hgd : o.guard = none) (s x : Operand) (ho : o.op = .call { callee := .builtin .append, args := #[s, x], argTypes := #[104, 9] })
    (base : Nat) (v : Value) (l : List UInt8) (hs : a.eval s = v) (hown : OwnB w base v l) (hx : a.eval x = .string q)
    (hn : l.length + q.size < 1099511627776) (hbase : base ≤ w.heap.size)
    (h : ∀ v' w', OwnB w' base v' (l ++ tl q) → Below base w w' → Kp 5 w w' → wpList Tryz.prog ops Q rest (a.put o.dst v') w') : wpList Tryz.prog ops Q (o :: rest) a w := by
  obtain ⟨i, hi, hz0, hz1, hz2⟩ := info_parts infoU8
  refine Lib.wpList_append_own_string w hgd s x _ _ ho base _ i Tryz.underlying104 Tryz.underlying9 hi hz0 hz1 hz2 v l.length _ hs hown q hx (by unfold maxLen; omega) (by omega) hbase ?_
  intro v' w' h2 h3 _
  refine h v' w' ?_ ((Below.refl base w).grown h3 hbase (fun k hk => (hown.lt k hk).1)) (kp_grown hown h3)
  rw [Lib.strCells_eq, ← Lib.byteCells_append] at h2
  unfold OwnB
  rw [List.length_append, tl_length]
  exact h2

/-- points.Clean -/
def clean (l : List UInt8) : List UInt8 :=
  match l with
  | [] => []
  | c :: r => (if (measure (c :: r)).2 then (c :: r).take (measure (c :: r)).1 else [239, 191, 189]) ++ clean (r.drop ((measure (c :: r)).1 - 1))
termination_by l.length
decreasing_by simp; omega
theorem measure_fst (c : UInt8) (r : List UInt8) : (measure (c :: r)).1 = measGo (follow (c.toNat : Int)).1 (follow (c.toNat : Int)).2.1 (follow (c.toNat : Int)).2.2 1 r := by rw [measure]
theorem measure_rng (c : UInt8) (r : List UInt8) : 1 ≤ (measure (c :: r)).1 ∧ (measure (c :: r)).1 ≤ r.length + 1 := by
  have h := measGo_rng (follow (c.toNat : Int)).1 (follow (c.toNat : Int)).2.1 (follow (c.toNat : Int)).2.2 1 r
  rw [measure_fst]
  omega
theorem clean_cons (c : UInt8) (r : List UInt8) : clean (c :: r) = (if (measure (c :: r)).2 then (c :: r).take (measure (c :: r)).1 else [239, 191, 189]) ++ clean (r.drop ((measure (c :: r)).1 - 1)) := by
  conv => lhs; unfold clean
theorem clean_nil : clean [] = [] := by unfold clean; rfl
theorem clean_step (l : List UInt8) (hl : l ≠ []) : clean l = (if (measure l).2 then l.take (measure l).1 else [239, 191, 189]) ++ clean (l.drop (measure l).1) := by
  cases l with
  | nil => exact absurd rfl hl
  | cons c r =>
    have hr := measure_rng c r
    rw [clean_cons]
    generalize measure (c :: r) = q at *
    obtain ⟨m, good⟩ := q
    obtain ⟨k, hk⟩ : ∃ k, m = k + 1 := ⟨m - 1, by simp only at hr; omega⟩
    subst hk
    simp only [List.drop_succ_cons, Nat.add_sub_cancel]
theorem measure_le {l : List UInt8} (hl : l ≠ []) : 1 ≤ (measure l).1 ∧ (measure l).1 ≤ l.length := by
  cases l with
  | nil => exact absurd rfl hl
  | cons c r => rw [List.length_cons]; exact measure_rng c r

set_option maxHeartbeats 800000 in
theorem clean_any (s : ByteArray) (w : World) (hs : s.size ≤ 1000000) :
    Calls Tryz.prog 75 #[.string s] w fun e w' => ∃ r : ByteArray, e = .returned (.string r) ∧ tl r = clean (tl s) ∧ Nx w w' := by
  go_enter Tryz.func75, Tryz.ntmps75
  go_wp2
  go_loopw [3, 4] (fun o i wr => ∃ (k : Nat) (P : List UInt8), k ≤ s.size ∧ i = .int .i64 k ∧ clean (tl s) = P ++ clean ((tl s).drop k) ∧ OwnB wr w.heap.size o P ∧ P.length ≤ 3 * k ∧ Nx w wr) (fun _ i _ => s.size - (intOf i).toNat)
  case atStart => exact ⟨0, [], Nat.zero_le _, rfl, by simp, own_start w, by simp, Nx.rfl.alloc _⟩
  case round =>
    obtain ⟨k, P, hk, rfl, hE, hown, hP, hnx⟩ := hrel
    by_cases hlt : k < s.size
    · have HE := hide hE
      have HO := hide hown
      have HN := hide hnx
      have hz := hnx.size
      clear hE hown hnx
      obtain ⟨L, hL⟩ : ∃ L, (tl s).drop k = L := ⟨_, rfl⟩
      have hLl : L.length = s.size - k := by rw [← hL, List.length_drop, tl_length]
      have hLne : L ≠ [] := by intro h; rw [h] at hLl; simp at hLl; omega
      have HST := hide (clean_step L hLne)
      obtain ⟨hm1, hm2⟩ := measure_le hLne
      have HX := hide (show tl (s.extract k s.size) = L by rw [tl_from, hL])
      have HX2 := hide (show ∀ n, tl (s.extract k (k + n)) = L.take n from fun n => by rw [tl_extract, List.drop_take, hL]; congr 1; omega)
      have HLK := hide hL.symm
      rw [hL] at HE
      clear hL hLne
      go_wp2_with fail
      refine (measure_any _ _ (by simp; omega) (by simp; omega)).mono ?_
      rintro e w' ⟨rfl, rfl⟩
      rw [HX.out]
      generalize hq : measure L = q at *
      clear hq
      obtain ⟨m, good⟩ := q
      simp only at hm1 hm2 HST
      cases good
      · go_wp2_with (at_builtin; go_must (refine app_str wr ⟨#[239, 191, 189]⟩ rfl _ _ rfl w.heap.size u3 P rfl HO.out rfl (by show P.length + 3 < _; omega) hz ?_; intro v' w2 ho2 hb2 _; have HO2 := hide ho2; clear ho2))
        go_roundw
        case rel => exact ⟨k + m, P ++ [239, 191, 189], by omega, by go_num, by rw [HE.out, HST.out, List.append_assoc, HLK.out, List.drop_drop]; rfl, HO2.out, by simp; omega, HN.out.trans hb2⟩
        case measure => simp [intOf]; omega
      · have hsz : (s.extract k (k + m)).size ≤ m := by simp; omega
        go_wp2_with (at_builtin; go_must (refine app_str wr (s.extract k (k + m)) rfl _ _ rfl w.heap.size u3 P rfl HO.out rfl (by omega) hz ?_; intro v' w2 ho2 hb2 _; have HO2 := hide ho2; clear ho2))
        go_roundw
        case rel => exact ⟨k + m, P ++ L.take m, by omega, by go_num, by rw [HE.out, HST.out, List.append_assoc, HLK.out, List.drop_drop]; rfl, by rw [← HX2.out m]; exact HO2.out, by simp; omega, HN.out.trans hb2⟩
        case measure => simp [intOf]; omega
    · rw [tl_drop_all s k (by omega)] at hE
      have hcv := conv_own hown
      clear hown
      go_wp2
      go_ret
      exact ⟨_, rfl, by rw [hE, tl_mk, clean_nil, List.append_nil], hnx⟩
end Go.Proofs.YtglpmmemjhjblaaGreatDoor
