import Derived.Test.YtchkhibgbnhjpaaGreatDoorPgA
namespace Go.Proofs.YtchkhibgbnhjpaaGreatDoor
open Go.RowKit

/-- points.follow -/
def follow (b : Int) : Int × Int × Int :=
  if b < 128 then (1, 0, 0) else if b < 194 then (0, 0, 0) else if b < 224 then (2, 128, 191) else if b = 224 then (3, 160, 191) else if b = 237 then (3, 128, 159)
  else if b < 240 then (3, 128, 191) else if b = 240 then (4, 144, 191) else if b < 244 then (4, 128, 191) else if b = 244 then (4, 128, 143) else (0, 0, 0)
theorem follow_rng (b : Int) : 0 ≤ (follow b).1 ∧ (follow b).1 ≤ 4 ∧ 0 ≤ (follow b).2.1 ∧ (follow b).2.1 ≤ 191 ∧ 0 ≤ (follow b).2.2 ∧ (follow b).2.2 ≤ 191 := by
  unfold follow; repeat (first | (refine ⟨?_, ?_, ?_, ?_, ?_, ?_⟩ <;> decide) | split)
set_option maxRecDepth 100000 in
set_option maxHeartbeats 800000 in
theorem follow_any (b : Int) (w : World) :
    Calls Tryz.prog 148 #[.int .u8 b] w fun e w' => e = .returned (.tuple #[.int .i64 (follow b).1, .int .u8 (follow b).2.1, .int .u8 (follow b).2.2]) ∧ w = w' := by
  have go : ∀ q, follow b = q → (Calls Tryz.prog 148 #[.int .u8 b] w fun e w' => e = .returned (.tuple #[.int .i64 q.1, .int .u8 q.2.1, .int .u8 q.2.2]) ∧ w = w') → Calls Tryz.prog 148 #[.int .u8 b] w fun e w' => e = .returned (.tuple #[.int .i64 (follow b).1, .int .u8 (follow b).2.1, .int .u8 (follow b).2.2]) ∧ w = w' := by
    intro q h hc
    rw [h]
    exact hc
  by_cases a1 : b < 128
  · refine go _ (if_pos a1) ?_
    go_enter Tryz.func148, Tryz.ntmps148
    go_wp2
    go_ret3
    exact ⟨rfl, rfl⟩
  by_cases a2 : b < 194
  · refine go (0, 0, 0) (by unfold follow; rw [if_neg a1, if_pos a2]) ?_
    go_enter Tryz.func148, Tryz.ntmps148
    go_wp2
    go_ret3
    exact ⟨rfl, rfl⟩
  by_cases a3 : b < 224
  · refine go (2, 128, 191) (by unfold follow; rw [if_neg a1, if_neg a2, if_pos a3]) ?_
    clear a1
    go_enter Tryz.func148, Tryz.ntmps148
    go_wp2
    go_ret3
    exact ⟨rfl, rfl⟩
  by_cases a4 : b = 224
  · subst a4
    go_enter Tryz.func148, Tryz.ntmps148
    go_wp2
    go_ret3
    exact ⟨rfl, rfl⟩
  by_cases a5 : b = 237
  · subst a5
    go_enter Tryz.func148, Tryz.ntmps148
    go_wp2
    go_ret3
    exact ⟨rfl, rfl⟩
  have a4' : (b == 224) = false := by simp [a4]
  have a5' : (b == 237) = false := by simp [a5]
  by_cases a6 : b < 240
  · refine go (3, 128, 191) (by unfold follow; rw [if_neg a1, if_neg a2, if_neg a3, if_neg a4, if_neg a5, if_pos a6]) ?_
    clear a1 a2 a4 a5
    go_enter Tryz.func148, Tryz.ntmps148
    go_wp2
    go_ret3
    exact ⟨rfl, rfl⟩
  by_cases a7 : b = 240
  · subst a7
    go_enter Tryz.func148, Tryz.ntmps148
    go_wp2
    go_ret3
    exact ⟨rfl, rfl⟩
  have a7' : (b == 240) = false := by simp [a7]
  by_cases a8 : b < 244
  · refine go (4, 128, 191) (by unfold follow; rw [if_neg a1, if_neg a2, if_neg a3, if_neg a4, if_neg a5, if_neg a6, if_neg a7, if_pos a8]) ?_
    clear a1 a2 a3 a4 a5 a7
    go_enter Tryz.func148, Tryz.ntmps148
    go_wp2
    go_ret3
    exact ⟨rfl, rfl⟩
  by_cases a9 : b = 244
  · subst a9
    go_enter Tryz.func148, Tryz.ntmps148
    go_wp2
    go_ret3
    exact ⟨rfl, rfl⟩
  have a9' : (b == 244) = false := by simp [a9]
  refine go (0, 0, 0) (by unfold follow; rw [if_neg a1, if_neg a2, if_neg a3, if_neg a4, if_neg a5, if_neg a6, if_neg a7, if_neg a8, if_neg a9]) ?_
  clear a1 a2 a3 a4 a5 a6 a7 a9
  go_enter Tryz.func148, Tryz.ntmps148
  go_wp2
  go_ret3
  exact ⟨rfl, rfl⟩

/-- points.measure -/
def measGo (want : Int) : Int → Int → Nat → List UInt8 → Nat
  | _, _, size, [] => size
  | low, high, size, c :: r => if (size : Int) < want ∧ low ≤ (c.toNat : Int) ∧ (c.toNat : Int) ≤ high then measGo want 128 191 (size + 1) r else size
def measure (l : List UInt8) : Nat × Bool :=
  match l with
  | [] => (0, false)
  | c :: r => (measGo (follow c.toNat).1 (follow c.toNat).2.1 (follow c.toNat).2.2 1 r, (measGo (follow c.toNat).1 (follow c.toNat).2.1 (follow c.toNat).2.2 1 r : Int) == (follow c.toNat).1)
theorem measGo_rng (want low high : Int) (size : Nat) (l : List UInt8) : size ≤ measGo want low high size l ∧ measGo want low high size l ≤ size + l.length := by
  induction l generalizing low high size with
  | nil => simp [measGo]
  | cons c r ih =>
    rw [measGo]
    split
    · have := ih 128 191 (size + 1)
      simp only [List.length_cons]
      omega
    · simp
set_option maxRecDepth 100000 in
set_option maxHeartbeats 800000 in
theorem measure_any (s : ByteArray) (w : World) (hs : s.size ≤ 1000000) (h0 : 0 < s.size) :
    Calls Tryz.prog 109 #[.string s] w fun e w' => e = .returned (.tuple #[.int .i64 (measure (tl s)).1, .bool (measure (tl s)).2]) ∧ w = w' := by
  have hne := str_nonempty (s := s) (by omega)
  have hl0 := tl_drop s 0 h0
  simp only [List.drop_zero, Nat.zero_add] at hl0
  have hb0 := bb s[0]
  obtain ⟨q, hq⟩ : ∃ q, follow (s[0].toNat : Int) = q := ⟨_, rfl⟩
  have hrng := follow_rng (s[0].toNat : Int)
  have HE0 := hide (show measure (tl s) = (measGo q.1 q.2.1 q.2.2 1 ((tl s).drop 1), (measGo q.1 q.2.1 q.2.2 1 ((tl s).drop 1) : Int) == q.1) by rw [hl0, measure, hq]; rfl)
  rw [hq] at hrng
  have HQ := hide hq
  clear hq hl0
  obtain ⟨want, low, high⟩ := q
  simp only at hrng HE0
  obtain ⟨r0, r1, r2, r3, r4, r5⟩ := hrng
  go_enter Tryz.func109, Tryz.ntmps109
  go_wp2_with (go_at_call 148; refine (follow_any _ _).mono ?_; rintro e w' ⟨rfl, rfl⟩; rw [HQ.out])
  go_loop [5, 6, 7] (fun x y z => ∃ (lo hi : Int) (k : Nat), 1 ≤ k ∧ k ≤ s.size ∧ x = .int .u8 lo ∧ y = .int .u8 hi ∧ z = .int .i64 k ∧ measGo want low high 1 ((tl s).drop 1) = measGo want lo hi k ((tl s).drop k)) (fun _ _ z => s.size - (intOf z).toNat)
  case atStart => exact ⟨low, high, 1, by omega, by omega, rfl, rfl, rfl, rfl⟩
  case round =>
    obtain ⟨lo, hi, k, hk1, hk, rfl, rfl, rfl, hE⟩ := hrel
    have HE := hide hE
    clear hE
    by_cases hlt : k < s.size
    · have hbk := bb s[k]
      have HS := hide (show measGo want lo hi k ((tl s).drop k) = if (k : Int) < want ∧ lo ≤ (s[k].toNat : Int) ∧ (s[k].toNat : Int) ≤ hi then measGo want 128 191 (k + 1) ((tl s).drop (k + 1)) else k by rw [tl_drop s k hlt, measGo])
      by_cases hc : (k : Int) < want ∧ lo ≤ (s[k].toNat : Int) ∧ (s[k].toNat : Int) ≤ hi
      · have HF := hide (HE.out.trans (HS.out.trans (if_pos hc)))
        obtain ⟨c1, c2, c3⟩ := hc
        go_wp2
        go_round
        case rel => exact ⟨128, 191, k + 1, by omega, by omega, rfl, rfl, by go_num, HF.out⟩
        case measure => simp [intOf]; omega
      · have HF := hide (show measure (tl s) = (k, (k : Int) == want) by rw [HE0.out, HE.out, HS.out, if_neg hc])
        by_cases c1 : (k : Int) < want
        · by_cases c2 : lo ≤ (s[k].toNat : Int)
          · have c3 : hi < (s[k].toNat : Int) := by omega
            clear hc
            go_wp2
            go_ret2
            exact ⟨by rw [HF.out]; rfl, rfl⟩
          · clear hc
            go_wp2
            go_ret2
            exact ⟨by rw [HF.out]; rfl, rfl⟩
        · clear hc
          go_wp2
          go_ret2
          exact ⟨by rw [HF.out]; rfl, rfl⟩
    · have HF := hide (show measure (tl s) = (k, (k : Int) == want) by rw [HE0.out, HE.out, tl_drop_all s k (by omega), measGo])
      by_cases c1 : (k : Int) < want
      · go_wp2
        go_ret2
        exact ⟨by rw [HF.out]; rfl, rfl⟩
      · go_wp2
        go_ret2
        exact ⟨by rw [HF.out]; rfl, rfl⟩
end Go.Proofs.YtchkhibgbnhjpaaGreatDoor

namespace Go.Proofs.YtchkhibgbnhjpaaGreatDoor
open Go.RowKit

theorem app_str {ops : Array Oper} {rest : List Oper} {o : Oper} {a : Act} {Q : Exit → Act → World → Prop} (w : World) (q : ByteArray)
    (hgd : o.guard = none) (s x : Operand) (ho : o.op = .call { callee := .builtin .append, args := #[s, x], argTypes := #[109, 9] })
    (base : Nat) (v : Value) (l : List UInt8) (hs : a.eval s = v) (hown : OwnB w base v l) (hx : a.eval x = .string q)
    (hn : l.length + q.size < 1099511627776) (hbase : base ≤ w.heap.size)
    (h : ∀ v' w', OwnB w' base v' (l ++ tl q) → Below base w w' → Kp 5 w w' → wpList Tryz.prog ops Q rest (a.put o.dst v') w') : wpList Tryz.prog ops Q (o :: rest) a w := by
  obtain ⟨i, hi, hz0, hz1, hz2⟩ := info_parts infoU8
  refine Lib.wpList_append_own_string w hgd s x _ _ ho base _ i Tryz.underlying109 Tryz.underlying9 hi hz0 hz1 hz2 v l.length _ hs hown q hx (by unfold maxLen; omega) (by omega) hbase ?_
  intro v' w' h2 h3 _
  refine h v' w' ?_ ((Below.refl base w).grown h3 hbase (fun k hk => (hown.lt k hk).1)) (kp_grown hown h3)
  rw [Lib.strCells_eq, ← Lib.byteCells_append] at h2
  unfold OwnB
  rw [List.length_append, tl_length]
  exact h2

/-- points.Clean -/
def clean (l : List UInt8) : List UInt8 :=
  match l with
  | [] => []
  | c :: r => (if (measure (c :: r)).2 then (c :: r).take (measure (c :: r)).1 else [239, 191, 189]) ++ clean (r.drop ((measure (c :: r)).1 - 1))
termination_by l.length
decreasing_by simp; omega
theorem measure_fst (c : UInt8) (r : List UInt8) : (measure (c :: r)).1 = measGo (follow (c.toNat : Int)).1 (follow (c.toNat : Int)).2.1 (follow (c.toNat : Int)).2.2 1 r := by rw [measure]
theorem measure_rng (c : UInt8) (r : List UInt8) : 1 ≤ (measure (c :: r)).1 ∧ (measure (c :: r)).1 ≤ r.length + 1 := by
  have h := measGo_rng (follow (c.toNat : Int)).1 (follow (c.toNat : Int)).2.1 (follow (c.toNat : Int)).2.2 1 r
  rw [measure_fst]
  omega
theorem clean_cons (c : UInt8) (r : List UInt8) : clean (c :: r) = (if (measure (c :: r)).2 then (c :: r).take (measure (c :: r)).1 else [239, 191, 189]) ++ clean (r.drop ((measure (c :: r)).1 - 1)) := by
  conv => lhs; unfold clean
theorem clean_nil : clean [] = [] := by unfold clean; rfl
theorem clean_step (l : List UInt8) (hl : l ≠ []) : clean l = (if (measure l).2 then l.take (measure l).1 else [239, 191, 189]) ++ clean (l.drop (measure l).1) := by
  cases l with
  | nil => exact absurd rfl hl
  | cons c r =>
    have hr := measure_rng c r
    rw [clean_cons]
    generalize measure (c :: r) = q at *
    obtain ⟨m, good⟩ := q
    obtain ⟨k, hk⟩ : ∃ k, m = k + 1 := ⟨m - 1, by simp only at hr; omega⟩
    subst hk
    simp only [List.drop_succ_cons, Nat.add_sub_cancel]
theorem measure_le {l : List UInt8} (hl : l ≠ []) : 1 ≤ (measure l).1 ∧ (measure l).1 ≤ l.length := by
  cases l with
  | nil => exact absurd rfl hl
  | cons c r => rw [List.length_cons]; exact measure_rng c r

set_option maxHeartbeats 800000 in
theorem clean_any (s : ByteArray) (w : World) (hs : s.size ≤ 1000000) :
    Calls Tryz.prog 82 #[.string s] w fun e w' => ∃ r : ByteArray, e = .returned (.string r) ∧ tl r = clean (tl s) ∧ Nx w w' := by
  go_enter Tryz.func82, Tryz.ntmps82
  go_wp2
  go_loopw [3, 4] (fun o i wr => ∃ (k : Nat) (P : List UInt8), k ≤ s.size ∧ i = .int .i64 k ∧ clean (tl s) = P ++ clean ((tl s).drop k) ∧ OwnB wr w.heap.size o P ∧ P.length ≤ 3 * k ∧ Nx w wr) (fun _ i _ => s.size - (intOf i).toNat)
  case atStart => exact ⟨0, [], Nat.zero_le _, rfl, by simp, own_start w, by simp, Nx.rfl.alloc _⟩
  case round =>
    obtain ⟨k, P, hk, rfl, hE, hown, hP, hnx⟩ := hrel
    by_cases hlt : k < s.size
    · have HE := hide hE
      have HO := hide hown
      have HN := hide hnx
      have hz := hnx.size
      clear hE hown hnx
      obtain ⟨L, hL⟩ : ∃ L, (tl s).drop k = L := ⟨_, rfl⟩
      have hLl : L.length = s.size - k := by rw [← hL, List.length_drop, tl_length]
      have hLne : L ≠ [] := by intro h; rw [h] at hLl; simp at hLl; omega
      have HST := hide (clean_step L hLne)
      obtain ⟨hm1, hm2⟩ := measure_le hLne
      have HX := hide (show tl (s.extract k s.size) = L by rw [tl_from, hL])
      have HX2 := hide (show ∀ n, tl (s.extract k (k + n)) = L.take n from fun n => by rw [tl_extract, List.drop_take, hL]; congr 1; omega)
      have HLK := hide hL.symm
      rw [hL] at HE
      clear hL hLne
      go_wp2_with fail
      refine (measure_any _ _ (by simp; omega) (by simp; omega)).mono ?_
      rintro e w' ⟨rfl, rfl⟩
      rw [HX.out]
      generalize hq : measure L = q at *
      clear hq
      obtain ⟨m, good⟩ := q
      simp only at hm1 hm2 HST
      cases good
      · go_wp2_with (at_builtin; go_must (refine app_str wr ⟨#[239, 191, 189]⟩ rfl _ _ rfl w.heap.size u3 P rfl HO.out rfl (by show P.length + 3 < _; omega) hz ?_; intro v' w2 ho2 hb2 _; have HO2 := hide ho2; clear ho2))
        go_roundw
        case rel => exact ⟨k + m, P ++ [239, 191, 189], by omega, by go_num, by rw [HE.out, HST.out, List.append_assoc, HLK.out, List.drop_drop]; rfl, HO2.out, by simp; omega, HN.out.trans hb2⟩
        case measure => simp [intOf]; omega
      · have hsz : (s.extract k (k + m)).size ≤ m := by simp; omega
        go_wp2_with (at_builtin; go_must (refine app_str wr (s.extract k (k + m)) rfl _ _ rfl w.heap.size u3 P rfl HO.out rfl (by omega) hz ?_; intro v' w2 ho2 hb2 _; have HO2 := hide ho2; clear ho2))
        go_roundw
        case rel => exact ⟨k + m, P ++ L.take m, by omega, by go_num, by rw [HE.out, HST.out, List.append_assoc, HLK.out, List.drop_drop]; rfl, by rw [← HX2.out m]; exact HO2.out, by simp; omega, HN.out.trans hb2⟩
        case measure => simp [intOf]; omega
    · rw [tl_drop_all s k (by omega)] at hE
      have hcv := conv_own hown
      clear hown
      go_wp2
      go_ret
      exact ⟨_, rfl, by rw [hE, tl_mk, clean_nil, List.append_nil], hnx⟩
end Go.Proofs.YtchkhibgbnhjpaaGreatDoor

namespace Go.Proofs.YtchkhibgbnhjpaaGreatDoor
open Go.RowKit

/-- percent.members -/
def setBA (n : Int) : ByteArray :=
  if n = 1 then ⟨#[32, 34, 60, 62, 96]⟩ else if n = 2 then ⟨#[32, 34, 35, 60, 62]⟩ else if n = 3 then ⟨#[32, 34, 35, 60, 62, 39]⟩
  else if n = 4 then ⟨#[32, 34, 35, 60, 62, 63, 94, 123, 125, 96]⟩ else if n = 5 then ⟨#[32, 34, 35, 60, 62, 63, 94, 123, 125, 96, 47, 58, 59, 61, 64, 91, 92, 93, 124]⟩
  else if n = 6 then ⟨#[32, 34, 35, 60, 62, 63, 94, 123, 125, 96, 47, 58, 59, 61, 64, 91, 92, 93, 124, 36, 37, 38, 43, 44]⟩
  else if n = 7 then ⟨#[32, 34, 35, 60, 62, 63, 94, 123, 125, 96, 47, 58, 59, 61, 64, 91, 92, 93, 124, 36, 37, 38, 43, 44, 33, 39, 40, 41, 126]⟩ else ⟨#[]⟩
theorem setBA_len (n : Int) : (setBA n).size ≤ 40 := by unfold setBA; repeat (first | decide | split)
set_option maxHeartbeats 800000 in
theorem members_any (n : Int) (w : World) :
    Calls Tryz.prog 116 #[.int .i64 n] w fun e w' => e = .returned (.string (setBA n)) ∧ w = w' := by
  by_cases h1 : n = 1
  · subst h1
    go_enter Tryz.func116, Tryz.ntmps116
    go_wp2
    go_ret
    exact ⟨rfl, rfl⟩
  by_cases h2 : n = 2
  · subst h2
    go_enter Tryz.func116, Tryz.ntmps116
    go_wp2
    go_ret
    exact ⟨rfl, rfl⟩
  by_cases h3 : n = 3
  · subst h3
    go_enter Tryz.func116, Tryz.ntmps116
    go_wp2
    go_ret
    exact ⟨rfl, rfl⟩
  by_cases h4 : n = 4
  · subst h4
    go_enter Tryz.func116, Tryz.ntmps116
    go_wp2
    go_ret
    exact ⟨rfl, rfl⟩
  by_cases h5 : n = 5
  · subst h5
    go_enter Tryz.func116, Tryz.ntmps116
    go_wp2
    go_ret
    exact ⟨rfl, rfl⟩
  by_cases h6 : n = 6
  · subst h6
    go_enter Tryz.func116, Tryz.ntmps116
    go_wp2
    go_ret
    exact ⟨rfl, rfl⟩
  by_cases h7 : n = 7
  · subst h7
    go_enter Tryz.func116, Tryz.ntmps116
    go_wp2
    go_ret
    exact ⟨rfl, rfl⟩
  · have HE := hide (show setBA n = ⟨#[]⟩ by simp [setBA, h1, h2, h3, h4, h5, h6, h7])
    have b1 : (n == 1) = false := by simp [h1]
    have b2 : (n == 2) = false := by simp [h2]
    have b3 : (n == 3) = false := by simp [h3]
    have b4 : (n == 4) = false := by simp [h4]
    have b5 : (n == 5) = false := by simp [h5]
    have b6 : (n == 6) = false := by simp [h6]
    have b7 : (n == 7) = false := by simp [h7]
    clear h1 h2 h3 h4 h5 h6 h7
    go_enter Tryz.func116, Tryz.ntmps116
    go_wp2
    go_ret
    exact ⟨ret_str HE.out.symm, rfl⟩

theorem clean_len (l : List UInt8) : (clean l).length ≤ 3 * l.length := by
  generalize hn : l.length = n
  induction n using Nat.strongRecOn generalizing l with
  | ind n ih =>
    cases l with
    | nil => rw [clean_nil]; simp
    | cons c r =>
      obtain ⟨h1, h2⟩ := measure_le (l := c :: r) (by simp)
      rw [clean_step (c :: r) (by simp)]
      have h3 := ih ((c :: r).drop (measure (c :: r)).1).length (by rw [List.length_drop]; omega) _ rfl
      rw [List.length_drop] at h3
      rw [List.length_append]
      split
      · rw [List.length_take]; omega
      · simp only [List.length_cons, List.length_nil]; omega

/-- percent.Encode -/
def encByte (set : List UInt8) (b : UInt8) : List UInt8 :=
  if (b.toNat : Int) < 32 ∨ 126 < (b.toNat : Int) ∨ among (b.toNat : Int) set = true then [37, toB (capital ((b.toNat : Int) / 16)), toB (capital ((b.toNat : Int) % 16))] else [b]
def encB (set l : List UInt8) : List UInt8 := l.flatMap (encByte set)
theorem encB_snoc (set l : List UInt8) (b : UInt8) : encB set (l ++ [b]) = encB set l ++ encByte set b := by simp [encB]
theorem encB_len (set l : List UInt8) : (encB set l).length ≤ 3 * l.length := by
  induction l with
  | nil => simp [encB]
  | cons c r ih =>
    have h : (encByte set c).length ≤ 3 := by unfold encByte; split <;> simp
    simp only [encB, List.flatMap_cons, List.length_append, List.length_cons] at *
    omega
theorem cap_rng {n : Int} (h0 : 0 ≤ n) (h1 : n < 16) : 0 ≤ capital n ∧ capital n ≤ 255 := by unfold capital; split <;> omega
theorem app_byte3 {ops : Array Oper} {rest : List Oper} {o : Oper} {a : Act} {Q : Exit → Act → World → Prop} (w : World) (y1 y2 : Int) (h10 : 0 ≤ y1) (h11 : y1 ≤ 255) (h20 : 0 ≤ y2) (h21 : y2 ≤ 255)
    (hgd : o.guard = none) (s x : Operand) (ho : o.op = .call { callee := .builtin .append, args := #[s, x], argTypes := #[109, 109] })
    (base : Nat) (v : Value) (l : List UInt8) (hs : a.eval s = v) (hown : OwnB w base v l) (hx : a.eval x = .slice (some ⟨w.heap.size, 0, none⟩) 3 3)
    (hn : l.length < 1000000000000) (hbase : base ≤ w.heap.size)
    (h : ∀ v' w', OwnB w' base v' (l ++ [37, toB y1, toB y2]) → Below base w w' → Kp 5 w w' → wpList Tryz.prog ops Q rest (a.put o.dst v') w') :
    wpList Tryz.prog ops Q (o :: rest) a (w.alloc (.cells #[.int .u8 37, .int .u8 y1, .int .u8 y2] 5)) := by
  refine app_one _ _ _ (.int .u8 0) 1 Tryz.underlying109 infoU8 rfl hgd s x ho base v l.length _ hs (World.ownsRow.alloc hown _) ⟨w.heap.size, 0, none⟩ 3 3 [.int .u8 37, .int .u8 y1, .int .u8 y2] hx rfl (three_cells (by simp) (by simp) (by simp)) (by simp [Value.oneCell']) (by omega) (by decide) (by simp; omega) ?_
  intro v' w' q1 q2 q3
  refine h v' w' ?_ (((Below.refl base w).alloc hbase _).trans q2) ((Kp.rfl.alloc _).then q3)
  have e2 : Lib.byteCells [37, toB y1, toB y2] = [.int .u8 37, .int .u8 y1, .int .u8 y2] := by simp only [Lib.byteCells, List.map_cons, List.map_nil, toB_toNat h10 h11, toB_toNat h20 h21]; rfl
  unfold OwnB
  rw [List.length_append, Lib.byteCells_append, e2]
  exact q1
set_option maxHeartbeats 2000000 in
theorem encode_any (s : ByteArray) (n : Int) (w : World) (hs : s.size ≤ 1000000) :
    Calls Tryz.prog 87 #[.string s, .int .i64 n] w fun e w' => ∃ r : ByteArray, e = .returned (.string r) ∧ tl r = encB (tl (setBA n)) (clean (tl s)) ∧ Nx w w' := by
  have hset := setBA_len n
  generalize hS : setBA n = set at *
  have HS := hide hS
  clear hS
  go_enter Tryz.func87, Tryz.ntmps87
  go_wp2_with fail
  refine (clean_any _ _ hs).mono ?_
  rintro e w1 ⟨c, rfl, hc, hn1⟩
  have hcs : c.size ≤ 3000000 := by have h := clean_len (tl s); rw [← hc, tl_length, tl_length] at h; omega
  have HCL := hide hc
  clear hc
  go_wp2_with (go_at_call 116; refine (members_any _ _).mono ?_; rintro e w' ⟨rfl, rfl⟩; rw [HS.out])
  go_loopw [7, 8] (fun o i wr => ∃ k : Nat, k ≤ c.size ∧ i = .int .i64 k ∧ OwnB wr w1.heap.size o (encB (tl set) ((tl c).take k)) ∧ Nx w1 wr) (fun _ i _ => c.size - (intOf i).toNat)
  case atStart => exact ⟨0, Nat.zero_le _, rfl, own_start w1, Nx.rfl.alloc _⟩
  case round =>
    obtain ⟨k, hk, rfl, hown, hnx⟩ := hrel
    by_cases hlt : k < c.size
    · have hb := bb c[k]
      have HTK := hide ((congrArg (encB (tl set)) (tl_take_succ c k hlt)).trans (encB_snoc _ _ _))
      have hz := hnx.size
      have hsz : (encB (tl set) ((tl c).take k)).length < 1000000000000 := by have h := encB_len (tl set) ((tl c).take k); have := List.length_take_le k (tl c); omega
      have HO := hide hown
      have HN := hide hnx
      clear hown hnx
      by_cases hit : (c[k].toNat : Int) < 32 ∨ 126 < (c[k].toNat : Int) ∨ among (c[k].toNat : Int) (tl set) = true
      · have HB := hide (show encByte (tl set) c[k] = [37, toB (capital ((c[k].toNat : Int) / 16)), toB (capital ((c[k].toNat : Int) % 16))] by unfold encByte; rw [if_pos hit])
        obtain ⟨hc1, hc2⟩ := cap_rng (n := (c[k].toNat : Int) / 16) (by omega) (by omega)
        obtain ⟨hc3, hc4⟩ := cap_rng (n := (c[k].toNat : Int) % 16) (by omega) (by omega)
        by_cases h32 : (c[k].toNat : Int) < 32
        · clear hit
          go_wp2_with (first | (go_at_call 117; refine (contains_any _ _ _ (small_len (by omega))).mono ?_; rintro e w' ⟨rfl, rfl⟩) | (go_at_call 118; refine (capital_any _ _ (by omega) (by omega)).mono ?_; rintro e w' ⟨rfl, rfl⟩) | (at_builtin; go_must (refine app_byte3 wr (capital ((c[k].toNat : Int) / 16)) (capital ((c[k].toNat : Int) % 16)) hc1 hc2 hc3 hc4 rfl _ _ rfl w1.heap.size _ _ rfl HO.out rfl hsz hz ?_; intro v' w2 ho1 hb1 hk1; have HO1 := hide ho1; clear ho1)))
          go_roundw
          case rel => exact ⟨k + 1, by omega, by go_num, by rw [HTK.out, HB.out]; exact HO1.out, HN.out.trans hb1⟩
          case measure => simp [intOf]; omega
        by_cases h126 : 126 < (c[k].toNat : Int)
        · clear hit
          go_wp2_with (first | (go_at_call 117; refine (contains_any _ _ _ (small_len (by omega))).mono ?_; rintro e w' ⟨rfl, rfl⟩) | (go_at_call 118; refine (capital_any _ _ (by omega) (by omega)).mono ?_; rintro e w' ⟨rfl, rfl⟩) | (at_builtin; go_must (refine app_byte3 wr (capital ((c[k].toNat : Int) / 16)) (capital ((c[k].toNat : Int) % 16)) hc1 hc2 hc3 hc4 rfl _ _ rfl w1.heap.size _ _ rfl HO.out rfl hsz hz ?_; intro v' w2 ho1 hb1 hk1; have HO1 := hide ho1; clear ho1)))
          go_roundw
          case rel => exact ⟨k + 1, by omega, by go_num, by rw [HTK.out, HB.out]; exact HO1.out, HN.out.trans hb1⟩
          case measure => simp [intOf]; omega
        · have hin : among (c[k].toNat : Int) (tl set) = true := by
            rcases hit with h | h | h
            · exact absurd h h32
            · exact absurd h h126
            · exact h
          clear hit
          go_wp2_with (first | (go_at_call 117; refine (contains_any _ _ _ (small_len (by omega))).mono ?_; rintro e w' ⟨rfl, rfl⟩) | (go_at_call 118; refine (capital_any _ _ (by omega) (by omega)).mono ?_; rintro e w' ⟨rfl, rfl⟩) | (at_builtin; go_must (refine app_byte3 wr (capital ((c[k].toNat : Int) / 16)) (capital ((c[k].toNat : Int) % 16)) hc1 hc2 hc3 hc4 rfl _ _ rfl w1.heap.size _ _ rfl HO.out rfl hsz hz ?_; intro v' w2 ho1 hb1 hk1; have HO1 := hide ho1; clear ho1)))
          go_roundw
          case rel => exact ⟨k + 1, by omega, by go_num, by rw [HTK.out, HB.out]; exact HO1.out, HN.out.trans hb1⟩
          case measure => simp [intOf]; omega
      · have HB := hide (show encByte (tl set) c[k] = [c[k]] by unfold encByte; rw [if_neg hit])
        have h32 : ¬ (c[k].toNat : Int) < 32 := fun h => hit (Or.inl h)
        have h126 : ¬ 126 < (c[k].toNat : Int) := fun h => hit (Or.inr (Or.inl h))
        have hin : among (c[k].toNat : Int) (tl set) = false := by cases h : among (c[k].toNat : Int) (tl set); rfl; exact absurd (Or.inr (Or.inr h)) hit
        have HT2 := hide (toB_byte c[k])
        clear hit
        go_wp2_with (first | (go_at_call 117; refine (contains_any _ _ _ (small_len (by omega))).mono ?_; rintro e w' ⟨rfl, rfl⟩) | (at_builtin; go_must (refine app_byte1 wr (c[k].toNat : Int) rfl _ _ rfl w1.heap.size _ _ rfl HO.out rfl (by omega) (by omega) (Nat.lt_of_lt_of_le hsz (by decide)) hz ?_; intro v' w2 ho1 hb1 hk1; have HO1 := hide ho1; clear ho1)))
        go_roundw
        case rel => exact ⟨k + 1, by omega, by go_num, by rw [HTK.out, HB.out]; have h := HO1.out; rw [HT2.out] at h; exact h, HN.out.trans hb1⟩
        case measure => simp [intOf]; omega
    · rw [tl_take_all c k (by omega)] at hown
      have hcv := conv_own hown
      clear hown
      go_wp2
      go_ret
      exact ⟨_, rfl, by rw [tl_mk, HCL.out], hn1.then hnx⟩
end Go.Proofs.YtchkhibgbnhjpaaGreatDoor

namespace Go.Proofs.YtchkhibgbnhjpaaGreatDoor
open Go.RowKit

/-- percent.codedByte -/
def coded (l : List UInt8) : Int × Bool :=
  match l with
  | c :: x :: y :: _ => if c = 37 ∧ (adigit x.toNat 16).2 = true ∧ (adigit y.toNat 16).2 = true then ((adigit x.toNat 16).1 * (16 : Int) + (adigit y.toNat 16).1, true) else (0, false)
  | _ => (0, false)
theorem coded_rng (l : List UInt8) : 0 ≤ (coded l).1 ∧ (coded l).1 ≤ 255 := by
  unfold coded
  split
  · split
    · rename_i x y r h
      have h1 := adigit_rng (x.toNat : Int) 16
      have h2 := adigit_rng (y.toNat : Int) 16
      have h3 := h1.2 h.2.1
      have h4 := h2.2 h.2.2
      simp only
      omega
    · exact ⟨by decide, by decide⟩
  · exact ⟨by decide, by decide⟩
theorem coded_short (l : List UInt8) (h : l.length < 3) : coded l = (0, false) := by
  match l, h with
  | [], _ => rfl
  | [_], _ => rfl
  | [_, _], _ => rfl
theorem coded_three (s : ByteArray) (h : 2 < s.size) : coded (tl s) = if s[0] = 37 ∧ (adigit (s[1].toNat : Int) 16).2 = true ∧ (adigit (s[2].toNat : Int) 16).2 = true then ((adigit (s[1].toNat : Int) 16).1 * (16 : Int) + (adigit (s[2].toNat : Int) 16).1, true) else (0, false) := by
  have e0 := tl_drop s 0 (by omega)
  rw [List.drop_zero, tl_drop s 1 (by omega), tl_drop s 2 (by omega)] at e0
  rw [e0]
  rfl
theorem ne37 {b : UInt8} (h : ¬ b = 37) : ((b.toNat : Int) != 37) = true := by
  simp only [bne_iff_ne, ne_eq]
  intro h2
  exact h (UInt8.toNat_inj.1 (by show b.toNat = 37; omega))
set_option maxRecDepth 100000 in
set_option maxHeartbeats 1000000 in
theorem codedByte_any (s : ByteArray) (w : World) (hs : s.size ≤ 1000000) :
    Calls Tryz.prog 229 #[.string s] w fun e w' => e = .returned (.tuple #[.int .u8 (coded (tl s)).1, .bool (coded (tl s)).2]) ∧ w = w' := by
  by_cases h3 : s.size < 3
  · have HE := hide (coded_short (tl s) (by rw [tl_length]; exact h3))
    go_enter Tryz.func229, Tryz.ntmps229
    go_wp2
    go_ret2
    exact ⟨by rw [HE.out]; rfl, rfl⟩
  have h3' : 2 < s.size := by omega
  have HC := hide (coded_three s h3')
  have hb1 := bb s[1]
  have hb2 := bb s[2]
  by_cases hp : s[0] = 37
  · have hp' : ((s[0].toNat : Int) != 37) = false := by rw [hp]; rfl
    obtain ⟨q1, hq1⟩ : ∃ q, adigit (s[1].toNat : Int) 16 = q := ⟨_, rfl⟩
    obtain ⟨q2, hq2⟩ : ∃ q, adigit (s[2].toNat : Int) 16 = q := ⟨_, rfl⟩
    have r1 := adigit_rng (s[1].toNat : Int) 16
    have r2 := adigit_rng (s[2].toNat : Int) 16
    rw [hq1] at r1 HC
    rw [hq2] at r2 HC
    have HQ1 := hide hq1
    have HQ2 := hide hq2
    clear hq1 hq2
    obtain ⟨d1, k1⟩ := q1
    obtain ⟨d2, k2⟩ := q2
    simp only at r1 r2 HC
    cases k1
    · have HE := hide (show coded (tl s) = (0, false) by rw [HC.out, if_neg (by simp)])
      clear hp
      go_enter Tryz.func229, Tryz.ntmps229
      go_wp2_with fail
      refine (adigit_any _ _ _ (by omega) (by omega)).mono ?_
      rintro e w' ⟨rfl, rfl⟩
      rw [HQ1.out]
      go_wp2_with fail
      refine (adigit_any _ _ _ (by omega) (by omega)).mono ?_
      rintro e w' ⟨rfl, rfl⟩
      rw [HQ2.out]
      go_wp2
      go_ret2
      exact ⟨by rw [HE.out]; rfl, rfl⟩
    cases k2
    · have HE := hide (show coded (tl s) = (0, false) by rw [HC.out, if_neg (by simp)])
      clear hp
      go_enter Tryz.func229, Tryz.ntmps229
      go_wp2_with fail
      refine (adigit_any _ _ _ (by omega) (by omega)).mono ?_
      rintro e w' ⟨rfl, rfl⟩
      rw [HQ1.out]
      go_wp2_with fail
      refine (adigit_any _ _ _ (by omega) (by omega)).mono ?_
      rintro e w' ⟨rfl, rfl⟩
      rw [HQ2.out]
      go_wp2
      go_ret2
      exact ⟨by rw [HE.out]; rfl, rfl⟩
    · have HE := hide (show coded (tl s) = (d1 * 16 + d2, true) by rw [HC.out, if_pos ⟨hp, rfl, rfl⟩])
      obtain ⟨r10, r11⟩ := r1
      obtain ⟨r20, r21⟩ := r2
      have r12 := r11 rfl
      have r22 := r21 rfl
      clear hp r11 r21
      go_enter Tryz.func229, Tryz.ntmps229
      go_wp2_with fail
      refine (adigit_any _ _ _ (by omega) (by omega)).mono ?_
      rintro e w' ⟨rfl, rfl⟩
      rw [HQ1.out]
      go_wp2_with fail
      refine (adigit_any _ _ _ (by omega) (by omega)).mono ?_
      rintro e w' ⟨rfl, rfl⟩
      rw [HQ2.out]
      go_wp2
      go_ret2
      exact ⟨by rw [HE.out]; rfl, rfl⟩
  · have HE := hide (show coded (tl s) = (0, false) by rw [HC.out, if_neg (fun h => hp h.1)])
    have hp' := ne37 hp
    clear hp
    go_enter Tryz.func229, Tryz.ntmps229
    go_wp2
    go_ret2
    exact ⟨by rw [HE.out]; rfl, rfl⟩

/-- percent.Decode -/
def bdecode (l : List UInt8) : List UInt8 :=
  match l with
  | [] => []
  | c :: r => if (coded (c :: r)).2 then toB (coded (c :: r)).1 :: bdecode (r.drop 2) else c :: bdecode r
termination_by l.length
decreasing_by all_goals simp_wf <;> omega
theorem bdecode_cons (c : UInt8) (r : List UInt8) : bdecode (c :: r) = if (coded (c :: r)).2 then toB (coded (c :: r)).1 :: bdecode (r.drop 2) else c :: bdecode r := by
  conv => lhs; unfold bdecode
theorem bdecode_nil : bdecode [] = [] := by unfold bdecode; rfl
theorem coded_len {l : List UInt8} (h : (coded l).2 = true) : 3 ≤ l.length := by
  by_cases hl : l.length < 3
  · rw [coded_short l hl] at h; cases h
  · omega
set_option maxHeartbeats 1000000 in
theorem decode_any (s : ByteArray) (w : World) (hs : s.size ≤ 1000000) :
    Calls Tryz.prog 202 #[.string s] w fun e w' => ∃ r : ByteArray, e = .returned (.string r) ∧ tl r = bdecode (tl s) ∧ Nx w w' := by
  go_enter Tryz.func202, Tryz.ntmps202
  go_wp2
  go_loopw [3, 4] (fun o i wr => ∃ (k : Nat) (P : List UInt8), k ≤ s.size ∧ i = .int .i64 k ∧ bdecode (tl s) = P ++ bdecode ((tl s).drop k) ∧ OwnB wr w.heap.size o P ∧ P.length ≤ k ∧ Nx w wr) (fun _ i _ => s.size - (intOf i).toNat)
  case atStart => exact ⟨0, [], Nat.zero_le _, rfl, by simp, own_start w, by simp, Nx.rfl.alloc _⟩
  case round =>
    obtain ⟨k, P, hk, rfl, hE, hown, hP, hnx⟩ := hrel
    by_cases hlt : k < s.size
    · have HO := hide hown
      have HN := hide hnx
      have hz := hnx.size
      have hPl : P.length < 1099511627776 := by omega
      have hb := bb s[k]
      have HST := hide (bdecode_cons s[k] ((tl s).drop (k + 1)))
      rw [← tl_drop s k hlt] at HST
      have HX := hide (tl_from s k)
      have HE := hide hE
      have HCL := hide (coded_len (l := (tl s).drop k))
      obtain ⟨hr0, hr1⟩ := coded_rng ((tl s).drop k)
      clear hE hown hnx
      go_wp2_with fail
      refine (codedByte_any _ _ (by simp; omega)).mono ?_
      rintro e w' ⟨rfl, rfl⟩
      rw [HX.out]
      generalize hq : coded ((tl s).drop k) = q at *
      clear hq
      obtain ⟨y, ok⟩ := q
      simp only at hr0 hr1 HST HCL
      cases ok
      · have HT2 := hide (toB_byte s[k])
        go_wp2_with (at_builtin; go_must (refine app_byte1 wr (s[k].toNat : Int) rfl _ _ rfl w.heap.size u3 P rfl HO.out rfl (by omega) (by omega) hPl hz ?_; intro v' w2 ho2 hb2 _; have HO2 := hide ho2; clear ho2))
        go_roundw
        case rel => exact ⟨k + 1, P ++ [s[k]], by omega, by go_num, by rw [HE.out, HST.out, if_neg (by simp), List.append_assoc]; rfl, by have h := HO2.out; rw [HT2.out] at h; exact h, by simp; omega, HN.out.trans hb2⟩
        case measure => simp [intOf]; omega
      · have h3 := HCL.out rfl
        rw [List.length_drop, tl_length] at h3
        go_wp2_with (at_builtin; go_must (refine app_byte1 wr y rfl _ _ rfl w.heap.size u3 P rfl HO.out rfl (by omega) (by omega) hPl hz ?_; intro v' w2 ho2 hb2 _; have HO2 := hide ho2; clear ho2))
        go_roundw
        case rel => exact ⟨k + 3, P ++ [toB y], by omega, by go_num, by rw [HE.out, HST.out, if_pos trivial, List.append_assoc, List.drop_drop]; rfl, HO2.out, by simp; omega, HN.out.trans hb2⟩
        case measure => simp [intOf]; omega
    · rw [tl_drop_all s k (by omega)] at hE
      have hcv := conv_own hown
      clear hown
      go_wp2
      go_ret
      exact ⟨_, rfl, by rw [hE, tl_mk, bdecode_nil, List.append_nil], hnx⟩
/-- ascii.Split -/
def bsplit (n : Int) (l : List UInt8) : List (List UInt8) :=
  match l with
  | [] => [[]]
  | c :: r => if isB n c then [] :: bsplit n r else
    match bsplit n r with
    | [] => [[c]]
    | p :: q => (c :: p) :: q
theorem bsplit_ne (n : Int) (l : List UInt8) : ∃ p q, bsplit n l = p :: q := by
  cases l with
  | nil => exact ⟨[], [], rfl⟩
  | cons c r =>
    rw [bsplit]
    split
    · exact ⟨_, _, rfl⟩
    · split <;> exact ⟨_, _, rfl⟩
theorem bsplit_cut (n : Int) (l : List UInt8) : bsplit n l = if (bcut (isB n) l).2.2 then (bcut (isB n) l).1 :: bsplit n (bcut (isB n) l).2.1 else [(bcut (isB n) l).1] := by
  induction l with
  | nil => simp [bsplit, bcut]
  | cons c r ih =>
    cases h : isB n c
    · have hc : bcut (isB n) (c :: r) = (c :: (bcut (isB n) r).1, (bcut (isB n) r).2) := by simp [bcut, h]
      rw [bsplit, if_neg (by simp [h]), hc, ih]
      cases h2 : (bcut (isB n) r).2.2 <;> simp
    · have hc : bcut (isB n) (c :: r) = ([], r, true) := by simp [bcut, h]
      rw [bsplit, if_pos h, hc]
      simp
theorem bcut_len (p : UInt8 → Bool) (l : List UInt8) : (bcut p l).1.length + (bcut p l).2.1.length ≤ l.length ∧ ((bcut p l).2.2 = true → (bcut p l).2.1.length < l.length) := by
  induction l with
  | nil => simp [bcut]
  | cons c r ih =>
    cases h : p c
    · have hc : bcut p (c :: r) = (c :: (bcut p r).1, (bcut p r).2) := by simp [bcut, h]
      rw [hc]
      simp only [List.length_cons]
      exact ⟨by omega, fun hh => by have := ih.2 hh; omega⟩
    · have hc : bcut p (c :: r) = ([], r, true) := by simp [bcut, h]
      rw [hc]
      simp
abbrev OwnS (w : World) (base : Nat) (v : Value) (l : List ByteArray) : Prop := w.ownsRow base 9 1 v l.length (l.map Value.string)
theorem app_s1 {ops : Array Oper} {rest : List Oper} {o : Oper} {a : Act} {Q : Exit → Act → World → Prop} (w : World) (y : ByteArray)
    (hgd : o.guard = none) (s x : Operand) (ho : o.op = .call { callee := .builtin .append, args := #[s, x], argTypes := #[52, 52] })
    (base : Nat) (v : Value) (l : List ByteArray) (hs : a.eval s = v) (hown : OwnS w base v l) (hx : a.eval x = .slice (some ⟨w.heap.size, 0, none⟩) 1 1)
    (hn : l.length < 1099511627776) (hbase : base ≤ w.heap.size)
    (h : ∀ v' w', OwnS w' base v' (l ++ [y]) → Below base w w' → Kp 9 w w' → wpList Tryz.prog ops Q rest (a.put o.dst v') w') :
    wpList Tryz.prog ops Q (o :: rest) a (w.alloc (.cells #[.string y] 9)) := by
  refine app_one _ _ _ (.string ByteArray.empty) 16 Tryz.underlying52 infoStr rfl hgd s x ho base v l.length _ hs (World.ownsRow.alloc hown _) ⟨w.heap.size, 0, none⟩ 1 1 [.string y] hx rfl (one_cell (by simp)) (by simp [Value.oneCell']) (by omega) (by decide) (by simp; omega) ?_
  intro v' w' h1 h2 h3
  refine h v' w' ?_ (((Below.refl base w).alloc hbase _).trans h2) ((Kp.rfl.alloc _).then h3)
  unfold OwnS
  rw [List.length_append, List.map_append]
  exact h1
theorem ownS_start (w : World) : OwnS (w.alloc (.cells #[] 9)) w.heap.size (.slice (some ⟨w.heap.size, 0, none⟩) 0 0) [] :=
  World.ownsRow_made w #[] 0 (Nat.le_refl _) (Nat.zero_le _) rfl
def strLen : Value → Nat | .string s => s.size | _ => 0
def boolOf : Value → Bool | .bool b => b | _ => false
set_option maxHeartbeats 1000000 in
theorem split_any (s : ByteArray) (n : Int) (w : World) (hs : s.size ≤ 1000000) :
    Calls Tryz.prog 162 #[.string s, .int .u8 n] w fun e w' => ∃ v bs, e = .returned v ∧ StrsAt w' v bs ∧ bs.map tl = bsplit n (tl s) ∧ Nx w w' := by
  go_enter Tryz.func162, Tryz.ntmps162
  go_wp2
  go_loopw [5, 6, 7] (fun o x m wr => ∃ (bs : List ByteArray) (q : ByteArray) (more : Bool), x = .string q ∧ m = .bool more ∧ OwnS wr w.heap.size o bs ∧ bs.length + q.size ≤ s.size + 1 ∧ bsplit n (tl s) = bs.map tl ++ (if more then bsplit n (tl q) else []) ∧ (more = true → bs.length + q.size ≤ s.size) ∧ Nx w wr)
    (fun _ x m _ => if boolOf m then strLen x + 1 else 0)
  case atStart => exact ⟨[], s, true, rfl, rfl, ownS_start w, by simp, by simp, fun _ => by simp, Nx.rfl.alloc _⟩
  case round =>
    obtain ⟨bs, q, more, rfl, rfl, hown, hl, hE, hm, hnx⟩ := hrel
    cases more
    · simp only [Bool.false_eq_true, if_false, List.append_nil] at hE
      go_wp2
      go_ret
      exact ⟨_, _, rfl, own_row hown, hE.symm, hnx⟩
    · have hl2 := hm rfl
      simp only [if_true] at hE
      have HE := hide hE
      have HO := hide hown
      have HN := hide hnx
      clear hE hown hnx hm
      have HC := hide (bsplit_cut n (tl q))
      have HL := hide (bcut_len (isB n) (tl q))
      go_wp2_with fail
      refine (acut_any _ _ _ (small_len (by omega))).mono ?_
      rintro e w1 ⟨⟨a, b, rfl, ha, hb⟩, hn1⟩
      have HA := hide ha
      have HB := hide hb
      have hla : a.size = (bcut (isB n) (tl q)).1.length := by rw [← ha, tl_length]
      have hlb : b.size = (bcut (isB n) (tl q)).2.1.length := by rw [← hb, tl_length]
      have HLA := hide hla
      have HLB := hide hlb
      clear ha hb hla hlb
      generalize bcut (isB n) (tl q) = c at *
      obtain ⟨c1, c2, found⟩ := c
      simp only at *
      have HO1 := hide (own_on HO.out hn1)
      have HN1 := hide (HN.out.then hn1)
      have hz := HN1.out.size
      clear hn1
      have hbl : bs.length < 1099511627776 := by omega
      go_wp2_with (at_builtin; go_must (refine app_s1 w1 a rfl _ _ rfl w.heap.size u5 bs rfl HO1.out rfl hbl hz ?_; intro v' w2 ho2 hb2 _; have HO2 := hide ho2; clear ho2))
      go_roundw
      case rel =>
        refine ⟨bs ++ [a], b, found, rfl, rfl, HO2.out, ?_, ?_, ?_, HN1.out.trans hb2⟩
        · have h := HL.out.1; have h1 := HLA.out; have h2 := HLB.out; rw [tl_length] at h; simp only [List.length_append, List.length_cons, List.length_nil]; omega
        · rw [HE.out, HC.out, List.map_append, List.append_assoc, List.map_cons, List.map_nil, HA.out, HB.out]
          cases found <;> rfl
        · intro hf
          have h := HL.out.2 hf
          have h2 := HLB.out
          rw [tl_length] at h
          simp only [List.length_append, List.length_cons, List.length_nil]
          omega
      case measure =>
        have h := HL.out
        have h2 := HLB.out
        rw [tl_length] at h
        simp only [boolOf, strLen]
        cases found
        · simp
        · have := h.2 rfl
          simp; omega
end Go.Proofs.YtchkhibgbnhjpaaGreatDoor

namespace Go.Proofs.YtchkhibgbnhjpaaGreatDoor
open Go.RowKit

theorem any_snoc {α : Type} (p : α → Bool) (l : List α) (b : α) : (l ++ [b]).any p = (l.any p || p b) := by simp
theorem any_hitB (p : UInt8 → Bool) (s : ByteArray) (k : Nat) (h : k < s.size) (he : p s[k] = true) : (tl s).any p = true :=
  List.any_eq_true.2 ⟨s[k], by rw [← tl_get s k h]; exact List.getElem_mem _, he⟩
theorem size_from (s : ByteArray) (k : Nat) : (s.extract k s.size).size = s.size - k := by rw [ByteArray.size_extract]; omega
theorem size_to (s : ByteArray) (k : Nat) : (s.extract 0 k).size ≤ s.size := by rw [ByteArray.size_extract]; omega
theorem size_ext (s : ByteArray) (a b : Nat) : (s.extract a b).size ≤ s.size := by rw [ByteArray.size_extract]; omega
theorem tl_getD (s : ByteArray) (k : Nat) (h : k < s.size) : (tl s).getD k 0 = s[k] := by
  rw [List.getD_eq_getElem?_getD, List.getElem?_eq_getElem (by rw [tl_length]; exact h), tl_get s k h]; rfl
theorem ret_ib {a b : Int × Bool} (h : a = b) : Ending.returned (.tuple #[.int .i64 a.1, .bool a.2]) = .returned (.tuple #[.int .i64 b.1, .bool b.2]) := by rw [h]
theorem tl_ne {s : ByteArray} (h : ¬ s.size = 0) : ¬ tl s = [] := by intro e; have := tl_length s; rw [e] at this; simp at this; omega
theorem bneF {x y : Int} (h : (x == y) = true) : (x != y) = false := by simp only [bne, h]; rfl
theorem bneT {x y : Int} (h : (x == y) = false) : (x != y) = true := by simp only [bne, h]; rfl
end Go.Proofs.YtchkhibgbnhjpaaGreatDoor
