import Derived.Test.YtglpmmemjhjblaaGreatDoorProg6
namespace Go.Proofs.YtglpmmemjhjblaaGreatDoor
open Go.RowKit

/-- percent.members -/
def setBA (n : Int) : ByteArray :=
  if n = 1 then ⟨#[32, 34, 60, 62, 96]⟩ else if n = 2 then ⟨#[32, 34, 35, 60, 62]⟩ else if n = 3 then ⟨#[32, 34, 35, 60, 62, 39]⟩
  else if n = 4 then ⟨#[32, 34, 35, 60, 62, 63, 94, 123, 125, 96]⟩ else if n = 5 then ⟨#[32, 34, 35, 60, 62, 63, 94, 123, 125, 96, 47, 58, 59, 61, 64, 91, 92, 93, 124]⟩
  else if n = 6 then ⟨#[32, 34, 35, 60, 62, 63, 94, 123, 125, 96, 47, 58, 59, 61, 64, 91, 92, 93, 124, 36, 37, 38, 43, 44]⟩
  else if n = 7 then ⟨#[32, 34, 35, 60, 62, 63, 94, 123, 125, 96, 47, 58, 59, 61, 64, 91, 92, 93, 124, 36, 37, 38, 43, 44, 33, 39, 40, 41, 126]⟩ else ⟨#[]⟩
theorem setBA_len (n : Int) : (setBA n).size ≤ 40 := by unfold setBA; repeat (first | decide | split)
set_option maxHeartbeats 800000 in
theorem members_any (n : Int) (w : World) :
    Calls Tryz.prog 106 #[.int .i64 n] w fun e w' => e = .returned (.string (setBA n)) ∧ w = w' := by
  by_cases h1 : n = 1
  · subst h1
    go_enter Tryz.func106, Tryz.ntmps106
    go_wp2
    go_ret
    exact ⟨rfl, rfl⟩
  by_cases h2 : n = 2
  · subst h2
    go_enter Tryz.func106, Tryz.ntmps106
    go_wp2
    go_ret
    exact ⟨rfl, rfl⟩
  by_cases h3 : n = 3
  · subst h3
    go_enter Tryz.func106, Tryz.ntmps106
    go_wp2
    go_ret
    exact ⟨rfl, rfl⟩
  by_cases h4 : n = 4
  · subst h4
    go_enter Tryz.func106, Tryz.ntmps106
    go_wp2
    go_ret
    exact ⟨rfl, rfl⟩
  by_cases h5 : n = 5
  · subst h5
    go_enter Tryz.func106, Tryz.ntmps106
    go_wp2
    go_ret
    exact ⟨rfl, rfl⟩
  by_cases h6 : n = 6
  · subst h6
    go_enter Tryz.func106, Tryz.ntmps106
    go_wp2
    go_ret
    exact ⟨rfl, rfl⟩
  by_cases h7 : n = 7
  · subst h7
    go_enter Tryz.func106, Tryz.ntmps106
    go_wp2
    go_ret
    exact ⟨rfl, rfl⟩
  · have HE := hide (show setBA n = ⟨#[]⟩ by simp [setBA, h1, h2, h3, h4, h5, h6, h7])
    have b1 : (n == 1) = false := by simp [h1]
    have b2 : (n == 2) = false := by simp [h2]
    have b3 : (n == 3) = false := by simp [h3]
    have b4 : (n == 4) = false := by simp [h4]
    have b5 : (n == 5) = false := by simp [h5]
    have b6 : (n == 6) = false := by simp [h6]
    have b7 : (n == 7) = false := by simp [h7]
    clear h1 h2 h3 h4 h5 h6 h7
    go_enter Tryz.func106, Tryz.ntmps106
    go_wp2
    go_ret
    exact ⟨ret_str HE.out.symm, rfl⟩

theorem clean_len (l : List UInt8) : (clean l).length ≤ 3 * l.length := by
  generalize hn : l.length = n
  induction n using Nat.strongRecOn generalizing l with
  | ind n ih =>
    cases l with
    | nil => rw [clean_nil]; simp
    | cons c r =>
      obtain ⟨h1, h2⟩ := measure_le (l := c :: r) (by simp)
      rw [clean_step (c :: r) (by simp)]
      have h3 := ih ((c :: r).drop (measure (c :: r)).1).length (by rw [List.length_drop]; omega) _ rfl
      rw [List.length_drop] at h3
      rw [List.length_append]
      split
      · rw [List.length_take]; omega
      · simp only [List.length_cons, List.length_nil]; omega

/-- percent.Encode -/
def encByte (set : List UInt8) (b : UInt8) : List UInt8 :=
  if (b.toNat : Int) < 32 ∨ 126 < (b.toNat : Int) ∨ among (b.toNat : Int) set = true then [37, toB (capital ((b.toNat : Int) / 16)), toB (capital ((b.toNat : Int) % 16))] else [b]
def encB (set l : List UInt8) : List UInt8 := l.flatMap (encByte set)
theorem encB_snoc (set l : List UInt8) (b : UInt8) : encB set (l ++ [b]) = encB set l ++ encByte set b := by simp [encB]
theorem encB_len (set l : List UInt8) : (encB set l).length ≤ 3 * l.length := by
  induction l with
  | nil => simp [encB]
  | cons c r ih =>
    have h : (encByte set c).length ≤ 3 := by unfold encByte; split <;> simp
    simp only [encB, List.flatMap_cons, List.length_append, List.length_cons] at *
    omega
theorem cap_rng {n : Int} (h0 : 0 ≤ n) (h1 : n < 16) : 0 ≤ capital n ∧ capital n ≤ 255 := by unfold capital; split <;> omega
theorem app_byte3 {ops : Array Oper} {rest : List Oper} {o : Oper} {a : Act} {Q : Exit → Act → World → Prop} (w : World) (y1 y2 : Int) (h10 : 0 ≤ y1) (h11 : y1 ≤ 255) (h20 : 0 ≤ y2) (h21 : y2 ≤ 255)
    (hgd : o.guard = none) (s x : Operand) (ho : o.op = .call { callee := .builtin .append, args := #[s, x], argTypes := #[104, 104] })
    (base : Nat) (v : Value) (l : List UInt8) (hs : a.eval s = v) (hown : OwnB w base v l) (hx : a.eval x = .slice (some ⟨w.heap.size, 0, none⟩) 3 3)
    (hn : l.length < 1000000000000) (hbase : base ≤ w.heap.size)
    (h : ∀ v' w', OwnB w' base v' (l ++ [37, toB y1, toB y2]) → Below base w w' → Kp 5 w w' → wpList Tryz.prog ops Q rest (a.put o.dst v') w') :
    wpList Tryz.prog ops Q (o :: rest) a (w.alloc (.cells #[.int .u8 37, .int .u8 y1, .int .u8 y2] 5)) := by
  refine app_one _ _ _ (.int .u8 0) 1 Tryz.underlying104 infoU8 rfl hgd s x ho base v l.length _ hs (World.ownsRow.alloc hown _) ⟨w.heap.size, 0, none⟩ 3 3 [.int .u8 37, .int .u8 y1, .int .u8 y2] hx rfl (three_cells (by simp) (by simp) (by simp)) (by simp [Value.oneCell']) (by omega) (by decide) (by simp; omega) ?_
  intro v' w' q1 q2 q3
  refine h v' w' ?_ (((Below.refl base w).alloc hbase _).trans q2) ((Kp.rfl.alloc _).then q3)
  have e2 : Lib.byteCells [37, toB y1, toB y2] = [.int .u8 37, .int .u8 y1, .int .u8 y2] := by simp only [Lib.byteCells, List.map_cons, List.map_nil, toB_toNat h10 h11, toB_toNat h20 h21]; rfl
  unfold OwnB
  rw [List.length_append, Lib.byteCells_append, e2]
  exact q1
set_option maxHeartbeats 2000000 in
theorem encode_any (s : ByteArray) (n : Int) (w : World) (hs : s.size ≤ 1000000) :
    Calls Tryz.prog 80 #[.string s, .int .i64 n] w fun e w' => ∃ r : ByteArray, e = .returned (.string r) ∧ tl r = encB (tl (setBA n)) (clean (tl s)) ∧ Nx w w' := by
  have hset := setBA_len n
  generalize hS : setBA n = set at *
  have HS := hide hS
  clear hS
  go_enter Tryz.func80, Tryz.ntmps80
  go_wp2_with fail
  refine (clean_any _ _ hs).mono ?_
  rintro e w1 ⟨c, rfl, hc, hn1⟩
  have hcs : c.size ≤ 3000000 := by have h := clean_len (tl s); rw [← hc, tl_length, tl_length] at h; omega
  have HCL := hide hc
  clear hc
  go_wp2_with (go_at_call 106; refine (members_any _ _).mono ?_; rintro e w' ⟨rfl, rfl⟩; rw [HS.out])
  go_loopw [7, 8] (fun o i wr => ∃ k : Nat, k ≤ c.size ∧ i = .int .i64 k ∧ OwnB wr w1.heap.size o (encB (tl set) ((tl c).take k)) ∧ Nx w1 wr) (fun _ i _ => c.size - (intOf i).toNat)
  case atStart => exact ⟨0, Nat.zero_le _, rfl, own_start w1, Nx.rfl.alloc _⟩
  case round =>
    obtain ⟨k, hk, rfl, hown, hnx⟩ := hrel
    by_cases hlt : k < c.size
    · have hb := bb c[k]
      have HTK := hide ((congrArg (encB (tl set)) (tl_take_succ c k hlt)).trans (encB_snoc _ _ _))
      have hz := hnx.size
      have hsz : (encB (tl set) ((tl c).take k)).length < 1000000000000 := by have h := encB_len (tl set) ((tl c).take k); have := List.length_take_le k (tl c); omega
      have HO := hide hown
      have HN := hide hnx
      clear hown hnx
      by_cases hit : (c[k].toNat : Int) < 32 ∨ 126 < (c[k].toNat : Int) ∨ among (c[k].toNat : Int) (tl set) = true
      · have HB := hide (show encByte (tl set) c[k] = [37, toB (capital ((c[k].toNat : Int) / 16)), toB (capital ((c[k].toNat : Int) % 16))] by unfold encByte; rw [if_pos hit])
        obtain ⟨hc1, hc2⟩ := cap_rng (n := (c[k].toNat : Int) / 16) (by omega) (by omega)
        obtain ⟨hc3, hc4⟩ := cap_rng (n := (c[k].toNat : Int) % 16) (by omega) (by omega)
        by_cases h32 : (c[k].toNat : Int) < 32
        · clear hit
          go_wp2_with (first | (go_at_call 107; refine (contains_any _ _ _ (small_len (by omega))).mono ?_; rintro e w' ⟨rfl, rfl⟩) | (go_at_call 108; refine (capital_any _ _ (by omega) (by omega)).mono ?_; rintro e w' ⟨rfl, rfl⟩) | (at_builtin; go_must (refine app_byte3 wr (capital ((c[k].toNat : Int) / 16)) (capital ((c[k].toNat : Int) % 16)) hc1 hc2 hc3 hc4 rfl _ _ rfl w1.heap.size _ _ rfl HO.out rfl hsz hz ?_; intro v' w2 ho1 hb1 hk1; have HO1 := hide ho1; clear ho1)))
          go_roundw
          case rel => exact ⟨k + 1, by omega, by go_num, by rw [HTK.out, HB.out]; exact HO1.out, HN.out.trans hb1⟩
          case measure => simp [intOf]; omega
        by_cases h126 : 126 < (c[k].toNat : Int)
        · clear hit
          go_wp2_with (first | (go_at_call 107; refine (contains_any _ _ _ (small_len (by omega))).mono ?_; rintro e w' ⟨rfl, rfl⟩) | (go_at_call 108; refine (capital_any _ _ (by omega) (by omega)).mono ?_; rintro e w' ⟨rfl, rfl⟩) | (at_builtin; go_must (refine app_byte3 wr (capital ((c[k].toNat : Int) / 16)) (capital ((c[k].toNat : Int) % 16)) hc1 hc2 hc3 hc4 rfl _ _ rfl w1.heap.size _ _ rfl HO.out rfl hsz hz ?_; intro v' w2 ho1 hb1 hk1; have HO1 := hide ho1; clear ho1)))
          go_roundw
          case rel => exact ⟨k + 1, by omega, by go_num, by rw [HTK.out, HB.out]; exact HO1.out, HN.out.trans hb1⟩
          case measure => simp [intOf]; omega
        · have hin : among (c[k].toNat : Int) (tl set) = true := by
            rcases hit with h | h | h
            · exact absurd h h32
            · exact absurd h h126
            · exact h
          clear hit
          go_wp2_with (first | (go_at_call 107; refine (contains_any _ _ _ (small_len (by omega))).mono ?_; rintro e w' ⟨rfl, rfl⟩) | (go_at_call 108; refine (capital_any _ _ (by omega) (by omega)).mono ?_; rintro e w' ⟨rfl, rfl⟩) | (at_builtin; go_must (refine app_byte3 wr (capital ((c[k].toNat : Int) / 16)) (capital ((c[k].toNat : Int) % 16)) hc1 hc2 hc3 hc4 rfl _ _ rfl w1.heap.size _ _ rfl HO.out rfl hsz hz ?_; intro v' w2 ho1 hb1 hk1; have HO1 := hide ho1; clear ho1)))
          go_roundw
          case rel => exact ⟨k + 1, by omega, by go_num, by rw [HTK.out, HB.out]; exact HO1.out, HN.out.trans hb1⟩
          case measure => simp [intOf]; omega
      · have HB := hide (show encByte (tl set) c[k] = [c[k]] by unfold encByte; rw [if_neg hit])
        have h32 : ¬ (c[k].toNat : Int) < 32 := fun h => hit (Or.inl h)
        have h126 : ¬ 126 < (c[k].toNat : Int) := fun h => hit (Or.inr (Or.inl h))
        have hin : among (c[k].toNat : Int) (tl set) = false := by cases h : among (c[k].toNat : Int) (tl set); rfl; exact absurd (Or.inr (Or.inr h)) hit
        have HT2 := hide (toB_byte c[k])
        clear hit
        go_wp2_with (first | (go_at_call 107; refine (contains_any _ _ _ (small_len (by omega))).mono ?_; rintro e w' ⟨rfl, rfl⟩) | (at_builtin; go_must (refine app_byte1 wr (c[k].toNat : Int) rfl _ _ rfl w1.heap.size _ _ rfl HO.out rfl (by omega) (by omega) (Nat.lt_of_lt_of_le hsz (by decide)) hz ?_; intro v' w2 ho1 hb1 hk1; have HO1 := hide ho1; clear ho1)))
        go_roundw
        case rel => exact ⟨k + 1, by omega, by go_num, by rw [HTK.out, HB.out]; have h := HO1.out; rw [HT2.out] at h; exact h, HN.out.trans hb1⟩
        case measure => simp [intOf]; omega
    · rw [tl_take_all c k (by omega)] at hown
      have hcv := conv_own hown
      clear hown
      go_wp2
      go_ret
      exact ⟨_, rfl, by rw [tl_mk, HCL.out], hn1.then hnx⟩
end Go.Proofs.YtglpmmemjhjblaaGreatDoor
