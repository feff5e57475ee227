import Derived.Test.YtglpmmemjhjblaaGreatDoorProg7
namespace Go.Proofs.YtglpmmemjhjblaaGreatDoor
open Go.RowKit

/-- percent.codedByte -/
def coded (l : List UInt8) : Int × Bool :=
  match l with
  | c :: x :: y :: _ => if c = 37 ∧ (adigit x.toNat 16).2 = true ∧ (adigit y.toNat 16).2 = true then ((adigit x.toNat 16).1 * (16 : Int) + (adigit y.toNat 16).1, true) else (0, false)
  | _ => (0, false)
theorem coded_rng (l : List UInt8) : 0 ≤ (coded l).1 ∧ (coded l).1 ≤ 255 := by
  unfold coded
  split
  · split
    · rename_i x y r h
      have h1 := adigit_rng (x.toNat : Int) 16
      have h2 := adigit_rng (y.toNat : Int) 16
      have h3 := h1.2 h.2.1
      have h4 := h2.2 h.2.2
      simp only
      omega
    · exact ⟨by decide, by decide⟩
  · exact ⟨by decide, by decide⟩
theorem coded_short (l : List UInt8) (h : l.length < 3) : coded l = (0, false) := by
  match l, h with
  | [], _ => rfl
  | [_], _ => rfl
  | [_, _], _ => rfl
theorem coded_three (s : ByteArray) (h : 2 < s.size) : coded (tl s) = if s[0] = 37 ∧ (adigit (s[1].toNat : Int) 16).2 = true ∧ (adigit (s[2].toNat : Int) 16).2 = true then ((adigit (s[1].toNat : Int) 16).1 * (16 : Int) + (adigit (s[2].toNat : Int) 16).1, true) else (0, false) := by
  have e0 := tl_drop s 0 (by omega)
  rw [List.drop_zero, tl_drop s 1 (by omega), tl_drop s 2 (by omega)] at e0
  rw [e0]
  rfl
theorem ne37 {b : UInt8} (h : ¬ b = 37) : ((b.toNat : Int) != 37) = true := by
  simp only [bne_iff_ne, ne_eq]
  intro h2
  exact h (UInt8.toNat_inj.1 (by show b.toNat = 37; omega))
set_option maxRecDepth 100000 in
set_option maxHeartbeats 1000000 in
theorem codedByte_any (s : ByteArray) (w : World) (hs : s.size ≤ 1000000) :
    Calls Tryz.prog 220 #[.string s] w fun e w' => e = .returned (.tuple #[.int .u8 (coded (tl s)).1, .bool (coded (tl s)).2]) ∧ w = w' := by
  by_cases h3 : s.size < 3
  · have HE := hide (coded_short (tl s) (by rw [tl_length]; exact h3))
    go_enter Tryz.func220, Tryz.ntmps220
    go_wp2
    go_ret2
    exact ⟨by rw [HE.out]; rfl, rfl⟩
  have h3' : 2 < s.size := by omega
  have HC := hide (coded_three s h3')
  have hb1 := bb s[1]
  have hb2 := bb s[2]
  by_cases hp : s[0] = 37
  · have hp' : ((s[0].toNat : Int) != 37) = false := by rw [hp]; rfl
    obtain ⟨q1, hq1⟩ : ∃ q, adigit (s[1].toNat : Int) 16 = q := ⟨_, rfl⟩
    obtain ⟨q2, hq2⟩ : ∃ q, adigit (s[2].toNat : Int) 16 = q := ⟨_, rfl⟩
    have r1 := adigit_rng (s[1].toNat : Int) 16
    have r2 := adigit_rng (s[2].toNat : Int) 16
    rw [hq1] at r1 HC
    rw [hq2] at r2 HC
    have HQ1 := hide hq1
    have HQ2 := hide hq2
    clear hq1 hq2
    obtain ⟨d1, k1⟩ := q1
    obtain ⟨d2, k2⟩ := q2
    simp only at r1 r2 HC
    cases k1
    · have HE := hide (show coded (tl s) = (0, false) by rw [HC.out, if_neg (by simp)])
      clear hp
      go_enter Tryz.func220, Tryz.ntmps220
      go_wp2_with fail
      refine (adigit_any _ _ _ (by omega) (by omega)).mono ?_
      rintro e w' ⟨rfl, rfl⟩
      rw [HQ1.out]
      go_wp2_with fail
      refine (adigit_any _ _ _ (by omega) (by omega)).mono ?_
      rintro e w' ⟨rfl, rfl⟩
      rw [HQ2.out]
      go_wp2
      go_ret2
      exact ⟨by rw [HE.out]; rfl, rfl⟩
    cases k2
    · have HE := hide (show coded (tl s) = (0, false) by rw [HC.out, if_neg (by simp)])
      clear hp
      go_enter Tryz.func220, Tryz.ntmps220
      go_wp2_with fail
      refine (adigit_any _ _ _ (by omega) (by omega)).mono ?_
      rintro e w' ⟨rfl, rfl⟩
      rw [HQ1.out]
      go_wp2_with fail
      refine (adigit_any _ _ _ (by omega) (by omega)).mono ?_
      rintro e w' ⟨rfl, rfl⟩
      rw [HQ2.out]
      go_wp2
      go_ret2
      exact ⟨by rw [HE.out]; rfl, rfl⟩
    · have HE := hide (show coded (tl s) = (d1 * 16 + d2, true) by rw [HC.out, if_pos ⟨hp, rfl, rfl⟩])
      obtain ⟨r10, r11⟩ := r1
      obtain ⟨r20, r21⟩ := r2
      have r12 := r11 rfl
      have r22 := r21 rfl
      clear hp r11 r21
      go_enter Tryz.func220, Tryz.ntmps220
      go_wp2_with fail
      refine (adigit_any _ _ _ (by omega) (by omega)).mono ?_
      rintro e w' ⟨rfl, rfl⟩
      rw [HQ1.out]
      go_wp2_with fail
      refine (adigit_any _ _ _ (by omega) (by omega)).mono ?_
      rintro e w' ⟨rfl, rfl⟩
      rw [HQ2.out]
      go_wp2
      go_ret2
      exact ⟨by rw [HE.out]; rfl, rfl⟩
  · have HE := hide (show coded (tl s) = (0, false) by rw [HC.out, if_neg (fun h => hp h.1)])
    have hp' := ne37 hp
    clear hp
    go_enter Tryz.func220, Tryz.ntmps220
    go_wp2
    go_ret2
    exact ⟨by rw [HE.out]; rfl, rfl⟩

/-- percent.Decode -/
def bdecode (l : List UInt8) : List UInt8 :=
  match l with
  | [] => []
  | c :: r => if (coded (c :: r)).2 then toB (coded (c :: r)).1 :: bdecode (r.drop 2) else c :: bdecode r
termination_by l.length
decreasing_by all_goals simp_wf <;> omega
theorem bdecode_cons (c : UInt8) (r : List UInt8) : bdecode (c :: r) = if (coded (c :: r)).2 then toB (coded (c :: r)).1 :: bdecode (r.drop 2) else c :: bdecode r := by
  conv => lhs; unfold bdecode
theorem bdecode_nil : bdecode [] = [] := by unfold bdecode; rfl
theorem coded_len {l : List UInt8} (h : (coded l).2 = true) : 3 ≤ l.length := by
  by_cases hl : l.length < 3
  · rw [coded_short l hl] at h; cases h
  · omega
set_option maxHeartbeats 1000000 in
theorem decode_any (s : ByteArray) (w : World) (hs : s.size ≤ 1000000) :
    Calls Tryz.prog 206 #[.string s] w fun e w' => ∃ r : ByteArray, e = .returned (.string r) ∧ tl r = bdecode (tl s) ∧ Nx w w' := by
  go_enter Tryz.func206, Tryz.ntmps206
  go_wp2
  go_loopw [3, 4] (fun o i wr => ∃ (k : Nat) (P : List UInt8), k ≤ s.size ∧ i = .int .i64 k ∧ bdecode (tl s) = P ++ bdecode ((tl s).drop k) ∧ OwnB wr w.heap.size o P ∧ P.length ≤ k ∧ Nx w wr) (fun _ i _ => s.size - (intOf i).toNat)
  case atStart => exact ⟨0, [], Nat.zero_le _, rfl, by simp, own_start w, by simp, Nx.rfl.alloc _⟩
  case round =>
    obtain ⟨k, P, hk, rfl, hE, hown, hP, hnx⟩ := hrel
    by_cases hlt : k < s.size
    · have HO := hide hown
      have HN := hide hnx
      have hz := hnx.size
      have hPl : P.length < 1099511627776 := by omega
      have hb := bb s[k]
      have HST := hide (bdecode_cons s[k] ((tl s).drop (k + 1)))
      rw [← tl_drop s k hlt] at HST
      have HX := hide (tl_from s k)
      have HE := hide hE
      have HCL := hide (coded_len (l := (tl s).drop k))
      obtain ⟨hr0, hr1⟩ := coded_rng ((tl s).drop k)
      clear hE hown hnx
      go_wp2_with fail
      refine (codedByte_any _ _ (by simp; omega)).mono ?_
      rintro e w' ⟨rfl, rfl⟩
      rw [HX.out]
      generalize hq : coded ((tl s).drop k) = q at *
      clear hq
      obtain ⟨y, ok⟩ := q
      simp only at hr0 hr1 HST HCL
      cases ok
      · have HT2 := hide (toB_byte s[k])
        go_wp2_with (at_builtin; go_must (refine app_byte1 wr (s[k].toNat : Int) rfl _ _ rfl w.heap.size u3 P rfl HO.out rfl (by omega) (by omega) hPl hz ?_; intro v' w2 ho2 hb2 _; have HO2 := hide ho2; clear ho2))
        go_roundw
        case rel => exact ⟨k + 1, P ++ [s[k]], by omega, by go_num, by rw [HE.out, HST.out, if_neg (by simp), List.append_assoc]; rfl, by have h := HO2.out; rw [HT2.out] at h; exact h, by simp; omega, HN.out.trans hb2⟩
        case measure => simp [intOf]; omega
      · have h3 := HCL.out rfl
        rw [List.length_drop, tl_length] at h3
        go_wp2_with (at_builtin; go_must (refine app_byte1 wr y rfl _ _ rfl w.heap.size u3 P rfl HO.out rfl (by omega) (by omega) hPl hz ?_; intro v' w2 ho2 hb2 _; have HO2 := hide ho2; clear ho2))
        go_roundw
        case rel => exact ⟨k + 3, P ++ [toB y], by omega, by go_num, by rw [HE.out, HST.out, if_pos trivial, List.append_assoc, List.drop_drop]; rfl, HO2.out, by simp; omega, HN.out.trans hb2⟩
        case measure => simp [intOf]; omega
    · rw [tl_drop_all s k (by omega)] at hE
      have hcv := conv_own hown
      clear hown
      go_wp2
      go_ret
      exact ⟨_, rfl, by rw [hE, tl_mk, bdecode_nil, List.append_nil], hnx⟩
/-- ascii.Split -/
def bsplit (n : Int) (l : List UInt8) : List (List UInt8) :=
  match l with
  | [] => [[]]
  | c :: r => if isB n c then [] :: bsplit n r else
    match bsplit n r with
    | [] => [[c]]
    | p :: q => (c :: p) :: q
theorem bsplit_ne (n : Int) (l : List UInt8) : ∃ p q, bsplit n l = p :: q := by
  cases l with
  | nil => exact ⟨[], [], rfl⟩
  | cons c r =>
    rw [bsplit]
    split
    · exact ⟨_, _, rfl⟩
    · split <;> exact ⟨_, _, rfl⟩
theorem bsplit_cut (n : Int) (l : List UInt8) : bsplit n l = if (bcut (isB n) l).2.2 then (bcut (isB n) l).1 :: bsplit n (bcut (isB n) l).2.1 else [(bcut (isB n) l).1] := by
  induction l with
  | nil => simp [bsplit, bcut]
  | cons c r ih =>
    cases h : isB n c
    · have hc : bcut (isB n) (c :: r) = (c :: (bcut (isB n) r).1, (bcut (isB n) r).2) := by simp [bcut, h]
      rw [bsplit, if_neg (by simp [h]), hc, ih]
      cases h2 : (bcut (isB n) r).2.2 <;> simp
    · have hc : bcut (isB n) (c :: r) = ([], r, true) := by simp [bcut, h]
      rw [bsplit, if_pos h, hc]
      simp
theorem bcut_len (p : UInt8 → Bool) (l : List UInt8) : (bcut p l).1.length + (bcut p l).2.1.length ≤ l.length ∧ ((bcut p l).2.2 = true → (bcut p l).2.1.length < l.length) := by
  induction l with
  | nil => simp [bcut]
  | cons c r ih =>
    cases h : p c
    · have hc : bcut p (c :: r) = (c :: (bcut p r).1, (bcut p r).2) := by simp [bcut, h]
      rw [hc]
      simp only [List.length_cons]
      exact ⟨by omega, fun hh => by have := ih.2 hh; omega⟩
    · have hc : bcut p (c :: r) = ([], r, true) := by simp [bcut, h]
      rw [hc]
      simp
abbrev OwnS (w : World) (base : Nat) (v : Value) (l : List ByteArray) : Prop := w.ownsRow base 9 1 v l.length (l.map Value.string)
theorem app_s1 {ops : Array Oper} {rest : List Oper} {o : Oper} {a : Act} {Q : Exit → Act → World → Prop} (w : World) (y : ByteArray)
    (hgd : o.guard = none) (s x : Operand) (ho : o.op = .call { callee := .builtin .append, args := #[s, x], argTypes := #[51, 51] })
    (base : Nat) (v : Value) (l : List ByteArray) (hs : a.eval s = v) (hown : OwnS w base v l) (hx : a.eval x = .slice (some ⟨w.heap.size, 0, none⟩) 1 1)
    (hn : l.length < 1099511627776) (hbase : base ≤ w.heap.size)
    (h : ∀ v' w', OwnS w' base v' (l ++ [y]) → Below base w w' → Kp 9 w w' → wpList Tryz.prog ops Q rest (a.put o.dst v') w') :
    wpList Tryz.prog ops Q (o :: rest) a (w.alloc (.cells #[.string y] 9)) := by
  refine app_one _ _ _ (.string ByteArray.empty) 16 Tryz.underlying51 infoStr rfl hgd s x ho base v l.length _ hs (World.ownsRow.alloc hown _) ⟨w.heap.size, 0, none⟩ 1 1 [.string y] hx rfl (one_cell (by simp)) (by simp [Value.oneCell']) (by omega) (by decide) (by simp; omega) ?_
  intro v' w' h1 h2 h3
  refine h v' w' ?_ (((Below.refl base w).alloc hbase _).trans h2) ((Kp.rfl.alloc _).then h3)
  unfold OwnS
  rw [List.length_append, List.map_append]
  exact h1
theorem ownS_start (w : World) : OwnS (w.alloc (.cells #[] 9)) w.heap.size (.slice (some ⟨w.heap.size, 0, none⟩) 0 0) [] :=
  World.ownsRow_made w #[] 0 (Nat.le_refl _) (Nat.zero_le _) rfl
def strLen : Value → Nat | .string s => s.size | _ => 0
def boolOf : Value → Bool | .bool b => b | _ => false
set_option maxHeartbeats 1000000 in
theorem split_any (s : ByteArray) (n : Int) (w : World) (hs : s.size ≤ 1000000) :
    Calls Tryz.prog 207 #[.string s, .int .u8 n] w fun e w' => ∃ v bs, e = .returned v ∧ StrsAt w' v bs ∧ bs.map tl = bsplit n (tl s) ∧ Nx w w' := by
  go_enter Tryz.func207, Tryz.ntmps207
  go_wp2
  go_loopw [5, 6, 7] (fun o x m wr => ∃ (bs : List ByteArray) (q : ByteArray) (more : Bool), x = .string q ∧ m = .bool more ∧ OwnS wr w.heap.size o bs ∧ bs.length + q.size ≤ s.size + 1 ∧ bsplit n (tl s) = bs.map tl ++ (if more then bsplit n (tl q) else []) ∧ (more = true → bs.length + q.size ≤ s.size) ∧ Nx w wr)
    (fun _ x m _ => if boolOf m then strLen x + 1 else 0)
  case atStart => exact ⟨[], s, true, rfl, rfl, ownS_start w, by simp, by simp, fun _ => by simp, Nx.rfl.alloc _⟩
  case round =>
    obtain ⟨bs, q, more, rfl, rfl, hown, hl, hE, hm, hnx⟩ := hrel
    cases more
    · simp only [Bool.false_eq_true, if_false, List.append_nil] at hE
      go_wp2
      go_ret
      exact ⟨_, _, rfl, own_row hown, hE.symm, hnx⟩
    · have hl2 := hm rfl
      simp only [if_true] at hE
      have HE := hide hE
      have HO := hide hown
      have HN := hide hnx
      clear hE hown hnx hm
      have HC := hide (bsplit_cut n (tl q))
      have HL := hide (bcut_len (isB n) (tl q))
      go_wp2_with fail
      refine (acut_any _ _ _ (small_len (by omega))).mono ?_
      rintro e w1 ⟨⟨a, b, rfl, ha, hb⟩, hn1⟩
      have HA := hide ha
      have HB := hide hb
      have hla : a.size = (bcut (isB n) (tl q)).1.length := by rw [← ha, tl_length]
      have hlb : b.size = (bcut (isB n) (tl q)).2.1.length := by rw [← hb, tl_length]
      have HLA := hide hla
      have HLB := hide hlb
      clear ha hb hla hlb
      generalize bcut (isB n) (tl q) = c at *
      obtain ⟨c1, c2, found⟩ := c
      simp only at *
      have HO1 := hide (own_on HO.out hn1)
      have HN1 := hide (HN.out.then hn1)
      have hz := HN1.out.size
      clear hn1
      have hbl : bs.length < 1099511627776 := by omega
      go_wp2_with (at_builtin; go_must (refine app_s1 w1 a rfl _ _ rfl w.heap.size u5 bs rfl HO1.out rfl hbl hz ?_; intro v' w2 ho2 hb2 _; have HO2 := hide ho2; clear ho2))
      go_roundw
      case rel =>
        refine ⟨bs ++ [a], b, found, rfl, rfl, HO2.out, ?_, ?_, ?_, HN1.out.trans hb2⟩
        · have h := HL.out.1; have h1 := HLA.out; have h2 := HLB.out; rw [tl_length] at h; simp only [List.length_append, List.length_cons, List.length_nil]; omega
        · rw [HE.out, HC.out, List.map_append, List.append_assoc, List.map_cons, List.map_nil, HA.out, HB.out]
          cases found <;> rfl
        · intro hf
          have h := HL.out.2 hf
          have h2 := HLB.out
          rw [tl_length] at h
          simp only [List.length_append, List.length_cons, List.length_nil]
          omega
      case measure =>
        have h := HL.out
        have h2 := HLB.out
        rw [tl_length] at h
        simp only [boolOf, strLen]
        cases found
        · simp
        · have := h.2 rfl
          simp; omega
end Go.Proofs.YtglpmmemjhjblaaGreatDoor
