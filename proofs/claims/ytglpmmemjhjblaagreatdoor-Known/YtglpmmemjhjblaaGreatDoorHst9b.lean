import Derived.Test.YtglpmmemjhjblaaGreatDoorHst9a
namespace Go.Proofs.YtglpmmemjhjblaaGreatDoor
open Go.RowKit

/-- Each group is a number of sixteen bits. -/
def GOk (ns : List Int) : Prop := ∀ x ∈ ns, 0 ≤ x ∧ x ≤ 65535
theorem GOk.set {ns : List Int} (h : GOk ns) (i : Nat) {x : Int} (h0 : 0 ≤ x) (h1 : x ≤ 65535) : GOk (ns.set i x) := by
  intro y hy
  rcases List.mem_or_eq_of_mem_set hy with h2 | h2
  · exact h y h2
  · subst h2; exact ⟨h0, h1⟩
theorem addG_ok {g : List Int × Nat} (h : GOk g.1) {x : Int} (h0 : 0 ≤ x) (h1 : x ≤ 65535) : GOk (addG g x).1.1 := by
  unfold addG
  split
  · exact h.set _ h0 h1
  · exact h
theorem numGo16 (most : Int) (l : List UInt8) : ∀ n q, 0 ≤ n → numGo 16 most n l = some q → 0 ≤ q ∧ q + 1 ≤ (n + 1) * 16 ^ l.length := by
  induction l with
  | nil => intro n q h e; rw [numGo] at e; cases e; exact ⟨h, by simp⟩
  | cons c r ih =>
    intro n q h e
    rw [numGo] at e
    split at e
    · rename_i hd
      have hr := adigit_rng (c.toNat : Int) 16
      have h15 := hr.2 hd
      have hn' : 0 ≤ (if n ≤ most then n * 16 + (adigit (c.toNat : Int) 16).1 else n) ∧ (if n ≤ most then n * 16 + (adigit (c.toNat : Int) 16).1 else n) + 1 ≤ (n + 1) * 16 := by
        split <;> omega
      obtain ⟨h1, h2⟩ := ih _ q hn'.1 e
      refine ⟨h1, Int.le_trans h2 ?_⟩
      rw [List.length_cons, Int.pow_succ, show (n + 1) * ((16 : Int) ^ r.length * 16) = ((n + 1) * 16) * 16 ^ r.length by rw [Int.mul_comm ((16 : Int) ^ r.length), Int.mul_assoc]]
      exact Int.mul_le_mul_of_nonneg_right hn'.2 (Int.pow_nonneg (by decide))
    · cases e
theorem number16_small {l : List UInt8} (h4 : l.length ≤ 4) : 0 ≤ (number l 16 65535).1 ∧ (number l 16 65535).1 ≤ 65535 := by
  unfold number
  split
  · exact ⟨by decide, by decide⟩
  · split
    · exact ⟨by decide, by decide⟩
    · rename_i n e
      obtain ⟨h1, h2⟩ := numGo16 65535 l 0 n (by decide) e
      have h3 : (16 : Int) ^ l.length ≤ 65536 := by
        rcases (show l.length = 0 ∨ l.length = 1 ∨ l.length = 2 ∨ l.length = 3 ∨ l.length = 4 by omega) with h | h | h | h | h <;> rw [h] <;> decide
      have h5 : n ≤ 65535 := by omega
      rw [if_neg (by omega)]
      exact ⟨h1, h5⟩
theorem addGrp_ok {g : List Int × Nat} (h : GOk g.1) (l : List UInt8) : GOk (addGrp g l).1.1 := by
  unfold addGrp
  split
  · exact h
  · rename_i hh
    obtain ⟨h0, h1⟩ := number16_small (l := l) (by omega)
    exact addG_ok h h0 h1
theorem d4Go_rng (ps : List (List UInt8)) : ∀ v q, 0 ≤ v → d4Go v ps = some q → 0 ≤ q ∧ q + 1 ≤ (v + 1) * 256 ^ ps.length := by
  induction ps with
  | nil => intro n q h e; rw [d4Go] at e; cases e; exact ⟨h, by simp⟩
  | cons c r ih =>
    intro n q h e
    rw [d4Go] at e
    split at e
    · have hr := byteB_rng c
      obtain ⟨h1, h2⟩ := ih _ q (by omega) e
      refine ⟨h1, Int.le_trans h2 ?_⟩
      rw [List.length_cons, Int.pow_succ, show (n + 1) * ((256 : Int) ^ r.length * 256) = ((n + 1) * 256) * 256 ^ r.length by rw [Int.mul_comm ((256 : Int) ^ r.length), Int.mul_assoc]]
      exact Int.mul_le_mul_of_nonneg_right (by omega) (Int.pow_nonneg (by decide))
    · cases e
theorem addDot_ok {g : List Int × Nat} (h : GOk g.1) (l : List UInt8) : GOk (addDot g l).1.1 := by
  unfold addDot
  split
  · exact h
  · rename_i h4
    split
    · exact h
    · rename_i v e
      obtain ⟨h1, h2⟩ := d4Go_rng _ 0 v (by decide) e
      have h4' : (bsplit 46 l).length = 4 := by omega
      rw [h4'] at h2
      have h3 : v ≤ 4294967295 := by have : (256 : Int) ^ 4 = 4294967296 := by decide
                                     omega
      have hA := addG_ok h (x := v / 65536) (by omega) (by omega)
      split
      · exact hA
      · exact addG_ok hA (by omega) (by omega)
theorem grpGo_ok (en : Bool) (ps : List (List UInt8)) : ∀ g q, GOk g.1 → grpGo en g ps = some q → GOk q.1 := by
  induction ps with
  | nil => intro g q h e; rw [grpGo] at e; cases e; exact h
  | cons p r ih =>
    intro g q h e
    rw [grpGo] at e
    split at e
    · split at e
      · exact ih _ _ (addDot_ok h p) e
      · cases e
    · split at e
      · exact ih _ _ (addGrp_ok h p) e
      · cases e
theorem zero_ok : GOk zeros8 := by intro x hx; simp [zeros8] at hx; omega
theorem readGrp_ok (l : List UInt8) (en : Bool) : GOk (readGrp l en).1.1 := by
  unfold readGrp
  split
  · exact zero_ok
  · split
    · exact zero_ok
    · rename_i g e
      exact grpGo_ok en _ _ _ zero_ok e
theorem putGo_ok (r : List Int) : ∀ ns i, GOk ns → GOk r → GOk (putGo ns i r) := by
  induction r with
  | nil => intro ns i h _; exact h
  | cons x r ih =>
    intro ns i h hr
    rw [putGo]
    have hx := hr x (List.mem_cons_self ..)
    exact ih _ _ (h.set i hx.1 hx.2) (fun y hy => hr y (List.mem_cons_of_mem _ hy))
theorem ip6_ok (l : List UInt8) : GOk (ip6 l).1 := by
  unfold ip6 wholeL
  split
  · split
    · exact zero_ok
    · exact readGrp_ok l true
  · split
    · exact zero_ok
    · exact putGo_ok _ _ _ (readGrp_ok _ _) (fun x hx => readGrp_ok _ _ x (List.mem_of_mem_take hx))

/-- hosts.readBrackets -/
def bracketsL (l : List UInt8) : List UInt8 × Int :=
  if l.length < 2 ∨ ¬ ((l.getD (l.length - 1) 0).toNat : Int) = 93 then ([], 2)
  else if (ip6 ((l.take (l.length - 1)).drop 1)).2 = true then ([91] ++ text6 (ip6 ((l.take (l.length - 1)).drop 1)).1 ++ [93], 0) else ([], 2)
theorem w6_len (ns : List Int) (st ln : Nat) : ∀ f i, (w6Go ns st ln f i).length ≤ 5 * f := by
  intro f
  induction f with
  | zero => intro i; simp [w6Go]
  | succ f ih =>
    intro i
    rw [w6Go]
    split
    · simp
    · split
      · have := ih (i + ln)
        simp only [List.length_append, List.length_cons, List.length_nil]
        omega
      · have := ih (i + 1)
        have h4 := hexD_len (ns.getD i 0).toNat
        have h1 : (if 0 < i ∧ i ≠ st + ln then [(58 : UInt8)] else []).length ≤ 1 := by split <;> simp
        simp only [List.length_append]
        omega
set_option maxHeartbeats 4000000 in
theorem brackets_any (s : ByteArray) (w : World) (hs : s.size ≤ 1000000) (ht : Tb w) :
    Calls Tryz.prog 199 #[.string s] w fun e w' => ∃ r : ByteArray, e = .returned (.tuple #[.string r, .int .i64 (bracketsL (tl s)).2]) ∧ tl r = (bracketsL (tl s)).1 ∧ Nx w w' := by
  have HD := hide (show bracketsL (tl s) = if s.size < 2 ∨ ¬ (((tl s).getD (s.size - 1) 0).toNat : Int) = 93 then ([], 2)
    else if (ip6 (((tl s).take (s.size - 1)).drop 1)).2 = true then ([91] ++ text6 (ip6 (((tl s).take (s.size - 1)).drop 1)).1 ++ [93], 0) else ([], 2) by rw [← tl_length]; rfl)
  have HTB := hide ht
  clear ht
  by_cases h2 : s.size < 2
  · have HE := hide (HD.out.trans (if_pos (Or.inl h2)))
    clear HD
    go_enter Tryz.func199, Tryz.ntmps199
    go_wp2
    go_ret2
    exact ⟨⟨#[]⟩, by rw [HE.out]; rfl, by rw [HE.out]; rfl, Nx.rfl⟩
  · have hz : s.size - 1 < s.size := by omega
    have hb := bb (s[s.size - 1]'hz)
    rw [tl_getD s (s.size - 1) hz] at HD
    cases h93 : (((s[s.size - 1]'hz).toNat : Int) == 93)
    · have HE := hide (HD.out.trans (if_pos (Or.inr (by simpa using h93))))
      have h93' := bneT h93
      clear HD
      go_enter Tryz.func199, Tryz.ntmps199
      go_wp2
      go_ret2
      exact ⟨⟨#[]⟩, by rw [HE.out]; rfl, by rw [HE.out]; rfl, Nx.rfl⟩
    · have HE := hide (HD.out.trans (if_neg (by rintro (h | h); exact h2 h; exact h (by simpa using h93))))
      have h93' := bneF h93
      rw [← tl_extract s 1 (s.size - 1)] at HE
      have HOK := hide (ip6_ok (tl (s.extract 1 (s.size - 1))))
      clear HD
      go_enter Tryz.func199, Tryz.ntmps199
      go_wp2_with fail
      refine (ip6_any (s.extract 1 (s.size - 1)) _ (Nat.le_trans (size_ext s _ _) hs)).mono ?_
      rintro e w1 ⟨a0, a1, a2, a3, a4, a5, a6, a7, ok, rfl, hq, hn⟩
      rw [hq] at HE HOK
      simp only at HE HOK
      have HN := hide hn
      have HTB1 := hide (HTB.out.on hn)
      clear hq hn
      cases ok
      · have HE2 := hide (HE.out.trans (if_neg (by decide)))
        clear HE
        go_wp2
        go_ret2
        exact ⟨⟨#[]⟩, by rw [HE2.out]; rfl, by rw [HE2.out]; rfl, HN.out.alloc _⟩
      · have HE2 := hide (HE.out.trans (if_pos rfl))
        clear HE
        go_wp2_with fail
        refine (text6_any a0 a1 a2 a3 a4 a5 a6 a7 _ (HTB1.out.on (Nx.rfl.alloc _)) HOK.out).mono ?_
        rintro e w2 ⟨r, rfl, hr, hn2⟩
        have hrs : r.size ≤ 1000 := by
          have := w6_len [a0, a1, a2, a3, a4, a5, a6, a7] (longRun [a0, a1, a2, a3, a4, a5, a6, a7]).1 (longRun [a0, a1, a2, a3, a4, a5, a6, a7]).2 8 0
          rw [← tl_length, hr]
          unfold text6
          omega
        have HR := hide hr
        have HN2 := hide ((HN.out.alloc _).then hn2)
        clear hr hn2
        go_wp2
        go_ret2
        exact ⟨(⟨#[91]⟩ : ByteArray) ++ r ++ (⟨#[93]⟩ : ByteArray), by rw [HE2.out]; rfl, by rw [HE2.out, tl_append', tl_append', HR.out]; rfl, HN2.out⟩
end Go.Proofs.YtglpmmemjhjblaaGreatDoor
