import Derived.Test.YtchkhibgbnhjpaaGreatDoorHst4
namespace Go.Proofs.YtchkhibgbnhjpaaGreatDoor
open Go.RowKit

/-- hosts.readByte -/
def byteB (l : List UInt8) : Int × Bool := if (number l 10 255).2 = false ∨ 255 < (number l 10 255).1 ∨ (1 < l.length ∧ ((l.getD 0 0).toNat : Int) = 48) then (0, false) else ((number l 10 255).1, true)
theorem byteB_rng (l : List UInt8) : 0 ≤ (byteB l).1 ∧ (byteB l).1 ≤ 255 := by
  unfold byteB
  have := number_rng l 10 255 (by decide) (by decide)
  split
  · exact ⟨by decide, by decide⟩
  · rename_i h
    exact ⟨this.1, Int.not_lt.1 (fun hh => h (Or.inr (Or.inl hh)))⟩
theorem byteB_eq (l : List UInt8) : byteB l = if (number l 10 255).2 = false ∨ 255 < (number l 10 255).1 ∨ (1 < l.length ∧ ((l.getD 0 0).toNat : Int) = 48) then (0, false) else ((number l 10 255).1, true) := rfl
set_option maxHeartbeats 1000000 in
theorem byteB_any (s : ByteArray) (w : World) (hs : s.size ≤ 1000000) :
    Calls Tryz.prog 258 #[.string s] w fun e w' => e = .returned (.tuple #[.int .i64 (byteB (tl s)).1, .bool (byteB (tl s)).2]) ∧ w = w' := by
  have HD := hide (byteB_eq (tl s))
  rw [tl_length] at HD
  have hrn := number_rng (tl s) 10 255 (by decide) (by decide)
  generalize hq : number (tl s) 10 255 = q at *
  have HQ := hide hq
  clear hq
  obtain ⟨n, ok⟩ := q
  simp only at HD hrn
  obtain ⟨hn0, hn1⟩ := hrn
  cases ok
  · have HE := hide (HD.out.trans (if_pos (Or.inl rfl)))
    clear HD
    go_enter Tryz.func258, Tryz.ntmps258
    go_wp2_with (go_at_call 233; refine (number10_any _ _ _ hs (by decide) (by decide)).mono ?_; rintro e w' ⟨rfl, rfl⟩; rw [HQ.out])
    go_ret2
    exact ⟨by rw [HE.out]; rfl, rfl⟩
  · by_cases h255 : 255 < n
    · have HE := hide (HD.out.trans (if_pos (Or.inr (Or.inl h255))))
      clear HD
      go_enter Tryz.func258, Tryz.ntmps258
      go_wp2_with (go_at_call 233; refine (number10_any _ _ _ hs (by decide) (by decide)).mono ?_; rintro e w' ⟨rfl, rfl⟩; rw [HQ.out])
      go_ret2
      exact ⟨by rw [HE.out]; rfl, rfl⟩
    · by_cases h1 : 1 < s.size
      · have hb0 := bb s[0]
        rw [tl_getD s 0 (by omega)] at HD
        cases h48 : ((s[0].toNat : Int) == 48)
        · have HE := hide (HD.out.trans (if_neg (by rintro (h | h | ⟨-, h⟩); cases h; exact h255 h; rw [h] at h48; cases h48)))
          clear HD
          go_enter Tryz.func258, Tryz.ntmps258
          go_wp2_with (go_at_call 233; refine (number10_any _ _ _ hs (by decide) (by decide)).mono ?_; rintro e w' ⟨rfl, rfl⟩; rw [HQ.out])
          go_ret2
          exact ⟨by rw [HE.out]; rfl, rfl⟩
        · have HE := hide (HD.out.trans (if_pos (Or.inr (Or.inr ⟨h1, by simpa using h48⟩))))
          clear HD
          go_enter Tryz.func258, Tryz.ntmps258
          go_wp2_with (go_at_call 233; refine (number10_any _ _ _ hs (by decide) (by decide)).mono ?_; rintro e w' ⟨rfl, rfl⟩; rw [HQ.out])
          go_ret2
          exact ⟨by rw [HE.out]; rfl, rfl⟩
      · have HE := hide (HD.out.trans (if_neg (by rintro (h | h | ⟨h, -⟩); cases h; exact h255 h; exact h1 h)))
        clear HD
        go_enter Tryz.func258, Tryz.ntmps258
        go_wp2_with (go_at_call 233; refine (number10_any _ _ _ hs (by decide) (by decide)).mono ?_; rintro e w' ⟨rfl, rfl⟩; rw [HQ.out])
        go_ret2
        exact ⟨by rw [HE.out]; rfl, rfl⟩

/-- (*hosts.groups).addGroup -/
def addGrp (g : List Int × Nat) (l : List UInt8) : (List Int × Nat) × Bool := if (number l 16 65535).2 = false ∨ 4 < l.length then (g, false) else addG g (number l 16 65535).1
set_option maxHeartbeats 1000000 in
theorem addGrp_any (gb : Nat) (g : List Int × Nat) (s : ByteArray) (w : World) (h : GrpAt w gb g.1 g.2) (hs : s.size ≤ 1000000) :
    Calls Tryz.prog 257 #[.pointer (some ⟨gb, 0, none⟩), .string s] w fun e w' => e = .returned (.bool (addGrp g (tl s)).2) ∧ GrpAt w' gb (addGrp g (tl s)).1.1 (addGrp g (tl s)).1.2 ∧ But gb w w' := by
  have HG := hide h
  clear h
  have HD := hide (show addGrp g (tl s) = if (number (tl s) 16 65535).2 = false ∨ 4 < s.size then (g, false) else addG g (number (tl s) 16 65535).1 by rw [← tl_length]; rfl)
  generalize hq : number (tl s) 16 65535 = q at *
  have HQ := hide hq
  clear hq
  obtain ⟨n, ok⟩ := q
  simp only at HD
  cases ok
  · have HE := hide (HD.out.trans (if_pos (Or.inl rfl)))
    clear HD
    go_enter Tryz.func257, Tryz.ntmps257
    go_wp2_with (go_at_call 233; refine (number16_any _ _ _ hs (by decide) (by decide)).mono ?_; rintro e w' ⟨rfl, rfl⟩; rw [HQ.out])
    go_ret
    rw [HE.out]
    exact ⟨rfl, HG.out, But.refl _ _⟩
  · by_cases h4 : 4 < s.size
    · have HE := hide (HD.out.trans (if_pos (Or.inr h4)))
      clear HD
      go_enter Tryz.func257, Tryz.ntmps257
      go_wp2_with (go_at_call 233; refine (number16_any _ _ _ hs (by decide) (by decide)).mono ?_; rintro e w' ⟨rfl, rfl⟩; rw [HQ.out])
      go_ret
      rw [HE.out]
      exact ⟨rfl, HG.out, But.refl _ _⟩
    · have HE := hide (HD.out.trans (if_neg (by rintro (h | h); cases h; exact h4 h)))
      clear HD
      go_enter Tryz.func257, Tryz.ntmps257
      go_wp2_with (first | (go_at_call 233; refine (number16_any _ _ _ hs (by decide) (by decide)).mono ?_; rintro e w' ⟨rfl, rfl⟩; rw [HQ.out]) | (go_at_call 259; refine (addG_any gb g _ _ HG.out).mono ?_; rintro e w1 ⟨rfl, h1, h2⟩; have H1 := hide h1; have H2 := hide h2; clear h1 h2))
      go_ret
      rw [HE.out]
      exact ⟨rfl, H1.out, H2.out⟩

/-- (*hosts.groups).addDotted -/
def d4Go : Int → List (List UInt8) → Option Int
  | v, [] => some v
  | v, p :: r => if (byteB p).2 = true then d4Go (v * 256 + (byteB p).1) r else none
def addDot (g : List Int × Nat) (l : List UInt8) : (List Int × Nat) × Bool :=
  if (bsplit 46 l).length ≠ 4 then (g, false) else
  match d4Go 0 (bsplit 46 l) with
  | none => (g, false)
  | some v => if (addG g (v / 65536)).2 = false then ((addG g (v / 65536)).1, false) else addG (addG g (v / 65536)).1 (v % 65536)
theorem addDot_none {g : List Int × Nat} {l : List UInt8} (h : d4Go 0 (bsplit 46 l) = none) : addDot g l = (g, false) := by unfold addDot; rw [h]; split <;> rfl
theorem addDot_some {g : List Int × Nat} {l : List UInt8} {v : Int} (h4 : (bsplit 46 l).length = 4) (h : d4Go 0 (bsplit 46 l) = some v) : addDot g l = if (addG g (v / 65536)).2 = false then ((addG g (v / 65536)).1, false) else addG (addG g (v / 65536)).1 (v % 65536) := by
  unfold addDot; rw [if_neg (fun hh => hh h4), h]
theorem d4_step (bs : List ByteArray) (k : Nat) (h : k < bs.length) (v : Int) : d4Go v ((bs.drop k).map tl) = if (byteB (tl bs[k])).2 = true then d4Go (v * 256 + (byteB (tl bs[k])).1) ((bs.drop (k + 1)).map tl) else none := by
  rw [List.drop_eq_getElem_cons h, List.map_cons, d4Go]
theorem bsplit_size {n : Int} {s : ByteArray} {bs : List ByteArray} (h : bs.map tl = bsplit n (tl s)) : ∀ b ∈ bs, b.size ≤ s.size := by
  have key : ∀ l : List UInt8, ∀ p ∈ bsplit n l, p.length ≤ l.length := by
    intro l
    induction l with
    | nil => intro p hp; rw [bsplit] at hp; simp at hp; subst hp; simp
    | cons c r ih =>
      intro p hp
      rw [bsplit] at hp
      split at hp
      · rcases List.mem_cons.1 hp with rfl | hp
        · simp
        · have := ih p hp; simp; omega
      · obtain ⟨x, q, hx⟩ := bsplit_ne n r
        rw [hx] at hp ih
        simp only at hp
        rcases List.mem_cons.1 hp with rfl | hp
        · have := ih x (List.mem_cons_self ..); simp; omega
        · have := ih p (List.mem_cons_of_mem _ hp); simp; omega
  intro b hb
  have h1 := key (tl s) (tl b) (by rw [← h]; exact List.mem_map.2 ⟨b, hb, rfl⟩)
  rw [tl_length, tl_length] at h1
  exact h1
set_option maxHeartbeats 4000000 in
theorem addDot_any (gb : Nat) (g : List Int × Nat) (s : ByteArray) (w : World) (h : GrpAt w gb g.1 g.2) (hs : s.size ≤ 1000000) :
    Calls Tryz.prog 256 #[.pointer (some ⟨gb, 0, none⟩), .string s] w fun e w' => e = .returned (.bool (addDot g (tl s)).2) ∧ GrpAt w' gb (addDot g (tl s)).1.1 (addDot g (tl s)).1.2 ∧ But gb w w' := by
  have HG := hide h
  clear h
  go_enter Tryz.func256, Tryz.ntmps256
  go_wp2_with fail
  refine (split_any s 46 w hs).mono ?_
  rintro e w1 ⟨v, bs, rfl, hv, hbs, hn⟩
  have HG1 := hide (HG.out.on hn)
  have HB1 := hide (show But gb w w1 from But.nx hn)
  have HBS := hide hbs
  have HSZ := hide (show ∀ b ∈ bs, b.size ≤ 1000000 from fun b hb => Nat.le_trans (bsplit_size hbs b hb) hs)
  have HLEN := hide (show (bsplit 46 (tl s)).length = bs.length by rw [← hbs, List.length_map])
  clear hbs hn HG
  obtain ⟨ao, cap, rfl, hlc, hcap, hnone, hsome⟩ := hv
  unfold maxLen at hcap
  by_cases h4 : bs.length = 4
  · have hne : ((bs.length : Int) != 4) = false := by rw [h4]; rfl
    have hpos : 0 < bs.length := by omega
    have hle : bs.length ≤ 4 := by omega
    have H4 := hide h4
    obtain ⟨a, ha⟩ := sl_some (k := 0) hpos hnone
    subst ha
    obtain ⟨b, off, rfl, hr⟩ := hsome a rfl
    have HR := hide hr
    clear hnone hsome hr h4
    go_wp2
    go_loop [6, 7] (fun x i => ∃ (k : Nat) (val : Int), k ≤ bs.length ∧ i = .int .i64 k ∧ x = .int .i64 val ∧ 0 ≤ val ∧ val ≤ 4294967295 ∧ (k ≤ 3 → val ≤ 16777215) ∧ (k ≤ 2 → val ≤ 65535) ∧ (k ≤ 1 → val ≤ 255) ∧ (k = 0 → val = 0) ∧ d4Go 0 (bs.map tl) = d4Go val ((bs.drop k).map tl)) (fun _ i => bs.length - (intOf i).toNat)
    case atStart => exact ⟨0, 0, Nat.zero_le _, rfl, rfl, by omega, by omega, by omega, by omega, by omega, by omega, rfl⟩
    case round =>
      obtain ⟨k, val, hk, rfl, rfl, hv0, hv1, hv2, hv3, hv4, hv5, hE⟩ := hrel
      have HV := hide (And.intro hv2 (And.intro hv3 (And.intro hv4 hv5)))
      clear hv2 hv3 hv4 hv5
      by_cases hlt : k < bs.length
      · have hck := HR.out.cell hlt
        have hsz := HSZ.out _ (List.getElem_mem hlt)
        have hrn := byteB_rng (tl bs[k])
        rw [d4_step bs k hlt] at hE
        have HE2 := hide hE
        clear hE
        have hval : val ≤ 16777215 := HV.out.1 (by omega)
        generalize bs[k] = p at *
        generalize hq : byteB (tl p) = q at *
        have HQ := hide hq
        clear hq
        obtain ⟨n, ok⟩ := q
        simp only at HE2 hrn
        obtain ⟨hn0, hn1⟩ := hrn
        cases ok
        · have HF := hide (addDot_none (g := g) (l := tl s) (by rw [← HBS.out]; exact HE2.out.trans (if_neg (by decide))))
          clear HE2
          go_wp2_with (go_at_call 258; refine (byteB_any _ _ hsz).mono ?_; rintro e w' ⟨rfl, rfl⟩; rw [HQ.out])
          go_ret
          rw [HF.out]
          exact ⟨rfl, HG1.out, HB1.out⟩
        · have HF := hide (HE2.out.trans (if_pos rfl))
          clear HE2
          go_wp2_with (go_at_call 258; refine (byteB_any _ _ hsz).mono ?_; rintro e w' ⟨rfl, rfl⟩; rw [HQ.out])
          go_round
          case rel =>
            obtain ⟨g1, g2, g3, g4⟩ := HV.out
            exact ⟨k + 1, val * 256 + n, by omega, by go_num, by go_num, by omega, by omega, by intro h; have := g2 (by omega); omega, by intro h; have := g3 (by omega); omega, by intro h; have := g4 (by omega); omega, by omega, HF.out⟩
          case measure => simp [intOf]; omega
      · have HF := hide (addDot_some (g := g) (l := tl s) (v := val) (by rw [HLEN.out]; exact H4.out) (by rw [← HBS.out, hE, List.drop_of_length_le (by omega)]; rfl))
        clear hE
        have HDV := hide (show Int.tdiv val 65536 = val / 65536 from Int.tdiv_eq_ediv_of_nonneg hv0)
        have HMV := hide (show Int.tmod val 65536 = val % 65536 from Int.tmod_eq_emod_of_nonneg hv0)
        go_wp2_with fail
        refine (addG_any gb g _ _ HG1.out).mono ?_
        rintro e w2 ⟨rfl, h1, h2⟩
        try rw [HDV.out] at *
        generalize addG g (val / 65536) = a1 at *
        obtain ⟨g1, ok1⟩ := a1
        simp only at *
        have HG2 := hide h1
        have HB2 := hide (HB1.out.then h2)
        clear h1 h2
        cases ok1
        · have HH := hide (HF.out.trans (if_pos rfl))
          clear HF
          go_wp2
          go_ret
          rw [HH.out]
          exact ⟨rfl, HG2.out, HB2.out⟩
        · have HH := hide (HF.out.trans (if_neg (by decide)))
          clear HF
          go_wp2_with fail
          refine (addG_any gb g1 _ _ HG2.out).mono ?_
          rintro e w3 ⟨rfl, h1, h2⟩
          try rw [HMV.out] at *
          have HG3 := hide h1
          have HB3 := hide (HB2.out.then h2)
          clear h1 h2
          go_wp2
          go_ret
          rw [HH.out]
          exact ⟨rfl, HG3.out, HB3.out⟩
  · have hne : ((bs.length : Int) != 4) = true := bneT (beq_eq_false_iff_ne.2 (by omega))
    have HF := hide (show addDot g (tl s) = (g, false) by unfold addDot; rw [if_pos (by rw [HLEN.out]; exact h4)])
    clear hnone hsome
    go_wp2
    go_ret
    rw [HF.out]
    exact ⟨rfl, HG1.out, HB1.out⟩
end Go.Proofs.YtchkhibgbnhjpaaGreatDoor
