import Derived.Test.YtchkhibgbnhjpaaGreatDoorHst9
import Derived.Test.YtchkhibgbnhjpaaGreatDoorSnd5
namespace Go.Proofs.YtchkhibgbnhjpaaGreatDoor
open Go.RowKit

/-- Groups with colons between. -/
def tailC (gs : List (List UInt8)) : List UInt8 := gs.flatMap fun g => [58] ++ g
def joinC : List (List UInt8) → List UInt8
  | [] => []
  | g :: r => g ++ tailC r
abbrev hx (x : Int) : List UInt8 := hexD x.toNat
theorem tailC_cons (g : List UInt8) (r : List (List UInt8)) : tailC (g :: r) = [58] ++ g ++ tailC r := by simp [tailC]
theorem w6_back (ns : List Int) (hl : ns.length = 8) (st ln : Nat) : ∀ f i, st + ln ≤ i → st < i → 8 ≤ i + f → w6Go ns st ln f i = if i = st + ln then joinC ((ns.drop i).map hx) else tailC ((ns.drop i).map hx) := by
  intro f
  induction f with
  | zero =>
    intro i h1 h2 h3
    rw [w6Go, List.drop_of_length_le (by omega)]
    split <;> rfl
  | succ f ih =>
    intro i h1 h2 h3
    rw [w6Go]
    by_cases h8 : 8 ≤ i
    · rw [if_pos h8, List.drop_of_length_le (by omega)]
      split <;> rfl
    · have hi : i < ns.length := by omega
      have ihh := ih (i + 1) (by omega) (by omega) (by omega)
      rw [if_neg (by omega : ¬ i + 1 = st + ln)] at ihh
      rw [if_neg h8, if_neg (by omega), ihh, List.drop_eq_getElem_cons hi, List.map_cons, List.getD_eq_getElem?_getD, List.getElem?_eq_getElem hi]
      by_cases he : i = st + ln
      · rw [if_neg (fun h => h.2 he), if_pos he]; rfl
      · rw [if_pos ⟨by omega, he⟩, if_neg he, tailC_cons]; rfl
theorem w6_front (ns : List Int) (hl : ns.length = 8) (st ln : Nat) (hst : st < 8) (hln : 1 ≤ ln) : ∀ f i, i ≤ st → 8 ≤ i + f →
    w6Go ns st ln f i = (if i = 0 then joinC (((ns.take st).drop i).map hx) else tailC (((ns.take st).drop i).map hx)) ++ ([58, 58] ++ joinC ((ns.drop (st + ln)).map hx)) := by
  intro f
  induction f with
  | zero => intro i h1 h2; omega
  | succ f ih =>
    intro i h1 h2
    rw [w6Go, if_neg (by omega)]
    by_cases he : i = st
    · have hb := w6_back ns hl st ln f (i + ln) (by omega) (by omega) (by omega)
      rw [if_pos (by omega : i + ln = st + ln)] at hb
      rw [if_pos he, hb, List.drop_of_length_le (by rw [List.length_take]; omega : (ns.take st).length ≤ i)]
      subst he
      split <;> rfl
    · have hi : i < (ns.take st).length := by rw [List.length_take]; omega
      have ihh := ih (i + 1) (by omega) (by omega)
      rw [if_neg (by omega : ¬ i + 1 = 0)] at ihh
      rw [if_neg he, ihh, List.drop_eq_getElem_cons hi, List.map_cons, List.getElem_take, List.getD_eq_getElem?_getD, List.getElem?_eq_getElem (by omega : i < ns.length)]
      by_cases h0 : i = 0
      · subst h0
        rw [if_neg (by omega), if_pos rfl, joinC]
        simp
      · rw [if_pos ⟨by omega, by omega⟩, if_neg h0, tailC_cons]
        simp
theorem w6_all (ns : List Int) (hl : ns.length = 8) (st ln : Nat) (hst : 8 ≤ st) : ∀ f i, 8 ≤ i + f →
    w6Go ns st ln f i = if i = 0 then joinC ((ns.drop i).map hx) else tailC ((ns.drop i).map hx) := by
  intro f
  induction f with
  | zero =>
    intro i h2
    rw [w6Go, List.drop_of_length_le (by omega)]
    split <;> rfl
  | succ f ih =>
    intro i h2
    rw [w6Go]
    by_cases h8 : 8 ≤ i
    · rw [if_pos h8, List.drop_of_length_le (by omega)]
      split <;> rfl
    · have hi : i < ns.length := by omega
      have ihh := ih (i + 1) (by omega)
      rw [if_neg (by omega : ¬ i + 1 = 0)] at ihh
      rw [if_neg h8, if_neg (by omega), ihh, List.drop_eq_getElem_cons hi, List.map_cons, List.getD_eq_getElem?_getD, List.getElem?_eq_getElem hi]
      by_cases he : i = 0
      · rw [if_neg (by omega), if_pos he]; rfl
      · rw [if_pos ⟨by omega, by omega⟩, if_neg he, tailC_cons]; rfl
/-- The longest run of noughts: none (8, 1), or within the list, of noughts alone. -/
def RunOk (ns : List Int) (st ln : Nat) : Prop := (st = 8 ∧ ln = 1) ∨ (st + ln ≤ 8 ∧ 1 ≤ ln ∧ ∀ k, st ≤ k → k < st + ln → ns.getD k 0 = 0)
theorem lr_ok (ns : List Int) (hl : ns.length = 8) : ∀ (rest : List Int) i st ln run, rest = ns.drop i → run ≤ i → i ≤ 8 → 1 ≤ ln → (∀ k, i - run ≤ k → k < i → ns.getD k 0 = 0) → ((st = 8 ∧ ln = 1) ∨ (st + ln ≤ 8 ∧ ∀ k, st ≤ k → k < st + ln → ns.getD k 0 = 0)) → RunOk ns (lrGo i st ln run rest).1 (lrGo i st ln run rest).2 := by
  intro rest
  induction rest with
  | nil =>
    intro i st ln run h1 h2 h3 h4 h5 h6
    rw [lrGo]
    rcases h6 with h | ⟨h, k⟩
    · exact Or.inl h
    · exact Or.inr ⟨h, h4, k⟩
  | cons x r ih =>
    intro i st ln run h1 h2 h3 h4 h5 h6
    have hi : i < ns.length := by
      rcases Nat.lt_or_ge i ns.length with h | h
      · exact h
      · rw [List.drop_of_length_le h] at h1; cases h1
    rw [List.drop_eq_getElem_cons hi] at h1
    obtain ⟨hx0, hr⟩ := List.cons.inj h1
    have hrun : ∀ k, i + 1 - (if x = 0 then run + 1 else 0) ≤ k → k < i + 1 → ns.getD k 0 = 0 := by
      intro k k1 k2
      split at k1
      · next hz =>
        by_cases hk : k = i
        · subst hk; rw [List.getD_eq_getElem?_getD, List.getElem?_eq_getElem hi, ← hx0]; exact hz
        · exact h5 k (by omega) (by omega)
      · omega
    have hrl : (if x = 0 then run + 1 else 0) ≤ i + 1 := by split <;> omega
    rw [lrGo]
    generalize (if x = 0 then run + 1 else 0) = run' at *
    split
    · refine ih (i + 1) _ _ _ hr hrl (by omega) (by omega) hrun (Or.inr ⟨by omega, fun k k1 k2 => hrun k k1 (by omega)⟩)
    · exact ih (i + 1) _ _ _ hr hrl (by omega) h4 hrun h6
theorem longRun_ok (ns : List Int) (hl : ns.length = 8) : RunOk ns (longRun ns).1 (longRun ns).2 :=
  lr_ok ns hl ns 0 8 1 0 rfl (Nat.le_refl _) (by omega) (Nat.le_refl _) (fun k _ h => absurd h (Nat.not_lt_zero _)) (Or.inl ⟨rfl, rfl⟩)
/-- No two colons in a row, and none at the end. -/
def NG : List UInt8 → Prop
  | [] => True
  | c :: r => (c = 58 → ∃ d q, r = d :: q ∧ d ≠ 58) ∧ NG r
theorem gap_none : ∀ (l : List UInt8), NG l → cutGap l = ([], [], false)
  | [], _ => rfl
  | [_], _ => rfl
  | c :: d :: r, h => by
    rw [cutGap, if_neg, gap_none (d :: r) h.2, if_neg (by decide)]
    rintro ⟨h1, h2⟩
    obtain ⟨e, q, he, hne⟩ := h.1 h1
    cases he
    exact hne h2
theorem gap_at : ∀ (a r : List UInt8), NG a → cutGap (a ++ ([58, 58] ++ r)) = (a, r, true)
  | [], r, _ => by simp [cutGap]
  | [c], r, h => by
    have hc : ¬ c = 58 := fun e => by obtain ⟨d, q, hq, -⟩ := h.1 e; cases hq
    show cutGap (c :: 58 :: 58 :: r) = _
    rw [cutGap, if_neg (fun e => hc e.1)]
    simp [cutGap]
  | c :: d :: a, r, h => by
    have ih := gap_at (d :: a) r h.2
    show cutGap (c :: d :: (a ++ ([58, 58] ++ r))) = _
    rw [cutGap, if_neg]
    · rw [show d :: (a ++ ([58, 58] ++ r)) = (d :: a) ++ ([58, 58] ++ r) from rfl, ih]
      simp
    · rintro ⟨h1, h2⟩
      obtain ⟨e, q, he, hne⟩ := h.1 h1
      cases he
      exact hne h2
/-- A group: not empty, and no colon in it. -/
def GrpT (g : List UInt8) : Prop := g ≠ [] ∧ ∀ b ∈ g, b ≠ 58
theorem ng_app {g l : List UInt8} (h : ∀ b ∈ g, b ≠ 58) (hl : NG l) : NG (g ++ l) := by
  induction g with
  | nil => exact hl
  | cons c r ih => exact ⟨fun e => absurd e (h c (by simp)), ih (fun b hb => h b (by simp [hb]))⟩
theorem ng_tail {gs : List (List UInt8)} (h : ∀ g ∈ gs, GrpT g) : NG (tailC gs) := by
  induction gs with
  | nil => exact True.intro
  | cons g r ih =>
    rw [tailC_cons, List.append_assoc]
    show NG (58 :: (g ++ tailC r))
    obtain ⟨hn, hb⟩ := h g (by simp)
    refine ⟨fun _ => ?_, ng_app (g := g) hb (ih fun q hq => h q (by simp [hq]))⟩
    cases g with
    | nil => exact absurd rfl hn
    | cons d q => exact ⟨d, q ++ tailC r, rfl, hb d (by simp)⟩
theorem ng_join {gs : List (List UInt8)} (h : ∀ g ∈ gs, GrpT g) : NG (joinC gs) := by
  cases gs with
  | nil => exact True.intro
  | cons g r => exact ng_app (h g (by simp)).2 (ng_tail fun q hq => h q (by simp [hq]))
theorem isB_58 {b : UInt8} : isB 58 b = true ↔ b = 58 := by
  unfold isB
  rw [beq_iff_eq]
  constructor
  · intro h
    have h2 : b.toNat = (58 : UInt8).toNat := by show b.toNat = 58; omega
    exact UInt8.toNat_inj.1 h2
  · intro h; subst h; rfl
theorem split_app (g l : List UInt8) (n : Int) (h : ∀ b ∈ g, isB n b = false) : bsplit n (g ++ l) = match bsplit n l with | [] => [g] | p :: q => (g ++ p) :: q := by
  induction g with
  | nil =>
    obtain ⟨p, q, hpq⟩ := bsplit_ne n l
    rw [List.nil_append, hpq]
    rfl
  | cons c r ih =>
    rw [List.cons_append, bsplit, if_neg (by rw [h c (by simp)]; decide), ih (fun b hb => h b (by simp [hb]))]
    obtain ⟨p, q, hpq⟩ := bsplit_ne n l
    rw [hpq]
    rfl
theorem split_tail {gs : List (List UInt8)} (h : ∀ g ∈ gs, GrpT g) : bsplit 58 (tailC gs) = [] :: gs := by
  induction gs with
  | nil => rfl
  | cons g r ih =>
    have hb : ∀ b ∈ g, isB 58 b = false := fun b hb => by
      cases hh : isB 58 b
      · rfl
      · exact absurd (isB_58.1 hh) ((h g (by simp)).2 b hb)
    rw [tailC_cons, List.append_assoc]
    show bsplit 58 (58 :: (g ++ tailC r)) = _
    rw [bsplit, if_pos (by decide), split_app g _ 58 hb, ih (fun q hq => h q (by simp [hq]))]
    simp
theorem split_join {g : List UInt8} {r : List (List UInt8)} (h : ∀ q ∈ g :: r, GrpT q) : bsplit 58 (joinC (g :: r)) = g :: r := by
  have hb : ∀ b ∈ g, isB 58 b = false := fun b hb => by
    cases hh : isB 58 b
    · rfl
    · exact absurd (isB_58.1 hh) ((h g (by simp)).2 b hb)
  rw [joinC, split_app g _ 58 hb, split_tail (fun q hq => h q (by simp [hq]))]
  simp
end Go.Proofs.YtchkhibgbnhjpaaGreatDoor

namespace Go.Proofs.YtchkhibgbnhjpaaGreatDoor
open Go.RowKit

theorem hexC_dig {d : Nat} (h : d ≤ 15) : adigit ((hexC d).toNat : Int) 16 = ((d : Int), true) ∧ hexC d ≠ 58 ∧ hexC d ≠ 46 := by
  match d, h with
  | 0, _ => decide
  | 1, _ => decide
  | 2, _ => decide
  | 3, _ => decide
  | 4, _ => decide
  | 5, _ => decide
  | 6, _ => decide
  | 7, _ => decide
  | 8, _ => decide
  | 9, _ => decide
  | 10, _ => decide
  | 11, _ => decide
  | 12, _ => decide
  | 13, _ => decide
  | 14, _ => decide
  | 15, _ => decide
theorem hexD_le4 (n : Nat) : (hexD n).length ≤ 4 := by unfold hexD; (repeat' split) <;> simp
theorem hexD_ne (n : Nat) : hexD n ≠ [] := by unfold hexD; (repeat' split) <;> simp
theorem hexD_mem {n : Nat} (h : n ≤ 65535) : ∀ b ∈ hexD n, b ≠ 58 ∧ b ≠ 46 := by
  intro b hb
  have key : ∀ d, d ≤ 15 → b = hexC d → b ≠ 58 ∧ b ≠ 46 := fun d hd e => by subst e; exact (hexC_dig hd).2
  unfold hexD at hb
  (repeat' split at hb) <;> simp only [List.mem_cons, List.not_mem_nil, or_false] at hb
  · exact key _ (by omega) hb
  · rcases hb with hb | hb <;> exact key _ (by omega) hb
  · rcases hb with hb | hb | hb <;> exact key _ (by omega) hb
  · rcases hb with hb | hb | hb | hb <;> exact key _ (by omega) hb
theorem numGo_hex (n d : Nat) (hd : d ≤ 15) (hn : n ≤ 65535) (r : List UInt8) : numGo 16 65535 (n : Int) (hexC d :: r) = numGo 16 65535 ((n * 16 + d : Nat) : Int) r := by
  rw [numGo, (hexC_dig hd).1, if_pos rfl, if_pos (by omega)]
  simp
theorem hexD_num {n : Nat} (h : n ≤ 65535) : number (hexD n) 16 65535 = ((n : Int), true) := by
  unfold number
  rw [if_neg (hexD_ne n)]
  have key : numGo 16 65535 0 (hexD n) = some (n : Int) := by
    show numGo 16 65535 ((0 : Nat) : Int) (hexD n) = _
    unfold hexD
    split
    · rw [numGo_hex 0 n (by omega) (by omega), numGo]; simp
    split
    · rw [numGo_hex 0 _ (by omega) (by omega), numGo_hex _ _ (by omega) (by omega), numGo]; congr 1; omega
    split
    · rw [numGo_hex 0 _ (by omega) (by omega), numGo_hex _ _ (by omega) (by omega), numGo_hex _ _ (by omega) (by omega), numGo]; congr 1; omega
    · rw [numGo_hex 0 _ (by omega) (by omega), numGo_hex _ _ (by omega) (by omega), numGo_hex _ _ (by omega) (by omega), numGo_hex _ _ (by omega) (by omega), numGo]; congr 1; omega
  rw [key]
  show (if (65535 : Int) < n then _ else _) = _
  rw [if_neg (by omega)]
theorem hx_grp {x : Int} (h : 0 ≤ x ∧ x ≤ 65535) : GrpT (hx x) := ⟨hexD_ne _, fun b hb => (hexD_mem (by omega) b hb).1⟩
theorem hx_add {x : Int} (h : 0 ≤ x ∧ x ≤ 65535) (g : List Int × Nat) : addGrp g (hx x) = addG g x := by
  have := hexD_num (n := x.toNat) (by omega)
  unfold addGrp
  rw [this, if_neg]
  · congr 1; show ((x.toNat : Nat) : Int) = x; omega
  · rintro (e | e)
    · cases e
    · have : (hx x).length ≤ 4 := hexD_le4 x.toNat
      omega
theorem among_46 {l : List UInt8} (h : ∀ b ∈ l, b ≠ 46) : among 46 l = false := by
  cases hh : among 46 l
  · rfl
  · exfalso
    unfold among at hh
    obtain ⟨b, hb, he⟩ := List.any_eq_true.1 hh
    refine h b hb (UInt8.toNat_inj.1 ?_)
    have := of_decide_eq_true (p := (b.toNat : Int) = 46) (by simpa using he)
    show b.toNat = 46
    omega
theorem putGo_eq : ∀ (xs zs : List Int) (n : Nat), n + xs.length ≤ zs.length → putGo zs n xs = zs.take n ++ xs ++ zs.drop (n + xs.length) := by
  intro xs
  induction xs with
  | nil => intro zs n h; rw [putGo]; simp
  | cons x r ih =>
    intro zs n h
    simp only [List.length_cons] at h
    rw [putGo, ih (zs.set n x) (n + 1) (by rw [List.length_set]; omega)]
    rw [List.take_set, List.drop_set, if_pos (by omega), List.take_succ_eq_append_getElem (by omega)]
    have : (zs.take n ++ [zs[n]]).set n x = zs.take n ++ [x] := by
      rw [List.set_append_right _ _ (by rw [List.length_take]; omega)]
      rw [List.length_take, Nat.min_eq_left (by omega), Nat.sub_self]
      rfl
    rw [this, List.length_cons, show n + 1 + r.length = n + (r.length + 1) by omega]
    simp
theorem grpGo_hx (en : Bool) : ∀ (xs zs : List Int) (n : Nat), GOk xs → n + xs.length ≤ 8 → grpGo en (zs, n) (xs.map hx) = some (putGo zs n xs, n + xs.length) := by
  intro xs
  induction xs with
  | nil => intro zs n _ _; rfl
  | cons x r ih =>
    intro zs n h hl
    simp only [List.length_cons] at hl
    have hx0 := h x (by simp)
    have ha : addGrp (zs, n) (hx x) = ((zs.set n x, n + 1), true) := by rw [hx_add hx0]; unfold addG; rw [if_pos (by show n < 8; omega)]
    rw [List.map_cons, grpGo, among_46 (fun b hb => (hexD_mem (by omega) b hb).2), if_neg (by rintro ⟨-, -, e⟩; cases e), ha, if_pos rfl, ih _ _ (fun y hy => h y (by simp [hy])) (by omega), putGo, List.length_cons]
    congr 2; omega
theorem readGrp_hx (en : Bool) (xs : List Int) (h : GOk xs) (hl : xs.length ≤ 8) : readGrp (joinC (xs.map hx)) en = ((putGo zeros8 0 xs, xs.length), true) := by
  cases xs with
  | nil => rfl
  | cons x r =>
    have hg : ∀ q ∈ (x :: r).map hx, GrpT q := fun q hq => by
      obtain ⟨y, hy, rfl⟩ := List.mem_map.1 hq
      exact hx_grp (h y hy)
    have hs := split_join (g := hx x) (r := r.map hx) hg
    have hgo := grpGo_hx en (x :: r) zeros8 0 h (by simpa using hl)
    unfold readGrp
    rw [if_neg, List.map_cons, hs]
    · rw [show zeroG = (zeros8, 0) from rfl, ← List.map_cons, hgo]
      simp
    · rw [List.map_cons, joinC]
      intro e
      exact hexD_ne _ (List.append_eq_nil_iff.1 e).1
theorem drop_all {a b : List Int} {n : Nat} (h : ∀ k, k < n → (a.getD k 0) = 0) (hl : a.length = n) (hb : b = List.replicate n 0) : a = b := by
  subst hb
  refine List.ext_getElem (by simp [hl]) fun i h1 h2 => ?_
  have := h i (by omega)
  rw [List.getD_eq_getElem?_getD, List.getElem?_eq_getElem h1] at this
  simpa using this
/-- What is written of eight groups is read as them. -/
theorem ip6_text {ns : List Int} (hl : ns.length = 8) (h : GOk ns) : ip6 (text6 ns) = (ns, true) := by
  have hok := longRun_ok ns hl
  unfold text6
  generalize (longRun ns).1 = st at *
  generalize (longRun ns).2 = ln at *
  have hgr : ∀ xs : List Int, GOk xs → ∀ q ∈ xs.map hx, GrpT q := fun xs hxs q hq => by
    obtain ⟨y, hy, rfl⟩ := List.mem_map.1 hq
    exact hx_grp (hxs y hy)
  by_cases h8 : 8 ≤ st
  · have ht := w6_all ns hl st ln h8 8 0 (by omega)
    rw [if_pos rfl, List.drop_zero] at ht
    rw [ht]
    unfold ip6
    rw [gap_none _ (ng_join (hgr ns h)), if_pos rfl]
    unfold wholeL
    rw [readGrp_hx true ns h (by omega), if_neg (by rintro (e | e); cases e; exact e hl), putGo_eq ns zeros8 0 (by rw [hl]; decide), hl]
    simp [zeros8]
  · rcases hok with ⟨e, -⟩ | ⟨h1, h2, h3⟩
    · omega
    · have ht := w6_front ns hl st ln (by omega) h2 8 0 (by omega) (by omega)
      rw [if_pos rfl, List.drop_zero] at ht
      rw [ht]
      have ga : GOk (ns.take st) := fun x hx => h x (List.mem_of_mem_take hx)
      have gb : GOk (ns.drop (st + ln)) := fun x hx => h x (List.mem_of_mem_drop hx)
      have la : (ns.take st).length = st := by rw [List.length_take]; omega
      have lb : (ns.drop (st + ln)).length = 8 - (st + ln) := by rw [List.length_drop]; omega
      unfold ip6
      rw [gap_at _ _ (ng_join (hgr _ ga)), if_neg (by intro e; cases e)]
      simp only
      rw [readGrp_hx false _ ga (by omega), readGrp_hx true _ gb (by omega)]
      simp only
      rw [la, lb, if_neg (by rintro (e | e | e); cases e; cases e; omega), putGo_eq (ns.drop (st + ln)) zeros8 0 (by rw [lb]; show 0 + _ ≤ 8; omega)]
      have hz : zeros8.length = 8 := rfl
      rw [List.take_zero, List.nil_append, List.take_left' lb]
      rw [putGo_eq (ns.take st) zeros8 0 (by rw [la, hz]; omega), List.take_zero, List.nil_append, la]
      rw [show 8 - (8 - (st + ln)) = st + ln by omega]
      have l3 : (ns.take st ++ zeros8.drop (0 + st)).length = 8 := by rw [List.length_append, la, List.length_drop, hz]; omega
      rw [putGo_eq _ _ _ (by rw [lb, l3]; omega), lb, show st + ln + (8 - (st + ln)) = 8 by omega, List.drop_of_length_le (Nat.le_of_eq l3), List.append_nil]
      refine Prod.ext ?_ rfl
      show List.take (st + ln) (ns.take st ++ zeros8.drop (0 + st)) ++ ns.drop (st + ln) = ns
      conv => rhs; rw [← List.take_append_drop (st + ln) ns]
      congr 1
      rw [List.take_append, List.take_of_length_le (by omega : (ns.take st).length ≤ st + ln), la, show st + ln - st = ln by omega]
      have hsplit : ns.take (st + ln) = ns.take st ++ (ns.drop st).take ln := by
        rw [List.take_add]
      rw [hsplit]
      congr 1
      have hrep : zeros8.drop (0 + st) = List.replicate (8 - st) 0 := by
        show (List.replicate 8 (0 : Int)).drop (0 + st) = _
        rw [List.drop_replicate]; congr 1; omega
      symm
      refine drop_all (n := ln) (fun k hk => ?_) (by rw [List.length_take, List.length_drop]; omega) ?_
      · have := h3 (st + k) (by omega) (by omega)
        rw [List.getD_eq_getElem?_getD] at this ⊢
        rw [List.getElem?_take, if_pos hk, List.getElem?_drop]
        exact this
      · rw [hrep, List.take_replicate]; congr 1; omega
end Go.Proofs.YtchkhibgbnhjpaaGreatDoor

namespace Go.Proofs.YtchkhibgbnhjpaaGreatDoor
open Go.RowKit

theorem clean_ascii : ∀ {l : List UInt8}, (∀ b ∈ l, b.toNat < 128) → clean l = l := by
  intro l
  induction l with
  | nil => intro _; exact clean_nil
  | cons c r ih =>
    intro h
    have hf : follow (c.toNat : Int) = (1, 0, 0) := if_pos (by have := h c (by simp); omega)
    have hg : ∀ q : List UInt8, measGo 1 0 0 1 q = 1 := fun q => by
      cases q with
      | nil => rfl
      | cons a b => rw [measGo, if_neg (by rintro ⟨e, -⟩; exact absurd e (by decide))]
    have hm : measure (c :: r) = (1, true) := by
      rw [measure, hf]
      simp only
      rw [hg]
      rfl
    rw [clean_cons, hm]
    simp only [if_true, Nat.sub_self, List.drop_zero]
    rw [ih (fun b hb => h b (by simp [hb]))]
    rfl
/-- Bytes that are written as they are. -/
def Asis (set l : List UInt8) : Prop := ∀ b ∈ l, 32 ≤ b.toNat ∧ b.toNat ≤ 126 ∧ among (b.toNat : Int) set = false
theorem encB_asis {set l : List UInt8} (h : Asis set l) : encB set l = l := by
  induction l with
  | nil => rfl
  | cons c r ih =>
    have hc := h c (by simp)
    unfold encB at ih ⊢
    rw [List.flatMap_cons, ih (fun b hb => h b (by simp [hb]))]
    unfold encByte
    rw [if_neg]
    · rfl
    · rintro (e | e | e)
      · omega
      · omega
      · rw [hc.2.2] at e; cases e
theorem Asis.clean {set l : List UInt8} (h : Asis set l) : encB set (Go.Proofs.YtchkhibgbnhjpaaGreatDoor.clean l) = l := by
  rw [clean_ascii (fun b hb => by have := h b hb; omega), encB_asis h]
/-- The sets that spare the percent sign and the sixteen digits. -/
def Spare (set : List UInt8) : Prop := ∀ n : Nat, n = 37 ∨ (48 ≤ n ∧ n ≤ 57) ∨ (65 ≤ n ∧ n ≤ 70) → among (n : Int) set = false
theorem capital_at {n : Int} (h0 : 0 ≤ n) (h1 : n < 16) : (48 ≤ (toB (capital n)).toNat ∧ (toB (capital n)).toNat ≤ 57) ∨ (65 ≤ (toB (capital n)).toNat ∧ (toB (capital n)).toNat ≤ 70) := by
  unfold capital toB
  split
  · left; rw [UInt8.toNat_ofNat', Nat.mod_eq_of_lt (by omega)]; omega
  · right; rw [UInt8.toNat_ofNat', Nat.mod_eq_of_lt (by omega)]; omega
theorem encB_Asis {set : List UInt8} (hs : Spare set) (l : List UInt8) : Asis set (encB set l) := by
  intro b hb
  obtain ⟨c, -, hc⟩ := List.mem_flatMap.1 hb
  have hp := encByte_pr set c b hc
  refine ⟨hp.1, hp.2, ?_⟩
  have hcl := c.toNat_lt
  unfold encByte at hc
  split at hc
  · simp only [List.mem_cons, List.not_mem_nil, or_false] at hc
    rcases hc with rfl | rfl | rfl
    · exact hs 37 (Or.inl rfl)
    · exact hs _ (Or.inr (capital_at (by omega) (by omega)))
    · exact hs _ (Or.inr (capital_at (by omega) (by omega)))
  · next hn =>
    rw [List.mem_singleton] at hc
    subst hc
    cases ha : among (b.toNat : Int) set
    · rfl
    · exact absurd (Or.inr (Or.inr ha)) hn
theorem spare_of {set : List UInt8} (h : ∀ b ∈ set, ¬ (b.toNat = 37 ∨ (48 ≤ b.toNat ∧ b.toNat ≤ 57) ∨ (65 ≤ b.toNat ∧ b.toNat ≤ 70))) : Spare set := by
  intro n hn
  cases ha : among (n : Int) set
  · rfl
  · exfalso
    unfold among at ha
    obtain ⟨b, hb, he⟩ := List.any_eq_true.1 ha
    have : b.toNat = n := by have := of_decide_eq_true (p := (b.toNat : Int) = n) (by simpa using he); omega
    exact h b hb (by rw [this]; exact hn)
theorem spare0 : Spare (tl (setBA 0)) := spare_of (by decide)
theorem spare1 : Spare (tl (setBA 1)) := spare_of (by decide)
theorem spare2 : Spare (tl (setBA 2)) := spare_of (by decide)
theorem spare3 : Spare (tl (setBA 3)) := spare_of (by decide)
theorem spare4 : Spare (tl (setBA 4)) := spare_of (by decide)
theorem spare5 : Spare (tl (setBA 5)) := spare_of (by decide)
/-- What is encoded once is encoded. -/
theorem enc_fix {set : List UInt8} (hs : Spare set) (l : List UInt8) : encB set (clean (encB set l)) = encB set l := (encB_Asis hs l).clean
theorem bdecode_id : ∀ {l : List UInt8}, (∀ b ∈ l, b ≠ 37) → bdecode l = l := by
  intro l
  induction l with
  | nil => intro _; exact bdecode_nil
  | cons c r ih =>
    intro h
    have hc : (coded (c :: r)).2 = false := by
      unfold coded
      split
      · next e =>
        cases e
        rw [if_neg (fun e => h c (by simp) e.1)]
      · rfl
    rw [bdecode_cons, hc, if_neg (by decide), ih (fun b hb => h b (by simp [hb]))]
theorem lowB_low (b : UInt8) : lowB (lowB b) = lowB b := by
  by_cases h : 65 ≤ b.toNat ∧ b.toNat ≤ 90
  · have := lowB_hit h.1 h.2
    exact lowB_miss (by omega)
  · rw [lowB_miss h, lowB_miss h]
theorem lower_low (l : List UInt8) : lower (lower l) = lower l := by
  unfold lower
  rw [List.map_map]
  exact List.map_congr_left fun b _ => lowB_low b
theorem lower_id {l : List UInt8} (h : ∀ b ∈ l, ¬ (65 ≤ b.toNat ∧ b.toNat ≤ 90)) : lower l = l := by
  unfold lower
  conv => rhs; rw [← List.map_id l]
  exact List.map_congr_left fun b hb => lowB_miss (h b hb)
theorem plainDom_mem {l : List UInt8} (h : plainDom l = true) : ∀ b ∈ l, badB b = false := by
  intro b hb
  unfold plainDom at h
  rw [Bool.and_eq_true] at h
  have h3 : (l.any badB) = false := by
    cases hh : l.any badB
    · rfl
    · rw [hh] at h; exact absurd h.1 (by decide)
  have := List.any_eq_false.1 h3 b hb
  simpa using this
theorem bad_facts {b : UInt8} (h : badB b = false) : b ≠ 37 ∧ b ≠ 91 := by
  constructor
  · rintro rfl; exact absurd h (by decide)
  · rintro rfl; exact absurd h (by decide)
theorem first_not {l : List UInt8} (h : ∀ b ∈ l, b ≠ 91) : ¬ ((l.getD 0 0).toNat : Int) = 91 := by
  cases l with
  | nil => decide
  | cons c r =>
    intro e
    refine h c (by simp) (UInt8.toNat_inj.1 ?_)
    have e' : (c.toNat : Int) = 91 := e
    show c.toNat = 91
    omega
/-- A domain that was written is read as itself. -/
theorem domain_fix {l : List UInt8} (h0 : (domainL l).2 = 0) (he : endsNum (noEndL (bsplit 46 (lower (bdecode l)))) = false) : hostL (domainL l).1 true = ((domainL l).1, 0) := by
  unfold domainL at h0 ⊢
  split at h0
  · cases h0
  next h1 =>
    split at h0
    · cases h0
    next h2 =>
      rw [if_neg h1, if_neg h2]
      have hd : domEnd (lower (bdecode l)) (noEndL (bsplit 46 (lower (bdecode l)))) = (lower (bdecode l), 0) := if_pos he
      rw [hd]
      have hp : plainDom (lower (bdecode l)) = true := by simpa using h2
      have hb := plainDom_mem hp
      have hx : lower (bdecode (lower (bdecode l))) = lower (bdecode l) := by
        rw [bdecode_id (fun b hb' => (bad_facts (hb b hb')).1), lower_low]
      show hostL (lower (bdecode l)) true = _
      unfold hostL
      rw [if_neg (first_not fun b hb' => (bad_facts (hb b hb')).2), if_pos rfl]
      unfold domainL
      rw [hx, if_neg h1, if_neg h2, hd]
/-- The other hosts. -/
theorem clean_mem : ∀ (n : Nat) (l : List UInt8), l.length ≤ n → ∀ b ∈ clean l, b ∈ l ∨ 128 ≤ b.toNat := by
  intro n
  induction n with
  | zero =>
    intro l hl b hb
    have : l = [] := List.length_eq_zero_iff.1 (by omega)
    subst this
    rw [clean_nil] at hb
    cases hb
  | succ n ih =>
    intro l hl b hb
    cases l with
    | nil => rw [clean_nil] at hb; cases hb
    | cons c r =>
      rw [clean_cons] at hb
      rcases List.mem_append.1 hb with hb | hb
      · split at hb
        · exact Or.inl (List.mem_of_mem_take hb)
        · right
          simp only [List.mem_cons, List.not_mem_nil, or_false] at hb
          rcases hb with rfl | rfl | rfl <;> decide
      · simp only [List.length_cons] at hl
        rcases ih (r.drop ((measure (c :: r)).1 - 1)) (by rw [List.length_drop]; omega) b hb with h | h
        · exact Or.inl (List.mem_cons_of_mem _ (List.mem_of_mem_drop h))
        · exact Or.inr h
theorem forb_hi {b : UInt8} (h : among (b.toNat : Int) forbB = true) : b.toNat ≤ 124 ∧ ¬ (b.toNat = 37 ∨ (48 ≤ b.toNat ∧ b.toNat ≤ 57) ∨ (65 ≤ b.toNat ∧ b.toNat ≤ 70)) := by
  unfold among at h
  obtain ⟨c, hc, he⟩ := List.any_eq_true.1 h
  have e : c.toNat = b.toNat := by have := of_decide_eq_true (p := (c.toNat : Int) = b.toNat) (by simpa using he); omega
  have key : ∀ c ∈ forbB, c.toNat ≤ 124 ∧ ¬ (c.toNat = 37 ∨ (48 ≤ c.toNat ∧ c.toNat ≤ 57) ∨ (65 ≤ c.toNat ∧ c.toNat ≤ 70)) := by decide
  rw [← e]
  exact key c hc
theorem encB_forb {set l : List UInt8} (h : (l.any fun b => among b.toNat forbB) = false) : ((encB set (clean l)).any fun b => among b.toNat forbB) = false := by
  rw [List.any_eq_false]
  intro b hb ha
  have hf := forb_hi ha
  obtain ⟨c, hcm, hc⟩ := List.mem_flatMap.1 hb
  have hcl := c.toNat_lt
  unfold encByte at hc
  split at hc
  · simp only [List.mem_cons, List.not_mem_nil, or_false] at hc
    rcases hc with rfl | rfl | rfl
    · exact hf.2 (Or.inl rfl)
    · exact hf.2 (Or.inr (capital_at (by omega) (by omega)))
    · exact hf.2 (Or.inr (capital_at (by omega) (by omega)))
  · rw [List.mem_singleton] at hc
    subst hc
    rcases clean_mem _ l (Nat.le_refl _) b hcm with h1 | h1
    · exact List.any_eq_false.1 h b h1 ha
    · omega
theorem other_fix {l : List UInt8} (h0 : (otherL l).2 = 0) : hostL (otherL l).1 false = ((otherL l).1, 0) := by
  unfold otherL at h0 ⊢
  split at h0
  · cases h0
  next h1 =>
    rw [if_neg h1]
    have hf : (l.any fun b => among b.toNat forbB) = false := by simpa using h1
    have h2 := encB_forb (set := tl (setBA 0)) hf
    show hostL (encB (tl (setBA 0)) (clean l)) false = _
    unfold hostL
    rw [if_neg (first_not fun b hb e => List.any_eq_false.1 h2 b hb (by rw [e]; decide)), if_neg (by decide)]
    unfold otherL
    rw [if_neg (by rw [h2]; decide), enc_fix spare0]
theorem putGo_len : ∀ (xs zs : List Int) (n : Nat), (putGo zs n xs).length = zs.length := by
  intro xs
  induction xs with
  | nil => intro zs n; rw [putGo]
  | cons x r ih => intro zs n; rw [putGo, ih, List.length_set]
theorem grpGo_len (en : Bool) (ps : List (List UInt8)) : ∀ g q, grpGo en g ps = some q → q.1.length = g.1.length := by
  induction ps with
  | nil => intro g q h; rw [grpGo] at h; cases h; rfl
  | cons p r ih =>
    intro g q h
    rw [grpGo] at h
    split at h
    · split at h
      · rw [ih _ _ h, addDot_len]
      · cases h
    · split at h
      · rw [ih _ _ h, addGrp_len]
      · cases h
theorem readGrp_len (l : List UInt8) (en : Bool) : (readGrp l en).1.1.length = 8 := by
  unfold readGrp
  split
  · rfl
  · split
    · rfl
    · next h => rw [grpGo_len _ _ _ _ h]; rfl
theorem ip6_len (l : List UInt8) : (ip6 l).1.length = 8 := by
  unfold ip6
  split
  · unfold wholeL
    split
    · rfl
    · exact readGrp_len _ _
  split
  · rfl
  · rw [putGo_len]; exact readGrp_len _ _
theorem brackets_fix {l : List UInt8} (sp : Bool) (h0 : (bracketsL l).2 = 0) : hostL (bracketsL l).1 sp = ((bracketsL l).1, 0) := by
  unfold bracketsL at h0 ⊢
  split at h0
  · cases h0
  next h1 =>
    split at h0
    · next h2 =>
      rw [if_neg h1, if_pos h2]
      have hl := ip6_len ((l.take (l.length - 1)).drop 1)
      have hg := ip6_ok ((l.take (l.length - 1)).drop 1)
      generalize (ip6 ((l.take (l.length - 1)).drop 1)).1 = ns at *
      have ht := ip6_text hl hg
      generalize hte : text6 ns = t at ht ⊢
      show hostL ([91] ++ t ++ [93]) sp = ([91] ++ t ++ [93], 0)
      have e1 : ([91] ++ t ++ [93] : List UInt8).length - 1 = t.length + 1 := by simp
      have e2 : (([91] ++ t ++ [93] : List UInt8).getD (([91] ++ t ++ [93] : List UInt8).length - 1) 0) = 93 := by
        rw [e1, List.getD_eq_getElem?_getD, List.getElem?_append_right (by simp)]
        simp
      have e3 : (([91] ++ t ++ [93] : List UInt8).take (([91] ++ t ++ [93] : List UInt8).length - 1)).drop 1 = t := by
        rw [e1, List.take_left' (by simp)]
        rfl
      unfold hostL
      rw [if_pos (by rfl)]
      unfold bracketsL
      rw [if_neg, e3, ht, if_pos rfl]
      · show ([91] ++ text6 ns ++ [93], (0 : Int)) = _
        rw [hte]
      · rintro (e | e)
        · simp at e; omega
        · exact e (by rw [e2]; rfl)
    · cases h0
end Go.Proofs.YtchkhibgbnhjpaaGreatDoor

namespace Go.Proofs.YtchkhibgbnhjpaaGreatDoor
open Go.RowKit

theorem decC_dig {d : Nat} (h : d ≤ 9) : adigit ((decC d).toNat : Int) 10 = ((d : Int), true) := by
  match d, h with
  | 0, _ => decide
  | 1, _ => decide
  | 2, _ => decide
  | 3, _ => decide
  | 4, _ => decide
  | 5, _ => decide
  | 6, _ => decide
  | 7, _ => decide
  | 8, _ => decide
  | 9, _ => decide
theorem numGo_dec (most : Int) (n d : Nat) (hd : d ≤ 9) (hn : (n : Int) ≤ most) (r : List UInt8) : numGo 10 most (n : Int) (decC d :: r) = numGo 10 most ((n * 10 + d : Nat) : Int) r := by
  rw [numGo, decC_dig hd, if_pos rfl, if_pos hn]
  simp
theorem decD_num {n : Nat} {most : Int} (h : n ≤ 65535) (hm : 65535 ≤ most) : number (decD n) 10 most = ((n : Int), true) := by
  unfold number
  rw [if_neg (decD_ne n)]
  have key : numGo 10 most 0 (decD n) = some (n : Int) := by
    show numGo 10 most ((0 : Nat) : Int) (decD n) = _
    unfold decD
    split
    · rw [numGo_dec _ 0 n (by omega) (by omega), numGo]; simp
    split
    · rw [numGo_dec _ 0 _ (by omega) (by omega), numGo_dec _ _ _ (by omega) (by omega), numGo]; congr 1; omega
    split
    · rw [numGo_dec _ 0 _ (by omega) (by omega), numGo_dec _ _ _ (by omega) (by omega), numGo_dec _ _ _ (by omega) (by omega), numGo]; congr 1; omega
    split
    · rw [numGo_dec _ 0 _ (by omega) (by omega), numGo_dec _ _ _ (by omega) (by omega), numGo_dec _ _ _ (by omega) (by omega), numGo_dec _ _ _ (by omega) (by omega), numGo]; congr 1; omega
    · rw [numGo_dec _ 0 _ (by omega) (by omega), numGo_dec _ _ _ (by omega) (by omega), numGo_dec _ _ _ (by omega) (by omega), numGo_dec _ _ _ (by omega) (by omega), numGo_dec _ _ _ (by omega) (by omega), numGo]; congr 1; omega
  rw [key]
  show (if most < (n : Int) then _ else _) = _
  rw [if_neg (by omega)]
theorem decC_48 {d : Nat} (h1 : 1 ≤ d) (h : d ≤ 9) : ¬ ((decC d).toNat : Int) = 48 := by
  unfold decC; rw [UInt8.toNat_ofNat', Nat.mod_eq_of_lt (by omega)]; omega
theorem decD_head {n : Nat} (h : n ≤ 65535) : (decD n).length < 2 ∨ ¬ (((decD n).getD 0 0).toNat : Int) = 48 := by
  unfold decD
  split
  · left; show 1 < 2; decide
  split
  · right; exact decC_48 (by omega) (by omega)
  split
  · right; exact decC_48 (by omega) (by omega)
  split
  · right; exact decC_48 (by omega) (by omega)
  · right; exact decC_48 (by omega) (by omega)
theorem readNum_dec {n : Nat} (h : n ≤ 65535) : readNum (decD n) = ((n : Int), true) := by
  unfold readNum
  rw [if_pos (decD_head h), decD_num h (by decide)]
theorem decD_three {n : Nat} (h : n ≤ 255) : (decD n).length ≤ 3 := by
  unfold decD
  split
  · simp
  split
  · simp
  rw [if_pos (by omega)]
  simp
/-- Four numbers with full stops between. -/
def dots4 (a b c d : Nat) : List UInt8 := decD a ++ (46 :: (decD b ++ (46 :: (decD c ++ (46 :: (decD d ++ []))))))
theorem ip4Text_dots (v : Nat) : ip4Text v = dots4 (v / 256 ^ 3 % 256) (v / 256 ^ 2 % 256) (v / 256 ^ 1 % 256) (v / 256 ^ 0 % 256) := rfl
theorem dec_not46 {n : Nat} (h : n ≤ 255) : ∀ b ∈ decD n, isB 46 b = false := fun b hb => by
  have := decD_dg (n := n) (by omega) b hb
  unfold isB
  exact beq_eq_false_iff_ne.2 (by omega)
theorem dots4_split {a b c d : Nat} (ha : a ≤ 255) (hb : b ≤ 255) (hc : c ≤ 255) (hd : d ≤ 255) : bsplit 46 (dots4 a b c d) = [decD a, decD b, decD c, decD d] := by
  have step : ∀ l : List UInt8, bsplit 46 (46 :: l) = [] :: bsplit 46 l := fun l => by rw [bsplit, if_pos (by decide)]
  unfold dots4
  rw [split_app _ _ 46 (dec_not46 ha), step, split_app _ _ 46 (dec_not46 hb), step, split_app _ _ 46 (dec_not46 hc), step, split_app _ _ 46 (dec_not46 hd)]
  simp [bsplit]
theorem dots4_mem {a b c d : Nat} (ha : a ≤ 255) (hb : b ≤ 255) (hc : c ≤ 255) (hd : d ≤ 255) : ∀ x ∈ dots4 a b c d, (48 ≤ x.toNat ∧ x.toNat ≤ 57) ∨ x.toNat = 46 := by
  intro x hx
  unfold dots4 at hx
  simp only [List.mem_append, List.mem_cons, List.not_mem_nil, or_false] at hx
  rcases hx with hx | hx | hx | hx | hx | hx | hx
  · exact Or.inl (decD_dg (n := a) (by omega) x hx)
  · subst hx; exact Or.inr rfl
  · exact Or.inl (decD_dg (n := b) (by omega) x hx)
  · subst hx; exact Or.inr rfl
  · exact Or.inl (decD_dg (n := c) (by omega) x hx)
  · subst hx; exact Or.inr rfl
  · exact Or.inl (decD_dg (n := d) (by omega) x hx)
theorem ip4_four {a b c d : Nat} (ha : a ≤ 255) (hb : b ≤ 255) (hc : c ≤ 255) (hd : d ≤ 255) : ip4 [decD a, decD b, decD c, decD d] = (((a * 16777216 + b * 65536 + c * 256 + d : Nat) : Int), true) := by
  unfold ip4
  rw [if_neg (by simp)]
  rw [ip4Go, readNum_dec (by omega), if_neg (by simp), if_neg (by simp; omega), if_pos (by simp)]
  rw [ip4Go, readNum_dec (by omega), if_neg (by simp), if_neg (by simp; omega), if_pos (by simp)]
  rw [ip4Go, readNum_dec (by omega), if_neg (by simp), if_neg (by simp; omega), if_pos (by simp)]
  rw [ip4Go, readNum_dec (by omega), if_neg (by simp), if_neg (by simp; omega), if_neg (by simp)]
  rw [ip4Go]
  refine Prod.ext ?_ rfl
  show (0 : Int) + (a : Int) * (4294967296 / 256) + (b : Int) * (4294967296 / 256 / 256) + (c : Int) * (4294967296 / 256 / 256 / 256) + (d : Int) = _
  omega
theorem not_bad {x : UInt8} (h : (48 ≤ x.toNat ∧ x.toNat ≤ 57) ∨ x.toNat = 46) : badB x = false := by
  have hlt := x.toNat_lt
  have key : ∀ n : Nat, n < 256 → ((48 ≤ n ∧ n ≤ 57) ∨ n = 46) → badB (UInt8.ofNat n) = false := by decide +kernel
  have := key x.toNat hlt h
  rwa [UInt8.ofNat_toNat] at this
theorem dots4_host {a b c d : Nat} (ha : a ≤ 255) (hb : b ≤ 255) (hc : c ≤ 255) (hd : d ≤ 255) : hostL (dots4 a b c d) true = (ip4Text (a * 16777216 + b * 65536 + c * 256 + d), 0) := by
  have hm := dots4_mem ha hb hc hd
  have hs := dots4_split ha hb hc hd
  have hne : dots4 a b c d ≠ [] := fun e => decD_ne a (List.append_eq_nil_iff.1 e).1
  generalize dots4 a b c d = l at *
  have h1 : bdecode l = l := bdecode_id fun x hx e => by subst e; exact absurd (hm 37 hx) (by decide)
  have h2 : lower l = l := lower_id fun x hx e => by have := hm x hx; omega
  have h3 : beyondB l = false := by
    unfold beyondB
    rw [List.any_eq_false]
    intro x hx
    have := hm x hx
    simp; omega
  have h4 : puny [decD a, decD b, decD c, decD d] = false := by
    have key : ∀ n : Nat, n ≤ 255 → xnStart (decD n) = false := fun n hn => by
      unfold xnStart
      rw [decide_eq_false (by have := decD_three hn; omega)]
      rfl
    unfold puny
    simp [key a ha, key b hb, key c hc, key d hd]
  have h5 : plainDom l = true := by
    unfold plainDom
    have : l.any badB = false := List.any_eq_false.2 fun x hx => by rw [not_bad (hm x hx)]; decide
    rw [this]
    cases l with
    | nil => exact absurd rfl hne
    | cons x r => rfl
  have h6 : noEndL [decD a, decD b, decD c, decD d] = [decD a, decD b, decD c, decD d] := by
    unfold noEndL
    exact if_neg fun e => decD_ne d e.2
  have h7 : endsNum [decD a, decD b, decD c, decD d] = true := by
    unfold endsNum
    rw [if_neg (by simp)]
    show ((number (decD d) 10 4294967295).2 || _) = true
    rw [decD_num (by omega) (by decide)]
    rfl
  unfold hostL
  rw [if_neg (first_not fun x hx e => by subst e; exact absurd (hm 91 hx) (by decide)), if_pos rfl]
  unfold domainL
  rw [h1, h2, hs, h3, h4, if_neg (by decide), if_neg (by rw [h5]; decide), h6]
  unfold domEnd
  rw [h7, if_neg (by decide), ip4_four ha hb hc hd, if_pos rfl]
  rfl
theorem ip4_text {v : Nat} (h : v < 4294967296) : hostL (ip4Text v) true = (ip4Text v, 0) := by
  rw [ip4Text_dots, dots4_host (by omega) (by omega) (by omega) (by omega), ← ip4Text_dots]
  congr 2
  omega
theorem ip4Go_lt : ∀ (ps : List (List UInt8)) (room value : Int), ps ≠ [] → 0 ≤ value → value + room ≤ 4294967296 → (ip4Go ps room value).2 = true → (ip4Go ps room value).1 < 4294967296 := by
  intro ps
  induction ps with
  | nil => intro _ _ h; exact absurd rfl h
  | cons p r ih =>
    intro room value _ h0 h1 h2
    rw [ip4Go] at h2 ⊢
    have hr := (readNum_rng p).1
    split at h2
    · cases h2
    next e1 =>
      rw [if_neg e1]
      split at h2
      · cases h2
      next e2 =>
        rw [if_neg e2]
        have e3 : ¬ room ≤ (readNum p).1 := fun e => e2 (Or.inl e)
        split at h2
        · next e4 =>
          rw [if_pos e4]
          have e5 : ¬ 255 < (readNum p).1 := fun e => e2 (Or.inr ⟨e4, e⟩)
          have e6 : (readNum p).1 * (room / 256) ≤ 255 * (room / 256) := Int.mul_le_mul_of_nonneg_right (by omega) (by omega)
          have e7 : 0 ≤ (readNum p).1 * (room / 256) := Int.mul_nonneg hr (by omega)
          exact ih _ _ e4 (by omega) (by omega) h2
        · next e4 =>
          rw [if_neg e4]
          have hnil : r = [] := Classical.not_not.1 e4
          subst hnil
          rw [ip4Go]
          show value + (readNum p).1 < 4294967296
          omega
theorem ip4_lt {ps : List (List UInt8)} (h : (ip4 ps).2 = true) : (ip4 ps).1.toNat < 4294967296 := by
  unfold ip4 at h ⊢
  split at h
  · cases h
  next h1 =>
    rw [if_neg h1]
    have := ip4Go_lt ps 4294967296 0 (fun e => h1 (Or.inl (by rw [e]; rfl))) (Int.le_refl _) (by decide) h
    omega
/-- A host that was written is read as itself. -/
theorem hostL_fix {l : List UInt8} {sp : Bool} (h0 : (hostL l sp).2 = 0) : hostL (hostL l sp).1 sp = ((hostL l sp).1, 0) := by
  have hd : hostL l sp = if ((l.getD 0 0).toNat : Int) = 91 then bracketsL l else if sp = true then domainL l else otherL l := rfl
  by_cases hb : ((l.getD 0 0).toNat : Int) = 91
  · rw [if_pos hb] at hd
    rw [hd] at h0 ⊢
    exact brackets_fix sp h0
  · rw [if_neg hb] at hd
    cases sp
    · rw [if_neg (by decide)] at hd
      rw [hd] at h0 ⊢
      exact other_fix h0
    · rw [if_pos rfl] at hd
      rw [hd] at h0 ⊢
      cases he : endsNum (noEndL (bsplit 46 (lower (bdecode l))))
      · exact domain_fix h0 he
      · unfold domainL at h0 ⊢
        split at h0
        · cases h0
        next h1 =>
          split at h0
          · cases h0
          next h2 =>
            rw [if_neg h1, if_neg h2]
            unfold domEnd at h0 ⊢
            rw [he, if_neg (by decide)] at h0 ⊢
            split at h0
            · next h3 =>
              rw [if_pos h3]
              exact ip4_text (ip4_lt h3)
            · cases h0
end Go.Proofs.YtchkhibgbnhjpaaGreatDoor
