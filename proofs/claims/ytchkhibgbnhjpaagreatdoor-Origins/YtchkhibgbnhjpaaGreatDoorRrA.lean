import Derived.Test.YtchkhibgbnhjpaaGreatDoorFixA
import Derived.Test.YtchkhibgbnhjpaaGreatDoorRd8
namespace Go.Proofs.YtchkhibgbnhjpaaGreatDoor
open Go.RowKit

/-- How a host is written: in brackets, or without any sign that parts. -/
def HostT (l : List UInt8) : Prop :=
  (∃ t : List UInt8, l = 91 :: (t ++ [93]) ∧ ∀ b ∈ t, b ≠ 35 ∧ b ≠ 47 ∧ b ≠ 63 ∧ b ≠ 64 ∧ b ≠ 91 ∧ b ≠ 92 ∧ b ≠ 93 ∧ b ≠ 32) ∨
  (∀ b ∈ l, b ≠ 35 ∧ b ≠ 47 ∧ b ≠ 58 ∧ b ≠ 63 ∧ b ≠ 64 ∧ b ≠ 91 ∧ b ≠ 92 ∧ b ≠ 93 ∧ b ≠ 32 ∧ b ≠ 124)
theorem hostT_nil : HostT [] := Or.inr fun b hb => by cases hb
theorem isB_no {n : Nat} {b c : UInt8} (hc : c.toNat = n) (h : b ≠ c) : isB (n : Int) b = false := by
  unfold isB
  refine beq_eq_false_iff_ne.2 fun e => h (UInt8.toNat_inj.1 ?_)
  omega
theorem HostT.mem {l : List UInt8} (h : HostT l) : ∀ b ∈ l, b ≠ 35 ∧ b ≠ 47 ∧ b ≠ 63 ∧ b ≠ 64 ∧ b ≠ 92 ∧ b ≠ 32 := by
  intro b hb
  rcases h with ⟨t, rfl, ht⟩ | h
  · simp only [List.mem_cons, List.mem_append, List.not_mem_nil, or_false] at hb
    rcases hb with rfl | hb | rfl
    · decide
    · have := ht b hb; exact ⟨this.1, this.2.1, this.2.2.1, this.2.2.2.1, this.2.2.2.2.2.1, this.2.2.2.2.2.2.2⟩
    · decide
  · have := h b hb; exact ⟨this.1, this.2.1, this.2.2.2.1, this.2.2.2.2.1, this.2.2.2.2.2.2.1, this.2.2.2.2.2.2.2.2.1⟩
theorem hexC_host {d : Nat} (h : d ≤ 15) : (hexC d ≠ 35 ∧ hexC d ≠ 47 ∧ hexC d ≠ 63 ∧ hexC d ≠ 64 ∧ hexC d ≠ 91 ∧ hexC d ≠ 92 ∧ hexC d ≠ 93 ∧ hexC d ≠ 32) := by
  match d, h with
  | 0, _ => decide
  | 1, _ => decide
  | 2, _ => decide
  | 3, _ => decide
  | 4, _ => decide
  | 5, _ => decide
  | 6, _ => decide
  | 7, _ => decide
  | 8, _ => decide
  | 9, _ => decide
  | 10, _ => decide
  | 11, _ => decide
  | 12, _ => decide
  | 13, _ => decide
  | 14, _ => decide
  | 15, _ => decide
def Bk (l : List UInt8) : Prop := ∀ b ∈ l, b ≠ 35 ∧ b ≠ 47 ∧ b ≠ 63 ∧ b ≠ 64 ∧ b ≠ 91 ∧ b ≠ 92 ∧ b ≠ 93 ∧ b ≠ 32
theorem bk_nil : Bk [] := fun b hb => by cases hb
theorem bk_app {a b : List UInt8} (ha : Bk a) (hb : Bk b) : Bk (a ++ b) := fun x hx => (List.mem_append.1 hx).elim (ha x) (hb x)
theorem hexD_bk {n : Nat} (h : n ≤ 65535) : Bk (hexD n) := by
  intro b hb
  have key : ∀ d, d ≤ 15 → b = hexC d → b ≠ 35 ∧ b ≠ 47 ∧ b ≠ 63 ∧ b ≠ 64 ∧ b ≠ 91 ∧ b ≠ 92 ∧ b ≠ 93 ∧ b ≠ 32 := fun d hd e => by subst e; exact hexC_host hd
  unfold hexD at hb
  (repeat' split at hb) <;> simp only [List.mem_cons, List.not_mem_nil, or_false] at hb
  · exact key _ (by omega) hb
  · rcases hb with hb | hb <;> exact key _ (by omega) hb
  · rcases hb with hb | hb | hb <;> exact key _ (by omega) hb
  · rcases hb with hb | hb | hb | hb <;> exact key _ (by omega) hb
theorem w6_bk {ns : List Int} (h : GOk ns) (st ln : Nat) : ∀ f i, Bk (w6Go ns st ln f i) := by
  intro f
  induction f with
  | zero => intro i; exact bk_nil
  | succ f ih =>
    intro i
    rw [w6Go]
    split
    · exact bk_nil
    split
    · exact bk_app (fun b hb => by simp only [List.mem_cons, List.not_mem_nil, or_false] at hb; rcases hb with rfl | rfl <;> decide) (ih _)
    · refine bk_app (bk_app ?_ (hexD_bk ?_)) (ih _)
      · split
        · exact fun b hb => by simp only [List.mem_cons, List.not_mem_nil, or_false] at hb; subst hb; decide
        · exact bk_nil
      · by_cases hi : i < ns.length
        · have := h ns[i] (List.getElem_mem hi)
          rw [List.getD_eq_getElem?_getD, List.getElem?_eq_getElem hi]
          simp only [Option.getD_some]
          omega
        · rw [List.getD_eq_getElem?_getD, List.getElem?_eq_none (by omega)]
          simp
theorem forb_no {b : UInt8} (h : among (b.toNat : Int) forbB = false) : b ≠ 35 ∧ b ≠ 47 ∧ b ≠ 58 ∧ b ≠ 63 ∧ b ≠ 64 ∧ b ≠ 91 ∧ b ≠ 92 ∧ b ≠ 93 ∧ b ≠ 32 ∧ b ≠ 124 := by
  refine ⟨?_, ?_, ?_, ?_, ?_, ?_, ?_, ?_, ?_, ?_⟩ <;> (rintro rfl; exact absurd h (by decide))
theorem hostL_T {l : List UInt8} {sp : Bool} : HostT (hostL l sp).1 := by
  unfold hostL
  split
  · unfold bracketsL
    split
    · exact hostT_nil
    split
    · exact Or.inl ⟨_, rfl, w6_bk (ip6_ok _) _ _ _ _⟩
    · exact hostT_nil
  split
  · unfold domainL
    split
    · exact hostT_nil
    split
    · exact hostT_nil
    next h1 h2 =>
      unfold domEnd
      split
      · right
        intro b hb
        have hp : plainDom (lower (bdecode l)) = true := by simpa using h2
        have := plainDom_mem hp b hb
        unfold badB at this
        simp only [Bool.or_eq_false_iff] at this
        exact forb_no this.2
      split
      · right
        intro b hb
        rw [ip4Text_dots] at hb
        have := dots4_mem (by omega) (by omega) (by omega) (by omega) b hb
        refine ⟨?_, ?_, ?_, ?_, ?_, ?_, ?_, ?_, ?_, ?_⟩ <;> (rintro rfl; exact absurd this (by decide))
      · exact hostT_nil
  · unfold otherL
    split
    · exact hostT_nil
    next h1 =>
      right
      intro b hb
      have hf : (l.any fun b => among b.toNat forbB) = false := by simpa using h1
      have := List.any_eq_false.1 (encB_forb (set := tl (setBA 0)) hf) b hb
      exact forb_no (by simpa using this)
/-- A host is cut off its port at the colon between. -/
theorem cpGo_plain (inb : Bool) (a r : List UInt8) (h : ∀ b ∈ a, b ≠ 91 ∧ b ≠ 93 ∧ (inb = false → b ≠ 58)) : cutPortGo inb (a ++ r) = (cutPortGo inb r).map fun q => (a ++ q.1, q.2) := by
  induction a with
  | nil => cases hq : cutPortGo inb r <;> simp [hq]
  | cons c a ih =>
    have hc := h c (by simp)
    have n91 : ¬ (c.toNat : Int) = 91 := fun e => hc.1 (UInt8.toNat_inj.1 (by show c.toNat = 91; omega))
    have n93 : ¬ (c.toNat : Int) = 93 := fun e => hc.2.1 (UInt8.toNat_inj.1 (by show c.toNat = 93; omega))
    have n58 : ¬ ((c.toNat : Int) = 58 ∧ inb = false) := fun e => hc.2.2 e.2 (UInt8.toNat_inj.1 (by show c.toNat = 58; omega))
    rw [List.cons_append, cutPortGo, if_neg n91, if_neg n93, if_neg n58, ih (fun b hb => h b (by simp [hb]))]
    cases cutPortGo inb r <;> simp
theorem cpGo_host {h : List UInt8} (hh : HostT h) (r : List UInt8) : cutPortGo false (h ++ r) = (cutPortGo false r).map fun q => (h ++ q.1, q.2) := by
  rcases hh with ⟨t, rfl, ht⟩ | hh
  · show cutPortGo false (91 :: ((t ++ [93]) ++ r)) = _
    rw [cutPortGo, if_pos (by decide), List.append_assoc, cpGo_plain true t _ (fun b hb => ⟨(ht b hb).2.2.2.2.1, (ht b hb).2.2.2.2.2.2.1, fun e => by cases e⟩)]
    show ((cutPortGo true (93 :: r)).map _).map _ = _
    rw [cutPortGo, if_neg (by decide), if_pos (by decide)]
    cases cutPortGo false r <;> simp
  · exact cpGo_plain false h r fun b hb => ⟨(hh b hb).2.2.2.2.2.1, (hh b hb).2.2.2.2.2.2.2.1, fun _ => (hh b hb).2.2.1⟩
theorem cutPort_host {h : List UInt8} (hh : HostT h) : cutPort h = (h, [], false) := by
  have := cpGo_host hh []
  rw [List.append_nil] at this
  unfold cutPort
  rw [this]
  rfl
theorem cutPort_both {h : List UInt8} (hh : HostT h) (p : List UInt8) : cutPort (h ++ [58] ++ p) = (h, p, true) := by
  have e1 : cutPortGo false (58 :: p) = some ([], p) := by rw [cutPortGo, if_neg (by decide), if_neg (by decide), if_pos ⟨by decide, rfl⟩]
  have e : cutPortGo false (h ++ [58] ++ p) = some (h, p) := by
    rw [List.append_assoc, cpGo_host hh]
    show (cutPortGo false (58 :: p)).map _ = _
    rw [e1]
    simp
  unfold cutPort
  rw [e]
/-- Cuts at a sign that stands in nothing ahead of it. -/
theorem bcut_app {p : UInt8 → Bool} {a : List UInt8} (r : List UInt8) (h : ∀ b ∈ a, p b = false) : bcut p (a ++ r) = (a ++ (bcut p r).1, (bcut p r).2) := by
  induction a with
  | nil => rfl
  | cons c a ih => rw [List.cons_append, bcut, if_neg (by rw [h c (by simp)]; decide), ih (fun b hb => h b (by simp [hb]))]; rfl
theorem bcut_all {p : UInt8 → Bool} {a : List UInt8} (h : ∀ b ∈ a, p b = false) : bcut p a = (a, [], false) := by
  have := bcut_app (p := p) [] h
  rw [List.append_nil] at this
  rw [this]
  simp [bcut]
theorem bcut_at {p : UInt8 → Bool} {a : List UInt8} {c : UInt8} (r : List UInt8) (h : ∀ b ∈ a, p b = false) (hc : p c = true) : bcut p (a ++ c :: r) = (a, r, true) := by
  rw [bcut_app _ h, bcut, if_pos hc]
  simp
theorem bcutLast_all {n : Int} {a : List UInt8} (h : ∀ b ∈ a, isB n b = false) : bcutLast n a = ([], a, false) := by
  induction a with
  | nil => rw [bcutLast]
  | cons c a ih =>
    rw [bcutLast, ih (fun b hb => h b (by simp [hb])), if_neg (by intro e; cases e), if_neg (by rw [h c (by simp)]; decide)]
theorem bcutLast_at {n : Int} {a r : List UInt8} {c : UInt8} (h : ∀ b ∈ r, isB n b = false) (hc : isB n c = true) : bcutLast n (a ++ c :: r) = (a, r, true) := by
  induction a with
  | nil => rw [List.nil_append, bcutLast, bcutLast_all h, if_neg (by intro e; cases e), if_pos hc]
  | cons x a ih => rw [List.cons_append, bcutLast, ih, if_pos rfl]
end Go.Proofs.YtchkhibgbnhjpaaGreatDoor

namespace Go.Proofs.YtchkhibgbnhjpaaGreatDoor
open Go.RowKit

/-- A segment that is written as it stands and read as it stands. -/
structure SegOk (sp : Bool) (s : List UInt8) : Prop where
  asis : Asis (tl (setBA 4)) s
  sl : ∀ b ∈ s, slB sp b = false
  dots : countDots s = 0
def DrvOk (f : Bool) (ps : List (List UInt8)) : Prop := f = true → driveB (ps.getD 0 []) = true → (ps.getD 0 []).getD 1 0 = 58
structure SgOk (f sp : Bool) (ps : List (List UInt8)) : Prop where
  each : ∀ s ∈ ps, SegOk sp s
  drv : DrvOk f ps
theorem slB_47 (sp : Bool) : slB sp 47 = true := by cases sp <;> decide
theorem splitP_app {p : UInt8 → Bool} (g l : List UInt8) (h : ∀ b ∈ g, p b = false) : splitP p (g ++ l) = match splitP p l with | [] => [g] | a :: q => (g ++ a) :: q := by
  induction g with
  | nil =>
    obtain ⟨a, q, hq⟩ := splitP_ne p l
    rw [List.nil_append, hq]
    rfl
  | cons c r ih =>
    rw [List.cons_append, splitP, if_neg (by rw [h c (by simp)]; decide), ih (fun b hb => h b (by simp [hb]))]
    obtain ⟨a, q, hq⟩ := splitP_ne p l
    rw [hq]
    rfl
theorem splitP_join {sp : Bool} : ∀ (rest : List (List UInt8)) (s : List UInt8), (∀ x ∈ s :: rest, ∀ b ∈ x, slB sp b = false) → splitP (slB sp) (s ++ joinSl rest) = s :: rest := by
  intro rest
  induction rest with
  | nil =>
    intro s h
    rw [splitP_app s _ (h s (by simp))]
    show (match splitP (slB sp) [] with | [] => [s] | a :: q => (s ++ a) :: q) = _
    rw [splitP]
    simp
  | cons x r ih =>
    intro s h
    have e : joinSl (x :: r) = 47 :: (x ++ joinSl r) := by simp [joinSl]
    have ihx := ih x (fun y hy => h y (by simp only [List.mem_cons] at hy ⊢; exact Or.inr hy))
    rw [splitP_app s _ (h s (by simp)), e]
    have e2 : splitP (slB sp) (47 :: (x ++ joinSl r)) = [] :: splitP (slB sp) (x ++ joinSl r) := by rw [splitP, if_pos (slB_47 sp)]
    rw [e2, ihx]
    simp
theorem joinL_fix {f : Bool} {ps : List (List UInt8)} {s : List UInt8} (ha : Asis (tl (setBA 4)) s) (hd : f = true → ps = [] → driveB s = true → s.getD 1 0 = 58) : joinL f ps s = ps ++ [s] := by
  unfold joinL
  split
  · next h =>
    have h1 := hd h.1 h.2.1 h.2.2
    have h2 := h.2.2
    unfold driveB at h2
    split at h2
    · next a b =>
      have : b = 58 := h1
      rw [this]
      rfl
    · cases h2
  · rw [ha.clean]
theorem takeL_fix {f sp : Bool} {ps : List (List UInt8)} {s : List UInt8} (last : Bool) (h : SegOk sp s) (hd : f = true → ps = [] → driveB s = true → s.getD 1 0 = 58) : takeL f ps s last = ps ++ [s] := by
  unfold takeL
  rw [if_pos h.dots, joinL_fix h.asis hd]
theorem segsGo_fix {f sp : Bool} : ∀ (ss ps : List (List UInt8)), (∀ s ∈ ss, SegOk sp s) → (f = true → ps = [] → DrvOk f ss) → segsGo f ps ss = ps ++ ss := by
  intro ss
  induction ss with
  | nil => intro ps _ _; rw [segsGo]; simp
  | cons x r ih =>
    intro ps h hd
    have hx := h x (by simp)
    have hdx : f = true → ps = [] → driveB x = true → x.getD 1 0 = 58 := fun a b c => hd a b a c
    cases r with
    | nil => rw [segsGo, takeL_fix true hx hdx]
    | cons y q =>
      rw [segsGo, takeL_fix false hx hdx, ih _ (fun s hs => h s (by simp only [List.mem_cons] at hs ⊢; exact Or.inr hs)) (fun _ e => absurd e (by simp))]
      simp
/-- What is written of a path is read as it. -/
theorem readL_fix {sch s : List UInt8} {rest : List (List UInt8)} (h : SgOk (sch == fileB) (isSpecial sch) (s :: rest)) : readL (s ++ joinSl rest) sch = s :: rest := by
  unfold readL followL
  rw [splitP_join rest s (fun x hx => (h.each x hx).sl), segsGo_fix (s :: rest) [] h.each (fun _ _ => h.drv)]
  rfl
theorem dot_ok : countDots [46] = 1 := by decide
theorem readL_dot {sch s : List UInt8} {rest : List (List UInt8)} (hf : (sch == fileB) = false) (h : ∀ x ∈ s :: rest, SegOk (isSpecial sch) x) : readL (46 :: 47 :: (s ++ joinSl rest)) sch = s :: rest := by
  have e : splitP (slB (isSpecial sch)) (46 :: 47 :: (s ++ joinSl rest)) = [46] :: s :: rest := by
    have h46 : slB (isSpecial sch) 46 = false := by cases isSpecial sch <;> decide
    have hh : ∀ b ∈ ([46] : List UInt8), slB (isSpecial sch) b = false := fun b hb => by rw [List.mem_singleton] at hb; subst hb; exact h46
    have := splitP_app (p := slB (isSpecial sch)) [46] (47 :: (s ++ joinSl rest)) hh
    rw [show ([46] : List UInt8) ++ 47 :: (s ++ joinSl rest) = 46 :: 47 :: (s ++ joinSl rest) from rfl] at this
    rw [this, splitP, if_pos (slB_47 _), splitP_join rest s (fun x hx => (h x hx).sl)]
    rfl
  unfold readL followL
  rw [e, segsGo, hf]
  have : takeL false [] [46] false = [] := by unfold takeL; rw [if_neg (by rw [dot_ok]; decide), if_neg (by decide), if_neg (by rw [dot_ok]; decide)]
  rw [this, segsGo_fix (s :: rest) [] h (fun e => by cases e)]
  rfl
/-- The dots of a segment that is encoded. -/
theorem clean_lo {c : UInt8} (r : List UInt8) (h : c.toNat < 128) : clean (c :: r) = c :: clean r := by
  have hf : follow (c.toNat : Int) = (1, 0, 0) := if_pos (by omega)
  have hg : ∀ q : List UInt8, measGo 1 0 0 1 q = 1 := fun q => by
    cases q with
    | nil => rfl
    | cons a b => rw [measGo, if_neg (by rintro ⟨e, -⟩; exact absurd e (by decide))]
  have hm : measure (c :: r) = (1, true) := by
    rw [measure, hf]
    simp only
    rw [hg]
    rfl
  rw [clean_cons, hm]
  simp
theorem clean_hi {c : UInt8} (r : List UInt8) (h : 128 ≤ c.toNat) : ∃ b m, clean (c :: r) = b :: m ∧ 128 ≤ b.toNat := by
  rw [clean_cons]
  split
  · have := measure_rng c r
    obtain ⟨n, hn⟩ : ∃ n, (measure (c :: r)).1 = n + 1 := ⟨(measure (c :: r)).1 - 1, by omega⟩
    rw [hn, List.take_succ_cons]
    exact ⟨c, _, rfl, h⟩
  · exact ⟨239, _, rfl, by decide⟩
abbrev S4 : List UInt8 := tl (setBA 4)
abbrev en4 (s : List UInt8) : List UInt8 := encB S4 (clean s)
theorem encB_cons (set : List UInt8) (c : UInt8) (r : List UInt8) : encB set (c :: r) = encByte set c ++ encB set r := by simp [encB]
theorem en4_lit {c : UInt8} (r : List UInt8) (h1 : 32 ≤ c.toNat) (h2 : c.toNat ≤ 126) (h3 : among (c.toNat : Int) S4 = false) : en4 (c :: r) = c :: en4 r := by
  show encB S4 (clean (c :: r)) = _
  rw [clean_lo r (by omega), encB_cons]
  unfold encByte
  rw [if_neg (by rintro (e | e | e); omega; omega; rw [h3] at e; cases e)]
  rfl
/-- What a byte is written as: itself, or a percent sign and two digits that are not those of a full stop. -/
theorem en4_head (c : UInt8) (r : List UInt8) : (32 ≤ c.toNat ∧ c.toNat ≤ 126 ∧ among (c.toNat : Int) S4 = false ∧ en4 (c :: r) = c :: en4 r) ∨ (c ≠ 46 ∧ c ≠ 37 ∧ c ≠ 50 ∧ c ≠ 101 ∧ c ≠ 69 ∧ ∃ x y m, en4 (c :: r) = 37 :: x :: y :: m ∧ ¬ (x = 50 ∧ y = 69) ∧ y ≠ 101) := by
  by_cases h : 32 ≤ c.toNat ∧ c.toNat ≤ 126 ∧ among (c.toNat : Int) S4 = false
  · exact Or.inl ⟨h.1, h.2.1, h.2.2, en4_lit r h.1 h.2.1 h.2.2⟩
  · right
    have hc : c ≠ 46 ∧ c ≠ 37 ∧ c ≠ 50 ∧ c ≠ 101 ∧ c ≠ 69 := by
      refine ⟨?_, ?_, ?_, ?_, ?_⟩ <;> (rintro rfl; exact h (by decide))
    refine ⟨hc.1, hc.2.1, hc.2.2.1, hc.2.2.2.1, hc.2.2.2.2, ?_⟩
    obtain ⟨b, m, hb, hbe, hb46⟩ : ∃ b m, clean (c :: r) = b :: m ∧ ((b.toNat : Int) < 32 ∨ 126 < (b.toNat : Int) ∨ among (b.toNat : Int) S4 = true) ∧ b ≠ 46 := by
      by_cases hlo : c.toNat < 128
      · refine ⟨c, _, clean_lo r hlo, ?_, hc.1⟩
        cases ha : among (c.toNat : Int) S4
        · by_cases h1 : (c.toNat : Int) < 32
          · exact Or.inl h1
          · exact Or.inr (Or.inl (by have : ¬ c.toNat ≤ 126 := fun e => h ⟨by omega, e, ha⟩
                                     omega))
        · exact Or.inr (Or.inr rfl)
      · obtain ⟨b, m, hb, hh⟩ := clean_hi r (by omega : 128 ≤ c.toNat)
        exact ⟨b, m, hb, Or.inr (Or.inl (by omega)), by rintro rfl; exact absurd hh (by decide)⟩
    have hbl := b.toNat_lt
    refine ⟨toB (capital ((b.toNat : Int) / 16)), toB (capital ((b.toNat : Int) % 16)), encB S4 m, ?_, ?_, ?_⟩
    · show encB S4 (clean (c :: r)) = _
      rw [hb, encB_cons]
      unfold encByte
      rw [if_pos hbe]
      rfl
    · have key : ∀ n : Nat, n < 256 → toB (capital ((n : Int) / 16)) = 50 ∧ toB (capital ((n : Int) % 16)) = 69 → n = 46 := by decide +kernel
      intro e
      exact hb46 (UInt8.toNat_inj.1 (key b.toNat hbl e))
    · have key : ∀ n : Nat, n < 256 → toB (capital ((n : Int) % 16)) ≠ 101 := by decide +kernel
      exact key b.toNat hbl
theorem en4_nil : en4 [] = [] := by show encB S4 (clean []) = []; rw [clean_nil]; rfl
theorem dotSize_none {l : List UInt8} (h1 : ¬ ((l.getD 0 0).toNat : Int) = 46) (h2 : ¬ (3 ≤ l.length ∧ ((l.getD 0 0).toNat : Int) = 37 ∧ ((l.getD 1 0).toNat : Int) = 50 ∧ (((l.getD 2 0).toNat : Int) = 101 ∨ ((l.getD 2 0).toNat : Int) = 69))) : dotSize l = 0 := by
  unfold dotSize; rw [if_neg h1, if_neg h2]
theorem byte_eq {b c : UInt8} {n : Nat} (hc : c.toNat = n) (h : (b.toNat : Int) = n) : b = c := UInt8.toNat_inj.1 (by omega)
theorem en4_dot (s : List UInt8) : dotSize (en4 s) = dotSize s ∧ (en4 s).drop (dotSize s) = en4 (s.drop (dotSize s)) := by
  cases s with
  | nil => rw [en4_nil]; exact ⟨rfl, by simp [en4_nil]⟩
  | cons c r =>
    by_cases h46 : c = 46
    · subst h46
      have e := en4_lit (c := 46) r (by decide) (by decide) (by decide)
      have d1 : ∀ q : List UInt8, dotSize (46 :: q) = 1 := fun q => if_pos rfl
      rw [e, d1, d1]
      exact ⟨rfl, rfl⟩
    · by_cases h37 : c = 37
      · subst h37
        have e := en4_lit (c := 37) r (by decide) (by decide) (by decide)
        rw [e]
        have d0 : ∀ q : List UInt8, dotSize (37 :: q) = if 2 ≤ q.length ∧ ((q.getD 0 0).toNat : Int) = 50 ∧ (((q.getD 1 0).toNat : Int) = 101 ∨ ((q.getD 1 0).toNat : Int) = 69) then 3 else 0 := by
          intro q
          unfold dotSize
          rw [if_neg (show ¬ ((((37 :: q : List UInt8)).getD 0 0).toNat : Int) = 46 from (by decide : ¬ ((37 : UInt8).toNat : Int) = 46))]
          by_cases hq : 2 ≤ q.length ∧ ((q.getD 0 0).toNat : Int) = 50 ∧ (((q.getD 1 0).toNat : Int) = 101 ∨ ((q.getD 1 0).toNat : Int) = 69)
          · rw [if_pos hq, if_pos ⟨by simp only [List.length_cons]; omega, rfl, hq.2⟩]
          · rw [if_neg hq, if_neg (fun h => hq ⟨by have := h.1; simp only [List.length_cons] at this; omega, h.2.2⟩)]
        rw [d0, d0]
        by_cases hq : 2 ≤ r.length ∧ ((r.getD 0 0).toNat : Int) = 50 ∧ (((r.getD 1 0).toNat : Int) = 101 ∨ ((r.getD 1 0).toNat : Int) = 69)
        · rw [if_pos hq]
          match r, hq with
          | d :: x :: q, hq =>
            have hd : d = 50 := byte_eq rfl hq.2.1
            subst hd
            have ed := en4_lit (c := 50) (x :: q) (by decide) (by decide) (by decide)
            rcases hq.2.2 with hx | hx
            · have hx' : x = 101 := byte_eq rfl hx
              subst hx'
              have ex := en4_lit (c := 101) q (by decide) (by decide) (by decide)
              rw [ed, ex, if_pos ⟨by simp, rfl, Or.inl rfl⟩]
              exact ⟨rfl, rfl⟩
            · have hx' : x = 69 := byte_eq rfl hx
              subst hx'
              have ex := en4_lit (c := 69) q (by decide) (by decide) (by decide)
              rw [ed, ex, if_pos ⟨by simp, rfl, Or.inr rfl⟩]
              exact ⟨rfl, rfl⟩
        · rw [if_neg hq]
          have hn : ¬ (2 ≤ (en4 r).length ∧ (((en4 r).getD 0 0).toNat : Int) = 50 ∧ ((((en4 r).getD 1 0).toNat : Int) = 101 ∨ (((en4 r).getD 1 0).toNat : Int) = 69)) := by
            rintro ⟨n1, n2, n3⟩
            cases r with
            | nil => rw [en4_nil] at n1; simp at n1
            | cons d q =>
              rcases en4_head d q with ⟨-, -, -, hd⟩ | ⟨-, -, -, -, -, x, y, m, hd, -, -⟩
              · rw [hd] at n1 n2 n3
                have n2' : (d.toNat : Int) = 50 := n2
                have n3' : (((en4 q).getD 0 0).toNat : Int) = 101 ∨ (((en4 q).getD 0 0).toNat : Int) = 69 := n3
                cases q with
                | nil => rw [en4_nil] at n1; simp at n1
                | cons z q' =>
                  rcases en4_head z q' with ⟨-, -, -, hz⟩ | ⟨-, -, -, -, -, x, y, m, hz, -, -⟩
                  · rw [hz] at n3'
                    exact hq ⟨by simp, n2', n3'⟩
                  · rw [hz] at n3'
                    rcases n3' with n | n
                    · exact absurd n (show ¬ ((37 : UInt8).toNat : Int) = 101 by decide)
                    · exact absurd n (show ¬ ((37 : UInt8).toNat : Int) = 69 by decide)
              · rw [hd] at n2
                exact absurd n2 (show ¬ ((37 : UInt8).toNat : Int) = 50 by decide)
          rw [if_neg hn]
          refine ⟨rfl, ?_⟩
          rw [List.drop_zero, List.drop_zero, e]
      · have ds : dotSize (c :: r) = 0 := by
          refine dotSize_none (fun e => h46 (byte_eq rfl e)) ?_
          rintro ⟨-, e, -⟩
          exact h37 (byte_eq rfl e)
        rw [ds, List.drop_zero, List.drop_zero]
        refine ⟨?_, rfl⟩
        rcases en4_head c r with ⟨-, -, -, he⟩ | ⟨-, -, -, -, -, x, y, m, he, hxy, hy⟩
        · rw [he]
          refine dotSize_none (fun e => h46 (byte_eq rfl e)) ?_
          rintro ⟨-, e, -⟩
          exact h37 (byte_eq rfl e)
        · rw [he]
          refine dotSize_none (fun e => absurd e (by show ¬ ((37 : UInt8).toNat : Int) = 46; decide)) ?_
          rintro ⟨-, -, e1, e2⟩
          have hx : x = 50 := byte_eq rfl e1
          rcases e2 with e2 | e2
          · exact hy (byte_eq rfl e2)
          · exact hxy ⟨hx, byte_eq rfl e2⟩
theorem en4_empty (s : List UInt8) : en4 s = [] ↔ s = [] := by
  constructor
  · intro h
    exact Classical.byContradiction fun hn => encB_ne (clean_ne hn) h
  · rintro rfl; exact en4_nil
theorem en4_cd : ∀ m n s, cdGo m n (en4 s) = cdGo m n s := by
  intro m
  induction m with
  | zero => intro n s; rfl
  | succ m ih =>
    intro n s
    have h := en4_dot s
    rw [cdGo, cdGo]
    by_cases hs : s = []
    · rw [if_pos hs, if_pos ((en4_empty s).2 hs)]
    · rw [if_neg hs, if_neg (fun e => hs ((en4_empty s).1 e)), h.1]
      split
      · rfl
      · rw [h.2, ih]
theorem en4_dots (s : List UInt8) : countDots (en4 s) = countDots s := en4_cd 3 0 s
end Go.Proofs.YtchkhibgbnhjpaaGreatDoor

namespace Go.Proofs.YtchkhibgbnhjpaaGreatDoor
open Go.RowKit

theorem spare_hex {n : Nat} (h : n = 37 ∨ (48 ≤ n ∧ n ≤ 57) ∨ (65 ≤ n ∧ n ≤ 70)) (sp : Bool) : slashB sp (n : Int) = false := by
  unfold slashB
  have h1 : ((n : Int) == 47) = false := beq_eq_false_iff_ne.2 (by omega)
  have h2 : ((n : Int) == 92) = false := beq_eq_false_iff_ne.2 (by omega)
  rw [h1, h2]; cases sp <;> rfl
theorem slash_hi {n : Nat} (h : 93 ≤ n) (sp : Bool) : slashB sp (n : Int) = false := by
  unfold slashB
  have h1 : ((n : Int) == 47) = false := beq_eq_false_iff_ne.2 (by omega)
  have h2 : ((n : Int) == 92) = false := beq_eq_false_iff_ne.2 (by omega)
  rw [h1, h2]; cases sp <;> rfl
theorem enc_slash {sp : Bool} {set s : List UInt8} (h : ∀ b ∈ s, slB sp b = false) : ∀ b ∈ encB set (clean s), slB sp b = false := by
  intro b hb
  obtain ⟨c, hcm, hc⟩ := List.mem_flatMap.1 hb
  have hcl := c.toNat_lt
  unfold encByte at hc
  split at hc
  · simp only [List.mem_cons, List.not_mem_nil, or_false] at hc
    rcases hc with rfl | rfl | rfl
    · exact spare_hex (Or.inl rfl) sp
    · exact spare_hex (Or.inr (capital_at (by omega) (by omega))) sp
    · exact spare_hex (Or.inr (capital_at (by omega) (by omega))) sp
  · rw [List.mem_singleton] at hc
    subst hc
    rcases clean_mem _ s (Nat.le_refl _) b hcm with h1 | h1
    · exact h b h1
    · exact slash_hi (by omega) sp
theorem segOk_enc {sp : Bool} {s : List UInt8} (h : ∀ b ∈ s, slB sp b = false) (hd : countDots s = 0) : SegOk sp (en4 s) :=
  ⟨encB_Asis spare4 _, enc_slash h, by rw [en4_dots]; exact hd⟩
theorem segOk_nil (sp : Bool) : SegOk sp [] := ⟨fun b hb => (by cases hb), fun b hb => (by cases hb), rfl⟩
theorem alpha_asis {a : UInt8} (h : alpha a.toNat = true) : 32 ≤ a.toNat ∧ a.toNat ≤ 126 ∧ among (a.toNat : Int) S4 = false := by
  have key : ∀ n : Nat, n < 256 → alpha (n : Int) = true → 32 ≤ n ∧ n ≤ 126 ∧ among (n : Int) S4 = false := by decide +kernel
  exact key a.toNat a.toNat_lt h
theorem alpha_slash {a : UInt8} (h : alpha a.toNat = true) (sp : Bool) : slB sp a = false := by
  have key : ∀ n : Nat, n < 256 → alpha (n : Int) = true → slashB sp (n : Int) = false := by cases sp <;> decide +kernel
  exact key a.toNat a.toNat_lt h
theorem alpha_dot {a : UInt8} (h : alpha a.toNat = true) : ¬ ((a.toNat : Int) = 46) ∧ ¬ ((a.toNat : Int) = 37) := by
  unfold alpha at h
  have := of_decide_eq_true h
  omega
theorem drive_two {l : List UInt8} (h : driveB l = true) : ∃ a b, l = [a, b] ∧ alpha a.toNat = true ∧ (b = 58 ∨ b = 124) := by
  unfold driveB at h
  split at h
  · next a b =>
    rw [Bool.and_eq_true, Bool.or_eq_true] at h
    refine ⟨a, b, rfl, h.1, ?_⟩
    rcases h.2 with e | e
    · exact Or.inl (byte_eq rfl (by simpa using e))
    · exact Or.inr (byte_eq rfl (by simpa using e))
  · cases h
theorem segOk_drive {sp : Bool} {s : List UInt8} (h : driveB s = true) : SegOk sp (s.take 1 ++ [58]) := by
  obtain ⟨a, b, rfl, ha, -⟩ := drive_two h
  have h1 := alpha_asis ha
  show SegOk sp [a, 58]
  refine ⟨?_, ?_, ?_⟩
  · intro x hx
    simp only [List.mem_cons, List.not_mem_nil, or_false] at hx
    rcases hx with rfl | rfl
    · exact h1
    · decide
  · intro x hx
    simp only [List.mem_cons, List.not_mem_nil, or_false] at hx
    rcases hx with rfl | rfl
    · exact alpha_slash ha sp
    · cases sp <;> decide
  · have h2 := alpha_dot ha
    have : dotSize [a, 58] = 0 := dotSize_none h2.1 (fun e => h2.2 e.2.1)
    unfold countDots
    rw [cdGo, if_neg (by simp), if_pos this]
theorem en4_drive {s : List UInt8} (h : driveB (en4 s) = true) : driveB s = true := by
  obtain ⟨a, b, he, ha, hb⟩ := drive_two h
  cases s with
  | nil => rw [en4_nil] at he; cases he
  | cons c r =>
    rcases en4_head c r with ⟨-, -, -, hc⟩ | ⟨-, -, -, -, -, x, y, m, hc, -, -⟩
    · rw [hc] at he
      cases r with
      | nil => rw [en4_nil] at he; cases he
      | cons d q =>
        rcases en4_head d q with ⟨-, -, -, hd⟩ | ⟨-, -, -, -, -, x, y, m, hd, -, -⟩
        · rw [hd] at he
          simp only [List.cons.injEq] at he
          obtain ⟨rfl, rfl, hq⟩ := he
          have := (en4_empty q).1 hq
          subst this
          unfold driveB
          simp only [ha, Bool.true_and]
          rcases hb with rfl | rfl <;> decide
        · rw [hd] at he
          simp at he
    · rw [hc] at he
      simp at he
theorem drv_app {f : Bool} {ps : List (List UInt8)} (h : DrvOk f ps) (hn : ps ≠ []) (t : List (List UInt8)) : DrvOk f (ps ++ t) := by
  cases ps with
  | nil => exact absurd rfl hn
  | cons x r => exact h
theorem sg_join {f sp : Bool} {ps : List (List UInt8)} {s : List UInt8} (h : SgOk f sp ps) (hs : ∀ b ∈ s, slB sp b = false) (hd : countDots s = 0) : SgOk f sp (joinL f ps s) := by
  unfold joinL
  constructor
  · intro x hx
    rcases List.mem_append.1 hx with hx | hx
    · exact h.each x hx
    · rw [List.mem_singleton] at hx
      subst hx
      split
      · next hc => exact segOk_drive hc.2.2
      · exact segOk_enc hs hd
  · by_cases hn : ps = []
    · subst hn
      intro hf hdr
      show ((if f = true ∧ [] = [] ∧ driveB s = true then s.take 1 ++ [58] else en4 s) : List UInt8).getD 1 0 = 58
      have hdr' : driveB (if f = true ∧ ([] : List (List UInt8)) = [] ∧ driveB s = true then s.take 1 ++ [58] else en4 s) = true := hdr
      by_cases hc : driveB s = true
      · rw [if_pos ⟨hf, rfl, hc⟩]
        obtain ⟨a, b, rfl, -, -⟩ := drive_two hc
        rfl
      · rw [if_neg (fun e => hc e.2.2)] at hdr'
        exact absurd (en4_drive hdr') hc
    · exact drv_app h.drv hn _
theorem sg_take {f sp : Bool} {ps : List (List UInt8)} (h : SgOk f sp ps) (n : Nat) : SgOk f sp (ps.take n) := by
  constructor
  · exact fun s hs => h.each s (List.mem_of_mem_take hs)
  · intro hf hd
    cases n with
    | zero => have hd' : driveB [] = true := hd; cases hd'
    | succ n =>
      cases ps with
      | nil => have hd' : driveB [] = true := hd; cases hd'
      | cons x r => exact h.drv hf hd
theorem sg_short {f sp : Bool} {ps : List (List UInt8)} (h : SgOk f sp ps) : SgOk f sp (shortL f ps) := by
  unfold shortL
  split
  · exact h
  · exact sg_take h _
theorem sg_empty {f sp : Bool} {ps : List (List UInt8)} (h : SgOk f sp ps) : SgOk f sp (ps ++ [[]]) := by
  constructor
  · intro x hx
    rcases List.mem_append.1 hx with hx | hx
    · exact h.each x hx
    · rw [List.mem_singleton] at hx; subst hx; exact segOk_nil sp
  · by_cases hn : ps = []
    · subst hn; intro _ hd; have hd' : driveB [] = true := hd; cases hd'
    · exact drv_app h.drv hn _
theorem sg_tk {f sp : Bool} {ps : List (List UInt8)} {s : List UInt8} (last : Bool) (h : SgOk f sp ps) (hs : ∀ b ∈ s, slB sp b = false) : SgOk f sp (takeL f ps s last) := by
  have h2 : SgOk f sp (if countDots s = 2 then shortL f ps else ps) := by
    split
    · exact sg_short h
    · exact h
  unfold takeL
  split
  · next hd => exact sg_join h hs hd
  split
  · exact sg_empty h2
  · exact h2
theorem sg_segs {f sp : Bool} : ∀ (ss ps : List (List UInt8)), SgOk f sp ps → (∀ s ∈ ss, ∀ b ∈ s, slB sp b = false) → SgOk f sp (segsGo f ps ss) := by
  intro ss
  induction ss with
  | nil => intro ps h _; rw [segsGo]; exact h
  | cons x r ih =>
    intro ps h hs
    cases r with
    | nil => rw [segsGo]; exact sg_tk true h (hs x (by simp))
    | cons y q => rw [segsGo]; exact ih _ (sg_tk false h (hs x (by simp))) (fun s hm => hs s (by simp only [List.mem_cons] at hm ⊢; exact Or.inr hm))
theorem splitP_free {p : UInt8 → Bool} : ∀ (l : List UInt8), ∀ s ∈ splitP p l, ∀ b ∈ s, p b = false := by
  intro l
  induction l with
  | nil => intro s hs b hb; rw [splitP, List.mem_singleton] at hs; subst hs; cases hb
  | cons c r ih =>
    intro s hs b hb
    rw [splitP] at hs
    split at hs
    · simp only [List.mem_cons] at hs
      rcases hs with rfl | hs
      · cases hb
      · exact ih s hs b hb
    · next hc =>
      obtain ⟨x, q, hx⟩ := splitP_ne p r
      rw [hx] at hs ih
      simp only [List.mem_cons] at hs
      rcases hs with rfl | hs
      · simp only [List.mem_cons] at hb
        rcases hb with rfl | hb
        · simpa using hc
        · exact ih x (by simp) b hb
      · exact ih s (by simp [hs]) b hb
theorem sg_nil (f sp : Bool) : SgOk f sp [] := ⟨fun s hs => (by cases hs), fun _ hd => (by have hd' : driveB [] = true := hd; cases hd')⟩
theorem sg_follow {f sp : Bool} {ps : List (List UInt8)} (t : List UInt8) (h : SgOk f sp ps) : SgOk f sp (followL f sp ps t) := sg_segs _ _ h (splitP_free t)
theorem sg_read (t sch : List UInt8) : SgOk (sch == fileB) (isSpecial sch) (readL t sch) := sg_follow t (sg_nil _ _)
theorem sg_beside {sch : List UInt8} {b : List (List UInt8)} (t : List UInt8) (h : SgOk (sch == fileB) (isSpecial sch) b) : SgOk (sch == fileB) (isSpecial sch) (besideL b t sch) := sg_follow t (sg_short h)
theorem sg_drive {b : List (List UInt8)} (t : List UInt8) (h : SgOk true true b) : SgOk true true (onDriveL b t) := by
  unfold onDriveL
  split
  · exact sg_read t fileB
  · exact sg_follow t (sg_take h 1)
end Go.Proofs.YtchkhibgbnhjpaaGreatDoor
