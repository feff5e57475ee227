import Derived.Test.YtchkhibgbnhjpaaGreatDoorInv1
namespace Go.Proofs.YtchkhibgbnhjpaaGreatDoor
open Go.RowKit

theorem domEnd_ne1 (l : List UInt8) (ps : List (List UInt8)) : (domEnd l ps).2 ≠ 1 := by
  unfold domEnd
  (repeat' split) <;> simp
/-- No reading but that of a long text answers 1. -/
theorem host_ne1 (l : List UInt8) (sp : Bool) : (hostL l sp).2 ≠ 1 := by
  unfold hostL
  split
  · unfold bracketsL
    (repeat' split) <;> simp
  split
  · unfold domainL
    split
    · simp
    split
    · simp
    · exact domEnd_ne1 _ _
  · unfold otherL
    split <;> simp
theorem fileHostL_ne1 (l : List UInt8) : (fileHostL l).2 ≠ 1 := by
  unfold fileHostL
  split
  · simp
  split
  · exact host_ne1 _ _
  split <;> simp
theorem fileHostU_ne1 (u : U) (t : List UInt8) : (fileHostU u t).2 ≠ 1 := by
  unfold fileHostU
  split
  · simp
  split
  · exact fileHostL_ne1 _
  · simp
theorem fileU_ne1 (u : U) (l : List UInt8) (b : U) : (fileU u l b).2 ≠ 1 := by
  unfold fileU
  split
  · exact fileHostU_ne1 _ _
  (repeat' split) <;> simp
theorem portU_ne1 (u : U) (p : List UInt8) : (portU u p).2 ≠ 1 := by
  unfold portU
  (repeat' split) <;> simp
theorem placeU_ne1 (u : U) (p : List UInt8) : (placeU u p).2 ≠ 1 := by
  unfold placeU
  split
  · simp
  split
  · exact host_ne1 _ _
  split
  · simp
  · exact portU_ne1 _ _
theorem authorityU_ne1 (u : U) (t : List UInt8) : (authorityU u t).2 ≠ 1 := by
  unfold authorityU
  split
  · simp
  · unfold authEnd
    split
    · exact placeU_ne1 _ _
    split <;> simp
theorem withoutU_ne1 (u : U) (l : List UInt8) (b : U) : (withoutU u l b).2 ≠ 1 := by
  unfold withoutU
  split
  · exact fileU_ne1 _ _ _
  split
  · exact authorityU_ne1 _ _
  split <;> simp
theorem specialU_ne1 (u : U) (l : List UInt8) (b : U) : (specialU u l b).2 ≠ 1 := by
  unfold specialU
  split
  · exact withoutU_ne1 _ _ _
  · exact authorityU_ne1 _ _
theorem schemedU_ne1 (u : U) (l : List UInt8) (b : U) : (schemedU u l b).2 ≠ 1 := by
  unfold schemedU
  split
  · exact fileU_ne1 _ _ _
  split
  · exact specialU_ne1 _ _ _
  split
  · simp
  split
  · simp
  · exact authorityU_ne1 _ _
theorem restU_ne1 (s r : List UInt8) (f : Bool) (b : U) : (restU s r f b).2 ≠ 1 := by
  unfold restU
  split
  · simp
  split
  · exact schemedU_ne1 _ _ _
  · exact withoutU_ne1 _ _ _
theorem aheadU_ne1 (l : List UInt8) (hf : Bool) (b : U) : (aheadU l hf b).2 ≠ 1 := by
  unfold aheadU
  split
  · exact restU_ne1 _ _ _ _
  split
  · unfold opaqueU
    split <;> simp
  · exact restU_ne1 _ _ _ _
theorem againstU_ne1 (l : List UInt8) (b : U) : (againstU l b).2 ≠ 1 := by
  unfold againstU ended
  split
  · exact aheadU_ne1 _ _ _
  · simp
theorem baseU_ne1 (l : List UInt8) (b : Bool) : (baseU l b).2 ≠ 1 := by
  unfold baseU
  split
  · simp
  split
  · simp
  · exact againstU_ne1 _ _
theorem parse_long (l base : List UInt8) (b : Bool) (h : 160 < l.length ∨ (b = true ∧ 160 < base.length)) : (parseU l base b).2 = 1 := by
  unfold parseU; rw [if_pos h]
theorem parse_short (l base : List UInt8) (b : Bool) (h : ¬ (160 < l.length ∨ (b = true ∧ 160 < base.length))) : (parseU l base b).2 ≠ 1 := by
  unfold parseU; rw [if_neg h]
  split
  · exact baseU_ne1 _ _
  · exact againstU_ne1 _ _
end Go.Proofs.YtchkhibgbnhjpaaGreatDoor

namespace Go.Proofs.YtchkhibgbnhjpaaGreatDoor
open Go.RowKit

/-- How long a path is written. -/
def pl (ps : List (List UInt8)) : Nat := (joinSl ps).length
theorem pl_app (a b : List (List UInt8)) : pl (a ++ b) = pl a + pl b := by simp [pl, joinSl]
theorem pl_one (s : List UInt8) : pl [s] = 1 + s.length := by simp [pl, joinSl]; omega
theorem pl_take (ps : List (List UInt8)) (n : Nat) : pl (ps.take n) ≤ pl ps := by
  conv => rhs; rw [← List.take_append_drop n ps]
  rw [pl_app]; omega
theorem pl_short (f : Bool) (ps : List (List UInt8)) : pl (shortL f ps) ≤ pl ps := by
  unfold shortL
  split
  · exact Nat.le_refl _
  · exact pl_take _ _
theorem enc9 (set l : List UInt8) : (encB set (clean l)).length ≤ 9 * l.length := by
  have h1 := encB_len set (clean l)
  have h2 := clean_len l
  omega
theorem pl_join (f : Bool) (ps : List (List UInt8)) (s : List UInt8) : pl (joinL f ps s) ≤ pl ps + (2 + 9 * s.length) := by
  unfold joinL
  rw [pl_app, pl_one]
  split
  · rw [List.length_append, List.length_take]; simp; omega
  · have := enc9 (tl (setBA 4)) s; omega
theorem pl_tk (f : Bool) (ps : List (List UInt8)) (s : List UInt8) (last : Bool) : pl (takeL f ps s last) ≤ pl ps + (2 + 9 * s.length) := by
  have h2 : pl (if countDots s = 2 then shortL f ps else ps) ≤ pl ps := by
    split
    · exact pl_short _ _
    · exact Nat.le_refl _
  unfold takeL
  split
  · exact pl_join _ _ _
  split
  · rw [pl_app, pl_one]; simp only [List.length_nil]; omega
  · omega
def cost (ss : List (List UInt8)) : Nat := (ss.map fun s => 2 + 9 * s.length).sum
theorem pl_segs (f : Bool) (ss : List (List UInt8)) : ∀ ps, pl (segsGo f ps ss) ≤ pl ps + cost ss := by
  induction ss with
  | nil => intro ps; exact Nat.le_add_right _ _
  | cons x r ih =>
    intro ps
    cases r with
    | nil => have := pl_tk f ps x true; simp only [segsGo, cost, List.map, List.sum_cons, List.sum_nil]; omega
    | cons y q =>
      have h1 := ih (takeL f ps x false)
      have h2 := pl_tk f ps x false
      rw [segsGo]
      simp only [cost, List.map, List.sum_cons] at h1 ⊢
      omega
theorem cost_split (p : UInt8 → Bool) (l : List UInt8) : cost (splitP p l) ≤ 9 * l.length + 2 := by
  induction l with
  | nil => rw [splitP]; simp [cost]
  | cons c r ih =>
    rw [splitP]
    split
    · simp only [cost, List.map, List.sum_cons, List.length_nil, List.length_cons] at ih ⊢
      omega
    · obtain ⟨x, q, hx⟩ := splitP_ne p r
      rw [hx] at ih ⊢
      simp only [cost, List.map, List.sum_cons, List.length_cons] at ih ⊢
      omega
theorem pl_follow (f sp : Bool) (ps : List (List UInt8)) (t : List UInt8) : pl (followL f sp ps t) ≤ pl ps + 9 * t.length + 2 := by
  have h1 := pl_segs f (splitP (slB sp) t) ps
  have h2 := cost_split (slB sp) t
  unfold followL
  omega
theorem pl_read (t sch : List UInt8) : pl (readL t sch) ≤ 9 * t.length + 2 := by
  have h := pl_follow (sch == fileB) (isSpecial sch) [] t
  have h0 : pl [] = 0 := rfl
  unfold readL
  omega
theorem pl_beside (b : List (List UInt8)) (t sch : List UInt8) : pl (besideL b t sch) ≤ pl b + 9 * t.length + 2 := by
  have h := pl_follow (sch == fileB) (isSpecial sch) (shortL (sch == fileB) b) t
  have h0 := pl_short (sch == fileB) b
  unfold besideL
  omega
theorem pl_drive (b : List (List UInt8)) (t : List UInt8) : pl (onDriveL b t) ≤ pl b + 9 * t.length + 2 := by
  unfold onDriveL
  split
  · have := pl_read t fileB; omega
  · have := pl_follow true true (b.take 1) t
    have := pl_take b 1
    omega
end Go.Proofs.YtchkhibgbnhjpaaGreatDoor

namespace Go.Proofs.YtchkhibgbnhjpaaGreatDoor
open Go.RowKit

/-- A URL's path, of either kind, has at most a bytes. -/
structure Pm (u : U) (a : Nat) : Prop where
  o : u.opath.length ≤ a
  s : pl u.segs ≤ a
theorem Pm.path {u : U} {a : Nat} (h : Pm u a) : (pathU u).length ≤ a := by
  unfold pathU
  split
  · exact h.o
  · exact h.s
theorem Pm.le {u : U} {a b : Nat} (h : Pm u a) (hab : a ≤ b) : Pm u b := ⟨Nat.le_trans h.o hab, Nat.le_trans h.s hab⟩
theorem pm_zero (a : Nat) : Pm zeroU a := ⟨Nat.zero_le _, Nat.zero_le _⟩
theorem pm_fresh (sch q : List UInt8) (b : Bool) : Pm (freshU sch b q) 0 := ⟨Nat.zero_le _, Nat.zero_le _⟩
theorem pm_beside {u base : U} {B : Nat} (l : List UInt8) (h : Pm u 0) (hb : Pm base B) : Pm (besideU u l base) (B + 9 * l.length + 2) := by
  have h1 := h.o
  have h2 := hb.s
  unfold besideU
  split
  · exact ⟨by show u.opath.length ≤ _; omega, by show pl base.segs ≤ _; omega⟩
  · exact ⟨by show u.opath.length ≤ _; omega, by show pl (besideL base.segs l u.sch) ≤ _; have := pl_beside base.segs l u.sch; omega⟩
theorem pm_segs {u : U} {a : Nat} (h : Pm u 0) (s : List (List UInt8)) (hs : pl s ≤ a) : Pm { u with segs := s } a := ⟨Nat.le_trans h.o (Nat.zero_le _), hs⟩
theorem drop_le (l : List UInt8) (n : Nat) : (l.drop n).length ≤ l.length := by rw [List.length_drop]; omega
theorem pm_fileHost {u : U} (t : List UInt8) (h : Pm u 0) : Pm (fileHostU u t).1 (9 * t.length + 2) := by
  have hc := (bcut_len (slB true) t).1
  unfold fileHostU
  split
  · exact pm_segs h _ (pl_read _ _)
  split
  · exact pm_zero _
  · exact ⟨Nat.le_trans h.o (Nat.zero_le _), by show pl (readL _ _) ≤ _; have := pl_read (bcut (slB true) t).2.1 u.sch; omega⟩
theorem pm_file {u base : U} {B : Nat} (l : List UInt8) (h : Pm u 0) (hb : Pm base B) : Pm (fileU u l base).1 (B + 9 * l.length + 2) := by
  have h0 := h.o
  have hs := hb.s
  unfold fileU
  split
  · have := drop_le l 2
    exact (pm_fileHost (u := { u with hh := true }) (l.drop 2) ⟨h.o, h.s⟩).le (by omega)
  split
  · exact ⟨by show u.opath.length ≤ _; omega, by show pl (readL _ _) ≤ _; have := pl_read (l.drop (countSl true l)) u.sch; have := drop_le l (countSl true l); omega⟩
  split
  · exact ⟨by show u.opath.length ≤ _; omega, by show pl (onDriveL _ _) ≤ _; have := pl_drive base.segs (l.drop 1); have := drop_le l 1; omega⟩
  split
  · exact ⟨by show u.opath.length ≤ _; omega, by show pl (readL _ _) ≤ _; have := pl_read l u.sch; omega⟩
  · exact pm_beside (u := { u with hh := true, host := base.host }) l ⟨h.o, h.s⟩ hb
theorem pm_port {u : U} (p : List UInt8) (h : Pm u 0) : Pm (portU u p).1 0 := by
  unfold portU
  split
  · exact pm_zero _
  show Pm (atPortU u _) 0
  unfold atPortU
  split
  · exact ⟨h.o, h.s⟩
  · exact ⟨h.o, h.s⟩
theorem pm_place {u : U} (p : List UInt8) (h : Pm u 0) : Pm (placeU u p).1 0 := by
  unfold placeU
  split
  · exact pm_zero _
  split
  · exact pm_zero _
  split
  · exact ⟨h.o, h.s⟩
  · exact pm_port _ ⟨h.o, h.s⟩
theorem pm_authority {u : U} (t : List UInt8) (h : Pm u 0) : Pm (authorityU u t).1 (9 * t.length + 2) := by
  have hc := (bcut_len (slB (isSpecial u.sch)) t).1
  unfold authorityU
  split
  · exact pm_zero _
  · unfold authEnd
    split
    · exact pm_zero _
    have hp := pm_place (u := { u with nam := encU (bcut (isB 58) (bcutLast 64 (bcut (slB (isSpecial u.sch)) t).1).1).1, pw := encU (bcut (isB 58) (bcutLast 64 (bcut (slB (isSpecial u.sch)) t).1).1).2.1 }) (bcutLast 64 (bcut (slB (isSpecial u.sch)) t).1).2.1 ⟨h.o, h.s⟩
    split
    · exact pm_segs hp _ (by have := pl_read (bcut (slB (isSpecial u.sch)) t).2.1 u.sch; omega)
    · exact hp.le (Nat.zero_le _)
theorem pm_without {u base : U} {B : Nat} (l : List UInt8) (h : Pm u 0) (hb : Pm base B) : Pm (withoutU u l base).1 (B + 9 * l.length + 2) := by
  have h0 := h.o
  unfold withoutU
  split
  · exact pm_file l h hb
  split
  · exact (pm_authority _ h).le (by have := drop_le l (if isSpecial u.sch = true then countSl (isSpecial u.sch) l else 2); omega)
  split
  · exact ⟨by show u.opath.length ≤ _; omega, by show pl (readL _ _) ≤ _; have := pl_read (l.drop 1) u.sch; have := drop_le l 1; omega⟩
  · exact pm_beside (u := kept u base) l ⟨h.o, h.s⟩ hb
theorem pm_special {u base : U} {B : Nat} (l : List UInt8) (h : Pm u 0) (hb : Pm base B) : Pm (specialU u l base).1 (B + 9 * l.length + 2) := by
  unfold specialU
  split
  · exact pm_without l h hb
  · exact (pm_authority _ h).le (by have := drop_le l (countSl true l); omega)
theorem pm_schemed {u base : U} {B : Nat} (l : List UInt8) (h : Pm u 0) (hb : Pm base B) : Pm (schemedU u l base).1 (B + 9 * l.length + 2) := by
  have h0 := h.o
  have h1 := h.s
  unfold schemedU
  split
  · exact pm_file l h hb
  split
  · exact pm_special l h hb
  split
  · exact ⟨by show (encB _ (clean l)).length ≤ _; have := enc9 (tl (setBA 0)) l; omega, by show pl u.segs ≤ _; omega⟩
  split
  · exact ⟨by show u.opath.length ≤ _; omega, by show pl (readL _ _) ≤ _; have := pl_read (l.drop 1) u.sch; have := drop_le l 1; omega⟩
  · exact (pm_authority _ h).le (by have := drop_le l 2; omega)
theorem pm_rest (sch rest : List UInt8) (f : Bool) {base : U} {B : Nat} (hb : Pm base B) : Pm (restU sch rest f base).1 (B + 9 * rest.length + 2) := by
  have hc := (bcut_len (isB 63) rest).1
  unfold restU
  split
  · exact pm_zero _
  split
  · exact (pm_schemed _ (pm_fresh _ _ _) hb).le (by omega)
  · exact (pm_without _ (pm_fresh _ _ _) hb).le (by omega)
theorem pm_ahead (l : List UInt8) (hf : Bool) {base : U} {B : Nat} (hb : Pm base B) : Pm (aheadU l hf base).1 (B + 9 * l.length + 2) := by
  have hc := (cutSch_len l).2
  unfold aheadU
  split
  · exact (pm_rest _ _ _ hb).le (by omega)
  split
  · unfold opaqueU
    split
    · exact hb.le (by omega)
    · exact pm_zero _
  · exact (pm_rest _ _ _ hb).le (by omega)
theorem trimB_le (l : List UInt8) : (trimB l).length ≤ l.length := by
  unfold trimB
  rw [List.length_reverse]
  refine Nat.le_trans (List.IsSuffix.length_le (List.dropWhile_suffix _)) ?_
  rw [List.length_reverse]
  exact List.IsSuffix.length_le (List.dropWhile_suffix _)
theorem wholeText_le (l : List UInt8) : (wholeText l).length ≤ 3 * l.length := by
  have h1 := noBreaks_len (trimB (clean l))
  have h2 := trimB_le (clean l)
  have h3 := clean_len l
  unfold wholeText
  omega
theorem pm_against (l : List UInt8) {base : U} {B : Nat} (hb : Pm base B) : Pm (againstU l base).1 (B + 27 * l.length + 2) := by
  have h1 := (bcut_len (isB 35) (wholeText l)).1
  have h2 := wholeText_le l
  unfold againstU ended
  split
  · exact pm_zero _
  · have h := pm_ahead (bcut (isB 35) (wholeText l)).1 (bcut (isB 35) (wholeText l)).2.2 hb
    have ho := h.o
    have hs := h.s
    exact ⟨Nat.le_trans ho (by omega), Nat.le_trans hs (by omega)⟩
/-- The path of what urls.Parse gives: at most 8644 bytes. -/
theorem pm_parse (l base : List UInt8) (b : Bool) : (pathU (parseU l base b).1).length ≤ 8644 := by
  have hz : (pathU zeroU).length ≤ 8644 := (pm_zero 8644).path
  unfold parseU
  split
  · exact hz
  next hl =>
    split
    · exact hz
    · refine Pm.path ?_
      have h1 : l.length ≤ 160 := Nat.le_of_not_lt fun h => hl (Or.inl h)
      have hbase : Pm (baseU base b).1 4322 := by
        unfold baseU
        split
        · exact pm_zero _
        next hb =>
          split
          · exact pm_zero _
          · have h2 : base.length ≤ 160 := Nat.le_of_not_lt fun h => hl (Or.inr ⟨by cases b; exact absurd rfl hb; rfl, h⟩)
            exact (pm_against base (pm_zero 0)).le (by omega)
      exact (pm_against l hbase).le (by omega)
end Go.Proofs.YtchkhibgbnhjpaaGreatDoor
