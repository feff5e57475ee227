import Derived.Test.YtchkhibgbnhjpaaGreatDoorUrl1
namespace Go.Proofs.YtchkhibgbnhjpaaGreatDoor
open Go.RowKit

/-- What stands of every URL that is read: without a host there is no name, password or port; a query or fragment that is lacked is empty. -/
structure Wf (u : U) : Prop where
  nh : u.hh = false → u.nam = [] ∧ u.pw = [] ∧ u.host = [] ∧ u.hp = false
  nq : u.hq = false → u.q = []
  nf : u.hf = false → u.fr = []
theorem wf_zero : Wf zeroU := ⟨fun _ => ⟨rfl, rfl, rfl, rfl⟩, fun _ => rfl, fun _ => rfl⟩
theorem bcut_none (p : UInt8 → Bool) (l : List UInt8) : (bcut p l).2.2 = false → (bcut p l).2.1 = [] := by
  induction l with
  | nil => intro _; rfl
  | cons c r ih =>
    unfold bcut
    split
    · intro h; cases h
    · exact ih
theorem enc_clean_nil (set : List UInt8) : encB set (clean []) = [] := by rw [clean_nil]; rfl
theorem Wf.segs {u : U} (h : Wf u) (s : List (List UInt8)) : Wf { u with segs := s } := ⟨h.nh, h.nq, h.nf⟩
theorem Wf.pathed {u : U} (h : Wf u) (b : Bool) (s : List UInt8) : Wf { u with op := b, opath := s } := ⟨h.nh, h.nq, h.nf⟩
theorem Wf.hosted {u : U} (h : Wf u) : Wf { u with hh := true } := ⟨fun h0 => (by cases h0), h.nq, h.nf⟩
theorem Wf.hosts {u : U} (h : Wf u) (x : List UInt8) : Wf { u with hh := true, host := x } := ⟨fun h0 => (by cases h0), h.nq, h.nf⟩
theorem wf_fresh (sch q : List UInt8) (hq : Bool) (h : hq = false → q = []) : Wf (freshU sch hq q) :=
  ⟨fun _ => ⟨rfl, rfl, rfl, rfl⟩, fun h0 => by show encB _ (clean q) = []; rw [h h0, enc_clean_nil], fun _ => rfl⟩
theorem wf_beside {u base : U} (left : List UInt8) (h : Wf u) (hb : Wf base) : Wf (besideU u left base) := by
  unfold besideU
  split
  · refine ⟨h.nh, ?_, h.nf⟩
    intro h0
    have h1 : (u.hq || base.hq) = false := h0
    rw [Bool.or_eq_false_iff] at h1
    show (if u.hq = true then u.q else base.q) = []
    rw [if_neg (by rw [h1.1]; decide)]
    exact hb.nq h1.2
  · exact h.segs _
theorem wf_fileHost {u : U} (t : List UInt8) (h : Wf u) (h1 : u.hh = true) : Wf (fileHostU u t).1 := by
  unfold fileHostU
  split
  · exact h.segs _
  split
  · exact wf_zero
  · exact ⟨fun h0 => absurd (h1.symm.trans h0) (by decide), h.nq, h.nf⟩
theorem wf_file {u base : U} (left : List UInt8) (h : Wf u) (hb : Wf base) : Wf (fileU u left base).1 := by
  unfold fileU
  split
  · exact wf_fileHost _ h.hosted rfl
  split
  · exact h.hosted.segs _
  split
  · exact (h.hosts _).segs _
  split
  · exact (h.hosts _).segs _
  · exact wf_beside left (h.hosts _) hb
/-- What is left of it while the host is being read. -/
structure Wq (u : U) : Prop where
  nq : u.hq = false → u.q = []
  nf : u.hf = false → u.fr = []
theorem Wf.wq {u : U} (h : Wf u) : Wq u := ⟨h.nq, h.nf⟩
theorem wf_port {u : U} (p : List UInt8) (h : Wq u) (h1 : u.hh = true) : Wf (portU u p).1 := by
  unfold portU
  split
  · exact wf_zero
  show Wf (atPortU u _)
  unfold atPortU
  split
  · exact ⟨fun h0 => absurd (h1.symm.trans h0) (by decide), h.nq, h.nf⟩
  · exact ⟨fun h0 => absurd (h1.symm.trans h0) (by decide), h.nq, h.nf⟩
theorem wf_place {u : U} (p : List UInt8) (h : Wq u) : Wf (placeU u p).1 := by
  unfold placeU
  split
  · exact wf_zero
  split
  · exact wf_zero
  split
  · exact ⟨fun h0 => (by cases h0), h.nq, h.nf⟩
  · exact wf_port _ ⟨h.nq, h.nf⟩ rfl
theorem wf_authority {u : U} (t : List UInt8) (h : Wq u) : Wf (authorityU u t).1 := by
  unfold authorityU
  split
  · exact wf_zero
  · unfold authEnd
    split
    · exact wf_zero
    have hw := wf_place (u := { u with nam := encU (bcut (isB 58) (bcutLast 64 (bcut (slB (isSpecial u.sch)) t).1).1).1, pw := encU (bcut (isB 58) (bcutLast 64 (bcut (slB (isSpecial u.sch)) t).1).1).2.1 }) (bcutLast 64 (bcut (slB (isSpecial u.sch)) t).1).2.1 ⟨h.nq, h.nf⟩
    split
    · exact hw.segs _
    · exact hw
theorem Wf.keep {u base : U} (h : Wf u) (hb : Wf base) : Wf (kept u base) := ⟨hb.nh, h.nq, h.nf⟩
theorem wf_without {u base : U} (left : List UInt8) (h : Wf u) (hb : Wf base) : Wf (withoutU u left base).1 := by
  unfold withoutU
  split
  · exact wf_file left h hb
  split
  · exact wf_authority _ h.wq
  split
  · exact (h.keep hb).segs _
  · exact wf_beside left (h.keep hb) hb
theorem wf_special {u base : U} (left : List UInt8) (h : Wf u) (hb : Wf base) : Wf (specialU u left base).1 := by
  unfold specialU
  split
  · exact wf_without left h hb
  · exact wf_authority _ h.wq
theorem wf_schemed {u base : U} (left : List UInt8) (h : Wf u) (hb : Wf base) : Wf (schemedU u left base).1 := by
  unfold schemedU
  split
  · exact wf_file left h hb
  split
  · exact wf_special left h hb
  split
  · exact h.pathed _ _
  split
  · exact h.segs _
  · exact wf_authority _ h.wq
theorem wf_rest (sch rest : List UInt8) (found : Bool) {base : U} (hb : Wf base) : Wf (restU sch rest found base).1 := by
  unfold restU
  split
  · exact wf_zero
  split
  · exact wf_schemed _ (wf_fresh _ _ _ (bcut_none _ _)) hb
  · exact wf_without _ (wf_fresh _ _ _ (bcut_none _ _)) hb
theorem wf_ahead (l : List UInt8) (hf : Bool) {base : U} (hb : Wf base) : Wf (aheadU l hf base).1 := by
  unfold aheadU
  split
  · exact wf_rest _ _ _ hb
  split
  · unfold opaqueU
    split
    · exact hb
    · exact wf_zero
  · exact wf_rest _ _ _ hb
theorem wf_against (l : List UInt8) {base : U} (hb : Wf base) : Wf (againstU l base).1 := by
  unfold againstU ended
  split
  · exact wf_zero
  · have h := wf_ahead (bcut (isB 35) (wholeText l)).1 (bcut (isB 35) (wholeText l)).2.2 hb
    refine ⟨h.nh, h.nq, fun h0 => ?_⟩
    show encB _ (clean (bcut (isB 35) (wholeText l)).2.1) = []
    rw [bcut_none _ _ h0, enc_clean_nil]
theorem wf_base (l : List UInt8) (b : Bool) : Wf (baseU l b).1 := by
  unfold baseU
  split
  · exact wf_zero
  split
  · exact wf_zero
  · exact wf_against l wf_zero
/-- Every URL that urls.Parse gives is well formed. -/
theorem wf_parse (l base : List UInt8) (b : Bool) : Wf (parseU l base b).1 := by
  unfold parseU
  split
  · exact wf_zero
  split
  · exact wf_zero
  · exact wf_against l (wf_base base b)

/-- urlskeep.written's texts: the k-th try at a URL's text of its parts. -/
def whoU (u : U) : List UInt8 := userU u
def candL (pro who host path sea has : List UInt8) (k : Nat) : List UInt8 :=
  pro ++ (if k % 3 = 0 then [47, 47] ++ who ++ host else if k % 3 = 1 then [47, 46] else []) ++ path ++ sea ++ (if k / 3 % 2 = 1 ∧ sea = [] then [63] else []) ++ has ++ (if k / 6 = 1 ∧ has = [] then [35] else [])
def candU (u : U) (k : Nat) : List UInt8 := candL (protocolU u) (userU u) (hostPortU u) (pathU u) (searchU u) (hashU u) k
theorem searchU_eq {u : U} (h : Wf u) : (if u.hq = true then [63] ++ u.q else []) = searchU u ++ (if u.hq = true ∧ searchU u = [] then [63] else []) := by
  unfold searchU markedL
  cases hq : u.hq
  · rw [h.nq hq]; simp
  · by_cases h0 : u.q = [] <;> simp [h0]
theorem hashU_eq {u : U} (h : Wf u) : (if u.hf = true then [35] ++ u.fr else []) = hashU u ++ (if u.hf = true ∧ hashU u = [] then [35] else []) := by
  unfold hashU markedL
  cases hq : u.hf
  · rw [h.nf hq]; simp
  · by_cases h0 : u.fr = [] <;> simp [h0]
/-- The try that is the URL's own. -/
def ownK' (u : U) : Nat := (if u.hh = true then 0 else if frontU u = [] then 2 else 1) + (if u.hq = true ∧ searchU u = [] then 3 else 0) + (if u.hf = true ∧ hashU u = [] then 6 else 0)
theorem href_cand {u : U} (h : Wf u) : candU u (ownK' u) = hrefU u := by
  have hs := searchU_eq h
  have hh := hashU_eq h
  unfold candU candL hrefU
  rw [hs, hh]
  have h3 : ownK' u % 3 = (if u.hh = true then 0 else if frontU u = [] then 2 else 1) := by unfold ownK'; (repeat' split) <;> omega
  have h4 : ownK' u / 3 % 2 = (if u.hq = true ∧ searchU u = [] then 1 else 0) := by unfold ownK'; (repeat' split) <;> omega
  have h5 : ownK' u / 6 = (if u.hf = true ∧ hashU u = [] then 1 else 0) := by unfold ownK'; (repeat' split) <;> omega
  rw [h3, h4, h5]
  have e1 : (if (if u.hh = true then 0 else if frontU u = [] then 2 else 1) = 0 then [47, 47] ++ userU u ++ hostPortU u else if (if u.hh = true then 0 else if frontU u = [] then 2 else 1) = 1 then [47, 46] else []) = frontU u := by
    by_cases a : u.hh = true
    · simp [a, frontU]
    · by_cases b : frontU u = []
      · simp [a, b]
      · have hf : frontU u = [47, 46] := by
          unfold frontU at b ⊢
          rw [if_neg a] at b ⊢
          split at b
          · rw [if_pos (by assumption)]
          · exact absurd rfl b
        simp [a, hf]
  have e2 : (if (if u.hq = true ∧ searchU u = [] then 1 else 0) = 1 ∧ searchU u = [] then [63] else []) = (if u.hq = true ∧ searchU u = [] then ([63] : List UInt8) else []) := by
    by_cases a : u.hq = true ∧ searchU u = []
    · simp [a]
    · simp [a]
  have e3 : (if (if u.hf = true ∧ hashU u = [] then 1 else 0) = 1 ∧ hashU u = [] then [35] else []) = (if u.hf = true ∧ hashU u = [] then ([35] : List UInt8) else []) := by
    by_cases a : u.hf = true ∧ hashU u = []
    · simp [a]
    · simp [a]
  rw [e1, e2, e3]
  simp only [List.append_assoc]
theorem ownK'_lt (u : U) : ownK' u < 12 := by unfold ownK'; (repeat' split) <;> omega
theorem candL_len (pro who host path sea has : List UInt8) (k : Nat) : (candL pro who host path sea has k).length = pro.length + (if k % 3 = 0 then 2 + who.length + host.length else if k % 3 = 1 then 2 else 0) + path.length + sea.length + (if k / 3 % 2 = 1 ∧ sea = [] then 1 else 0) + has.length + (if k / 6 = 1 ∧ has = [] then 1 else 0) := by
  unfold candL
  simp only [List.length_append]
  have e1 : (if k % 3 = 0 then [47, 47] ++ who ++ host else if k % 3 = 1 then [47, 46] else []).length = (if k % 3 = 0 then 2 + who.length + host.length else if k % 3 = 1 then 2 else 0) := by
    (repeat' split) <;> simp <;> omega
  have e2 : (if k / 3 % 2 = 1 ∧ sea = [] then ([63] : List UInt8) else []).length = (if k / 3 % 2 = 1 ∧ sea = [] then 1 else 0) := by split <;> rfl
  have e3 : (if k / 6 = 1 ∧ has = [] then ([35] : List UInt8) else []).length = (if k / 6 = 1 ∧ has = [] then 1 else 0) := by split <;> rfl
  rw [← e1, ← e2, ← e3]
/-- The first try that is the text is one that written lets pass. -/
theorem cand_ok {u : U} (h : Wf u) {k : Nat} (e : candU u k = hrefU u) (hf : ∀ j, j < k → candU u j ≠ hrefU u) : k % 3 = 0 ∨ (userU u = [] ∧ hostPortU u = []) := by
  by_cases hh : u.hh = true
  · have hk : k ≤ ownK' u := Nat.le_of_not_lt fun hlt => hf _ hlt (href_cand h)
    have hl := congrArg List.length (e.trans (href_cand h).symm)
    unfold candU at hl
    rw [candL_len, candL_len] at hl
    by_cases h3 : k % 3 = 0
    · exact Or.inl h3
    right
    have h0 : ownK' u = (if u.hq = true ∧ searchU u = [] then 3 else 0) + (if u.hf = true ∧ hashU u = [] then 6 else 0) := by unfold ownK'; rw [if_pos hh, Nat.zero_add]
    have key : (userU u).length = 0 ∧ (hostPortU u).length = 0 := by
      by_cases a : searchU u = [] <;> by_cases b : hashU u = [] <;> cases c : u.hq <;> cases d : u.hf <;> simp only [a, b, c, d, and_true, and_false, if_true, if_false, Bool.false_eq_true] at h0 hl <;> rw [h0] at hl hk <;> (repeat' split at hl) <;> omega
    exact ⟨List.length_eq_zero_iff.1 key.1, List.length_eq_zero_iff.1 key.2⟩
  · right
    obtain ⟨a, b, c, d⟩ := h.nh (by simpa using hh)
    exact ⟨by unfold userU; rw [if_pos ⟨a, b⟩], by unfold hostPortU; rw [if_neg (by rw [d]; decide), c]⟩
end Go.Proofs.YtchkhibgbnhjpaaGreatDoor
