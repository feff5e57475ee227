import Derived.Test.YtchkhibgbnhjpaaGreatDoorRrA
import Derived.Test.YtchkhibgbnhjpaaGreatDoorSnd6
namespace Go.Proofs.YtchkhibgbnhjpaaGreatDoor
open Go.RowKit

abbrev S0 : List UInt8 := tl (setBA 0)
abbrev S1 : List UInt8 := tl (setBA 1)
abbrev S5 : List UInt8 := tl (setBA 5)
abbrev SQ (sch : List UInt8) : List UInt8 := tl (setBA (querySet sch))
theorem spareQ (sch : List UInt8) : Spare (SQ sch) := by
  unfold SQ querySet
  split
  · exact spare3
  · exact spare2
theorem asis_nil (set : List UInt8) : Asis set [] := fun b hb => by cases hb
def NoEnd (l : List UInt8) : Prop := ∀ a, l ≠ a ++ [32]
/-- What stands of every URL that was read, its end aside. -/
structure St' (u : U) : Prop where
  sd : Sd u
  wf : Wf u
  anam : Asis S5 u.nam
  apw : Asis S5 u.pw
  ahost : HostT u.host
  fhost : u.host ≠ [] → hostL u.host (isSpecial u.sch) = (u.host, 0)
  seg : SgOk (u.sch == fileB) (isSpecial u.sch) u.segs
  aq : Asis (SQ u.sch) u.q
  afr : Asis S1 u.fr
  opq : u.op = true → u.segs = [] ∧ u.hh = false ∧ countSl false u.opath = 0 ∧ ∀ b ∈ u.opath, b ≠ 63 ∧ b ≠ 35
  zop : u.op = false → u.opath = []
  pth : u.op = false → u.hh = false → u.segs ≠ []
  zport : u.hp = false → u.port = 0
  fil : u.sch = fileB → u.host ≠ localB
  sp : isSpecial u.sch = true → u.hh = true
/-- A URL of which only the scheme and the query are told. -/
structure Fs (u : U) : Prop where
  fr : Fr u
  wf : Wf u
  aq : Asis (SQ u.sch) u.q
  zfr : u.fr = []
  zport : u.port = 0
  zhh : u.hh = false
theorem fs_fresh {sch rest : List UInt8} (h : ScOk sch) : Fs (freshU sch (bcut (isB 63) rest).2.2 (bcut (isB 63) rest).2.1) :=
  ⟨fresh_fr _ _ h, wf_fresh _ _ _ (bcut_none _ _), encB_Asis (spareQ _) _, rfl, rfl, rfl⟩
theorem sg_file {s : List (List UInt8)} {sch : List UInt8} (hf : sch = fileB) (h : SgOk true true s) : SgOk (sch == fileB) (isSpecial sch) s := by subst hf; exact h
theorem sg_file' {s : List (List UInt8)} {sch : List UInt8} (hf : sch = fileB) (h : SgOk (sch == fileB) (isSpecial sch) s) : SgOk true true s := by subst hf; exact h
/-- A file's. -/
theorem st_filed {u : U} {host : List UInt8} {segs : List (List UInt8)} {hq : Bool} {q : List UInt8} (h : Fs u) (hf : u.sch = fileB) (ht : HostT host) (hp : Pr host) (hfix : host ≠ [] → hostL host true = (host, 0)) (hl : host ≠ localB) (hs : SgOk true true segs) (hsp : PrS segs ∧ segs ≠ []) (hqa : Asis (SQ u.sch) q) (hqp : Pr q) (hqn : hq = false → q = []) :
    St' { u with hh := true, host := host, segs := segs, hq := hq, q := q } where
  sd := (file_sd (u := u) (hh := true) h.fr hf hp hsp).noq hq hqp
  wf := ⟨fun e => (by cases e), hqn, h.wf.nf⟩
  anam := by show Asis S5 u.nam; rw [h.fr.znam]; exact asis_nil _
  apw := by show Asis S5 u.pw; rw [h.fr.zpw]; exact asis_nil _
  ahost := ht
  fhost := fun e => by show hostL host (isSpecial u.sch) = _; rw [hf, file_special]; exact hfix e
  seg := sg_file hf hs
  aq := hqa
  afr := by show Asis S1 u.fr; rw [h.zfr]; exact asis_nil _
  opq := fun e => by have e' : u.op = true := e; rw [h.fr.zop] at e'; cases e'
  zop := fun _ => h.fr.zopath
  pth := fun _ e => by cases e
  zport := fun _ => h.zport
  fil := fun _ => hl
  sp := fun _ => rfl
theorem local_ne : ([] : List UInt8) ≠ localB := by decide
theorem fileHostL_ok {l : List UInt8} : HostT (fileHostL l).1 ∧ ((fileHostL l).1 ≠ [] → hostL (fileHostL l).1 true = ((fileHostL l).1, 0)) ∧ (fileHostL l).1 ≠ localB := by
  unfold fileHostL
  split
  · exact ⟨hostT_nil, fun e => absurd rfl e, local_ne⟩
  next h1 =>
    split
    · exact ⟨hostT_nil, fun e => absurd rfl e, local_ne⟩
    next h2 =>
      split
      · exact ⟨hostT_nil, fun e => absurd rfl e, local_ne⟩
      · next h3 => exact ⟨hostL_T, fun _ => hostL_fix (Classical.not_not.1 h2), h3⟩
theorem st_fileHost {u : U} (t : List UInt8) (h : Fs u) (hf : u.sch = fileB) (h0 : (fileHostU { u with hh := true } t).2 = 0) : St' (fileHostU { u with hh := true } t).1 ∧ (fileHostU { u with hh := true } t).1.op = false := by
  unfold fileHostU at h0 ⊢
  split
  · exact ⟨st_filed (u := u) (host := u.host) (hq := u.hq) (q := u.q) h hf (by rw [h.fr.zhost]; exact hostT_nil) (by rw [h.fr.zhost]; exact pr_nil) (fun e => absurd h.fr.zhost e) (by rw [h.fr.zhost]; exact local_ne) (sg_file' hf (sg_read t u.sch)) (readL_ok t u.sch) h.aq h.fr.pq h.wf.nq, h.fr.zop⟩
  next h1 =>
    rw [if_neg h1] at h0
    split
    · next h2 => rw [if_pos h2] at h0; exact absurd h0 h2
    · have hk := fileHostL_ok (l := (bcut (slB true) t).1)
      exact ⟨st_filed (u := u) (hq := u.hq) (q := u.q) h hf hk.1 (fileHostL_pr _) hk.2.1 hk.2.2 (sg_file' hf (sg_read _ u.sch)) (readL_ok _ _) h.aq h.fr.pq h.wf.nq, h.fr.zop⟩
theorem st_file {u base : U} (l : List UInt8) (h : Fs u) (hf : u.sch = fileB) (hb : base.sch = fileB → St' base) (h0 : (fileU u l base).2 = 0) : St' (fileU u l base).1 ∧ (fileU u l base).1.op = false := by
  unfold fileU at h0 ⊢
  split
  · next h1 => rw [if_pos h1] at h0; exact st_fileHost _ h hf h0
  next h1 =>
    rw [if_neg h1] at h0
    split
    · exact ⟨st_filed (u := u) (host := u.host) (hq := u.hq) (q := u.q) h hf (by rw [h.fr.zhost]; exact hostT_nil) (by rw [h.fr.zhost]; exact pr_nil) (fun e => absurd h.fr.zhost e) (by rw [h.fr.zhost]; exact local_ne) (sg_file' hf (sg_read _ u.sch)) (readL_ok _ _) h.aq h.fr.pq h.wf.nq, h.fr.zop⟩
    next h2 =>
      have hbf : base.sch = fileB := Classical.not_not.1 h2
      have hs := hb hbf
      have hsp : isSpecial base.sch = true := by rw [hbf]; exact file_special
      have hfx : base.host ≠ [] → hostL base.host true = (base.host, 0) := fun e => by have := hs.fhost e; rwa [hsp] at this
      split
      · exact ⟨st_filed (u := u) (hq := u.hq) (q := u.q) h hf hs.ahost hs.sd.phost hfx (hs.fil hbf) (sg_drive _ (sg_file' hbf hs.seg)) (onDriveL_ok _ hs.sd.psegs) h.aq h.fr.pq h.wf.nq, h.fr.zop⟩
      split
      · exact ⟨st_filed (u := u) (hq := u.hq) (q := u.q) h hf hs.ahost hs.sd.phost hfx (hs.fil hbf) (sg_file' hf (sg_read _ u.sch)) (readL_ok _ _) h.aq h.fr.pq h.wf.nq, h.fr.zop⟩
      · show St' (besideU { u with hh := true, host := base.host } l base) ∧ (besideU { u with hh := true, host := base.host } l base).op = false
        unfold besideU
        split
        · refine ⟨?_, h.fr.zop⟩
          refine st_filed (u := u) (hq := u.hq || base.hq) (q := if u.hq = true then u.q else base.q) h hf hs.ahost hs.sd.phost hfx (hs.fil hbf) (sg_file' hbf hs.seg) ⟨hs.sd.psegs, (hs.sd.sp hsp).2⟩ ?_ ?_ ?_
          · split
            · exact h.aq
            · have := hs.aq; rw [hbf, ← hf] at this; exact this
          · split
            · exact h.fr.pq
            · exact hs.sd.pq
          · intro e
            rw [Bool.or_eq_false_iff] at e
            rw [if_neg (by rw [e.1]; decide)]
            exact hs.wf.nq e.2
        · refine ⟨?_, h.fr.zop⟩
          refine st_filed (u := u) (hq := u.hq) (q := u.q) h hf hs.ahost hs.sd.phost hfx (hs.fil hbf) ?_ (besideL_ok _ _ hs.sd.psegs) h.aq h.fr.pq h.wf.nq
          refine sg_file' hf (sg_beside l ?_)
          show SgOk (u.sch == fileB) (isSpecial u.sch) base.segs
          have hseg := hs.seg
          rw [hbf] at hseg
          rw [hf]
          exact hseg
/-- With an authority. -/
theorem place_st {u : U} {p : List UInt8} (h0 : (placeU u p).2 = 0) (hz : u.port = 0) :
    (placeU u p).1.hh = true ∧ HostT (placeU u p).1.host ∧ ((placeU u p).1.host ≠ [] → hostL (placeU u p).1.host (isSpecial u.sch) = ((placeU u p).1.host, 0)) ∧ ((placeU u p).1.hp = false → (placeU u p).1.port = 0) ∧
    (placeU u p).1.nam = u.nam ∧ (placeU u p).1.pw = u.pw ∧ (placeU u p).1.sch = u.sch ∧ (placeU u p).1.q = u.q ∧ (placeU u p).1.hq = u.hq ∧ (placeU u p).1.fr = u.fr ∧ (placeU u p).1.hf = u.hf ∧ (placeU u p).1.op = u.op ∧ (placeU u p).1.opath = u.opath ∧ (placeU u p).1.segs = u.segs := by
  unfold placeU at h0 ⊢
  split
  · next h1 => rw [if_pos h1] at h0; cases h0
  next h1 =>
    rw [if_neg h1] at h0
    split
    · next h2 => rw [if_pos h2] at h0; exact absurd h0 h2
    next h2 =>
      rw [if_neg h2] at h0
      have hx := hostL_fix (Classical.not_not.1 h2)
      split
      · exact ⟨rfl, hostL_T, fun _ => hx, fun _ => hz, rfl, rfl, rfl, rfl, rfl, rfl, rfl, rfl, rfl, rfl⟩
      next h3 =>
        rw [if_neg h3] at h0
        unfold portU at h0 ⊢
        split
        · next h4 => rw [if_pos h4] at h0; cases h0
        · show _
          simp only
          unfold atPortU
          split
          · exact ⟨rfl, hostL_T, fun _ => hx, fun _ => rfl, rfl, rfl, rfl, rfl, rfl, rfl, rfl, rfl, rfl, rfl⟩
          · exact ⟨rfl, hostL_T, fun _ => hx, fun e => (by cases e), rfl, rfl, rfl, rfl, rfl, rfl, rfl, rfl, rfl, rfl⟩
theorem st_authority {u : U} (t : List UInt8) (h : Fs u) (hf : u.sch ≠ fileB) (h0 : (authorityU u t).2 = 0) : St' (authorityU u t).1 ∧ (authorityU u t).1.op = false := by
  have hsd := sd_authority t h.fr hf h0
  have hwf := wf_authority t h.wf.wq
  unfold authorityU at h0 hsd hwf ⊢
  split at h0
  · cases h0
  next h1 =>
    rw [if_neg h1] at hsd hwf ⊢
    unfold authEnd at h0 hsd hwf ⊢
    split at h0
    · next h2 => exact absurd h0 h2
    next h2 =>
      rw [if_neg h2] at hsd hwf ⊢
      have hk := place_st (Classical.not_not.1 h2) h.zport
      obtain ⟨k1, k2, k3, k4, k5, k6, k7, k8, k9, k10, k11, k12, k13, k14⟩ := hk
      generalize placeU _ _ = pq at *
      obtain ⟨v, e⟩ := pq
      simp only at *
      split at h0
      · next h3 =>
        rw [if_pos h3] at hsd hwf ⊢
        refine ⟨?_, k12.trans h.fr.zop⟩
        exact {
          sd := hsd, wf := hwf
          anam := by show Asis S5 v.nam; rw [k5]; exact encB_Asis spare5 _
          apw := by show Asis S5 v.pw; rw [k6]; exact encB_Asis spare5 _
          ahost := k2
          fhost := fun x => by show hostL v.host (isSpecial v.sch) = _; rw [k7]; exact k3 x
          seg := by show SgOk (v.sch == fileB) (isSpecial v.sch) _; rw [k7]; exact sg_read _ _
          aq := by show Asis (SQ v.sch) v.q; rw [k7, k8]; exact h.aq
          afr := by show Asis S1 v.fr; rw [k10, h.zfr]; exact asis_nil _
          opq := fun x => by have x' : v.op = true := x; rw [k12, h.fr.zop] at x'; cases x'
          zop := fun _ => by show v.opath = []; rw [k13, h.fr.zopath]
          pth := fun _ x => by have x' : v.hh = false := x; rw [k1] at x'; cases x'
          zport := k4
          fil := fun x => absurd (k7.symm.trans x) hf
          sp := fun _ => k1 }
      · next h3 =>
        rw [if_neg h3] at hsd hwf ⊢
        refine ⟨?_, k12.trans h.fr.zop⟩
        exact {
          sd := hsd, wf := hwf
          anam := by show Asis S5 v.nam; rw [k5]; exact encB_Asis spare5 _
          apw := by show Asis S5 v.pw; rw [k6]; exact encB_Asis spare5 _
          ahost := k2
          fhost := fun x => by show hostL v.host (isSpecial v.sch) = _; rw [k7]; exact k3 x
          seg := by show SgOk (v.sch == fileB) (isSpecial v.sch) v.segs; rw [k14, h.fr.zsegs]; exact sg_nil _ _
          aq := by show Asis (SQ v.sch) v.q; rw [k7, k8]; exact h.aq
          afr := by show Asis S1 v.fr; rw [k10, h.zfr]; exact asis_nil _
          opq := fun x => by have x' : v.op = true := x; rw [k12, h.fr.zop] at x'; cases x'
          zop := fun _ => by show v.opath = []; rw [k13, h.fr.zopath]
          pth := fun _ x => by have x' : v.hh = false := x; rw [k1] at x'; cases x'
          zport := k4
          fil := fun x => absurd (k7.symm.trans x) hf
          sp := fun _ => k1 }
end Go.Proofs.YtchkhibgbnhjpaaGreatDoor

namespace Go.Proofs.YtchkhibgbnhjpaaGreatDoor
open Go.RowKit

theorem enc_from {set l : List UInt8} {b : UInt8} (hb : b ∈ encB set (clean l)) : b ∈ l ∨ b.toNat = 37 ∨ (48 ≤ b.toNat ∧ b.toNat ≤ 57) ∨ (65 ≤ b.toNat ∧ b.toNat ≤ 70) := by
  have hp := encB_pr set _ b hb
  obtain ⟨c, hcm, hc⟩ := List.mem_flatMap.1 hb
  have hcl := c.toNat_lt
  unfold encByte at hc
  split at hc
  · simp only [List.mem_cons, List.not_mem_nil, or_false] at hc
    rcases hc with rfl | rfl | rfl
    · exact Or.inr (Or.inl rfl)
    · exact Or.inr (Or.inr (capital_at (by omega) (by omega)))
    · exact Or.inr (Or.inr (capital_at (by omega) (by omega)))
  · rw [List.mem_singleton] at hc
    subst hc
    rcases clean_mem _ l (Nat.le_refl _) b hcm with h1 | h1
    · exact Or.inl h1
    · omega
theorem enc_no {set l : List UInt8} {c : UInt8} (h : ∀ b ∈ l, b ≠ c) (hc : ¬ (c.toNat = 37 ∨ (48 ≤ c.toNat ∧ c.toNat ≤ 57) ∨ (65 ≤ c.toNat ∧ c.toNat ≤ 70))) : ∀ b ∈ encB set (clean l), b ≠ c := by
  intro b hb e
  subst e
  rcases enc_from hb with h1 | h1
  · exact h b h1 rfl
  · exact hc h1
theorem enc_first {set l : List UInt8} (h : countSl false l = 0) : countSl false (encB set (clean l)) = 0 := by
  cases l with
  | nil => rw [clean_nil]; rfl
  | cons c r =>
    have hc : slB false c = false := by
      cases hh : slB false c
      · rfl
      · rw [countSl, if_pos hh] at h; cases h
    have key : ∀ (b : UInt8) (m : List UInt8), slB false b = false → countSl false (encB set (b :: m)) = 0 := by
      intro b m hb
      rw [encB_cons]
      unfold encByte
      split
      · rfl
      · show countSl false (b :: _) = 0
        rw [countSl, if_neg (by rw [hb]; decide)]
    by_cases hlo : c.toNat < 128
    · rw [clean_lo r hlo]; exact key c _ hc
    · obtain ⟨b, m, hb, hh⟩ := clean_hi r (by omega : 128 ≤ c.toNat)
      rw [hb]
      exact key b m (slash_hi (by omega) false)
theorem end_app {a b x : List UInt8} (hb : b ≠ []) (h : a ++ b = x ++ [32]) : ∃ y, b = y ++ [32] := by
  rcases List.eq_nil_or_concat b with rfl | ⟨y, z, rfl⟩
  · exact absurd rfl hb
  · rw [List.concat_eq_append, ← List.append_assoc] at h
    have := List.append_inj_right' h rfl
    rw [List.concat_eq_append, this]
    exact ⟨y, rfl⟩
theorem clean_end : ∀ (n : Nat) (l a : List UInt8), l.length ≤ n → clean l = a ++ [32] → ∃ y, l = y ++ [32] := by
  intro n
  induction n with
  | zero =>
    intro l a hl h
    have : l = [] := List.length_eq_zero_iff.1 (by omega)
    subst this
    rw [clean_nil] at h
    exact absurd h (by simp)
  | succ n ih =>
    intro l a hl h
    cases l with
    | nil => rw [clean_nil] at h; exact absurd h (by simp)
    | cons c r =>
      have hm := measure_rng c r
      rw [clean_cons] at h
      simp only [List.length_cons] at hl
      by_cases hr : r.drop ((measure (c :: r)).1 - 1) = []
      · rw [hr, clean_nil, List.append_nil] at h
        split at h
        · have hlen : (measure (c :: r)).1 = r.length + 1 := by
            have := congrArg List.length hr
            rw [List.length_drop, List.length_nil] at this
            omega
          rw [hlen, List.take_of_length_le (by simp)] at h
          exact ⟨a, h⟩
        · have := congrArg List.getLast? h
          simp at this
      · obtain ⟨y, hy⟩ := end_app (clean_ne hr) h
        obtain ⟨z, hz⟩ := ih _ _ (by rw [List.length_drop]; omega) hy
        refine ⟨(c :: r).take (measure (c :: r)).1 ++ z, ?_⟩
        have hs : (c :: r).drop (measure (c :: r)).1 = z ++ [32] := by
          rw [← hz]
          obtain ⟨k, hk⟩ : ∃ k, (measure (c :: r)).1 = k + 1 := ⟨(measure (c :: r)).1 - 1, by omega⟩
          rw [hk, List.drop_succ_cons]
          rfl
        rw [List.append_assoc, ← hs, List.take_append_drop]
theorem enc_end {set l a : List UInt8} (h : encB set (clean l) = a ++ [32]) : ∃ y, l = y ++ [32] := by
  rcases List.eq_nil_or_concat (clean l) with hn | ⟨m, x, hx⟩
  · rw [hn] at h; exact absurd h (by simp [encB])
  · rw [List.concat_eq_append] at hx
    rw [hx, encB_snoc] at h
    obtain ⟨y, hy⟩ := end_app (by unfold encByte; split <;> simp) h
    have hxl := x.toNat_lt
    unfold encByte at hy
    split at hy
    · have := congrArg List.getLast? hy
      simp only [List.getLast?_append, List.getLast?_singleton, List.getLast?_cons_cons] at this
      have e : toB (capital ((x.toNat : Int) % 16)) = 32 := by simpa using this
      have := capital_at (n := (x.toNat : Int) % 16) (by omega) (by omega)
      rw [e] at this
      exact absurd this (by decide)
    · have := congrArg List.getLast? hy
      simp only [List.getLast?_append, List.getLast?_singleton] at this
      have e : x = 32 := by simpa using this
      subst e
      exact clean_end _ l m (Nat.le_refl _) hx
theorem NoEnd.enc {set l : List UInt8} (h : NoEnd l) : NoEnd (encB set (clean l)) := fun _ e => by
  obtain ⟨y, hy⟩ := enc_end e
  exact h y hy
theorem NoEnd.tail {a b : List UInt8} (h : NoEnd (a ++ b)) : NoEnd b := fun y e => h (a ++ y) (by rw [e, List.append_assoc])
/-- The cuts' pieces. -/
theorem bcut_split (p : UInt8 → Bool) (l : List UInt8) : ((bcut p l).2.2 = false ∧ (bcut p l).1 = l) ∨ ((bcut p l).2.2 = true ∧ ∃ c, l = (bcut p l).1 ++ c :: (bcut p l).2.1) := by
  induction l with
  | nil => left; exact ⟨rfl, rfl⟩
  | cons c r ih =>
    rw [bcut]
    split
    · right; exact ⟨rfl, c, rfl⟩
    · rcases ih with ⟨h1, h2⟩ | ⟨h1, d, h2⟩
      · left; exact ⟨h1, by show c :: (bcut p r).1 = c :: r; rw [h2]⟩
      · right; exact ⟨h1, d, by show c :: r = c :: (bcut p r).1 ++ d :: (bcut p r).2.1; rw [List.cons_append, ← h2]⟩
theorem bcut_free (p : UInt8 → Bool) (l : List UInt8) : ∀ b ∈ (bcut p l).1, p b = false := by
  induction l with
  | nil => intro b hb; cases hb
  | cons c r ih =>
    intro b hb
    rw [bcut] at hb
    split at hb
    · cases hb
    · next hc =>
      simp only [List.mem_cons] at hb
      rcases hb with rfl | hb
      · simpa using hc
      · exact ih b hb
theorem bcut_mem (p : UInt8 → Bool) (l : List UInt8) : (∀ b ∈ (bcut p l).1, b ∈ l) ∧ (∀ b ∈ (bcut p l).2.1, b ∈ l) := by
  rcases bcut_split p l with ⟨h1, h2⟩ | ⟨h1, c, h2⟩
  · exact ⟨fun b hb => by rw [h2] at hb; exact hb, fun b hb => by rw [bcut_none p l h1] at hb; cases hb⟩
  · exact ⟨fun b hb => by rw [h2]; simp [hb], fun b hb => by rw [h2]; simp [hb]⟩
theorem isB_eq {n : Nat} {b c : UInt8} (hc : c.toNat = n) (h : isB (n : Int) b = true) : b = c := by
  unfold isB at h
  exact byte_eq hc (by simpa using h)
/-- Against a base of the same scheme. -/
theorem st_kept {u base : U} {segs : List (List UInt8)} {hq : Bool} {q : List UInt8} (h : Fs u) (hb : St' base) (hs : base.sch = u.sch) (hsg : SgOk (u.sch == fileB) (isSpecial u.sch) segs) (hn : base.hh = false → segs ≠ []) (hqa : Asis (SQ u.sch) q) (hqn : hq = false → q = [])
    (sd : Sd { kept u base with segs := segs, hq := hq, q := q }) : St' { kept u base with segs := segs, hq := hq, q := q } where
  sd := sd
  wf := ⟨hb.wf.nh, hqn, h.wf.nf⟩
  anam := hb.anam
  apw := hb.apw
  ahost := hb.ahost
  fhost := fun e => by have := hb.fhost e; rw [hs] at this; exact this
  seg := hsg
  aq := hqa
  afr := by show Asis S1 u.fr; rw [h.zfr]; exact asis_nil _
  opq := fun e => by have e' : u.op = true := e; rw [h.fr.zop] at e'; cases e'
  zop := fun _ => h.fr.zopath
  pth := fun _ e => hn e
  zport := hb.zport
  fil := fun e => hb.fil (hs.trans e)
  sp := fun e => hb.sp (by rw [hs]; exact e)
theorem st_without {u base : U} (l : List UInt8) (h : Fs u) (hb : St' base) (hs : base.sch = u.sch) (hbo : base.op = false) (h0 : (withoutU u l base).2 = 0) : St' (withoutU u l base).1 ∧ (withoutU u l base).1.op = false := by
  have hsd := sd_without l h.fr hb.sd hs h0
  unfold withoutU at h0 hsd ⊢
  split
  · next h1 => rw [if_pos h1] at h0; exact st_file l h h1 (fun _ => hb) h0
  next h1 =>
    rw [if_neg h1] at h0 hsd
    split
    · next h2 => rw [if_pos h2] at h0; exact st_authority _ h h1 h0
    next h2 =>
      rw [if_neg h2] at h0 hsd
      have hbs : SgOk (u.sch == fileB) (isSpecial u.sch) base.segs := by rw [← hs]; exact hb.seg
      split
      · next h3 =>
        rw [if_pos h3] at hsd
        exact ⟨st_kept (u := u) (hq := u.hq) (q := u.q) h hb hs (sg_read _ _) (fun _ => (readL_ok _ _).2) h.aq h.wf.nq hsd, h.fr.zop⟩
      · next h3 =>
        rw [if_neg h3] at hsd
        show St' (besideU (kept u base) l base) ∧ (besideU (kept u base) l base).op = false
        have hsd' : Sd (besideU (kept u base) l base) := hsd
        unfold besideU at hsd' ⊢
        split
        · next h4 =>
          rw [if_pos h4] at hsd'
          refine ⟨?_, h.fr.zop⟩
          refine st_kept (u := u) (hq := u.hq || base.hq) (q := if u.hq = true then u.q else base.q) h hb hs hbs (fun e => hb.pth hbo e) ?_ ?_ hsd'
          · split
            · exact h.aq
            · have := hb.aq; rw [hs] at this; exact this
          · intro e
            rw [Bool.or_eq_false_iff] at e
            rw [if_neg (by rw [e.1]; decide)]
            exact hb.wf.nq e.2
        · next h4 =>
          rw [if_neg h4] at hsd'
          exact ⟨st_kept (u := u) (hq := u.hq) (q := u.q) h hb hs (sg_beside l hbs) (fun _ => (besideL_ok _ _ hb.sd.psegs).2) h.aq h.wf.nq hsd', h.fr.zop⟩
theorem special_op {base : U} (hb : St' base) (h : isSpecial base.sch = true) : base.op = false := (hb.sd.sp h).1
theorem st_schemed {u base : U} (l : List UInt8) (h : Fs u) (hb : base.sch = u.sch → St' base) (hl : ∀ b ∈ l, b ≠ 63 ∧ b ≠ 35) (h0 : (schemedU u l base).2 = 0) : St' (schemedU u l base).1 ∧ ((schemedU u l base).1.op = true → (schemedU u l base).1.opath = encB S0 (clean l)) := by
  have hsd := sd_schemed l h.fr (fun e => (hb e).sd) h0
  have noop : ∀ {v : U}, St' v → v.op = false → St' v ∧ (v.op = true → v.opath = encB S0 (clean l)) := fun a b => ⟨a, fun e => by rw [b] at e; cases e⟩
  unfold schemedU at h0 hsd ⊢
  split
  · next h1 =>
    rw [if_pos h1] at h0
    have k := st_file l h h1 (fun e => hb (e.trans h1.symm)) h0
    exact noop k.1 k.2
  next h1 =>
    rw [if_neg h1] at h0 hsd
    split
    · next h2 =>
      rw [if_pos h2] at h0
      unfold specialU at h0 ⊢
      split
      · next h3 =>
        rw [if_pos h3] at h0
        have hbs := hb h3.1
        have k := st_without l h hbs h3.1 (special_op hbs (by rw [h3.1]; exact h2)) h0
        exact noop k.1 k.2
      · next h3 =>
        rw [if_neg h3] at h0
        have k := st_authority _ h h1 h0
        exact noop k.1 k.2
    next h2 =>
      rw [if_neg h2] at h0 hsd
      split
      · next h3 =>
        rw [if_pos h3] at hsd
        refine ⟨?_, fun _ => rfl⟩
        exact {
          sd := hsd
          wf := h.wf.pathed _ _
          anam := by show Asis S5 u.nam; rw [h.fr.znam]; exact asis_nil _
          apw := by show Asis S5 u.pw; rw [h.fr.zpw]; exact asis_nil _
          ahost := by show HostT u.host; rw [h.fr.zhost]; exact hostT_nil
          fhost := fun e => absurd h.fr.zhost e
          seg := by show SgOk _ _ u.segs; rw [h.fr.zsegs]; exact sg_nil _ _
          aq := h.aq
          afr := by show Asis S1 u.fr; rw [h.zfr]; exact asis_nil _
          opq := fun _ => ⟨h.fr.zsegs, h.zhh, enc_first h3, fun b hb => ⟨enc_no (fun b hb => (hl b hb).1) (by decide) b hb, enc_no (fun b hb => (hl b hb).2) (by decide) b hb⟩⟩
          zop := fun e => by cases e
          pth := fun e => by cases e
          zport := fun _ => h.zport
          fil := fun e => absurd e h1
          sp := fun e => absurd e h2 }
      next h3 =>
        rw [if_neg h3] at h0 hsd
        split
        · next h4 =>
          rw [if_pos h4] at hsd
          refine noop ?_ h.fr.zop
          exact {
            sd := hsd
            wf := h.wf.segs _
            anam := by show Asis S5 u.nam; rw [h.fr.znam]; exact asis_nil _
            apw := by show Asis S5 u.pw; rw [h.fr.zpw]; exact asis_nil _
            ahost := by show HostT u.host; rw [h.fr.zhost]; exact hostT_nil
            fhost := fun e => absurd h.fr.zhost e
            seg := sg_read _ _
            aq := h.aq
            afr := by show Asis S1 u.fr; rw [h.zfr]; exact asis_nil _
            opq := fun e => by have e' : u.op = true := e; rw [h.fr.zop] at e'; cases e'
            zop := fun _ => h.fr.zopath
            pth := fun _ _ => (readL_ok _ _).2
            zport := fun _ => h.zport
            fil := fun e => absurd e h1
            sp := fun e => absurd e h2 }
        · next h4 =>
          rw [if_neg h4] at h0
          have k := st_authority _ h h1 h0
          exact noop k.1 k.2
/-- An opaque path leaves the query as it was. -/
theorem schemed_hq {u base : U} (l : List UInt8) (h : (schemedU u l base).1.op = true) (h0 : Fs u) (hs : (schemedU u l base).2 = 0) (hb : base.sch = u.sch → St' base) : (schemedU u l base).1.hq = u.hq := by
  unfold schemedU at h hs ⊢
  split
  · next h1 =>
    rw [if_pos h1] at h hs
    rw [(st_file l h0 h1 (fun e => hb (e.trans h1.symm)) hs).2] at h
    cases h
  next h1 =>
    rw [if_neg h1] at h hs
    split
    · next h2 =>
      rw [if_pos h2] at h hs
      unfold specialU at h hs
      split at hs
      · next h3 =>
        rw [if_pos h3] at h
        have hbs := hb h3.1
        rw [(st_without l h0 hbs h3.1 (special_op hbs (by rw [h3.1]; exact h2)) hs).2] at h
        cases h
      · next h3 =>
        rw [if_neg h3] at h
        rw [(st_authority _ h0 h1 hs).2] at h
        cases h
    next h2 =>
      rw [if_neg h2] at h hs
      split
      · rfl
      next h3 =>
        rw [if_neg h3] at h hs
        split
        · rfl
        · next h4 =>
          rw [if_neg h4] at h hs
          rw [(st_authority _ h0 h1 hs).2] at h
          cases h
theorem st_rest {sch rest : List UInt8} {found : Bool} {base : U} (hsc : sch ≠ [] → ScOk sch) (hb : base.sch ≠ [] → St' base) (hn : found = false → base.sch = sch ∧ base.op = false) (hr : ∀ b ∈ rest, b ≠ 35) (h0 : (restU sch rest found base).2 = 0) :
    St' (restU sch rest found base).1 ∧ ((restU sch rest found base).1.op = true → (restU sch rest found base).1.hq = (bcut (isB 63) rest).2.2 ∧ (restU sch rest found base).1.opath = encB S0 (clean (bcut (isB 63) rest).1)) := by
  have hl : ∀ b ∈ (bcut (isB 63) rest).1, b ≠ 63 ∧ b ≠ 35 := fun b hb' => ⟨fun e => by have := bcut_free (isB 63) rest b hb'; rw [e] at this; exact absurd this (by decide), hr b ((bcut_mem (isB 63) rest).1 b hb')⟩
  unfold restU at h0 ⊢
  split
  · next h1 => rw [if_pos h1] at h0; cases h0
  next h1 =>
    rw [if_neg h1] at h0
    split
    · next h2 =>
      rw [if_pos h2] at h0
      have k := st_schemed (bcut (isB 63) rest).1 (fs_fresh (rest := rest) (hsc h1)) (fun e => hb (by rw [e]; exact h1)) hl h0
      refine ⟨k.1, fun e => ⟨?_, k.2 e⟩⟩
      exact schemed_hq _ e (fs_fresh (rest := rest) (hsc h1)) h0 (fun e => hb (by rw [e]; exact h1))
    · next h2 =>
      rw [if_neg h2] at h0
      have e := hn (by simpa using h2)
      have k := st_without (bcut (isB 63) rest).1 (fs_fresh (rest := rest) (hsc h1)) (hb (by rw [e.1]; exact h1)) e.1 e.2 h0
      exact ⟨k.1, fun x => by rw [k.2] at x; cases x⟩
end Go.Proofs.YtchkhibgbnhjpaaGreatDoor

namespace Go.Proofs.YtchkhibgbnhjpaaGreatDoor
open Go.RowKit

/-- What stands of every URL that was read. -/
structure St (u : U) : Prop where
  st : St' u
  blank : u.op = true → u.hq = false → u.hf = false → NoEnd u.opath
theorem cutSch_rest (l : List UInt8) : ∃ a, l = a ++ (cutSch l).2.1 := by
  unfold cutSch
  split
  · next h =>
    rcases bcut_split (isB 58) l with ⟨h1, -⟩ | ⟨-, c, h2⟩
    · rw [h.1] at h1; cases h1
    · exact ⟨(bcut (isB 58) l).1 ++ [c], by rw [List.append_assoc]; exact h2⟩
  · exact ⟨[], rfl⟩
theorem st_ahead (l : List UInt8) (hf : Bool) {base : U} (hb : base = zeroU ∨ St' base) (hl : ∀ b ∈ l, b ≠ 35) (he : hf = false → NoEnd l) (h0 : (aheadU l hf base).2 = 0) :
    St' (aheadU l hf base).1 ∧ ((aheadU l hf base).1.op = true → (aheadU l hf base).1.hq = false → hf = false → NoEnd (aheadU l hf base).1.opath) := by
  have hb' : base.sch ≠ [] → St' base := fun hn => hb.elim (fun e => absurd (by rw [e]; rfl) hn) id
  obtain ⟨a, ha⟩ := cutSch_rest l
  have hr : ∀ b ∈ (cutSch l).2.1, b ≠ 35 := fun b hb => hl b (by rw [ha]; simp [hb])
  have fin : ∀ {v : U}, (v.op = true → v.hq = (bcut (isB 63) (cutSch l).2.1).2.2 ∧ v.opath = encB S0 (clean (bcut (isB 63) (cutSch l).2.1).1)) → v.op = true → v.hq = false → hf = false → NoEnd v.opath := by
    intro v hv h1 h2 h3
    obtain ⟨k1, k2⟩ := hv h1
    rw [h2] at k1
    rcases bcut_split (isB 63) (cutSch l).2.1 with ⟨-, e⟩ | ⟨e, -⟩
    · rw [e] at k2
      rw [k2]
      have hn := he h3
      rw [ha] at hn
      exact hn.tail.enc
    · rw [e] at k1; cases k1
  unfold aheadU at h0 ⊢
  split
  · next h1 =>
    rw [if_pos h1] at h0
    have k := st_rest (sch := (cutSch l).1) (rest := (cutSch l).2.1) (found := true) (fun _ => by
      unfold cutSch at h1 ⊢
      split
      · next h2 => exact schemeB_ok h2.2
      · next h2 => rw [if_neg h2] at h1; cases h1) hb' (fun e => by cases e) hr h0
    exact ⟨k.1, fin k.2⟩
  next h1 =>
    rw [if_neg h1] at h0
    split
    · next h2 =>
      rw [if_pos h2] at h0
      have hs : St' base := hb.elim (fun e => by rw [e] at h2; cases h2) id
      unfold opaqueU at h0 ⊢
      split
      · next h3 => exact ⟨hs, fun _ _ e => by rw [h3.2] at e; cases e⟩
      · next h3 => rw [if_neg h3] at h0; cases h0
    · next h2 =>
      rw [if_neg h2] at h0
      have k := st_rest (sch := base.sch) (rest := (cutSch l).2.1) (found := false) (fun hn => (hb' hn).sd.sc) hb' (fun _ => ⟨rfl, by simpa using h2⟩) hr h0
      exact ⟨k.1, fin k.2⟩
theorem trim_end (m : List UInt8) : ∀ a x, trimB m = a ++ [x] → blankB x = false := by
  intro a x h
  unfold trimB at h
  have h1 := congrArg List.reverse h
  rw [List.reverse_reverse, List.reverse_append] at h1
  have h2 : (List.dropWhile blankB (List.dropWhile blankB m).reverse).head? = some x := by rw [h1]; rfl
  have := List.head?_dropWhile_not blankB (List.dropWhile blankB m).reverse
  rw [h2] at this
  simpa using this
theorem whole_end (l : List UInt8) : NoEnd (wholeText l) := by
  intro a h
  unfold wholeText noBreaks at h
  rcases List.eq_nil_or_concat (trimB (clean l)) with hn | ⟨y, x, hx⟩
  · rw [hn] at h; exact absurd h (by simp)
  · rw [List.concat_eq_append] at hx
    have hb := trim_end _ _ _ hx
    have hk : (!breakB x) = true := by
      unfold blankB at hb
      unfold breakB
      have := of_decide_eq_false hb
      have h1 : ((x.toNat : Int) == 9) = false := beq_eq_false_iff_ne.2 (by omega)
      have h2 : ((x.toNat : Int) == 10) = false := beq_eq_false_iff_ne.2 (by omega)
      have h3 : ((x.toNat : Int) == 13) = false := beq_eq_false_iff_ne.2 (by omega)
      rw [h1, h2, h3]; rfl
    rw [hx, List.filter_append] at h
    have hf1 : List.filter (fun b => !breakB b) [x] = [x] := by simp only [List.filter, hk]
    rw [hf1] at h
    have e := List.append_inj_right' h rfl
    simp only [List.cons.injEq, and_true] at e
    subst e
    exact absurd hb (by decide)
theorem st_against (l : List UInt8) {base : U} (hb : base = zeroU ∨ St' base) (h0 : (againstU l base).2 = 0) : St (againstU l base).1 := by
  have hwf := wf_against l (base := base) (hb.elim (fun e => by rw [e]; exact wf_zero) (fun h => h.wf))
  have hsd := sd_against l (base := base) (hb.elim Or.inl (fun h => Or.inr h.sd)) h0
  unfold againstU ended at h0 hwf hsd ⊢
  split
  · next h1 => rw [if_pos h1] at h0; exact absurd h0 h1
  · next h1 =>
    rw [if_neg h1] at hwf hsd
    have hl : ∀ b ∈ (bcut (isB 35) (wholeText l)).1, b ≠ 35 := fun b hb' e => by have := bcut_free (isB 35) _ b hb'; rw [e] at this; exact absurd this (by decide)
    have h := st_ahead (bcut (isB 35) (wholeText l)).1 (bcut (isB 35) (wholeText l)).2.2 hb hl (fun e => by
      rcases bcut_split (isB 35) (wholeText l) with ⟨-, e2⟩ | ⟨e2, -⟩
      · rw [e2]; exact whole_end l
      · rw [e2] at e; cases e) (Classical.not_not.1 h1)
    refine ⟨{ h.1 with sd := hsd, wf := hwf, afr := encB_Asis spare1 _ }, fun e1 e2 e3 => h.2 e1 e2 e3⟩
theorem st_zero_or {base : List UInt8} {b : Bool} (h3 : (baseU base b).2 = 0) : (baseU base b).1 = zeroU ∨ St' (baseU base b).1 := by
  unfold baseU at h3 ⊢
  split
  · exact Or.inl rfl
  next h4 =>
    rw [if_neg h4] at h3
    split
    · exact Or.inl rfl
    next h5 =>
      rw [if_neg h5] at h3
      exact Or.inr (st_against base (Or.inl rfl) h3).st
/-- Every URL that urls.Parse gives stands. -/
theorem st_parse (l base : List UInt8) (b : Bool) (h0 : (parseU l base b).2 = 0) : St (parseU l base b).1 := by
  unfold parseU at h0 ⊢
  split
  · next h1 => rw [if_pos h1] at h0; cases h0
  next h1 =>
    rw [if_neg h1] at h0
    split
    · next h2 => rw [if_pos h2] at h0; exact absurd h0 h2
    next h2 =>
      rw [if_neg h2] at h0
      exact st_against l (st_zero_or (Classical.not_not.1 h2)) h0
end Go.Proofs.YtchkhibgbnhjpaaGreatDoor

namespace Go.Proofs.YtchkhibgbnhjpaaGreatDoor
open Go.RowKit

theorem Asis.ne {set l : List UInt8} (h : Asis set l) {c : UInt8} (hc : among (c.toNat : Int) set = true) : ∀ b ∈ l, b ≠ c := fun b hb e => by
  subst e
  have := (h b hb).2.2
  rw [hc] at this
  cases this
theorem slB_no {sp : Bool} {b : UInt8} (h1 : b ≠ 47) (h2 : b ≠ 92) : slB sp b = false := by
  unfold slB slashB
  have e1 : ((b.toNat : Int) == 47) = false := beq_eq_false_iff_ne.2 fun e => h1 (byte_eq rfl e)
  have e2 : ((b.toNat : Int) == 92) = false := beq_eq_false_iff_ne.2 fun e => h2 (byte_eq rfl e)
  rw [e1, e2]; cases sp <;> rfl
theorem isB_ne {n : Nat} {b c : UInt8} (hc : c.toNat = n) (h : b ≠ c) : isB (n : Int) b = false := by
  unfold isB
  exact beq_eq_false_iff_ne.2 fun e => h (byte_eq hc e)
/-- The bytes of what stands ahead of a path. -/
def Cl (l : List UInt8) : Prop := ∀ b ∈ l, b ≠ 35 ∧ b ≠ 63 ∧ b ≠ 32
theorem cl_nil : Cl [] := fun b hb => by cases hb
theorem cl_app {a b : List UInt8} (ha : Cl a) (hb : Cl b) : Cl (a ++ b) := fun x hx => (List.mem_append.1 hx).elim (ha x) (hb x)
theorem cl_one {c : UInt8} (h : c ≠ 35 ∧ c ≠ 63 ∧ c ≠ 32) : Cl [c] := fun b hb => by rw [List.mem_singleton] at hb; subst hb; exact h
theorem asis5 {l : List UInt8} (h : Asis S5 l) : ∀ b ∈ l, b ≠ 35 ∧ b ≠ 63 ∧ b ≠ 32 ∧ b ≠ 47 ∧ b ≠ 92 ∧ b ≠ 64 ∧ b ≠ 58 := fun b hb =>
  ⟨h.ne (by decide) b hb, h.ne (by decide) b hb, h.ne (by decide) b hb, h.ne (by decide) b hb, h.ne (by decide) b hb, h.ne (by decide) b hb, h.ne (by decide) b hb⟩
theorem digit_no {l : List UInt8} (h : Dg l) : ∀ b ∈ l, b ≠ 35 ∧ b ≠ 63 ∧ b ≠ 32 ∧ b ≠ 47 ∧ b ≠ 92 ∧ b ≠ 64 ∧ b ≠ 58 := fun b hb => by
  have := h b hb
  refine ⟨?_, ?_, ?_, ?_, ?_, ?_, ?_⟩ <;> (rintro rfl; exact absurd this (by decide))
/-- Name, password, host and port hold no sign that parts, their own aside. -/
theorem user_no {u : U} (h : St' u) : ∀ b ∈ userU u, b ≠ 35 ∧ b ≠ 63 ∧ b ≠ 32 ∧ b ≠ 47 ∧ b ≠ 92 := by
  intro b hb
  unfold userU at hb
  split at hb
  · cases hb
  split at hb
  · rcases List.mem_append.1 hb with hb | hb
    · have := asis5 h.anam b hb; exact ⟨this.1, this.2.1, this.2.2.1, this.2.2.2.1, this.2.2.2.2.1⟩
    · rw [List.mem_singleton] at hb; subst hb; decide
  · simp only [List.mem_append, List.mem_cons, List.not_mem_nil, or_false] at hb
    rcases hb with (hb | rfl | hb) | rfl
    · have := asis5 h.anam b hb; exact ⟨this.1, this.2.1, this.2.2.1, this.2.2.2.1, this.2.2.2.2.1⟩
    · decide
    · have := asis5 h.apw b hb; exact ⟨this.1, this.2.1, this.2.2.1, this.2.2.2.1, this.2.2.2.2.1⟩
    · decide
theorem hostPort_no {u : U} (h : St' u) : ∀ b ∈ hostPortU u, b ≠ 35 ∧ b ≠ 63 ∧ b ≠ 32 ∧ b ≠ 47 ∧ b ≠ 92 ∧ b ≠ 64 := by
  intro b hb
  have hh : ∀ b ∈ u.host, b ≠ 35 ∧ b ≠ 63 ∧ b ≠ 32 ∧ b ≠ 47 ∧ b ≠ 92 ∧ b ≠ 64 := fun b hb => by
    have := h.ahost.mem b hb
    exact ⟨this.1, this.2.2.1, this.2.2.2.2.2, this.2.1, this.2.2.2.2.1, this.2.2.2.1⟩
  unfold hostPortU at hb
  split at hb
  · simp only [List.mem_append, List.mem_cons, List.not_mem_nil, or_false] at hb
    rcases hb with (hb | rfl) | hb
    · exact hh b hb
    · decide
    · have hd : Dg (portTextU u) := by
        unfold portTextU
        by_cases hp : u.hp = true
        · rw [if_pos hp]; exact decD_dg (by have := (h.sd.port hp).1; omega)
        · rw [if_neg hp]; exact fun b hb => by cases hb
      have := digit_no hd b hb
      exact ⟨this.1, this.2.1, this.2.2.1, this.2.2.2.1, this.2.2.2.2.1, this.2.2.2.2.2.1⟩
  · exact hh b hb
theorem encU_asis {l : List UInt8} (h : Asis S5 l) : encU l = l := h.clean
theorem who_fix {u : U} (h : St' u) : ∃ who fnd, bcutLast 64 (userU u ++ hostPortU u) = (who, hostPortU u, fnd) ∧ encU (bcut (isB 58) who).1 = u.nam ∧ encU (bcut (isB 58) who).2.1 = u.pw ∧ (fnd = true → u.host ≠ []) := by
  have h64 : ∀ b ∈ hostPortU u, isB 64 b = false := fun b hb => isB_ne (c := 64) rfl (hostPort_no h b hb).2.2.2.2.2
  have n58 : ∀ b ∈ u.nam, isB 58 b = false := fun b hb => isB_ne (c := 58) rfl (asis5 h.anam b hb).2.2.2.2.2.2
  have hho : ¬ (u.nam = [] ∧ u.pw = []) → u.host ≠ [] := fun hn e => hn (by have := h.sd.who (Or.inl e); exact ⟨this.1, this.2.1⟩)
  unfold userU
  split
  · next hn =>
    refine ⟨[], false, bcutLast_all h64, ?_, ?_, fun e => by cases e⟩
    · rw [hn.1]; exact encU_nil
    · rw [hn.2]; exact encU_nil
  next hn =>
    split
    · next hp =>
      refine ⟨u.nam, true, ?_, ?_, ?_, fun _ => hho hn⟩
      · rw [List.append_assoc]; exact bcutLast_at h64 (by decide)
      · rw [bcut_all n58]; exact encU_asis h.anam
      · rw [bcut_all n58, hp]; exact encU_nil
    · refine ⟨u.nam ++ 58 :: u.pw, true, ?_, ?_, ?_, fun _ => hho hn⟩
      · have e : u.nam ++ ([58] ++ u.pw) ++ [64] ++ hostPortU u = (u.nam ++ 58 :: u.pw) ++ 64 :: hostPortU u := by simp
        rw [e]; exact bcutLast_at h64 (by decide)
      · rw [bcut_at u.pw n58 (by decide)]; exact encU_asis h.anam
      · rw [bcut_at u.pw n58 (by decide)]; exact encU_asis h.apw
theorem readPort_dec {n : Nat} (h : n ≤ 65535) : readPort (decD n) = ((n : Int), true) := by
  unfold readPort
  rw [decD_num h (by decide), if_neg]
  rintro (e | e)
  · cases e
  · have e' : (65535 : Int) < n := e
    omega
theorem host_none : hostL [] false = ([], 0) := by
  show otherL [] = _
  unfold otherL
  rw [if_neg (by decide), enc_clean_nil]
theorem place_fix {u w : U} (h : St' u) (hf : u.sch ≠ fileB) (hs : w.sch = u.sch) (hp : w.hp = false) (hz : w.port = 0) : placeU w (hostPortU u) = ({ w with hh := true, host := u.host, hp := u.hp, port := u.port }, 0) := by
  have hl : hostL u.host (isSpecial u.sch) = (u.host, 0) := by
    by_cases hn : u.host = []
    · have : isSpecial u.sch = false := by
        cases hsp : isSpecial u.sch
        · rfl
        · exact absurd hn (h.sd.hst hsp hf)
      rw [this, hn]
      exact host_none
    · exact h.fhost hn
  cases hup : u.hp
  · have e : hostPortU u = u.host := by unfold hostPortU; rw [if_neg (by rw [hup]; decide)]
    unfold placeU
    rw [e, cutPort_host h.ahost, hs]
    simp only
    rw [if_neg, hl, if_neg (by intro x; exact x rfl), if_pos True.intro, h.zport hup]
    · obtain ⟨sch, nam, pw, hh, host, hp', port, op, opath, segs, hq, q, hf', fr⟩ := w
      simp only at hp hz
      subst hp hz
      rfl
    · rintro ⟨e1, e2 | e2⟩
      · exact h.sd.hst e2 hf e1
      · cases e2
  · have e : hostPortU u = u.host ++ [58] ++ decD u.port := by unfold hostPortU portTextU; rw [if_pos hup, if_pos hup]
    have hne : u.host ≠ [] := fun x => by have := (h.sd.who (Or.inl x)).2.2; rw [hup] at this; cases this
    have hk := h.sd.port hup
    unfold placeU
    rw [e, cutPort_both h.ahost, hs]
    simp only
    rw [if_neg (fun x => hne x.1), hl, if_neg (by intro x; exact x rfl), if_neg (decD_ne _)]
    unfold portU
    rw [readPort_dec hk.1, if_neg (by intro x; cases x)]
    unfold atPortU
    simp only
    rw [if_neg (fun x => hk.2 x.1 x.2)]
    simp
/-- What is written behind the two slashes is read as it was. -/
theorem auth_fix {u w : U} (h : St' u) (hf : u.sch ≠ fileB) (hh : u.hh = true) (ho : u.op = false) (hw : w = { zeroU with sch := u.sch, hq := u.hq, q := u.q }) :
    authorityU w (userU u ++ hostPortU u ++ joinSl u.segs) = ({ u with hf := false, fr := [] }, 0) := by
  obtain ⟨who, fnd, w1, w2, w3, w4⟩ := who_fix h
  have hws : w.sch = u.sch := by rw [hw]
  have hfree : ∀ b ∈ userU u ++ hostPortU u, slB (isSpecial u.sch) b = false := fun b hb => by
    rcases List.mem_append.1 hb with hb | hb
    · have := user_no h b hb; exact slB_no this.2.2.2.1 this.2.2.2.2
    · have := hostPort_no h b hb; exact slB_no this.2.2.2.1 this.2.2.2.2.1
  have hpl := place_fix (w := { w with nam := u.nam, pw := u.pw }) h hf hws (by rw [hw]; rfl) (by rw [hw]; rfl)
  simp only [hws] at hpl
  have hne : fnd = true → hostPortU u ≠ [] := fun e x => by
    have hn := w4 e
    unfold hostPortU at x
    split at x
    · simp at x
    · exact hn x
  have hcut : bcut (slB (isSpecial u.sch)) (userU u ++ hostPortU u ++ joinSl u.segs) = (userU u ++ hostPortU u, (bcut (slB (isSpecial u.sch)) (joinSl u.segs)).2) ∧ (bcut (slB (isSpecial u.sch)) (joinSl u.segs)).1 = [] := by
    have e : (bcut (slB (isSpecial u.sch)) (joinSl u.segs)).1 = [] := by
      cases u.segs with
      | nil => rfl
      | cons s r =>
        have : joinSl (s :: r) = 47 :: (s ++ joinSl r) := by simp [joinSl]
        rw [this, bcut, if_pos (slB_47 _)]
    exact ⟨by rw [bcut_app _ hfree, e, List.append_nil], e⟩
  unfold authorityU
  rw [hws, hcut.1]
  simp only
  rw [w1]
  simp only
  rw [if_neg (fun x => hne x.1 x.2), w2, w3, hpl]
  unfold authEnd
  rw [if_neg (by intro x; exact x rfl)]
  have fin : ∀ s, s = u.segs → (({ { { w with nam := u.nam, pw := u.pw } with hh := true, host := u.host, hp := u.hp, port := u.port } with segs := s } : U), (0 : Int)) = ({ u with hf := false, fr := [] }, 0) := by
    intro s hs
    subst hs
    rw [hw]
    obtain ⟨sch, nam, pw, hh', host, hp', port, op, opath, segs, hq, q, hf', fr⟩ := u
    simp only at hh ho
    subst hh ho
    have := h.zop rfl
    simp only at this
    subst this
    rfl
  cases hs : u.segs with
  | nil =>
    have hsp : isSpecial u.sch = false := by
      cases hsp : isSpecial u.sch
      · rfl
      · exact absurd hs (h.sd.sp hsp).2
    rw [hsp]
    show (if (false || false) = true then _ else _) = _
    rw [if_neg (by decide)]
    have := fin u.segs rfl
    rw [hw] at this ⊢
    rw [hs] at this
    exact this
  | cons s r =>
    have e : joinSl (s :: r) = 47 :: (s ++ joinSl r) := by simp [joinSl]
    rw [e, bcut, if_pos (slB_47 _)]
    simp only
    rw [if_pos (by simp)]
    have hr : readL (s ++ joinSl r) u.sch = s :: r := readL_fix (by rw [← hs]; exact h.seg)
    rw [hr]
    have := fin _ hs.symm
    simp only [hws] at this
    rw [hs] at this
    exact this
end Go.Proofs.YtchkhibgbnhjpaaGreatDoor

namespace Go.Proofs.YtchkhibgbnhjpaaGreatDoor
open Go.RowKit

theorem trimB_id {l : List UInt8} (h1 : ∀ c r, l = c :: r → blankB c = false) (h2 : ∀ a x, l = a ++ [x] → blankB x = false) : trimB l = l := by
  unfold trimB
  cases l with
  | nil => rfl
  | cons c r =>
    rw [List.dropWhile_cons_of_neg (by rw [h1 c r rfl]; decide)]
    rcases List.eq_nil_or_concat (c :: r) with hn | ⟨a, x, hx⟩
    · cases hn
    · rw [List.concat_eq_append] at hx
      rw [hx, List.reverse_append]
      show (List.dropWhile blankB (x :: a.reverse)).reverse = _
      rw [List.dropWhile_cons_of_neg (by rw [h2 a x hx]; decide)]
      simp
theorem blank_pr {x : UInt8} (h : 32 ≤ x.toNat) (hn : x ≠ 32) : blankB x = false := by
  unfold blankB
  refine decide_eq_false fun e => hn (byte_eq (n := 32) rfl (by omega))
theorem whole_id {l : List UInt8} (hp : Pr l) (h1 : ∀ c r, l = c :: r → c ≠ 32) (h2 : NoEnd l) : wholeText l = l := by
  unfold wholeText
  rw [clean_ascii (fun b hb => by have := hp b hb; omega), trimB_id]
  · unfold noBreaks
    refine List.filter_eq_self.2 fun b hb => ?_
    have := hp b hb
    unfold breakB
    have e1 : ((b.toNat : Int) == 9) = false := beq_eq_false_iff_ne.2 (by omega)
    have e2 : ((b.toNat : Int) == 10) = false := beq_eq_false_iff_ne.2 (by omega)
    have e3 : ((b.toNat : Int) == 13) = false := beq_eq_false_iff_ne.2 (by omega)
    rw [e1, e2, e3]; rfl
  · intro c r e
    exact blank_pr (hp c (by rw [e]; simp)).1 (h1 c r e)
  · intro a x e
    refine blank_pr (hp x (by rw [e]; simp)).1 fun hx => ?_
    subst hx
    exact h2 a e
theorem noEnd_app {a b : List UInt8} (hb : b ≠ []) (h : NoEnd b) : NoEnd (a ++ b) := fun x e => by
  obtain ⟨y, hy⟩ := end_app hb e
  exact h y hy
theorem noEnd_of {l : List UInt8} (h : ∀ b ∈ l, b ≠ 32) : NoEnd l := fun a e => h 32 (by rw [e]; simp) rfl
theorem Cl.noEnd {l : List UInt8} (h : Cl l) : NoEnd l := noEnd_of fun b hb => (h b hb).2.2
theorem sch_cl {l : List UInt8} (h : ScOk l) : Cl l := fun b hb => by
  have := h.all b hb
  refine ⟨?_, ?_, ?_⟩ <;> (rintro rfl; exact absurd this (by decide))
theorem front_cl {u : U} (h : St' u) : Cl (frontU u) := by
  unfold frontU
  split
  · refine cl_app (cl_app ?_ ?_) ?_
    · intro b hb; simp only [List.mem_cons, List.not_mem_nil, or_false] at hb; rcases hb with rfl | rfl <;> decide
    · intro b hb; have := user_no h b hb; exact ⟨this.1, this.2.1, this.2.2.1⟩
    · intro b hb; have := hostPort_no h b hb; exact ⟨this.1, this.2.1, this.2.2.1⟩
  split
  · intro b hb; simp only [List.mem_cons, List.not_mem_nil, or_false] at hb; rcases hb with rfl | rfl <;> decide
  · exact cl_nil
theorem joinSl_cl {u : U} (h : St' u) : Cl (joinSl u.segs) := by
  intro b hb
  unfold joinSl at hb
  obtain ⟨s, hs, hb⟩ := List.mem_flatMap.1 hb
  rcases List.mem_append.1 hb with hb | hb
  · rw [List.mem_singleton] at hb; subst hb; decide
  · have ha := (h.seg.each s hs).asis
    exact ⟨ha.ne (by decide) b hb, ha.ne (by decide) b hb, ha.ne (by decide) b hb⟩
theorem path_no {u : U} (h : St' u) : ∀ b ∈ pathU u, b ≠ 35 ∧ b ≠ 63 := by
  intro b hb
  unfold pathU at hb
  split at hb
  · next ho => have := (h.opq ho).2.2.2 b hb; exact ⟨this.2, this.1⟩
  · have := joinSl_cl h b hb; exact ⟨this.1, this.2.1⟩
theorem q_no {u : U} (h : St' u) : ∀ b ∈ u.q, b ≠ 35 ∧ b ≠ 32 := by
  intro b hb
  have ha := h.aq
  unfold SQ querySet at ha
  split at ha
  · exact ⟨ha.ne (by decide) b hb, ha.ne (by decide) b hb⟩
  · exact ⟨ha.ne (by decide) b hb, ha.ne (by decide) b hb⟩
theorem href_noEnd {u : U} (h : St u) : NoEnd (hrefU u) := by
  unfold hrefU
  cases hf : u.hf
  · rw [if_neg (by decide : ¬ false = true), List.append_nil]
    cases hq : u.hq
    · rw [if_neg (by decide : ¬ false = true), List.append_nil]
      unfold pathU
      cases ho : u.op
      · rw [if_neg (by decide : ¬ false = true)]
        by_cases hs : u.segs = []
        · rw [hs]
          show NoEnd (protocolU u ++ frontU u ++ [])
          rw [List.append_nil]
          exact (cl_app (cl_app (sch_cl h.st.sd.sc) (cl_one (by decide))) (front_cl h.st)).noEnd
        · refine noEnd_app ?_ (joinSl_cl h.st).noEnd
          cases hs' : u.segs with
          | nil => exact absurd hs' hs
          | cons s r => simp [joinSl]
      · rw [if_pos (rfl : true = true)]
        by_cases hp : u.opath = []
        · rw [hp, List.append_nil]
          exact (cl_app (cl_app (sch_cl h.st.sd.sc) (cl_one (by decide))) (front_cl h.st)).noEnd
        · exact noEnd_app hp (h.blank ho hq hf)
    · rw [if_pos (rfl : true = true)]
      refine noEnd_app (by simp) (noEnd_of fun b hb => ?_)
      rcases List.mem_append.1 hb with hb | hb
      · rw [List.mem_singleton] at hb; subst hb; decide
      · exact (q_no h.st b hb).2
  · rw [if_pos (rfl : true = true)]
    refine noEnd_app (by simp) (noEnd_of fun b hb => ?_)
    rcases List.mem_append.1 hb with hb | hb
    · rw [List.mem_singleton] at hb; subst hb; decide
    · exact h.st.afr.ne (by decide) b hb
theorem href_pr' {u : U} (h : St' u) : Pr (hrefU u) := by
  have hs := h.sd
  have h1 : Pr (userU u) := by
    unfold userU
    split
    · exact pr_nil
    split
    · exact pr_app hs.pnam (pr_one (by decide) (by decide))
    · exact pr_app (pr_app hs.pnam (pr_app (pr_one (by decide) (by decide)) hs.ppw)) (pr_one (by decide) (by decide))
  have h2 : Pr (hostPortU u) := by
    unfold hostPortU
    split
    · next hp =>
      refine pr_app (pr_app hs.phost (pr_one (by decide) (by decide))) ?_
      unfold portTextU
      rw [if_pos hp]
      exact (decD_dg (by have := (hs.port hp).1; omega)).pr
    · exact hs.phost
  have h3 : Pr (frontU u) := by
    unfold frontU
    split
    · exact pr_app (pr_app (pr_cons (by decide) (by decide) (pr_one (by decide) (by decide))) h1) h2
    split
    · exact pr_cons (by decide) (by decide) (pr_one (by decide) (by decide))
    · exact pr_nil
  have h4 : Pr (pathU u) := by
    unfold pathU
    split
    · exact hs.popath
    · intro b hb
      unfold joinSl at hb
      obtain ⟨s, hs', hc⟩ := List.mem_flatMap.1 hb
      exact pr_app (pr_one (by decide) (by decide)) (hs.psegs s hs') b hc
  unfold hrefU
  refine pr_app (pr_app (pr_app (pr_app (pr_app hs.sc.pr (pr_one (by decide) (by decide))) h3) h4) ?_) ?_
  · split
    · exact pr_app (pr_one (by decide) (by decide)) hs.pq
    · exact pr_nil
  · split
    · exact pr_app (pr_one (by decide) (by decide)) hs.pfr
    · exact pr_nil
theorem schemeB_fix {l : List UInt8} (h : ScOk l) : schemeB l = true ∧ lower l = l := by
  constructor
  · cases l with
    | nil => exact absurd rfl h.ne
    | cons c r =>
      have hc := h.first c r rfl
      unfold schemeB
      rw [Bool.and_eq_true]
      constructor
      · unfold alpha; exact decide_eq_true (by omega)
      · rw [List.all_eq_true]
        intro b hb
        have := h.all b (by simp [hb])
        unfold markB alpha
        simp only [Bool.or_eq_true, beq_iff_eq, decide_eq_true_eq]
        omega
  · exact lower_id fun b hb => by have := h.all b hb; omega
theorem cutSch_fix {s r : List UInt8} (h : ScOk s) : cutSch (s ++ 58 :: r) = (s, r, true) := by
  have h58 : ∀ b ∈ s, isB 58 b = false := fun b hb => by
    have := h.all b hb
    refine isB_ne (c := 58) rfl ?_
    rintro rfl
    exact absurd this (by decide)
  unfold cutSch
  rw [bcut_at r h58 (by decide)]
  simp only
  rw [if_pos ⟨trivial, (schemeB_fix h).1⟩, (schemeB_fix h).2]
end Go.Proofs.YtchkhibgbnhjpaaGreatDoor

namespace Go.Proofs.YtchkhibgbnhjpaaGreatDoor
open Go.RowKit

theorem countSl_cons (sp : Bool) (l : List UInt8) : countSl sp (47 :: l) = countSl sp l + 1 := by rw [countSl, if_pos (slB_47 sp)]
theorem countSl_no {sp : Bool} {c : UInt8} (r : List UInt8) (h : slB sp c = false) : countSl sp (c :: r) = 0 := by rw [countSl, if_neg (by rw [h]; decide)]
theorem host_drive {l : List UInt8} (h : HostT l) : driveB l = false := by
  cases hd : driveB l
  · rfl
  · obtain ⟨a, b, rfl, ha, hb⟩ := drive_two hd
    rcases h with ⟨t, ht, -⟩ | h
    · simp only [List.cons.injEq] at ht
      rw [ht.1] at ha
      exact absurd ha (by decide)
    · have := h b (by simp)
      rcases hb with rfl | rfl
      · exact absurd rfl this.2.2.1
      · exact absurd rfl this.2.2.2.2.2.2.2.2.2
theorem fileHostL_fix {u : U} (h : St' u) (hf : u.sch = fileB) : fileHostL u.host = (u.host, 0) := by
  unfold fileHostL
  by_cases hn : u.host = []
  · rw [if_pos hn, hn]
  · have hl := h.fhost hn
    rw [hf, file_special] at hl
    rw [if_neg hn, hl, if_neg (by intro x; exact x rfl), if_neg (h.fil hf)]
theorem file_fix {u w base : U} (h : St' u) (hf : u.sch = fileB) (hw : w = { zeroU with sch := u.sch, hq := u.hq, q := u.q }) :
    fileU w (frontU u ++ pathU u) base = ({ u with hf := false, fr := [] }, 0) := by
  have hsp : isSpecial u.sch = true := by rw [hf]; exact file_special
  have hh := h.sp hsp
  have ho := (h.sd.sp hsp).1
  have hw0 := h.sd.who (Or.inr hf)
  have hus : userU u = [] := by unfold userU; rw [if_pos ⟨hw0.1, hw0.2.1⟩]
  have hhp : hostPortU u = u.host := by unfold hostPortU; rw [if_neg (by rw [hw0.2.2]; decide)]
  cases hs : u.segs with
  | nil => exact absurd hs (h.sd.sp hsp).2
  | cons s r =>
    have hj : joinSl (s :: r) = 47 :: (s ++ joinSl r) := by simp [joinSl]
    have hb : frontU u ++ pathU u = 47 :: 47 :: (u.host ++ 47 :: (s ++ joinSl r)) := by
      unfold frontU pathU
      rw [if_pos hh, if_neg (by rw [ho]; decide), hus, hhp, hs, hj]
      rfl
    have hcut : bcut (slB true) (u.host ++ 47 :: (s ++ joinSl r)) = (u.host, s ++ joinSl r, true) :=
      bcut_at _ (fun b hb => by have := h.ahost.mem b hb; exact slB_no this.2.1 this.2.2.2.2.1) (by decide)
    unfold fileU
    rw [hb, countSl_cons, countSl_cons, if_pos (by omega)]
    show fileHostU { w with hh := true } (u.host ++ 47 :: (s ++ joinSl r)) = _
    have hr : readL (s ++ joinSl r) u.sch = s :: r := readL_fix (by rw [← hs]; exact h.seg)
    have hz := h.zop ho
    have hzp := h.zport hw0.2.2
    unfold fileHostU
    rw [hcut]
    simp only
    rw [host_drive h.ahost, if_neg (by decide), fileHostL_fix h hf, if_neg (by intro x; exact x rfl), hw]
    simp only
    rw [hr, ← hs]
    obtain ⟨sch, nam, pw, hh', host, hp', port, op, opath, segs, hq, q, hf', fr⟩ := u
    simp only at hh ho hw0 hz hzp
    obtain ⟨a1, a2, a3⟩ := hw0
    subst hh ho a1 a2 a3 hz hzp
    rfl
theorem schemed_fix {u w base : U} (h : St' u) (hw : w = { zeroU with sch := u.sch, hq := u.hq, q := u.q }) :
    schemedU w (frontU u ++ pathU u) base = ({ u with hf := false, fr := [] }, 0) := by
  have hws : w.sch = u.sch := by rw [hw]
  by_cases hf : u.sch = fileB
  · unfold schemedU
    rw [hws, if_pos hf]; exact file_fix h hf hw
  generalize hv : ({ u with hf := false, fr := [] } : U) = v
  unfold schemedU
  rw [hws, if_neg hf]
  have hauth : u.hh = true → u.op = false → frontU u ++ pathU u = 47 :: 47 :: (userU u ++ hostPortU u ++ joinSl u.segs) := fun hh ho => by
    unfold frontU pathU
    rw [if_pos hh, if_neg (by rw [ho]; decide)]
    simp
  cases hsp : isSpecial u.sch
  · rw [if_neg (by decide)]
    cases ho : u.op
    · cases hh : u.hh
      · have hn := h.pth ho hh
        obtain ⟨a1, a2, a3, a4⟩ := h.wf.nh hh
        have hz := h.zop ho
        have hzp := h.zport a4
        have hff : (u.sch == fileB) = false := beq_eq_false_iff_ne.2 hf
        have fin : ∀ s, s = u.segs → (({ w with sch := u.sch, segs := s } : U), (0 : Int)) = (v, 0) := by
          intro s hs
          subst hs
          rw [hw, ← hv]
          obtain ⟨sch, nam, pw, hh', host, hp', port, op, opath, segs, hq, q, hf', fr⟩ := u
          simp only at hh ho a1 a2 a3 a4 hz hzp
          subst hh ho a1 a2 a3 a4 hz hzp
          rfl
        cases hs : u.segs with
        | nil => exact absurd hs hn
        | cons s r =>
          have hj : joinSl (s :: r) = 47 :: (s ++ joinSl r) := by simp [joinSl]
          by_cases hdot : 1 < u.segs.length ∧ u.segs.getD 0 [] = []
          · have hb : frontU u ++ pathU u = 47 :: 46 :: 47 :: (s ++ joinSl r) := by
              unfold frontU pathU
              rw [if_neg (by rw [hh]; decide), if_pos ⟨ho, hdot.1, hdot.2⟩, if_neg (by rw [ho]; decide), hs, hj]
              rfl
            have hc : countSl false (47 :: 46 :: 47 :: (s ++ joinSl r)) = 1 := by rw [countSl_cons, countSl_no _ (by decide)]
            rw [hb, hc, if_neg (by decide), if_pos rfl]
            show (({ w with sch := u.sch, segs := readL (46 :: 47 :: (s ++ joinSl r)) u.sch } : U), (0 : Int)) = _
            rw [readL_dot hff (fun x hx => h.seg.each x (by rw [hs]; exact hx))]
            exact fin _ hs.symm
          · have hb : frontU u ++ pathU u = 47 :: (s ++ joinSl r) := by
              unfold frontU pathU
              rw [if_neg (by rw [hh]; decide), if_neg (fun x => hdot x.2), if_neg (by rw [ho]; decide), hs, hj]
              rfl
            have hc : countSl false (47 :: (s ++ joinSl r)) = 1 := by
              rw [countSl_cons]
              cases s with
              | nil =>
                cases r with
                | nil => rfl
                | cons x y => exact absurd ⟨by rw [hs]; simp, by rw [hs]; rfl⟩ hdot
              | cons c s' =>
                have := (h.seg.each (c :: s') (by rw [hs]; simp)).sl c (by simp)
                rw [hsp] at this
                rw [List.cons_append, countSl_no _ this]
            rw [hb, hc, if_neg (by decide), if_pos rfl]
            show (({ w with sch := u.sch, segs := readL (s ++ joinSl r) u.sch } : U), (0 : Int)) = _
            rw [readL_fix (by rw [← hs]; exact h.seg)]
            exact fin _ hs.symm
      · rw [hauth hh ho, countSl_cons, countSl_cons, if_neg (by omega), if_neg (by omega)]
        exact (auth_fix h hf hh ho hw).trans (by rw [hv])
    · obtain ⟨b1, b2, b3, b4⟩ := h.opq ho
      obtain ⟨a1, a2, a3, a4⟩ := h.wf.nh b2
      have hzp := h.zport a4
      have hb : frontU u ++ pathU u = u.opath := by
        unfold frontU pathU
        rw [if_neg (by rw [b2]; decide), if_neg (fun x => by rw [ho] at x; cases x.1), if_pos ho]
        rfl
      have hen : encB S0 (clean u.opath) = u.opath := by
        refine Asis.clean fun b hb => ?_
        have := h.sd.popath b hb
        exact ⟨this.1, this.2, rfl⟩
      rw [hb, b3, if_pos rfl, hw, hen, ← hv]
      obtain ⟨sch, nam, pw, hh', host, hp', port, op, opath, segs, hq, q, hf', fr⟩ := u
      simp only at b1 b2 ho a1 a2 a3 a4 hzp
      subst b1 b2 ho a1 a2 a3 a4 hzp
      rfl
  · rw [if_pos rfl]
    have hh := h.sp hsp
    have ho := (h.sd.sp hsp).1
    have hne := h.sd.hst hsp hf
    have hc2 : countSl false (frontU u ++ pathU u) = countSl false (userU u ++ hostPortU u ++ joinSl u.segs) + 2 := by rw [hauth hh ho, countSl_cons, countSl_cons]
    have hc3 : countSl true (frontU u ++ pathU u) = 2 := by
      rw [hauth hh ho, countSl_cons, countSl_cons]
      have : ∃ c m, userU u ++ hostPortU u ++ joinSl u.segs = c :: m ∧ slB true c = false := by
        cases hu : userU u with
        | cons c m =>
          have := user_no h c (by rw [hu]; simp)
          exact ⟨c, m ++ hostPortU u ++ joinSl u.segs, by simp, slB_no this.2.2.2.1 this.2.2.2.2⟩
        | nil =>
          cases hp : hostPortU u with
          | cons c m =>
            have := hostPort_no h c (by rw [hp]; simp)
            exact ⟨c, m ++ joinSl u.segs, by simp, slB_no this.2.2.2.1 this.2.2.2.2.1⟩
          | nil =>
            exfalso
            unfold hostPortU at hp
            split at hp
            · simp at hp
            · exact hne hp
      obtain ⟨c, m, hm, hcs⟩ := this
      rw [hm, countSl_no _ hcs]
    unfold specialU
    rw [if_neg (fun x => by have := x.2; omega), hc3, hauth hh ho]
    exact (auth_fix h hf hh ho hw).trans (by rw [hv])
/-- WHAT IS WRITTEN IS READ AGAIN, against any base. -/
theorem reread {u : U} (h : St u) (base : U) : againstU (hrefU u) base = (u, 0) := by
  have hst := h.st
  have hw := whole_id (href_pr' hst) (fun c r e => by
    have hne := hst.sd.sc.ne
    cases hs : u.sch with
    | nil => exact absurd hs hne
    | cons d q =>
      have hd := hst.sd.sc.first d q hs
      unfold hrefU protocolU at e
      rw [hs] at e
      simp only [List.cons_append, List.cons.injEq] at e
      rw [← e.1]
      rintro rfl
      exact absurd hd (by decide)) (href_noEnd h)
  have e1 : hrefU u = (u.sch ++ 58 :: ((frontU u ++ pathU u) ++ (if u.hq = true then [63] ++ u.q else []))) ++ (if u.hf = true then [35] ++ u.fr else []) := by
    unfold hrefU protocolU; simp
  have n35 : ∀ b ∈ u.sch ++ 58 :: ((frontU u ++ pathU u) ++ (if u.hq = true then [63] ++ u.q else [])), isB 35 b = false := by
    intro b hb
    refine isB_ne (c := 35) rfl ?_
    simp only [List.mem_append, List.mem_cons] at hb
    rcases hb with hb | rfl | (hb | hb) | hb
    · exact (sch_cl hst.sd.sc b hb).1
    · decide
    · exact (front_cl hst b hb).1
    · exact (path_no hst b hb).1
    · split at hb
      · simp only [List.mem_append, List.mem_cons, List.not_mem_nil, or_false] at hb
        rcases hb with rfl | hb
        · decide
        · exact (q_no hst b hb).1
      · cases hb
  have n63 : ∀ b ∈ frontU u ++ pathU u, isB 63 b = false := by
    intro b hb
    refine isB_ne (c := 63) rfl ?_
    rcases List.mem_append.1 hb with hb | hb
    · exact (front_cl hst b hb).2.1
    · exact (path_no hst b hb).2
  have hc : bcut (isB 35) (hrefU u) = (u.sch ++ 58 :: ((frontU u ++ pathU u) ++ (if u.hq = true then [63] ++ u.q else [])), u.fr, u.hf) := by
    rw [e1]
    cases hf : u.hf
    · rw [if_neg (by decide : ¬ false = true), List.append_nil, bcut_all n35, hst.wf.nf hf]
    · rw [if_pos (rfl : true = true)]
      exact bcut_at _ n35 (by decide)
  have hq : bcut (isB 63) ((frontU u ++ pathU u) ++ (if u.hq = true then [63] ++ u.q else [])) = (frontU u ++ pathU u, u.q, u.hq) := by
    cases hq : u.hq
    · rw [if_neg (by decide : ¬ false = true), List.append_nil, bcut_all n63, hst.wf.nq hq]
    · rw [if_pos (rfl : true = true)]
      exact bcut_at _ n63 (by decide)
  unfold againstU
  rw [hw, hc]
  simp only
  have ha : aheadU (u.sch ++ 58 :: ((frontU u ++ pathU u) ++ (if u.hq = true then [63] ++ u.q else []))) u.hf base = ({ u with hf := false, fr := [] }, 0) := by
    unfold aheadU
    rw [cutSch_fix hst.sd.sc]
    simp only
    rw [if_pos trivial]
    unfold restU
    rw [if_neg hst.sd.sc.ne, if_pos rfl, hq]
    simp only
    refine schemed_fix hst ?_
    unfold freshU
    rw [hst.aq.clean]
  rw [ha]
  unfold ended
  rw [if_neg (by intro x; exact x rfl), hst.afr.clean]
end Go.Proofs.YtchkhibgbnhjpaaGreatDoor
