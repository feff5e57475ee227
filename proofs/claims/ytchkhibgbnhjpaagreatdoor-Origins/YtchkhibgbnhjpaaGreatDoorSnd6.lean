import Derived.Test.YtchkhibgbnhjpaaGreatDoorInv1
import Derived.Test.YtchkhibgbnhjpaaGreatDoorSnd5
namespace Go.Proofs.YtchkhibgbnhjpaaGreatDoor
open Go.RowKit

def PrS (ps : List (List UInt8)) : Prop := ∀ p ∈ ps, Pr p
theorem prS_take {ps : List (List UInt8)} (h : PrS ps) (n : Nat) : PrS (ps.take n) := fun p hp => h p (List.mem_of_mem_take hp)
theorem prS_app {a b : List (List UInt8)} (ha : PrS a) (hb : PrS b) : PrS (a ++ b) := fun x hx => (List.mem_append.1 hx).elim (ha x) (hb x)
theorem prS_one {s : List UInt8} (h : Pr s) : PrS [s] := fun p hp => by rw [List.mem_singleton] at hp; subst hp; exact h
theorem prS_nil : PrS [] := fun p hp => by cases hp
theorem alpha_pr {c : UInt8} (h : alpha c.toNat = true) : 32 ≤ c.toNat ∧ c.toNat ≤ 126 := by
  unfold alpha at h
  have := of_decide_eq_true h
  omega
theorem driveB_pr {l : List UInt8} (h : driveB l = true) : Pr (l.take 1) := by
  unfold driveB at h
  split at h
  · next a b =>
    rw [Bool.and_eq_true] at h
    have := alpha_pr h.1
    exact pr_one this.1 this.2
  · cases h
theorem prS_short {f : Bool} {ps : List (List UInt8)} (h : PrS ps) : PrS (shortL f ps) := by
  unfold shortL
  split
  · exact h
  · exact prS_take h _
theorem prS_join {f : Bool} {ps : List (List UInt8)} (s : List UInt8) (h : PrS ps) : PrS (joinL f ps s) := by
  unfold joinL
  refine prS_app h (prS_one ?_)
  split
  · next hd => exact pr_app (driveB_pr hd.2.2) (pr_one (by decide) (by decide))
  · exact encB_pr _ _
theorem prS_tk {f : Bool} {ps : List (List UInt8)} (s : List UInt8) (last : Bool) (h : PrS ps) : PrS (takeL f ps s last) := by
  have h2 : PrS (if countDots s = 2 then shortL f ps else ps) := by
    split
    · exact prS_short h
    · exact h
  unfold takeL
  split
  · exact prS_join s h
  split
  · exact prS_app h2 (prS_one pr_nil)
  · exact h2
theorem prS_segs {f : Bool} (ss : List (List UInt8)) : ∀ ps, PrS ps → PrS (segsGo f ps ss) := by
  induction ss with
  | nil => intro ps h; rw [segsGo]; exact h
  | cons x r ih =>
    intro ps h
    cases r with
    | nil => rw [segsGo]; exact prS_tk x true h
    | cons y q => rw [segsGo]; exact ih _ (prS_tk x false h)
theorem tk_ne (f : Bool) (ps : List (List UInt8)) (s : List UInt8) : takeL f ps s true ≠ [] := by
  unfold takeL
  split
  · unfold joinL; simp
  · simp
theorem segsGo_ne {f : Bool} (ss : List (List UInt8)) : ∀ ps, ss ≠ [] → segsGo f ps ss ≠ [] := by
  induction ss with
  | nil => intro ps h; exact absurd rfl h
  | cons x r ih =>
    intro ps h
    cases r with
    | nil => rw [segsGo]; exact tk_ne f ps x
    | cons y q => rw [segsGo]; exact ih _ (by simp)
theorem follow_ok (f sp : Bool) {ps : List (List UInt8)} (t : List UInt8) (h : PrS ps) : PrS (followL f sp ps t) ∧ followL f sp ps t ≠ [] := by
  unfold followL
  refine ⟨prS_segs _ _ h, segsGo_ne _ _ ?_⟩
  obtain ⟨x, q, hx⟩ := splitP_ne (slB sp) t
  rw [hx]
  simp
theorem readL_ok (t sch : List UInt8) : PrS (readL t sch) ∧ readL t sch ≠ [] := follow_ok _ _ t prS_nil
theorem besideL_ok {b : List (List UInt8)} (t sch : List UInt8) (h : PrS b) : PrS (besideL b t sch) ∧ besideL b t sch ≠ [] := follow_ok _ _ t (prS_short h)
theorem onDriveL_ok {b : List (List UInt8)} (t : List UInt8) (h : PrS b) : PrS (onDriveL b t) ∧ onDriveL b t ≠ [] := by
  unfold onDriveL
  split
  · exact readL_ok _ _
  · exact follow_ok _ _ t (prS_take h _)
/-- The form of a scheme. -/
structure ScOk (l : List UInt8) : Prop where
  ne : l ≠ []
  first : ∀ c r, l = c :: r → 97 ≤ c.toNat ∧ c.toNat ≤ 122
  all : ∀ b ∈ l, (97 ≤ b.toNat ∧ b.toNat ≤ 122) ∨ (48 ≤ b.toNat ∧ b.toNat ≤ 57) ∨ b.toNat = 43 ∨ b.toNat = 45 ∨ b.toNat = 46
theorem ScOk.pr {l : List UInt8} (h : ScOk l) : Pr l := fun b hb => by have := h.all b hb; omega
theorem lowB_alpha {c : UInt8} (h : alpha c.toNat = true) : 97 ≤ (lowB c).toNat ∧ (lowB c).toNat ≤ 122 := by
  unfold alpha at h
  have h1 := of_decide_eq_true h
  unfold lowB
  split
  · next hc => rw [UInt8.toNat_add]; have : (32 : UInt8).toNat = 32 := rfl; rw [this]; omega
  · omega
theorem schemeB_ok {l : List UInt8} (h : schemeB l = true) : ScOk (lower l) := by
  cases l with
  | nil => cases h
  | cons c r =>
    simp only [schemeB, Bool.and_eq_true] at h
    have hc := lowB_alpha h.1
    refine ⟨by simp [lower], ?_, ?_⟩
    · intro d q e
      simp only [lower, List.map_cons, List.cons.injEq] at e
      rw [← e.1]
      exact hc
    · intro b hb
      simp only [lower, List.map_cons, List.mem_cons] at hb
      rcases hb with rfl | hb
      · exact Or.inl hc
      · obtain ⟨x, hx, rfl⟩ := List.mem_map.1 hb
        have hm := List.all_eq_true.1 h.2 x hx
        unfold markB at hm
        simp only [Bool.or_eq_true, beq_iff_eq, decide_eq_true_eq] at hm
        rcases hm with (((h1 | h1) | h1) | h1) | h1
        · right; right; left; unfold lowB; split <;> omega
        · right; right; right; left; unfold lowB; split <;> omega
        · right; right; right; right; unfold lowB; split <;> omega
        · right; left; unfold lowB; split <;> omega
        · exact Or.inl (lowB_alpha h1)
/-- What stands of every URL. -/
structure Sd (u : U) : Prop where
  sc : ScOk u.sch
  pnam : Pr u.nam
  ppw : Pr u.pw
  phost : Pr u.host
  popath : Pr u.opath
  psegs : PrS u.segs
  pq : Pr u.q
  pfr : Pr u.fr
  port : u.hp = true → u.port ≤ 65535 ∧ ((ownPort u.sch).2 = true → (u.port : Int) ≠ (ownPort u.sch).1)
  who : u.host = [] ∨ u.sch = fileB → u.nam = [] ∧ u.pw = [] ∧ u.hp = false
  sp : isSpecial u.sch = true → u.op = false ∧ u.segs ≠ []
  hst : isSpecial u.sch = true → u.sch ≠ fileB → u.host ≠ []
/-- A URL of which only the scheme, the query and the fragment are told yet. -/
structure Fr (u : U) : Prop where
  sc : ScOk u.sch
  pq : Pr u.q
  pfr : Pr u.fr
  znam : u.nam = []
  zpw : u.pw = []
  zhost : u.host = []
  zhp : u.hp = false
  zop : u.op = false
  zopath : u.opath = []
  zsegs : u.segs = []
theorem fresh_fr {sch : List UInt8} (hq : Bool) (q : List UInt8) (h : ScOk sch) : Fr (freshU sch hq q) := ⟨h, encB_pr _ _, pr_nil, rfl, rfl, rfl, rfl, rfl, rfl, rfl⟩
/-- A file's URL, with a host and segments. -/
theorem file_sd {u : U} {hh : Bool} {host : List UInt8} {segs : List (List UInt8)} (h : Fr u) (hf : u.sch = fileB) (hp : Pr host) (hs : PrS segs ∧ segs ≠ []) : Sd { u with hh := hh, host := host, segs := segs } where
  sc := h.sc
  pnam := by show Pr u.nam; rw [h.znam]; exact pr_nil
  ppw := by show Pr u.pw; rw [h.zpw]; exact pr_nil
  phost := hp
  popath := by show Pr u.opath; rw [h.zopath]; exact pr_nil
  psegs := hs.1
  pq := h.pq
  pfr := h.pfr
  port := fun e => by have e' : u.hp = true := e; rw [h.zhp] at e'; cases e'
  who := fun _ => ⟨h.znam, h.zpw, h.zhp⟩
  sp := fun _ => ⟨h.zop, hs.2⟩
  hst := fun _ hn => absurd hf hn
theorem Sd.noq {u : U} (h : Sd u) (b : Bool) {q : List UInt8} (hq : Pr q) : Sd { u with hq := b, q := q } := { h with pq := hq }
theorem fileHostL_pr (l : List UInt8) : Pr (fileHostL l).1 := by
  unfold fileHostL
  (repeat' split)
  · exact pr_nil
  · exact pr_nil
  · exact pr_nil
  · exact hostL_pr _ _
theorem sd_fileHost {u : U} (t : List UInt8) (h : Fr u) (hf : u.sch = fileB) (h0 : (fileHostU u t).2 = 0) : Sd (fileHostU u t).1 := by
  unfold fileHostU at h0 ⊢
  split
  · have k := file_sd (u := u) (hh := u.hh) (host := u.host) h hf (by rw [h.zhost]; exact pr_nil) (readL_ok t u.sch)
    exact k
  next h1 =>
    rw [if_neg h1] at h0
    split
    · next h2 => rw [if_pos h2] at h0; exact absurd h0 h2
    · exact file_sd (u := u) (hh := u.hh) h hf (fileHostL_pr _) (readL_ok _ _)
theorem sd_beside_file {u base : U} (l : List UInt8) (h : Fr u) (hf : u.sch = fileB) (hb : Sd base) (hbf : base.sch = fileB) : Sd (besideU { u with hh := true, host := base.host } l base) := by
  unfold besideU
  split
  · have hsp : isSpecial base.sch = true := by rw [hbf]; decide
    refine (file_sd (u := u) (hh := true) h hf hb.phost ⟨hb.psegs, (hb.sp hsp).2⟩).noq _ ?_
    split
    · exact h.pq
    · exact hb.pq
  · exact file_sd (u := u) (hh := true) h hf hb.phost (besideL_ok _ _ hb.psegs)
theorem sd_file {u base : U} (l : List UInt8) (h : Fr u) (hf : u.sch = fileB) (hb : base.sch = fileB → Sd base) (h0 : (fileU u l base).2 = 0) : Sd (fileU u l base).1 := by
  unfold fileU at h0 ⊢
  split
  · next h1 => rw [if_pos h1] at h0; exact sd_fileHost _ { h with } hf h0
  next h1 =>
    rw [if_neg h1] at h0
    split
    · exact file_sd (u := u) (hh := true) (host := u.host) h hf (by rw [h.zhost]; exact pr_nil) (readL_ok _ _)
    next h2 =>
      have hbf : base.sch = fileB := Classical.not_not.1 h2
      have hs := hb hbf
      split
      · exact file_sd (u := u) (hh := true) h hf hs.phost (onDriveL_ok _ hs.psegs)
      split
      · exact file_sd (u := u) (hh := true) h hf hs.phost (readL_ok _ _)
      · exact sd_beside_file l h hf hs hbf
/-- A URL with a host, while it is being read: all but the segments. -/
structure Sh (u : U) : Prop where
  sc : ScOk u.sch
  pnam : Pr u.nam
  ppw : Pr u.pw
  phost : Pr u.host
  popath : Pr u.opath
  psegs : PrS u.segs
  pq : Pr u.q
  pfr : Pr u.fr
  port : u.hp = true → u.port ≤ 65535 ∧ ((ownPort u.sch).2 = true → (u.port : Int) ≠ (ownPort u.sch).1)
  who : u.host = [] ∨ u.sch = fileB → u.nam = [] ∧ u.pw = [] ∧ u.hp = false
  op : u.op = false
  hst : isSpecial u.sch = true → u.sch ≠ fileB → u.host ≠ []
theorem Sh.sd {u : U} (h : Sh u) (hs : isSpecial u.sch = true → u.segs ≠ []) : Sd u := ⟨h.sc, h.pnam, h.ppw, h.phost, h.popath, h.psegs, h.pq, h.pfr, h.port, h.who, fun e => ⟨h.op, hs e⟩, h.hst⟩
theorem Sh.segs {u : U} (h : Sh u) {s : List (List UInt8)} (hs : PrS s ∧ s ≠ []) : Sd { u with segs := s } := ⟨h.sc, h.pnam, h.ppw, h.phost, h.popath, hs.1, h.pq, h.pfr, h.port, h.who, fun _ => ⟨h.op, hs.2⟩, h.hst⟩
theorem Sh.segs' {u : U} (h : Sh u) {s : List (List UInt8)} (hs : PrS s) (hn : isSpecial u.sch = true → s ≠ []) : Sd { u with segs := s } := ⟨h.sc, h.pnam, h.ppw, h.phost, h.popath, hs, h.pq, h.pfr, h.port, h.who, fun e => ⟨h.op, hn e⟩, h.hst⟩
theorem cutPort_none {p : List UInt8} (h : (cutPort p).1 = []) (h2 : (cutPort p).2.2 = false) : p = [] := by
  unfold cutPort at h h2
  cases hc : cutPortGo false p with
  | none => rw [hc] at h; exact h
  | some q => rw [hc] at h2; cases h2
theorem cutPort_some {p : List UInt8} (h2 : (cutPort p).2.2 = false) : (cutPort p).2.1 = [] := by
  unfold cutPort at h2 ⊢
  cases hc : cutPortGo false p with
  | none => rfl
  | some q => rw [hc] at h2; cases h2
/-- What is told ahead of the host. -/
structure Fp (u : U) (p : List UInt8) : Prop where
  sc : ScOk u.sch
  nf : u.sch ≠ fileB
  pnam : Pr u.nam
  ppw : Pr u.pw
  pq : Pr u.q
  pfr : Pr u.fr
  popath : Pr u.opath
  psegs : PrS u.segs
  zop : u.op = false
  zhp : u.hp = false
  user : p = [] → u.nam = [] ∧ u.pw = []
theorem sh_atPort {u : U} {p : Int} (h : Sh u) (h0 : 0 ≤ p) (h1 : p ≤ 65535) (hh : u.host ≠ []) (hf : u.sch ≠ fileB) : Sh (atPortU u p) := by
  unfold atPortU
  split
  · exact { h with port := fun e => (by cases e), who := fun e => (e.elim (fun e => absurd e hh) (fun e => absurd e hf)) }
  · next hn =>
    refine { h with port := fun _ => ⟨by show p.toNat ≤ 65535; omega, fun ho e => hn ⟨ho, ?_⟩⟩, who := fun e => (e.elim (fun e => absurd e hh) (fun e => absurd e hf)) }
    have e' : ((p.toNat : Nat) : Int) = (ownPort u.sch).1 := e
    omega
theorem sh_place {u : U} {p : List UInt8} (h : Fp u p) (h0 : (placeU u p).2 = 0) : Sh (placeU u p).1 := by
  unfold placeU at h0 ⊢
  split
  · next h1 => rw [if_pos h1] at h0; cases h0
  next h1 =>
    rw [if_neg h1] at h0
    split
    · next h2 => rw [if_pos h2] at h0; exact absurd h0 h2
    next h2 =>
      rw [if_neg h2] at h0
      have he : (hostL (cutPort p).1 (isSpecial u.sch)).2 = 0 := Classical.not_not.1 h2
      have hx : (hostL (cutPort p).1 (isSpecial u.sch)).1 = [] → (cutPort p).1 = [] := fun e => Classical.byContradiction fun hn => hostL_ne hn he e
      have key : Sh { u with hh := true, host := (hostL (cutPort p).1 (isSpecial u.sch)).1 } := {
        sc := h.sc, pnam := h.pnam, ppw := h.ppw, phost := hostL_pr _ _, popath := h.popath, psegs := h.psegs, pq := h.pq, pfr := h.pfr
        port := fun e => by have e' : u.hp = true := e; rw [h.zhp] at e'; cases e'
        who := fun e => by
          rcases e with e | e
          · have e1 := hx e
            have e2 : (cutPort p).2.2 = false := by
              cases hc : (cutPort p).2.2
              · rfl
              · exact absurd ⟨e1, Or.inr hc⟩ h1
            have e3 := h.user (cutPort_none e1 e2)
            exact ⟨e3.1, e3.2, h.zhp⟩
          · exact absurd e h.nf
        op := h.zop
        hst := fun hs _ e => h1 ⟨hx e, Or.inl hs⟩ }
      split
      · exact key
      next h3 =>
        rw [if_neg h3] at h0
        unfold portU at h0 ⊢
        split
        · next h4 => rw [if_pos h4] at h0; cases h0
        · have hr := readPort_rng (cutPort p).2.1
          refine sh_atPort key hr.1 hr.2 ?_ h.nf
          intro e
          have e1 := hx e
          have e2 : (cutPort p).2.2 = false := by
            cases hc : (cutPort p).2.2
            · rfl
            · exact absurd ⟨e1, Or.inr hc⟩ h1
          exact h3 (cutPort_some e2)
theorem atPort_sch (u : U) (p : Int) : (atPortU u p).sch = u.sch := by unfold atPortU; split <;> rfl
theorem place_sch {u : U} {p : List UInt8} (h0 : (placeU u p).2 = 0) : (placeU u p).1.sch = u.sch := by
  unfold placeU at h0 ⊢
  split
  · next h1 => rw [if_pos h1] at h0; cases h0
  next h1 =>
    rw [if_neg h1] at h0
    split
    · next h2 => rw [if_pos h2] at h0; exact absurd h0 h2
    next h2 =>
      rw [if_neg h2] at h0
      split
      · rfl
      next h3 =>
        rw [if_neg h3] at h0
        unfold portU at h0 ⊢
        split
        · next h4 => rw [if_pos h4] at h0; cases h0
        · exact atPort_sch _ _
theorem encU_nil : encU [] = [] := by unfold encU; rw [enc_clean_nil]
theorem bcutLast_no (n : Int) (l : List UInt8) (h : (bcutLast n l).2.2 = false) : (bcutLast n l).1 = [] := by
  cases l with
  | nil => rw [bcutLast]
  | cons c r =>
    rw [bcutLast] at h ⊢
    split at h
    · next hr => have h' : (bcutLast n r).2.2 = false := h; rw [hr] at h'; cases h'
    · next hr =>
      rw [if_neg hr]
      split
      · rfl
      · rfl
theorem sd_authority {u : U} (t : List UInt8) (h : Fr u) (hf : u.sch ≠ fileB) (h0 : (authorityU u t).2 = 0) : Sd (authorityU u t).1 := by
  unfold authorityU at h0 ⊢
  split
  · next h1 => rw [if_pos h1] at h0; cases h0
  next h1 =>
    rw [if_neg h1] at h0
    unfold authEnd at h0 ⊢
    split
    · next h2 => rw [if_pos h2] at h0; exact absurd h0 h2
    next h2 =>
      rw [if_neg h2] at h0
      have hp := sh_place (u := { u with nam := encU (bcut (isB 58) (bcutLast 64 (bcut (slB (isSpecial u.sch)) t).1).1).1, pw := encU (bcut (isB 58) (bcutLast 64 (bcut (slB (isSpecial u.sch)) t).1).1).2.1 }) (p := (bcutLast 64 (bcut (slB (isSpecial u.sch)) t).1).2.1)
        { sc := h.sc, nf := hf, pnam := encB_pr _ _, ppw := encB_pr _ _, pq := h.pq, pfr := h.pfr
          popath := by show Pr u.opath; rw [h.zopath]; exact pr_nil
          psegs := by show PrS u.segs; rw [h.zsegs]; exact prS_nil
          zop := h.zop, zhp := h.zhp
          user := fun e => by
            have e1 : (bcutLast 64 (bcut (slB (isSpecial u.sch)) t).1).2.2 = false := by
              cases hc : (bcutLast 64 (bcut (slB (isSpecial u.sch)) t).1).2.2
              · rfl
              · exact absurd ⟨hc, e⟩ h1
            have e2 := bcutLast_no _ _ e1
            constructor
            · show encU (bcut (isB 58) (bcutLast 64 (bcut (slB (isSpecial u.sch)) t).1).1).1 = []
              rw [e2]; exact encU_nil
            · show encU (bcut (isB 58) (bcutLast 64 (bcut (slB (isSpecial u.sch)) t).1).1).2.1 = []
              rw [e2]; exact encU_nil } (Classical.not_not.1 h2)
      split
      · exact hp.segs (readL_ok _ _)
      next h3 =>
        refine hp.sd fun e => absurd ?_ h3
        have : isSpecial u.sch = true := by
          have e' := e
          rw [place_sch (Classical.not_not.1 h2)] at e'
          exact e'
        rw [this]; rfl
theorem kept_sh {u base : U} (h : Fr u) (hb : Sd base) (hs : base.sch = u.sch) : Sh (kept u base) where
  sc := h.sc
  pnam := hb.pnam
  ppw := hb.ppw
  phost := hb.phost
  popath := by show Pr u.opath; rw [h.zopath]; exact pr_nil
  psegs := by show PrS u.segs; rw [h.zsegs]; exact prS_nil
  pq := h.pq
  pfr := h.pfr
  port := fun e => by have := hb.port e; rw [hs] at this; exact this
  who := fun e => hb.who (by rw [hs]; exact e)
  op := h.zop
  hst := fun e => by have := hb.hst; rw [hs] at this; exact this e
theorem sd_beside {u base : U} (l : List UInt8) (h : Fr u) (hb : Sd base) (hs : base.sch = u.sch) : Sd (besideU (kept u base) l base) := by
  have hk := kept_sh h hb hs
  unfold besideU
  split
  · refine (hk.segs' hb.psegs fun e => (hb.sp (by rw [hs]; exact e)).2).noq _ ?_
    split
    · exact h.pq
    · exact hb.pq
  · exact hk.segs (besideL_ok _ _ hb.psegs)
theorem sd_without {u base : U} (l : List UInt8) (h : Fr u) (hb : Sd base) (hs : base.sch = u.sch) (h0 : (withoutU u l base).2 = 0) : Sd (withoutU u l base).1 := by
  unfold withoutU at h0 ⊢
  split
  · next h1 => rw [if_pos h1] at h0; exact sd_file l h h1 (fun _ => hb) h0
  next h1 =>
    rw [if_neg h1] at h0
    split
    · next h2 => rw [if_pos h2] at h0; exact sd_authority _ h h1 h0
    split
    · exact (kept_sh h hb hs).segs (readL_ok _ _)
    · exact sd_beside l h hb hs
theorem sd_special {u base : U} (l : List UInt8) (h : Fr u) (hf : u.sch ≠ fileB) (hb : base.sch = u.sch → Sd base) (h0 : (specialU u l base).2 = 0) : Sd (specialU u l base).1 := by
  unfold specialU at h0 ⊢
  split
  · next h1 => rw [if_pos h1] at h0; exact sd_without l h (hb h1.1) h1.1 h0
  · next h1 => rw [if_neg h1] at h0; exact sd_authority _ h hf h0
theorem sd_schemed {u base : U} (l : List UInt8) (h : Fr u) (hb : base.sch = u.sch → Sd base) (h0 : (schemedU u l base).2 = 0) : Sd (schemedU u l base).1 := by
  unfold schemedU at h0 ⊢
  split
  · next h1 => rw [if_pos h1] at h0; exact sd_file l h h1 (fun e => hb (e.trans h1.symm)) h0
  next h1 =>
    rw [if_neg h1] at h0
    split
    · next h2 => rw [if_pos h2] at h0; exact sd_special l h h1 hb h0
    next h2 =>
      rw [if_neg h2] at h0
      have bare : ∀ (o : Bool) (x : List UInt8) (s : List (List UInt8)), Pr x → PrS s → Sd { u with op := o, opath := x, segs := s } := fun o x s hx hs => {
        sc := h.sc
        pnam := by show Pr u.nam; rw [h.znam]; exact pr_nil
        ppw := by show Pr u.pw; rw [h.zpw]; exact pr_nil
        phost := by show Pr u.host; rw [h.zhost]; exact pr_nil
        popath := hx
        psegs := hs
        pq := h.pq
        pfr := h.pfr
        port := fun e => by have e' : u.hp = true := e; rw [h.zhp] at e'; cases e'
        who := fun _ => ⟨h.znam, h.zpw, h.zhp⟩
        sp := fun e => absurd e h2
        hst := fun e => absurd e h2 }
      split
      · exact bare true _ u.segs (encB_pr _ _) (by rw [h.zsegs]; exact prS_nil)
      next h3 =>
        rw [if_neg h3] at h0
        split
        · exact bare u.op u.opath _ (by rw [h.zopath]; exact pr_nil) (readL_ok _ _).1
        · next h4 => rw [if_neg h4] at h0; exact sd_authority _ h h1 h0
theorem sd_rest {sch rest : List UInt8} {found : Bool} {base : U} (hsc : sch ≠ [] → ScOk sch) (hb : base.sch ≠ [] → Sd base) (hn : found = false → base.sch = sch) (h0 : (restU sch rest found base).2 = 0) : Sd (restU sch rest found base).1 := by
  unfold restU at h0 ⊢
  split
  · next h1 => rw [if_pos h1] at h0; cases h0
  next h1 =>
    rw [if_neg h1] at h0
    split
    · next h2 => rw [if_pos h2] at h0; exact sd_schemed _ (fresh_fr _ _ (hsc h1)) (fun e => hb (by rw [e]; exact h1)) h0
    · next h2 =>
      rw [if_neg h2] at h0
      have e := hn (by simpa using h2)
      exact sd_without _ (fresh_fr _ _ (hsc h1)) (hb (by rw [e]; exact h1)) e h0
theorem sd_ahead (l : List UInt8) (hf : Bool) {base : U} (hb : base = zeroU ∨ Sd base) (h0 : (aheadU l hf base).2 = 0) : Sd (aheadU l hf base).1 := by
  have hb' : base.sch ≠ [] → Sd base := fun hn => hb.elim (fun e => absurd (by rw [e]; rfl) hn) id
  unfold aheadU at h0 ⊢
  split
  · next h1 =>
    rw [if_pos h1] at h0
    refine sd_rest (fun _ => ?_) hb' (fun e => by cases e) h0
    unfold cutSch at h1 ⊢
    split
    · next h2 => exact schemeB_ok h2.2
    · next h2 => rw [if_neg h2] at h1; cases h1
  next h1 =>
    rw [if_neg h1] at h0
    split
    · next h2 =>
      rw [if_pos h2] at h0
      have hs : Sd base := hb.elim (fun e => by rw [e] at h2; cases h2) id
      unfold opaqueU at h0 ⊢
      split
      · exact hs
      · next h3 => rw [if_neg h3] at h0; cases h0
    · next h2 =>
      rw [if_neg h2] at h0
      exact sd_rest (fun hn => (hb' hn).sc) hb' (fun _ => rfl) h0
theorem sd_against (l : List UInt8) {base : U} (hb : base = zeroU ∨ Sd base) (h0 : (againstU l base).2 = 0) : Sd (againstU l base).1 := by
  unfold againstU ended at h0 ⊢
  split
  · next h1 => rw [if_pos h1] at h0; exact absurd h0 h1
  · next h1 =>
    have h := sd_ahead (bcut (isB 35) (wholeText l)).1 (bcut (isB 35) (wholeText l)).2.2 hb (Classical.not_not.1 h1)
    exact { h with pfr := encB_pr _ _ }
/-- Every URL that urls.Parse gives is sound. -/
theorem sd_parse (l base : List UInt8) (b : Bool) (h0 : (parseU l base b).2 = 0) : Sd (parseU l base b).1 := by
  unfold parseU at h0 ⊢
  split
  · next h1 => rw [if_pos h1] at h0; cases h0
  next h1 =>
    rw [if_neg h1] at h0
    split
    · next h2 => rw [if_pos h2] at h0; exact absurd h0 h2
    next h2 =>
      rw [if_neg h2] at h0
      refine sd_against l ?_ h0
      have h3 : (baseU base b).2 = 0 := Classical.not_not.1 h2
      unfold baseU at h3 ⊢
      split
      · exact Or.inl rfl
      next h4 =>
        rw [if_neg h4] at h3
        split
        · exact Or.inl rfl
        next h5 =>
          rw [if_neg h5] at h3
          exact Or.inr (sd_against base (Or.inl rfl) h3)
end Go.Proofs.YtchkhibgbnhjpaaGreatDoor
