import Derived.Test.YtchkhibgbnhjpaaGreatDoorHshA
import Derived.Test.YtchkhibgbnhjpaaGreatDoorSnd7
import Derived.Test.YtchkhibgbnhjpaaGreatDoorUrlA
import Derived.Deep.RegionWith
import Derived.Deep.CutRange
namespace Go.Proofs.YtchkhibgbnhjpaaGreatDoor
open Go.RowKit

theorem whole_nil : wholeText [] = [] := by unfold wholeText; rw [clean_nil]; rfl
theorem base_again {u : U} (h : St u) : baseU (hrefU u) true = (u, 0) := by
  unfold baseU textU
  rw [if_neg (by decide), reread h zeroU, if_neg (by intro x; cases x)]
/-- Nothing, against a base whose path is not opaque. -/
theorem ahead_nil {u : U} (h : St' u) (ho : u.op = false) (hf : Bool) : aheadU [] hf u = ({ u with hf := false, fr := [] }, 0) := by
  unfold aheadU
  have hc : cutSch [] = ([], [], false) := by unfold cutSch; rw [if_neg (fun x => by cases x.1)]
  rw [hc]
  simp only
  rw [if_neg (by decide), if_neg (by rw [ho]; decide)]
  unfold restU
  rw [if_neg h.sd.sc.ne, if_neg (by decide)]
  have hfr : freshU u.sch (bcut (isB 63) []).2.2 (bcut (isB 63) []).2.1 = { zeroU with sch := u.sch } := by
    show freshU u.sch false [] = _
    unfold freshU
    rw [enc_clean_nil]
    rfl
  rw [hfr]
  show withoutU { zeroU with sch := u.sch } [] u = _
  have hz := h.zop ho
  unfold withoutU
  simp only
  split
  · next hs =>
    have hsp : isSpecial u.sch = true := by rw [hs]; exact file_special
    have hh := h.sp hsp
    obtain ⟨a1, a2, a3⟩ := h.sd.who (Or.inr hs)
    have hzp := h.zport a3
    unfold fileU
    rw [if_neg (by show ¬ 1 < 0; omega), if_neg (fun x => x hs), if_neg (by show ¬ 0 = 1; omega), if_neg (by show ¬ driveB [] = true; decide)]
    unfold besideU
    rw [if_pos rfl]
    obtain ⟨sch, nam, pw, hh', host, hp', port, op, opath, segs, hq, q, hf', fr⟩ := u
    simp only at hh ho a1 a2 a3 hz hzp
    subst hh ho a1 a2 a3 hz hzp
    simp [zeroU]
  · have e0 : ∀ sp, countSl sp [] = 0 := fun sp => rfl
    rw [e0, if_neg (by omega), if_neg (by omega)]
    unfold besideU
    rw [if_pos rfl]
    obtain ⟨sch, nam, pw, hh', host, hp', port, op, opath, segs, hq, q, hf', fr⟩ := u
    simp only at ho hz
    subst ho hz
    simp [zeroU, kept]
theorem parse_empty {u : U} (h : St u) (hl : (hrefU u).length ≤ 160) (ho : u.op = false) : parseU [] (hrefU u) true = ({ u with hf := false, fr := [] }, 0) := by
  unfold parseU
  rw [if_neg (by rintro (x | x); simp at x; omega), base_again h, if_neg (by intro x; exact x rfl)]
  unfold againstU
  rw [whole_nil]
  show ended (aheadU [] false u) false [] = _
  rw [ahead_nil h.st ho]
  unfold ended
  rw [if_neg (by intro x; exact x rfl), enc_clean_nil]
theorem parse_opaque {u : U} (h : St u) (hl : (hrefU u).length ≤ 160) (ho : u.op = true) : parseU [] (hrefU u) true = (zeroU, 2) := by
  unfold parseU
  rw [if_neg (by rintro (x | x); simp at x; omega), base_again h, if_neg (by intro x; exact x rfl)]
  unfold againstU
  rw [whole_nil]
  show ended (aheadU [] false u) false [] = _
  have hc : cutSch [] = ([], [], false) := by unfold cutSch; rw [if_neg (fun x => by cases x.1)]
  have e : aheadU [] false u = (zeroU, 2) := by
    unfold aheadU
    rw [hc]
    simp only
    rw [if_neg (by decide), if_pos ho]
    unfold opaqueU
    rw [if_neg (fun x => by cases x.2)]
  rw [e]
  unfold ended
  rw [if_pos (by decide)]
/-- Signs that are seen. -/
def FOk (f : List UInt8) : Prop := ∀ b ∈ f, 33 ≤ b.toNat ∧ b.toNat ≤ 126
theorem fok_nil : FOk [] := fun b hb => by cases hb
theorem fok_snoc {f : List UInt8} {c : UInt8} (h : FOk f) (h1 : 33 ≤ c.toNat) (h2 : c.toNat ≤ 126) : FOk (f ++ [c]) := fun b hb => by
  rcases List.mem_append.1 hb with hb | hb
  · exact h b hb
  · rw [List.mem_singleton] at hb; subst hb; exact ⟨h1, h2⟩
theorem parse_frag {u : U} {f : List UInt8} (h : St u) (hl : (hrefU u).length ≤ 160) (hf : FOk f) (hfl : f.length ≤ 9) : parseU (35 :: f) (hrefU u) true = ({ u with hf := true, fr := encB S1 (clean f) }, 0) := by
  have hne : ∀ b ∈ f, b ≠ 32 := fun b hb e => by subst e; exact absurd (hf 32 hb) (by decide)
  have hw : wholeText (35 :: f) = 35 :: f := by
    refine whole_id ?_ (fun c r e => by cases e; decide) (noEnd_of fun b hb => ?_)
    · intro b hb
      simp only [List.mem_cons] at hb
      rcases hb with rfl | hb
      · decide
      · have := hf b hb; omega
    · simp only [List.mem_cons] at hb
      rcases hb with rfl | hb
      · decide
      · exact hne b hb
  unfold parseU
  rw [if_neg (by rintro (x | x); simp at x; omega; omega), base_again h, if_neg (by intro x; exact x rfl)]
  unfold againstU
  rw [hw]
  have hc : bcut (isB 35) (35 :: f) = ([], f, true) := by rw [bcut, if_pos (by decide)]
  rw [hc]
  simp only
  cases ho : u.op
  · rw [ahead_nil h.st ho]
    unfold ended
    rw [if_neg (by intro x; exact x rfl)]
    simp [ho]
  · have e : aheadU [] true u = (u, 0) := by
      unfold aheadU
      have hc : cutSch [] = ([], [], false) := by unfold cutSch; rw [if_neg (fun x => by cases x.1)]
      rw [hc]
      simp only
      rw [if_neg (by decide), if_pos ho]
      unfold opaqueU
      rw [if_pos ⟨rfl, rfl⟩]
    rw [e]
    unfold ended
    rw [if_neg (by intro x; exact x rfl)]
    simp [ho]
theorem hash_frag {f : List UInt8} (hf : FOk f) : hashL (clean (35 :: f)) = encB S1 (clean f) := by
  have hc : clean (35 :: f) = 35 :: f := clean_ascii fun b hb => by
    simp only [List.mem_cons] at hb
    rcases hb with rfl | hb
    · decide
    · have := hf b hb; omega
  have hm : markOff 35 (35 :: f) = f := by unfold markOff; rw [if_pos ⟨by simp, rfl⟩]; rfl
  have hb : noBreaks f = f := by
    unfold noBreaks
    refine List.filter_eq_self.2 fun b hb => ?_
    have := hf b hb
    unfold breakB
    have e1 : ((b.toNat : Int) == 9) = false := beq_eq_false_iff_ne.2 (by omega)
    have e2 : ((b.toNat : Int) == 10) = false := beq_eq_false_iff_ne.2 (by omega)
    have e3 : ((b.toNat : Int) == 13) = false := beq_eq_false_iff_ne.2 (by omega)
    rw [e1, e2, e3]; rfl
  unfold hashL
  rw [hc, hm, hb]
/-- What the two flags of urlskeep.empty tell. -/
theorem flags_op {u : U} (h : St u) (ho : u.op = true) : (pathU u = [] ∨ ¬ ((pathU u).getD 0 0).toNat = 47) ∧ ∀ r, hrefU u ≠ (protocolU u ++ [47, 47]) ++ r := by
  obtain ⟨b1, b2, b3, b4⟩ := h.st.opq ho
  have hp : pathU u = u.opath := by unfold pathU; rw [if_pos ho]
  have hfirst : ∀ c m, u.opath = c :: m → ¬ c.toNat = 47 := fun c m e x => by
    have : c = 47 := byte_eq (n := 47) rfl (by omega)
    subst this
    rw [e, countSl_cons] at b3
    omega
  refine ⟨?_, ?_⟩
  · rw [hp]
    cases hq : u.opath with
    | nil => exact Or.inl rfl
    | cons c m => exact Or.inr (hfirst c m hq)
  · intro r e
    unfold hrefU at e
    have hfr : frontU u = [] := by
      unfold frontU
      rw [if_neg (by rw [b2]; decide), if_neg (fun x => by rw [ho] at x; cases x.1)]
    rw [hfr, hp, List.append_nil, List.append_assoc, List.append_assoc, List.append_assoc] at e
    have e' := List.append_cancel_left e
    cases hq : u.opath with
    | cons c m =>
      rw [hq] at e'
      simp only [List.cons_append, List.cons.injEq] at e'
      exact hfirst c m hq (by rw [e'.1]; rfl)
    | nil =>
      rw [hq] at e'
      split at e'
      · simp at e'
      · split at e'
        · simp at e'
        · simp at e'
theorem flags_no {u : U} (h : St u) (ho : u.op = false) : (∃ m, pathU u = 47 :: m) ∨ ∃ r, hrefU u = (protocolU u ++ [47, 47]) ++ r := by
  have hp : pathU u = joinSl u.segs := by unfold pathU; rw [if_neg (by rw [ho]; decide)]
  cases hs : u.segs with
  | cons s r =>
    left
    rw [hp, hs]
    exact ⟨s ++ joinSl r, by simp [joinSl]⟩
  | nil =>
    right
    have hh : u.hh = true := by
      cases hh : u.hh
      · exact absurd hs (h.st.pth ho hh)
      · rfl
    unfold hrefU frontU
    rw [if_pos hh]
    exact ⟨userU u ++ (hostPortU u ++ (pathU u ++ ((if u.hq = true then [63] ++ u.q else []) ++ (if u.hf = true then [35] ++ u.fr else [])))), by simp only [List.append_assoc]⟩
/-- What Get tells of a URL that differs in its fragment alone. -/
theorem all_but {u : U} {a1 a2 a3 a4 a5 a6 a7 a8 a9 : ByteArray} {e : Ending} {b : Bool} {x : List UInt8} (he : AllIs e { u with hf := b, fr := x }) (h1 : tl a1 = originU u) (h2 : tl a2 = protocolU u) (h3 : tl a3 = u.nam) (h4 : tl a4 = u.pw) (h5 : tl a5 = hostPortU u) (h6 : tl a6 = u.host) (h7 : tl a7 = portTextU u) (h8 : tl a8 = pathU u) (h9 : tl a9 = searchU u) :
    ∃ b0 b10, e = .returned (.agg #[.string b0, .string a1, .string a2, .string a3, .string a4, .string a5, .string a6, .string a7, .string a8, .string a9, .string b10]) ∧ tl b0 = hrefU { u with hf := b, fr := x } ∧ tl b10 = markedL [35] x := by
  obtain ⟨t0, t1, t2, t3, t4, t5, t6, t7, t8, t9, t10, rfl, g0, g1, g2, g3, g4, g5, g6, g7, g8, g9, g10, -, -⟩ := he
  have k1 : tl t1 = originU u := g1
  have k5 : tl t5 = hostPortU u := g5
  have k7 : tl t7 = portTextU u := g7
  have k8 : tl t8 = pathU u := g8
  refine ⟨t0, t10, ?_, g0, g10⟩
  rw [tl_inj (k1.trans h1.symm), tl_inj (g2.trans h2.symm), tl_inj (g3.trans h3.symm), tl_inj (g4.trans h4.symm), tl_inj (k5.trans h5.symm), tl_inj (g6.trans h6.symm), tl_inj (k7.trans h7.symm), tl_inj (k8.trans h8.symm), tl_inj (g9.trans h9.symm)]
end Go.Proofs.YtchkhibgbnhjpaaGreatDoor

namespace Go.Proofs.YtchkhibgbnhjpaaGreatDoor
open Go.RowKit

theorem begins_is {s t : ByteArray} (w : World) (b : Bool) (h : (b = true ∧ ∃ r, tl s = tl t ++ r) ∨ (b = false ∧ ∀ r, tl s ≠ tl t ++ r)) : Calls Tryz.prog 37 #[.string s, .string t] w fun e w' => e = .returned (.bool b) ∧ w = w' := by
  refine (begins_any s t w).mono ?_
  rintro e w' ⟨rfl, rfl⟩
  refine ⟨?_, rfl⟩
  rcases h with ⟨rfl, r, hr⟩ | ⟨rfl, hr⟩
  · have h1 : t.size ≤ s.size := by rw [← tl_length, ← tl_length, hr, List.length_append]; omega
    rw [decide_eq_true h1, hr, ← tl_length, List.take_left' rfl]
    simp
  · cases hd : decide (t.size ≤ s.size)
    · rfl
    · have : ((tl s).take t.size == tl t) = false := beq_eq_false_iff_ne.2 fun e => hr ((tl s).drop t.size) (by rw [← e, List.take_append_drop])
      rw [this]; rfl
theorem C11.but {w w' : World} {b pb : Nat} {v0 v1 v2 v3 v4 v5 v6 v7 v8 v9 v10 : Value} {r : Rc} (h : C11 w b v0 v1 v2 v3 v4 v5 v6 v7 v8 v9 v10) (hu : UrlB w pb r) (hb : But pb w w') : C11 w' b v0 v1 v2 v3 v4 v5 v6 v7 v8 v9 v10 := by
  refine (hb.block b (Array.getElem?_eq_some_iff.1 h).1 fun e => ?_).trans h
  subst e
  unfold C11 at h
  unfold UrlB at hu
  rw [h] at hu
  simp only [Option.some.injEq, Obj.cells.injEq] at hu
  exact absurd hu.2.1 (by decide)
theorem ItemB.but {w w' : World} {b pb qb : Nat} {r : Rc} (h : ItemB w b qb) (hu : UrlB w pb r) (hb : But pb w w') : ItemB w' b qb := by
  refine (hb.block b (Array.getElem?_eq_some_iff.1 h).1 fun e => ?_).trans h
  subst e
  unfold ItemB at h
  unfold UrlB at hu
  rw [h] at hu
  simp only [Option.some.injEq, Obj.cells.injEq] at hu
  exact absurd hu.2.1 (by decide)
theorem But.ks {w w' : World} {pb : Nat} {r : Rc} (hb : But pb w w') (hu : UrlB w pb r) : Ks w w' := fun k cs fz hk => by
  refine (hb.block k (Array.getElem?_eq_some_iff.1 hk).1 fun e => ?_).trans hk
  subst e
  unfold UrlB at hu
  rw [hk] at hu
  simp only [Option.some.injEq, Obj.cells.injEq] at hu
  exact absurd hu.2.1 (by decide)
set_option maxRecDepth 8000 in
set_option maxHeartbeats 16000000 in
theorem empty_any (ib pb : Nat) (r : Rc) (u : U) (bs : List ByteArray) (s : ByteArray) (w0 w : World) (h00 : Nx w0 w) (hp0 : w0.heap.size ≤ pb) (hi : ItemB w ib pb) (hu : UrlB w pb r) (hr : RcIs w r u bs) (ht0 : Tb w0) (hsu : St u) (lu : (pathU u).length ≤ 9000) (ls : s.size ≤ maxLen) :
    Calls Tryz.prog 25 #[.pointer (some ⟨ib, 0, none⟩), .string s] w fun e w' => e = .returned (.bool true) ∧ Nx w0 w' := by
  have HT0 := hide ht0
  have H00 := hide h00
  have HP0 := hide hp0
  have HTB := hide (ht0.on h00)
  have HI := hide hi
  have HU := hide hu
  have HR := hide hr
  have HSU := hide hsu
  have HLU := hide lu
  have HZ5 := hide hr.five
  have i0 := hi.cell
  unfold maxLen at ls
  clear ht0 h00 hp0 hi hu hr hsu lu
  go_enter Tryz.func25, Tryz.ntmps25
  go_wp2_with fail
  refine (get_any pb r u bs _ HU.out HR.out HTB.out (fun _ => HLU.out)).mono ?_
  rintro e w1 ⟨⟨a0, a1, a2, a3, a4, a5, a6, a7, a8, a9, a10, rfl, g0, g1, g2, g3, g4, g5, g6, g7, g8, g9, g10, -, z8⟩, hn1⟩
  have HG : Hid (∀ e b x, AllIs e { u with hf := b, fr := x } → ∃ b0 b10, e = .returned (.agg #[.string b0, .string a1, .string a2, .string a3, .string a4, .string a5, .string a6, .string a7, .string a8, .string a9, .string b10]) ∧ tl b0 = hrefU { u with hf := b, fr := x } ∧ tl b10 = markedL [35] x) := hide (fun e b x he => all_but he g1 g2 g3 g4 g5 g6 g7 g8 g9)
  have G0 := hide g0
  have G2 := hide g2
  have G8 := hide g8
  have z2 : a2.size ≤ 1000001 := by rw [← tl_length, g2]; unfold protocolU; rw [List.length_append]; have := HZ5.out.1; simp; omega
  have HN1 := hide hn1
  clear g0 g1 g2 g3 g4 g5 g6 g7 g8 g9 g10 hn1 i0
  go_upto_region 2 with fail
  have HA : Hid (C11 (w1.alloc (Obj.cells #[.string a0, .string a1, .string a2, .string a3, .string a4, .string a5, .string a6, .string a7, .string a8, .string a9, .string a10] 34)) w1.heap.size (.string a0) (.string a1) (.string a2) (.string a3) (.string a4) (.string a5) (.string a6) (.string a7) (.string a8) (.string a9) (.string a10)) := hide (heap_alloc_new w1 _)
  have HN2 := hide (HN1.out.alloc (Obj.cells #[.string a0, .string a1, .string a2, .string a3, .string a4, .string a5, .string a6, .string a7, .string a8, .string a9, .string a10] 34))
  clear HN1
  generalize (w1.alloc (Obj.cells #[.string a0, .string a1, .string a2, .string a3, .string a4, .string a5, .string a6, .string a7, .string a8, .string a9, .string a10] 34)) = w2 at *
  generalize w1.heap.size = ab at *
  have HI2 := hide (HI.out.on HN2.out)
  have i1 := HI2.out.cell1
  obtain ⟨x0, -, x2, -, -, -, -, -, x8, -, -⟩ := HA.out.cells
  by_cases hl : 160 < a0.size
  · go_wp2
    go_ret
    exact ⟨rfl, H00.out.then HN2.out⟩
  have hl' : a0.size ≤ 160 := by omega
  have hlu : (hrefU u).length ≤ 160 := by rw [← G0.out, tl_length]; omega
  have HLN := hide hlu
  clear hl hlu
  -- the two flags, and what the empty text is
  have HFL : Hid (∃ opq hst : Bool, (u.op = true → opq = true ∧ hst = false) ∧ (u.op = false → opq = false ∨ hst = true) ∧
      ((opq = true ∧ (a8.size = 0 ∨ ∃ h : 0 < a8.size, ¬ (a8[0].toNat : Int) = 47)) ∨ (opq = false ∧ ∃ h : 0 < a8.size, (a8[0].toNat : Int) = 47)) ∧
      ((hst = true ∧ ∃ r, tl a0 = tl (a2 ++ (⟨#[47, 47]⟩ : ByteArray)) ++ r) ∨ (hst = false ∧ ∀ r, tl a0 ≠ tl (a2 ++ (⟨#[47, 47]⟩ : ByteArray)) ++ r))) := hide (by
    have e2 : tl (a2 ++ (⟨#[47, 47]⟩ : ByteArray)) = protocolU u ++ [47, 47] := by rw [tlApp7, G2.out]; rfl
    rw [e2, G0.out]
    have hh : ∃ hst : Bool, ((hst = true ∧ ∃ r, hrefU u = (protocolU u ++ [47, 47]) ++ r) ∨ (hst = false ∧ ∀ r, hrefU u ≠ (protocolU u ++ [47, 47]) ++ r)) := by
      by_cases e : ∃ r, hrefU u = (protocolU u ++ [47, 47]) ++ r
      · exact ⟨true, Or.inl ⟨rfl, e⟩⟩
      · exact ⟨false, Or.inr ⟨rfl, fun r er => e ⟨r, er⟩⟩⟩
    obtain ⟨hst, hhst⟩ := hh
    have ho : ∃ opq : Bool, ((opq = true ∧ (a8.size = 0 ∨ ∃ h : 0 < a8.size, ¬ (a8[0].toNat : Int) = 47)) ∨ (opq = false ∧ ∃ h : 0 < a8.size, (a8[0].toNat : Int) = 47)) := by
      by_cases e : a8.size = 0
      · exact ⟨true, Or.inl ⟨rfl, Or.inl e⟩⟩
      · have hp : 0 < a8.size := by omega
        by_cases e2 : (a8[0].toNat : Int) = 47
        · exact ⟨false, Or.inr ⟨rfl, hp, e2⟩⟩
        · exact ⟨true, Or.inl ⟨rfl, Or.inr ⟨hp, e2⟩⟩⟩
    obtain ⟨opq, hopq⟩ := ho
    refine ⟨opq, hst, ?_, ?_, hopq, hhst⟩
    · intro e
      obtain ⟨f1, f2⟩ := flags_op HSU.out e
      constructor
      · rcases hopq with ⟨e1, -⟩ | ⟨-, hp, e1⟩
        · exact e1
        · exfalso
          rcases f1 with f1 | f1
          · rw [← G8.out] at f1; exact tl_ne (by omega) f1
          · rw [← G8.out, tl_getD a8 0 hp] at f1; omega
      · rcases hhst with ⟨-, r, e1⟩ | ⟨e1, -⟩
        · exact absurd e1 (f2 r)
        · exact e1
    · intro e
      rcases flags_no HSU.out e with ⟨m, f1⟩ | ⟨r, f2⟩
      · left
        rcases hopq with ⟨-, e1 | ⟨hp, e1⟩⟩ | ⟨e1, -⟩
        · exfalso; rw [← G8.out] at f1; rw [tl_empty e1] at f1; cases f1
        · exfalso
          have := tl_getD a8 0 hp
          rw [G8.out, f1] at this
          rw [← this] at e1
          exact e1 rfl
        · exact e1
      · right
        rcases hhst with ⟨e1, -⟩ | ⟨-, e1⟩
        · exact e1
        · exact absurd f2 (e1 r))
  obtain ⟨opq, hst, q1, q2, q3, q4⟩ := HFL.out
  have Q1 := hide q1
  have Q2 := hide q2
  have HB := hide (fun w' => begins_is (s := a0) (t := a2 ++ (⟨#[47, 47]⟩ : ByteArray)) w' hst q4)
  have HP := hide (fun w' (hn : Nx w w') => parseU_any ⟨#[]⟩ a0 true w' (small_len (by decide)) (small_len (by omega)) (HTB.out.on hn))
  rw [show tl (⟨#[]⟩ : ByteArray) = [] from rfl, G0.out] at HP
  clear q1 q2 q4 HFL
  go_upto_region 4 with fail
  go_cut [6] from 16 (fun b wx => b = .bool opq ∧ wx = w2)
  case first =>
    rcases q3 with ⟨rfl, e | ⟨hp, e⟩⟩ | ⟨rfl, hp, e⟩
    · have e' : ((a8.size : Int) == 0) = true := by rw [e]; rfl
      clear e
      go_wp2
      go_meet
      case rel => exact ⟨rfl, rfl⟩
    · have e0 : ((a8.size : Int) == 0) = false := beq_eq_false_iff_ne.2 (by omega)
      have e1 : ((a8[0].toNat : Int) == 47) = false := beq_eq_false_iff_ne.2 e
      have e2 : ((a8[0].toNat : Int) != 47) = true := by simp only [bne, e1]; rfl
      clear e
      go_wp2
      go_meet
      case rel => exact ⟨rfl, rfl⟩
    · have e0 : ((a8.size : Int) == 0) = false := beq_eq_false_iff_ne.2 (by omega)
      have e1 : ((a8[0].toNat : Int) == 47) = true := by rw [e]; rfl
      have e2 : ((a8[0].toNat : Int) != 47) = false := by simp only [bne, e1]; rfl
      clear e
      go_wp2
      go_meet
      case rel => exact ⟨rfl, rfl⟩
  case rest =>
    obtain ⟨rfl, rfl⟩ := hcut
    clear q3 i1
    obtain ⟨w2, hw2⟩ : ∃ w2, w2 = wc := ⟨_, rfl⟩
    subst hw2
    go_upto_region 6 with (go_at_call 37; refine (HB.out _).mono ?_; rintro e w' ⟨rfl, rfl⟩)
    go_cut [8, 9] from 16 (fun x e wx => ((u.op = true ∧ x = .pointer none ∧ e = .int .i64 2) ∨ (u.op = false ∧ ∃ (xb : Nat) (rx : Rc) (xs : List ByteArray), x = .pointer (some ⟨xb, 0, none⟩) ∧ e = .int .i64 0 ∧ UrlB wx xb rx ∧ RcIs wx rx { u with hf := false, fr := [] } xs)) ∧ Nx w2 wx)
    case first =>
      go_wp2_with fail
      refine (HP.out _ HN2.out).mono ?_
      rintro e w3 ⟨hp, hn3⟩
      have HN3 := hide hn3
      clear hn3
      cases ho : u.op
      · rw [parse_empty HSU.out HLN.out ho] at hp
        rcases hp with ⟨he, -⟩ | ⟨-, xb, rx, xs, rfl, hxu, hxr⟩
        · exact absurd rfl he
        have HXU := hide hxu
        have HXR := hide hxr
        clear hxu hxr
        go_wp2
        go_meet
        case rel => exact ⟨Or.inr ⟨ho, xb, rx, xs, rfl, rfl, HXU.out, HXR.out⟩, HN3.out⟩
      · rw [parse_opaque HSU.out HLN.out ho] at hp
        rcases hp with ⟨-, rfl⟩ | ⟨he, -⟩
        · go_wp2
          go_meet
          case rel => exact ⟨Or.inl ⟨ho, rfl, rfl⟩, HN3.out⟩
        · cases he
    case rest =>
      obtain ⟨hx, hn3⟩ := hcut
      obtain ⟨w3, hw3⟩ : ∃ w3, w3 = wc := ⟨_, rfl⟩
      subst hw3
      have HX := hide hx
      have HA3 := hide (HA.out.on hn3)
      have HN3 := hide (HN2.out.then hn3)
      clear hx hn3 HA HN2 x0 x2 x8 HP HB HI2
      go_upto_region 7 with fail
      go_cut [57] from 16 (fun c wx => c = .bool (opq && !hst) ∧ wx = w3)
      case first =>
        cases opq
        · go_wp2
          go_meet
          case rel => exact ⟨rfl, rfl⟩
        · go_wp2
          go_meet
          case rel => exact ⟨rfl, rfl⟩
      case rest =>
      obtain ⟨rfl, rfl⟩ := hcut
      obtain ⟨w3, hw3⟩ : ∃ w3, w3 = wc := ⟨_, rfl⟩
      subst hw3
      go_upto_if 57 with fail
      go_cut [8, 9, 10, 11] from 16 (fun _ _ _ _ wx => Nx w3 wx)
      case first =>
        rcases HX.out with ⟨ho, rfl, rfl⟩ | ⟨ho, xb, rx, xs, rfl, rfl, hxu, hxr⟩
        · obtain ⟨rfl, rfl⟩ := Q1.out ho
          go_wp2
          go_meet
          case rel => exact Nx.rfl
        · have HXU := hide hxu
          have HXR := hide hxr
          obtain ⟨x0, x1, x2, x3, x4, x5, x6, x7, x8, x9, x10⟩ := HA3.out.cells
          clear hxu hxr
          rcases Q2.out ho with rfl | rfl
          · cases hst
            · skip
              go_wp2_with fail
              refine (get_any xb rx _ xs _ HXU.out HXR.out (HTB.out.on HN3.out) (fun _ => HLU.out)).mono ?_
              rintro e w5 ⟨ha, hn5⟩
              obtain ⟨b0, b10, rfl, -, hb10⟩ := HG.out e _ _ ha
              have h10 := str_empty (s := b10) (by rw [← tl_length, hb10]; rfl)
              have HA5 := hide (HA3.out.on hn5)
              have HN5 := hide hn5
              have hab : ab < w5.heap.size := (Array.getElem?_eq_some_iff.1 HA5.out).1
              clear ha hn5 hb10 x0 x1 x2 x3 x4 x5 x6 x7 x8 x9 x10
              obtain ⟨x0, x1, x2, x3, x4, x5, x6, x7, x8, x9, x10⟩ := HA5.out.cells
              go_wp2_with fail
              refine (with9_any a0 a1 a2 a3 a4 a5 a6 a7 a8 a9 a10 b0 b10 _ z8).mono ?_
              rintro e w6 ⟨rfl, hn6⟩
              have HB6 := hide ((show C11 (w5.alloc (Obj.cells #[.string b0, .string a1, .string a2, .string a3, .string a4, .string a5, .string a6, .string a7, .string a8, .string a9, .string b10] 34)) w5.heap.size (.string b0) (.string a1) (.string a2) (.string a3) (.string a4) (.string a5) (.string a6) (.string a7) (.string a8) (.string a9) (.string b10) from heap_alloc_new w5 _).on hn6)
              have HN6 := hide (show Nx w3 w6 from (HN5.out.alloc _).then hn6)
              have hbb : w5.heap.size < w6.heap.size := (Array.getElem?_eq_some_iff.1 HB6.out).1
              clear hn6 x0 x1 x2 x3 x4 x5 x6 x7 x8 x9 x10
              obtain ⟨x0, x1, x2, x3, x4, x5, x6, x7, x8, x9, x10⟩ := HB6.out.cells
              go_wp2
              go_meet
              case rel => exact HN6.out.alloc _
            · skip
              go_wp2_with fail
              refine (get_any xb rx _ xs _ HXU.out HXR.out (HTB.out.on HN3.out) (fun _ => HLU.out)).mono ?_
              rintro e w5 ⟨ha, hn5⟩
              obtain ⟨b0, b10, rfl, -, hb10⟩ := HG.out e _ _ ha
              have h10 := str_empty (s := b10) (by rw [← tl_length, hb10]; rfl)
              have HA5 := hide (HA3.out.on hn5)
              have HN5 := hide hn5
              have hab : ab < w5.heap.size := (Array.getElem?_eq_some_iff.1 HA5.out).1
              clear ha hn5 hb10 x0 x1 x2 x3 x4 x5 x6 x7 x8 x9 x10
              obtain ⟨x0, x1, x2, x3, x4, x5, x6, x7, x8, x9, x10⟩ := HA5.out.cells
              go_wp2_with fail
              refine (with9_any a0 a1 a2 a3 a4 a5 a6 a7 a8 a9 a10 b0 b10 _ z8).mono ?_
              rintro e w6 ⟨rfl, hn6⟩
              have HB6 := hide ((show C11 (w5.alloc (Obj.cells #[.string b0, .string a1, .string a2, .string a3, .string a4, .string a5, .string a6, .string a7, .string a8, .string a9, .string b10] 34)) w5.heap.size (.string b0) (.string a1) (.string a2) (.string a3) (.string a4) (.string a5) (.string a6) (.string a7) (.string a8) (.string a9) (.string b10) from heap_alloc_new w5 _).on hn6)
              have HN6 := hide (show Nx w3 w6 from (HN5.out.alloc _).then hn6)
              have hbb : w5.heap.size < w6.heap.size := (Array.getElem?_eq_some_iff.1 HB6.out).1
              clear hn6 x0 x1 x2 x3 x4 x5 x6 x7 x8 x9 x10
              obtain ⟨x0, x1, x2, x3, x4, x5, x6, x7, x8, x9, x10⟩ := HB6.out.cells
              go_wp2
              go_meet
              case rel => exact HN6.out.alloc _
          · cases opq
            · skip
              go_wp2_with fail
              refine (get_any xb rx _ xs _ HXU.out HXR.out (HTB.out.on HN3.out) (fun _ => HLU.out)).mono ?_
              rintro e w5 ⟨ha, hn5⟩
              obtain ⟨b0, b10, rfl, -, hb10⟩ := HG.out e _ _ ha
              have h10 := str_empty (s := b10) (by rw [← tl_length, hb10]; rfl)
              have HA5 := hide (HA3.out.on hn5)
              have HN5 := hide hn5
              have hab : ab < w5.heap.size := (Array.getElem?_eq_some_iff.1 HA5.out).1
              clear ha hn5 hb10 x0 x1 x2 x3 x4 x5 x6 x7 x8 x9 x10
              obtain ⟨x0, x1, x2, x3, x4, x5, x6, x7, x8, x9, x10⟩ := HA5.out.cells
              go_wp2_with fail
              refine (with9_any a0 a1 a2 a3 a4 a5 a6 a7 a8 a9 a10 b0 b10 _ z8).mono ?_
              rintro e w6 ⟨rfl, hn6⟩
              have HB6 := hide ((show C11 (w5.alloc (Obj.cells #[.string b0, .string a1, .string a2, .string a3, .string a4, .string a5, .string a6, .string a7, .string a8, .string a9, .string b10] 34)) w5.heap.size (.string b0) (.string a1) (.string a2) (.string a3) (.string a4) (.string a5) (.string a6) (.string a7) (.string a8) (.string a9) (.string b10) from heap_alloc_new w5 _).on hn6)
              have HN6 := hide (show Nx w3 w6 from (HN5.out.alloc _).then hn6)
              have hbb : w5.heap.size < w6.heap.size := (Array.getElem?_eq_some_iff.1 HB6.out).1
              clear hn6 x0 x1 x2 x3 x4 x5 x6 x7 x8 x9 x10
              obtain ⟨x0, x1, x2, x3, x4, x5, x6, x7, x8, x9, x10⟩ := HB6.out.cells
              go_wp2
              go_meet
              case rel => exact HN6.out.alloc _
            · skip
              go_wp2_with fail
              refine (get_any xb rx _ xs _ HXU.out HXR.out (HTB.out.on HN3.out) (fun _ => HLU.out)).mono ?_
              rintro e w5 ⟨ha, hn5⟩
              obtain ⟨b0, b10, rfl, -, hb10⟩ := HG.out e _ _ ha
              have h10 := str_empty (s := b10) (by rw [← tl_length, hb10]; rfl)
              have HA5 := hide (HA3.out.on hn5)
              have HN5 := hide hn5
              have hab : ab < w5.heap.size := (Array.getElem?_eq_some_iff.1 HA5.out).1
              clear ha hn5 hb10 x0 x1 x2 x3 x4 x5 x6 x7 x8 x9 x10
              obtain ⟨x0, x1, x2, x3, x4, x5, x6, x7, x8, x9, x10⟩ := HA5.out.cells
              go_wp2_with fail
              refine (with9_any a0 a1 a2 a3 a4 a5 a6 a7 a8 a9 a10 b0 b10 _ z8).mono ?_
              rintro e w6 ⟨rfl, hn6⟩
              have HB6 := hide ((show C11 (w5.alloc (Obj.cells #[.string b0, .string a1, .string a2, .string a3, .string a4, .string a5, .string a6, .string a7, .string a8, .string a9, .string b10] 34)) w5.heap.size (.string b0) (.string a1) (.string a2) (.string a3) (.string a4) (.string a5) (.string a6) (.string a7) (.string a8) (.string a9) (.string b10) from heap_alloc_new w5 _).on hn6)
              have HN6 := hide (show Nx w3 w6 from (HN5.out.alloc _).then hn6)
              have hbb : w5.heap.size < w6.heap.size := (Array.getElem?_eq_some_iff.1 HB6.out).1
              clear hn6 x0 x1 x2 x3 x4 x5 x6 x7 x8 x9 x10
              obtain ⟨x0, x1, x2, x3, x4, x5, x6, x7, x8, x9, x10⟩ := HB6.out.cells
              go_wp2
              go_meet
              case rel => exact HN6.out.alloc _
      case rest =>
        have HN4 := hide (HN3.out.then hcut)
        have HA4 := hide (HA3.out.on hcut)
        obtain ⟨w4, hw4⟩ : ∃ w4, w4 = wc := ⟨_, rfl⟩
        subst hw4
        clear hcut HX HA3 HN3 Q1 Q2
        have x0 : w4.cell? ⟨ab, 0, none⟩ = some (.string a0) := HA4.out.cells.1
        go_upto_region 16 with fail
        go_wp2
        go_loop [12, 13] (fun t i => ∃ (k : Nat) (tx : ByteArray) (f : List UInt8), k ≤ 9 ∧ k ≤ s.size ∧ i = .int .i64 k ∧ t = .string tx ∧ tl tx = 35 :: f ∧ FOk f ∧ f.length ≤ k) (fun _ i => 9 - (intOf i).toNat)
        case atStart => exact ⟨0, ⟨#[35]⟩, [], by omega, by omega, rfl, rfl, rfl, fok_nil, by simp⟩
        case round =>
          obtain ⟨k, tx, f, hk, hks, rfl, rfl, hf1, hf2, hf3⟩ := hrel
          have HF1 := hide hf1
          have HF2 := hide hf2
          have htx : tx.size ≤ 10 := by rw [← tl_length, hf1]; simp; omega
          clear hf1 hf2
          by_cases hlt : k < s.size ∧ k < 9
          · obtain ⟨hlt, hl9⟩ := hlt
            by_cases hc : 33 ≤ (s[k].toNat : Int) ∧ (s[k].toNat : Int) ≤ 126
            · obtain ⟨hc1, hc2⟩ := hc
              have HS : Hid (tl (tx ++ s.extract k (k + 1)) = 35 :: (f ++ [s[k]])) := hide (by rw [tlApp7, HF1.out, tl_extract]; rw [List.take_succ_eq_append_getElem (by rw [tl_length]; exact hlt)]; rw [List.drop_append_of_le_length (by rw [List.length_take, tl_length]; omega), List.drop_of_length_le (by rw [List.length_take]; omega)]; rfl)
              have HK := hide (fok_snoc HF2.out (c := s[k]) (by omega) (by omega))
              go_wp2
              go_round
              case rel => exact ⟨k + 1, tx ++ s.extract k (k + 1), f ++ [s[k]], by omega, by omega, by go_num, rfl, HS.out, HK.out, by simp; omega⟩
              case measure => simp [intOf]; omega
            · have hc' : (s[k].toNat : Int) ≤ 32 ∨ 126 < (s[k].toNat : Int) := by omega
              clear hc
              rcases hc' with hc | hc
              · go_wp2
                go_round
                case rel => exact ⟨k + 1, tx, f, by omega, by omega, by go_num, rfl, HF1.out, HF2.out, by omega⟩
                case measure => simp [intOf]; omega
              · go_wp2
                go_round
                case rel => exact ⟨k + 1, tx, f, by omega, by omega, by go_num, rfl, HF1.out, HF2.out, by omega⟩
                case measure => simp [intOf]; omega
          · have HPF := hide (fun w' (hn : Nx w w') => parseU_new tx a0 true w' (small_len (by omega)) (small_len (by omega)) (HTB.out.on hn))
            rw [HF1.out, G0.out, parse_frag HSU.out HLN.out HF2.out (by omega)] at HPF
            have HSE := hide (fun w5 (hu : UrlB w5 pb r) (hr : RcIs w5 r u bs) => setHash_any pb r u bs tx w5 hu hr (by rw [← tl_length, HF1.out]; simp) (by omega))
            rw [HF1.out, hash_frag HF2.out] at HSE
            have hend : s.size ≤ k ∨ (k < s.size ∧ 9 ≤ k) := by omega
            clear hlt
            go_upto_region 18 with fail
            go_cut [82] from 75 to 101 (fun c wx => c = .bool false ∧ wx = w4)
            case first =>
              rcases hend with hend | ⟨hend, hend9⟩
              · go_wp2
                go_meet
                case rel => first | exact ⟨rfl, rfl⟩ | exact ⟨congrArg Value.bool (decide_eq_false (by omega)), rfl⟩
              · go_wp2
                go_meet
                case rel => first | exact ⟨rfl, rfl⟩ | exact ⟨congrArg Value.bool (decide_eq_false (by omega)), rfl⟩
            case rest =>
              clear hend
              obtain ⟨rfl, rfl⟩ := hcut
              obtain ⟨w4, hw4⟩ : ∃ w4, w4 = wc := ⟨_, rfl⟩
              subst hw4
              go_wp2_with fail
              refine (HPF.out _ HN4.out).mono ?_
              rintro e w5 ⟨hp, hn5⟩
              rcases hp with ⟨he, -⟩ | ⟨-, xb, rx, xs, rfl, hxu, hxr, hxn⟩
              · exact absurd rfl he
              have HN5 := hide (HN4.out.then hn5)
              have HA5 := hide (HA4.out.on hn5)
              have HU5 := hide (HU.out.on HN5.out)
              have HR5 := hide (HR.out.on HN5.out)
              have HI5 := hide (HI.out.on HN5.out)
              have HXU := hide hxu
              have HXR := hide hxr
              have hpl : pb < w.heap.size := (Array.getElem?_eq_some_iff.1 HU.out).1
              have hxp : xb ≠ pb := by have := HN4.out.size; omega
              have HXP := hide hxp
              have i0 := HI5.out.cell
              clear hn5 hxu hxr hxn hxp hpl HPF x0
              go_wp2_with fail
              refine (HSE.out w5 HU5.out HR5.out).mono ?_
              rintro e w6 ⟨rfl, ⟨r6, hu6, hr6⟩, hb6⟩
              have HU6 := hide hu6
              have HR6 := hide hr6
              have HA6 := hide (HA5.out.but HU5.out hb6)
              have HI6 := hide (HI5.out.but HU5.out hb6)
              have HX6 : Hid (UrlB w6 xb rx) := hide ((hb6.block xb (Array.getElem?_eq_some_iff.1 HXU.out).1 HXP.out).trans HXU.out)
              have HXR6 := hide (HXR.out.ks (hb6.ks HU5.out))
              have H06 : Hid (Nx w0 w6) := hide ((H00.out.then HN5.out).trans (hb6.below HP0.out (H00.out.then HN5.out).size))
              have i6 := HI6.out.cell
              clear hu6 hr6 hb6 i0 HSE HN5 HA5 HI5 HXU HXR HXP
              go_wp2_with fail
              refine (get_any xb rx _ xs _ HX6.out HXR6.out (HT0.out.on H06.out) (fun _ => HLU.out)).mono ?_
              rintro e w7 ⟨ha, hn7⟩
              obtain ⟨b0, b10, rfl, hb0, hb10⟩ := HG.out e _ _ ha
              have HB0 := hide hb0
              have HB10 := hide hb10
              have HA7 := hide (HA6.out.on hn7)
              have HU7 := hide (HU6.out.on hn7)
              have HR7 := hide (HR6.out.on hn7)
              have H07 := hide (H06.out.then hn7)
              have i7 := (HI6.out.on hn7).cell
              have hil : ib < w7.heap.size := (Array.getElem?_eq_some_iff.1 (HI6.out.on hn7)).1
              clear ha hn7 hb0 hb10 i6 HX6 HXR6 HA6 HU6 HR6 H06 HI6
              go_wp2_with fail
              refine (get_any pb r6 _ bs _ (HU7.out.on (Nx.rfl.alloc _)) (HR7.out.on (Nx.rfl.alloc _)) (HT0.out.on (H07.out.alloc _)) (fun _ => HLU.out)).mono ?_
              rintro e w8 ⟨ha, hn8⟩
              obtain ⟨c0, c10, rfl, hc0, hc10⟩ := HG.out e _ _ ha
              obtain rfl : c0 = b0 := tl_inj (hc0.trans HB0.out.symm)
              obtain rfl : c10 = b10 := tl_inj (hc10.trans HB10.out.symm)
              have HA8 := hide ((HA7.out.on (Nx.rfl.alloc _)).on hn8)
              have HB8 : Hid (C11 w8 w7.heap.size (.string c0) (.string a1) (.string a2) (.string a3) (.string a4) (.string a5) (.string a6) (.string a7) (.string a8) (.string a9) (.string c10)) := hide ((show C11 (w7.alloc (Obj.cells #[.string c0, .string a1, .string a2, .string a3, .string a4, .string a5, .string a6, .string a7, .string a8, .string a9, .string c10] 34)) w7.heap.size (.string c0) (.string a1) (.string a2) (.string a3) (.string a4) (.string a5) (.string a6) (.string a7) (.string a8) (.string a9) (.string c10) from heap_alloc_new w7 _).on hn8)
              have H08 := hide (show Nx w0 w8 from (H07.out.alloc _).then hn8)
              have hal : ab < w8.heap.size := (Array.getElem?_eq_some_iff.1 HA8.out).1
              have hbl : w7.heap.size < w8.heap.size := (Array.getElem?_eq_some_iff.1 HB8.out).1
              obtain ⟨x0, x1, x2, x3, x4, x5, x6, x7, x8, x9, x10⟩ := HA8.out.cells
              obtain ⟨y0, y1, y2, y3, y4, y5, y6, y7, y8, y9, y10⟩ := HB8.out.cells
              clear ha hn8 hc0 hc10 HA7 HU7 HR7 H07 i7 hil
              by_cases hfn : f = []
              · have ht1 : (tx.toList == [35]) = true := eqB (by rw [HF1.out, hfn])
                have ht10 := str_empty (s := c10) (by rw [← tl_length, HB10.out, hfn, enc_clean_nil]; rfl)
                have ht0 := str_nonempty (s := c0) (by rw [← tl_length, HB0.out]; unfold hrefU protocolU; simp)
                clear hfn
                go_upto_region 29 with fail
                have HW := hide (fun w' => with9_any a0 a1 a2 a3 a4 a5 a6 a7 a8 a9 a10 c0 c10 w' z8)
                have HA9 := hide (HA8.out.on (Nx.rfl.alloc (Obj.cells #[.string c0, .string a1, .string a2, .string a3, .string a4, .string a5, .string a6, .string a7, .string a8, .string a9, .string c10] 34)))
                have HB9 := hide (HB8.out.on (Nx.rfl.alloc (Obj.cells #[.string c0, .string a1, .string a2, .string a3, .string a4, .string a5, .string a6, .string a7, .string a8, .string a9, .string c10] 34)))
                have H09 := hide (H08.out.alloc (Obj.cells #[.string c0, .string a1, .string a2, .string a3, .string a4, .string a5, .string a6, .string a7, .string a8, .string a9, .string c10] 34))
                clear x0 x1 x2 x3 x4 x5 x6 x7 x8 x9 x10 y0 y1 y2 y3 y4 y5 y6 y7 y8 y9 y10 hal hbl HA8 HB8 H08
                generalize (w8.alloc (Obj.cells #[.string c0, .string a1, .string a2, .string a3, .string a4, .string a5, .string a6, .string a7, .string a8, .string a9, .string c10] 34)) = w9 at *
                generalize w7.heap.size = bb at *
                obtain ⟨x0, x1, x2, x3, x4, x5, x6, x7, x8, x9, x10⟩ := HA9.out.cells
                obtain ⟨y0, y1, y2, y3, y4, y5, y6, y7, y8, y9, y10⟩ := HB9.out.cells
                go_region_with (go_at_call 48; go_must (refine (HW.out _).mono ?_; rintro e wz ⟨rfl, hnz⟩; have HZN := hide (show Nx w9 wz from Nx.then (show Nx w9 _ by first | exact Nx.rfl | exact Nx.rfl.drew | exact Nx.rfl.drew.drew | exact Nx.rfl.drew.drew.drew) hnz); obtain ⟨z0, z1, z2, z3, z4, z5, z6, z7, z8', z9, z10⟩ := (HB9.out.on HZN.out).cells; clear hnz))
                all_goals go_wp2
                all_goals go_ret
                all_goals exact ⟨rfl, H09.out.then HZN.out⟩
              · have ht1 : (tx.toList == [35]) = false := neB (by rw [HF1.out]; intro x; simp at x; exact hfn x)
                clear hfn
                go_wp2
                go_ret
                exact ⟨rfl, H08.out.alloc _⟩
end Go.Proofs.YtchkhibgbnhjpaaGreatDoor
