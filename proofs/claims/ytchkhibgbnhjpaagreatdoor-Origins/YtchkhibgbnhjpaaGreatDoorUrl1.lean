import Derived.Test.YtchkhibgbnhjpaaGreatDoorRd12
namespace Go.Proofs.YtchkhibgbnhjpaaGreatDoor
open Go.RowKit

/-- urls.readBase -/
def baseU (l : List UInt8) (based : Bool) : U × Int := if based = false then (zeroU, 0) else if (textU l).2 = 2 then (zeroU, 4) else textU l
set_option maxHeartbeats 8000000 in
theorem baseU_any (s : ByteArray) (based : Bool) (w : World) (hl : based = true → s.size ≤ 9000) (ht : Tb w) :
    Calls Tryz.prog 54 #[.string s, .bool based] w fun e w' => ResIs e w' (baseU (tl s) based) 30002 ∧ Nx w w' := by
  have HTB := hide ht
  clear ht
  cases based
  · have HE := hide (show baseU (tl s) false = (zeroU, 0) from if_pos rfl)
    clear hl
    go_enter Tryz.func54, Tryz.ntmps54
    go_wp2
    exact ret14 (rb := w.heap.size) Tryz.results54 rfl rfl (rzB_new w) rfl ⟨⟨rz, [], (by rw [HE.out]; first | done | rfl), (by rw [HE.out]; exact rz_is _), by simp⟩, Nx.rfl.alloc _⟩
  · have HD := hide (show baseU (tl s) true = if (textU (tl s)).2 = 2 then (zeroU, 4) else textU (tl s) from if_neg (by decide))
    have hs := hl rfl
    clear hl
    go_enter Tryz.func54, Tryz.ntmps54
    go_wp2_with fail
    refine (textU_any s _ hs (HTB.out.on (Nx.rfl.alloc _))).mono ?_
    rintro e w1 ⟨⟨r, ds, rfl, hr, hdl⟩, hn⟩
    have HR := hide hr
    have HZ := hide ((rzB_new w).on hn)
    have HN := hide (show Nx w w1 from (Nx.rfl.alloc _).then hn)
    clear hr hn
    have hlz : w.heap.size < w1.heap.size := (Array.getElem?_eq_some_iff.1 HZ.out).1
    obtain ⟨z0, z1, z2, z3, z4, z5, z6, z7, z8, z9, z10, z11, z12, z13⟩ := HZ.out.cells
    have zf0 := HZ.out.free 0
    have zf1 := HZ.out.free 1
    have zf2 := HZ.out.free 2
    have zf3 := HZ.out.free 3
    have zf4 := HZ.out.free 4
    have zf5 := HZ.out.free 5
    have zf6 := HZ.out.free 6
    have zf7 := HZ.out.free 7
    have zf8 := HZ.out.free 8
    have zf9 := HZ.out.free 9
    have zf10 := HZ.out.free 10
    have zf11 := HZ.out.free 11
    have zf12 := HZ.out.free 12
    have zf13 := HZ.out.free 13
    generalize textU (tl s) = q at *
    obtain ⟨qu, err⟩ := q
    simp only at HR HD
    by_cases he : err = 2
    · have HE := hide (HD.out.trans (if_pos he))
      have he' : (err == 2) = true := by rw [he]; rfl
      clear HD he
      go_wp2
      exact ret14 (rb := w.heap.size) Tryz.results54 rfl rfl ((RecB.put HZ.out _ _ _ _ _ _ _ _ _ _ _ _ _ _).on (Nx.rfl.alloc _)) rfl ⟨⟨rz, [], (by rw [HE.out]; first | done | rfl), (by rw [HE.out]; exact rz_is _), by simp⟩, Nx.alloc (put14_below HN.out (Nat.le_refl _) _ _ _ _ _ _ _ _ _ _ _ _ _ _) _⟩
    · have HE := hide (HD.out.trans (if_neg he))
      have he' : (err == 2) = false := beq_eq_false_iff_ne.2 he
      clear HD he
      go_wp2
      exact ret14 (rb := w.heap.size) Tryz.results54 rfl rfl ((RecB.put HZ.out _ _ _ _ _ _ _ _ _ _ _ _ _ _).on (Nx.rfl.alloc _)) rfl ⟨⟨r, ds, (by rw [HE.out]; first | done | rfl), (by rw [HE.out]; exact HR.out.ks (Ks.then (put14_ks HZ.out.ty (by decide) _ _ _ _ _ _ _ _ _ _ _ _ _ _) (Nx.ks (Nx.rfl.alloc _)))), hdl⟩, Nx.alloc (put14_below HN.out (Nat.le_refl _) _ _ _ _ _ _ _ _ _ _ _ _ _ _) _⟩

/-- A URL that was read: its block. -/
def UrlB (w : World) (b : Nat) (r : Rc) : Prop := w.heap[b]? = some (Obj.cells #[.string r.sch, .string r.nam, .string r.pw, .bool r.hh, .string r.host, .bool r.hp, .int .i64 (r.port : Int), .bool r.op, .string r.opath, .slice r.so r.sn r.sc, .bool r.hq, .string r.q, .bool r.hf, .string r.fr] 56 (0, 0))
theorem UrlB.on {w w' : World} {b : Nat} {r : Rc} (h : UrlB w b r) (hb : Nx w w') : UrlB w' b r := (hb.block b (Array.getElem?_eq_some_iff.1 h).1).trans h
theorem urlB_new (w : World) (r : Rc) : UrlB (w.alloc (Obj.cells #[.string r.sch, .string r.nam, .string r.pw, .bool r.hh, .string r.host, .bool r.hp, .int .i64 (r.port : Int), .bool r.op, .string r.opath, .slice r.so r.sn r.sc, .bool r.hq, .string r.q, .bool r.hf, .string r.fr] 56)) w.heap.size r := heap_alloc_new w _
theorem UrlB.cells {w : World} {b : Nat} {r : Rc} (h : UrlB w b r) : w.cell? ⟨b, 0, none⟩ = some (.string r.sch) ∧ w.cell? ⟨b, 1, none⟩ = some (.string r.nam) ∧ w.cell? ⟨b, 2, none⟩ = some (.string r.pw) ∧ w.cell? ⟨b, 3, none⟩ = some (.bool r.hh) ∧ w.cell? ⟨b, 4, none⟩ = some (.string r.host) ∧ w.cell? ⟨b, 5, none⟩ = some (.bool r.hp) ∧ w.cell? ⟨b, 6, none⟩ = some (.int .i64 (r.port : Int)) ∧ w.cell? ⟨b, 7, none⟩ = some (.bool r.op) ∧ w.cell? ⟨b, 8, none⟩ = some (.string r.opath) ∧ w.cell? ⟨b, 9, none⟩ = some (.slice r.so r.sn r.sc) ∧ w.cell? ⟨b, 10, none⟩ = some (.bool r.hq) ∧ w.cell? ⟨b, 11, none⟩ = some (.string r.q) ∧ w.cell? ⟨b, 12, none⟩ = some (.bool r.hf) ∧ w.cell? ⟨b, 13, none⟩ = some (.string r.fr) := by
  unfold UrlB at h
  refine ⟨?_, ?_, ?_, ?_, ?_, ?_, ?_, ?_, ?_, ?_, ?_, ?_, ?_, ?_⟩ <;> simp [World.cell?, h]

/-- urls.Parse -/
def parseU (l base : List UInt8) (based : Bool) : U × Int :=
  if 160 < l.length ∨ (based = true ∧ 160 < base.length) then (zeroU, 1)
  else if (baseU base based).2 ≠ 0 then (zeroU, (baseU base based).2) else againstU l (baseU base based).1
def ParsedIs (e : Ending) (w' : World) (x : U × Int) : Prop :=
  (x.2 ≠ 0 ∧ e = .returned (.tuple #[.pointer none, .int .i64 x.2])) ∨ (x.2 = 0 ∧ ∃ (pb : Nat) (r : Rc) (bs : List ByteArray), e = .returned (.tuple #[.pointer (some ⟨pb, 0, none⟩), .int .i64 0]) ∧ UrlB w' pb r ∧ RcIs w' r x.1 bs)
set_option maxHeartbeats 16000000 in
theorem parseU_any (s base : ByteArray) (based : Bool) (w : World) (hs : s.size ≤ maxLen) (hb : base.size ≤ maxLen) (ht : Tb w) :
    Calls Tryz.prog 30 #[.string s, .string base, .bool based] w fun e w' => ParsedIs e w' (parseU (tl s) (tl base) based) ∧ Nx w w' := by
  have HTB := hide ht
  clear ht
  unfold maxLen at hs hb
  have HD := hide (show parseU (tl s) (tl base) based = if 160 < s.size ∨ (based = true ∧ 160 < base.size) then (zeroU, 1)
    else if (baseU (tl base) based).2 ≠ 0 then (zeroU, (baseU (tl base) based).2) else againstU (tl s) (baseU (tl base) based).1 by rw [← tl_length s, ← tl_length base]; rfl)
  by_cases h1 : 160 < s.size
  · have HE := hide (HD.out.trans (if_pos (Or.inl h1)))
    clear HD
    go_enter Tryz.func30, Tryz.ntmps30
    go_wp2
    go_ret2
    exact ⟨Or.inl ⟨by rw [HE.out]; decide, by rw [HE.out]; rfl⟩, Nx.rfl⟩
  by_cases h2 : based = true ∧ 160 < base.size
  · have HE := hide (HD.out.trans (if_pos (Or.inr h2)))
    obtain ⟨rfl, h3⟩ := h2
    clear HD
    go_enter Tryz.func30, Tryz.ntmps30
    go_wp2
    go_ret2
    exact ⟨Or.inl ⟨by rw [HE.out]; decide, by rw [HE.out]; rfl⟩, Nx.rfl⟩
  have HD2 := hide (HD.out.trans (if_neg (by rintro (h | h); exact h1 h; exact h2 h)))
  clear HD
  have HBC := hide (fun w1 (hn : Nx w w1) => baseU_any base based w1 (fun hb => by have : ¬ 160 < base.size := fun h => h2 ⟨hb, h⟩; omega) (HTB.out.on hn))
  have two : based = false ∨ (based = true ∧ ¬ 160 < base.size) := by
    cases based
    · exact Or.inl rfl
    · exact Or.inr ⟨rfl, fun h => h2 ⟨rfl, h⟩⟩
  clear h2
  rcases two with rfl | ⟨rfl, h3⟩
  · go_enter Tryz.func30, Tryz.ntmps30
    go_wp2_with fail
    refine (HBC.out _ Nx.rfl).mono ?_
    rintro e w1 ⟨⟨r, ds, rfl, hr, hdl⟩, hn1⟩
    have HR := hide hr
    have HN1 := hide hn1
    clear hr hn1
    generalize baseU (tl base) false = q at *
    obtain ⟨qu, err⟩ := q
    simp only at HR HD2
    by_cases he : err = 0
    · subst he
      have HE := hide (HD2.out.trans (if_neg (by decide)))
      clear HD2
      go_wp2_with fail
      refine (againstU_any s r qu ds _ (HR.out.on (Nx.rfl.alloc _)) (by omega) (by omega) (HTB.out.on (HN1.out.alloc _))).mono ?_
      rintro e w2 ⟨⟨r2, ds2, rfl, hr2, hdl2⟩, hn2⟩
      have HR2 := hide hr2
      have HN2 := hide ((HN1.out.alloc _).then hn2)
      clear hr2 hn2
      generalize againstU (tl s) qu = q2 at *
      obtain ⟨qu2, err2⟩ := q2
      simp only at HR2
      by_cases he2 : err2 = 0
      · subst he2
        go_wp2
        go_ret2
        refine ⟨Or.inr ⟨by rw [HE.out], w2.heap.size + 1, r2, ds2, rfl, ?_, by rw [HE.out]; exact HR2.out.on ((Nx.rfl.alloc _).alloc _)⟩, (HN2.out.alloc _).alloc _⟩
        have h := urlB_new (w2.alloc (Obj.cells #[.string r2.sch, .string r2.nam, .string r2.pw, .bool r2.hh, .string r2.host, .bool r2.hp, .int .i64 (r2.port : Int), .bool r2.op, .string r2.opath, .slice r2.so r2.sn r2.sc, .bool r2.hq, .string r2.q, .bool r2.hf, .string r2.fr] 54)) r2
        rw [show (w2.alloc (Obj.cells #[.string r2.sch, .string r2.nam, .string r2.pw, .bool r2.hh, .string r2.host, .bool r2.hp, .int .i64 (r2.port : Int), .bool r2.op, .string r2.opath, .slice r2.so r2.sn r2.sc, .bool r2.hq, .string r2.q, .bool r2.hf, .string r2.fr] 54)).heap.size = w2.heap.size + 1 by simp] at h
        exact h
      · have he' : (err2 != 0) = true := bneT (beq_eq_false_iff_ne.2 he2)
        have HE2 := hide he2
        clear he2
        go_wp2
        go_ret2
        exact ⟨Or.inl ⟨by rw [HE.out]; exact HE2.out, by rw [HE.out]; rfl⟩, HN2.out.alloc _⟩
    · have HE := hide (HD2.out.trans (if_pos he))
      have he' : (err != 0) = true := bneT (beq_eq_false_iff_ne.2 he)
      have HE2 := hide he
      clear HD2 he
      go_wp2
      go_ret2
      exact ⟨Or.inl ⟨by rw [HE.out]; exact HE2.out, by rw [HE.out]; rfl⟩, HN1.out.alloc _⟩
  · go_enter Tryz.func30, Tryz.ntmps30
    go_wp2_with fail
    refine (HBC.out _ Nx.rfl).mono ?_
    rintro e w1 ⟨⟨r, ds, rfl, hr, hdl⟩, hn1⟩
    have HR := hide hr
    have HN1 := hide hn1
    clear hr hn1
    generalize baseU (tl base) true = q at *
    obtain ⟨qu, err⟩ := q
    simp only at HR HD2
    by_cases he : err = 0
    · subst he
      have HE := hide (HD2.out.trans (if_neg (by decide)))
      clear HD2
      go_wp2_with fail
      refine (againstU_any s r qu ds _ (HR.out.on (Nx.rfl.alloc _)) (by omega) (by omega) (HTB.out.on (HN1.out.alloc _))).mono ?_
      rintro e w2 ⟨⟨r2, ds2, rfl, hr2, hdl2⟩, hn2⟩
      have HR2 := hide hr2
      have HN2 := hide ((HN1.out.alloc _).then hn2)
      clear hr2 hn2
      generalize againstU (tl s) qu = q2 at *
      obtain ⟨qu2, err2⟩ := q2
      simp only at HR2
      by_cases he2 : err2 = 0
      · subst he2
        go_wp2
        go_ret2
        refine ⟨Or.inr ⟨by rw [HE.out], w2.heap.size + 1, r2, ds2, rfl, ?_, by rw [HE.out]; exact HR2.out.on ((Nx.rfl.alloc _).alloc _)⟩, (HN2.out.alloc _).alloc _⟩
        have h := urlB_new (w2.alloc (Obj.cells #[.string r2.sch, .string r2.nam, .string r2.pw, .bool r2.hh, .string r2.host, .bool r2.hp, .int .i64 (r2.port : Int), .bool r2.op, .string r2.opath, .slice r2.so r2.sn r2.sc, .bool r2.hq, .string r2.q, .bool r2.hf, .string r2.fr] 54)) r2
        rw [show (w2.alloc (Obj.cells #[.string r2.sch, .string r2.nam, .string r2.pw, .bool r2.hh, .string r2.host, .bool r2.hp, .int .i64 (r2.port : Int), .bool r2.op, .string r2.opath, .slice r2.so r2.sn r2.sc, .bool r2.hq, .string r2.q, .bool r2.hf, .string r2.fr] 54)).heap.size = w2.heap.size + 1 by simp] at h
        exact h
      · have he' : (err2 != 0) = true := bneT (beq_eq_false_iff_ne.2 he2)
        have HE2 := hide he2
        clear he2
        go_wp2
        go_ret2
        exact ⟨Or.inl ⟨by rw [HE.out]; exact HE2.out, by rw [HE.out]; rfl⟩, HN2.out.alloc _⟩
    · have HE := hide (HD2.out.trans (if_pos he))
      have he' : (err != 0) = true := bneT (beq_eq_false_iff_ne.2 he)
      have HE2 := hide he
      clear HD2 he
      go_wp2
      go_ret2
      exact ⟨Or.inl ⟨by rw [HE.out]; exact HE2.out, by rw [HE.out]; rfl⟩, HN1.out.alloc _⟩

set_option maxHeartbeats 8000000 in
theorem urlHref_any (pb : Nat) (r : Rc) (u : U) (bs : List ByteArray) (w : World) (h0 : UrlB w pb r) (h : RcIs w r u bs) (ht : Tb w) :
    Calls Tryz.prog 31 #[.pointer (some ⟨pb, 0, none⟩)] w fun e w' => ∃ t : ByteArray, e = .returned (.string t) ∧ tl t = hrefU u ∧ Nx w w' := by
  have HRC := hide h
  have HTB := hide ht
  obtain ⟨a0, a1, a2, a3, a4, a5, a6, a7, a8, a9, a10, a11, a12, a13⟩ := h0.cells
  clear h ht h0
  go_enter Tryz.func31, Tryz.ntmps31
  go_wp2_with fail
  refine (href_any r u bs _ HRC.out HTB.out).mono ?_
  rintro e w1 ⟨t, rfl, ht, hn⟩
  have HT := hide ht
  have HN := hide hn
  clear ht hn a0 a1 a2 a3 a4 a5 a6 a7 a8 a9 a10 a11 a12 a13
  go_wp2
  go_ret
  exact ⟨t, rfl, HT.out, HN.out⟩
end Go.Proofs.YtchkhibgbnhjpaaGreatDoor
