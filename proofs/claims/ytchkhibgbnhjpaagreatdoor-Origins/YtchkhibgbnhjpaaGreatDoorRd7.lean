import Derived.Test.YtchkhibgbnhjpaaGreatDoorPrt3
namespace Go.Proofs.YtchkhibgbnhjpaaGreatDoor
open Go.RowKit

/-- reading.readPlace -/
def portU (u : U) (port : List UInt8) : U × Int := if (readPort port).2 = false then (zeroU, 2) else (atPortU u (readPort port).1, 0)
def placeU (u : U) (place : List UInt8) : U × Int :=
  if (cutPort place).1 = [] ∧ (isSpecial u.sch = true ∨ (cutPort place).2.2 = true) then (zeroU, 2)
  else if (hostL (cutPort place).1 (isSpecial u.sch)).2 ≠ 0 then (zeroU, (hostL (cutPort place).1 (isSpecial u.sch)).2)
  else if (cutPort place).2.1 = [] then ({ u with hh := true, host := (hostL (cutPort place).1 (isSpecial u.sch)).1 }, 0)
  else portU { u with hh := true, host := (hostL (cutPort place).1 (isSpecial u.sch)).1 } (cutPort place).2.1
theorem cutPortGo_len (l : List UInt8) : ∀ inb q, cutPortGo inb l = some q → q.1.length ≤ l.length ∧ q.2.length ≤ l.length := by
  induction l with
  | nil => intro inb q h; cases h
  | cons c r ih =>
    intro inb q h
    rw [cutPortGo] at h
    have key : ∀ b, (cutPortGo b r).map (fun q => (c :: q.1, q.2)) = some q → q.1.length ≤ (c :: r).length ∧ q.2.length ≤ (c :: r).length := by
      intro b hb
      cases hq : cutPortGo b r with
      | none => rw [hq] at hb; cases hb
      | some x =>
        rw [hq] at hb
        simp only [Option.map_some, Option.some.injEq] at hb
        subst hb
        have := ih b x hq
        simp only [List.length_cons]
        omega
    split at h
    · exact key _ h
    · split at h
      · exact key _ h
      · split at h
        · cases h
          simp
        · exact key _ h
theorem cutPort_len (l : List UInt8) : (cutPort l).1.length ≤ l.length ∧ (cutPort l).2.1.length ≤ l.length := by
  unfold cutPort
  cases h : cutPortGo false l with
  | none => simp
  | some q => exact cutPortGo_len l false q h
set_option maxHeartbeats 16000000 in
theorem placeU_any (ru : Rc) (u : U) (bs : List ByteArray) (p : ByteArray) (w : World) (h1 : RcIs w ru u bs) (ht : Tb w) (hl : p.size ≤ 30000) :
    Calls Tryz.prog 193 #[.agg #[.string ru.sch, .string ru.nam, .string ru.pw, .bool ru.hh, .string ru.host, .bool ru.hp, .int .i64 (ru.port : Int), .bool ru.op, .string ru.opath, .slice ru.so ru.sn ru.sc, .bool ru.hq, .string ru.q, .bool ru.hf, .string ru.fr], .string p] w fun e w' => ResIs e w' (placeU u (tl p)) bs.length ∧ Nx w w' := by
  have HU := hide h1
  have HTB := hide ht
  have hcl := cutPort_len (tl p)
  have HD := hide (show placeU u (tl p) = if (cutPort (tl p)).1 = [] ∧ (isSpecial (tl ru.sch) = true ∨ (cutPort (tl p)).2.2 = true) then (zeroU, 2)
    else if (hostL (cutPort (tl p)).1 (isSpecial (tl ru.sch))).2 ≠ 0 then (zeroU, (hostL (cutPort (tl p)).1 (isSpecial (tl ru.sch))).2)
    else if (cutPort (tl p)).2.1 = [] then ({ u with hh := true, host := (hostL (cutPort (tl p)).1 (isSpecial (tl ru.sch))).1 }, 0)
    else portU { u with hh := true, host := (hostL (cutPort (tl p)).1 (isSpecial (tl ru.sch))).1 } (cutPort (tl p)).2.1 by rw [h1.usch]; rfl)
  clear h1 ht
  generalize hsp : isSpecial (tl ru.sch) = sp at *
  have HSP := hide hsp
  clear hsp
  go_enter Tryz.func193, Tryz.ntmps193
  go_wp2_with (first | (go_at_call 112; refine (special_any _ _).mono ?_; rintro e w' ⟨rfl, rfl⟩; rw [HSP.out]) | fail)
  refine (cutPort_any p _ (by omega)).mono ?_
  rintro e w1 ⟨⟨x, y, rfl, hx, hy⟩, hn1⟩
  rw [← hx, ← hy] at HD hcl
  rw [tl_length, tl_length, tl_length] at hcl
  have hxl : x.size ≤ 30000 := by omega
  have hyl : y.size ≤ 30000 := by omega
  obtain ⟨g1, g2, g3⟩ := two_new hn1
  have HUB := hide g1
  have HZ := hide g2
  have HN := hide g3
  clear hx hy hn1 g1 g2 g3 hcl
  generalize (cutPort (tl p)).2.2 = col at *
  by_cases hbad : x.size = 0 ∧ (sp = true ∨ col = true)
  · have HE := hide (HD.out.trans (if_pos ⟨tl_empty hbad.1, hbad.2⟩))
    obtain ⟨hx0, hsc⟩ := hbad
    have hx0' := str_empty hx0
    clear HD hx0
    obtain ⟨z0, z1, z2, z3, z4, z5, z6, z7, z8, z9, z10, z11, z12, z13⟩ := HZ.out.cells
    have zf0 := HZ.out.free 0
    have zf1 := HZ.out.free 1
    have zf2 := HZ.out.free 2
    have zf3 := HZ.out.free 3
    have zf4 := HZ.out.free 4
    have zf5 := HZ.out.free 5
    have zf6 := HZ.out.free 6
    have zf7 := HZ.out.free 7
    have zf8 := HZ.out.free 8
    have zf9 := HZ.out.free 9
    have zf10 := HZ.out.free 10
    have zf11 := HZ.out.free 11
    have zf12 := HZ.out.free 12
    have zf13 := HZ.out.free 13
    cases sp
    · have hcol : col = true := by rcases hsc with h | h; cases h; exact h
      subst hcol
      clear hsc
      go_wp2
      refine ret14 (rb := w.heap.size + 1) Tryz.results193 rfl rfl (RecB.put HZ.out _ _ _ _ _ _ _ _ _ _ _ _ _ _) rfl ⟨⟨rz, [], (by rw [HE.out]; first | done | rfl), (by rw [HE.out]; exact rz_is _), by simp⟩, (put14_below HN.out (by omega) _ _ _ _ _ _ _ _ _ _ _ _ _ _)⟩
    · clear hsc
      go_wp2
      refine ret14 (rb := w.heap.size + 1) Tryz.results193 rfl rfl (RecB.put HZ.out _ _ _ _ _ _ _ _ _ _ _ _ _ _) rfl ⟨⟨rz, [], (by rw [HE.out]; first | done | rfl), (by rw [HE.out]; exact rz_is _), by simp⟩, (put14_below HN.out (by omega) _ _ _ _ _ _ _ _ _ _ _ _ _ _)⟩
  · have HD2 := hide (HD.out.trans (if_neg (fun h => hbad ⟨by have := congrArg List.length h.1; rw [tl_length] at this; simpa using this, h.2⟩)))
    have HHL := hide (hostL_len (l := tl x) (sp := sp) (by rw [tl_length]; exact hxl))
    clear HD
    have step : (x.toList.isEmpty = false) ∨ (x.toList.isEmpty = true ∧ sp = false ∧ col = false) := by
      by_cases hx0 : x.size = 0
      · refine Or.inr ⟨str_empty hx0, ?_, ?_⟩
        · cases sp
          · rfl
          · exact absurd ⟨hx0, Or.inl rfl⟩ hbad
        · cases col
          · rfl
          · exact absurd ⟨hx0, Or.inr rfl⟩ hbad
      · exact Or.inl (str_nonempty hx0)
    have STEP := hide step
    clear step hbad
    have main : Hid (∀ (K : Ending → World → Prop), (∀ (fh : ByteArray) (w2 : World), fh.size ≤ 300000 → tl fh = (hostL (tl x) sp).1 → Nx w1 w2 → K (.returned (.tuple #[.string fh, .int .i64 (hostL (tl x) sp).2])) w2) → Calls Tryz.prog 207 #[.string x, .bool sp] w1 K) := hide (fun K hK => (hostL_any x sp w1 (by omega) (HTB.out.on HN.out)).mono (by
      rintro e w2 ⟨r, rfl, hr, hn⟩
      exact hK r w2 (by rw [← tl_length, hr]; exact HHL.out) hr hn))
    rcases STEP.out with hxe | ⟨hxe, rfl, rfl⟩
    · go_wp2_with fail
      refine main.out _ ?_
      intro fh w2 hfs hfh hn2
      rw [← hfh] at HD2
      have HUB2 := hide (HUB.out.on hn2)
      have HZ2 := hide (HZ.out.on hn2)
      have HN2 := hide (HN.out.then hn2)
      have HU2 := hide (HU.out.on HN2.out)
      clear hfh hn2 main HHL HUB HZ HN
      generalize (hostL (tl x) sp).2 = err at *
      by_cases he : err = 0
      · subst he
        have HD3 := hide (HD2.out.trans (if_neg (by decide)))
        clear HD2
        obtain ⟨a0, a1, a2, a3, a4, a5, a6, a7, a8, a9, a10, a11, a12, a13⟩ := HUB2.out.cells
        have af3 := HUB2.out.free 3
        have af4 := HUB2.out.free 4
        have af5 := HUB2.out.free 5
        have af6 := HUB2.out.free 6
        obtain ⟨z0, z1, z2, z3, z4, z5, z6, z7, z8, z9, z10, z11, z12, z13⟩ := HZ2.out.cells
        have zf0 := HZ2.out.free 0
        have zf1 := HZ2.out.free 1
        have zf2 := HZ2.out.free 2
        have zf3 := HZ2.out.free 3
        have zf4 := HZ2.out.free 4
        have zf5 := HZ2.out.free 5
        have zf6 := HZ2.out.free 6
        have zf7 := HZ2.out.free 7
        have zf8 := HZ2.out.free 8
        have zf9 := HZ2.out.free 9
        have zf10 := HZ2.out.free 10
        have zf11 := HZ2.out.free 11
        have zf12 := HZ2.out.free 12
        have zf13 := HZ2.out.free 13
        by_cases hy0 : y.size = 0
        · have HE := hide (HD3.out.trans (if_pos (tl_empty hy0)))
          have hy0' := str_empty hy0
          clear HD3 hy0
          go_wp2
          refine ret14 (rb := w.heap.size + 1) Tryz.results193 rfl rfl (RecB.put ((HZ2.out.far (by omega) 3 _).far (by omega) 4 _) _ _ _ _ _ _ _ _ _ _ _ _ _ _) rfl ⟨⟨{ ru with hh := true, host := fh }, bs, (by rw [HE.out]; first | done | rfl), ?_, Nat.le_refl _⟩, (put14_below (Below.setCell (Below.setCell HN2.out (Nat.le_refl _) _) (Nat.le_refl _) _) (by omega) _ _ _ _ _ _ _ _ _ _ _ _ _ _)⟩
          exact { eq := by rw [HE.out, ← HU.out.eq]; rfl
                  seg := HU2.out.seg.ks (Ks.then (Ks.then (Ks.then Ks.rfl (ks_set HUB2.out.ty (by decide) 3 _)) (ks_set (HUB2.out.ty.set w.heap.size 3 _) (by decide) 4 _)) (put14_ks ((HZ2.out.ty.set w.heap.size 3 _).set w.heap.size 4 _) (by decide) _ _ _ _ _ _ _ _ _ _ _ _ _ _))
                  lsch := HU2.out.lsch
                  lnam := HU2.out.lnam
                  lpw := HU2.out.lpw
                  lhost := hfs
                  lport := HU2.out.lport
                  lopath := HU2.out.lopath
                  lsegs := HU2.out.lsegs
                  lseg := HU2.out.lseg
                  lq := HU2.out.lq
                  lfr := HU2.out.lfr }
        · have HD4 := hide (HD3.out.trans (if_neg (tl_ne hy0)))
          have hy0' := str_nonempty hy0
          clear HD3 hy0
          have HPD := hide (show portU { u with hh := true, host := tl fh } (tl y) = if (readPort (tl y)).2 = false then (zeroU, 2) else (atPortU { u with hh := true, host := tl fh } (readPort (tl y)).1, 0) from rfl)
          have hrg := readPort_rng (tl y)
          generalize hq : readPort (tl y) = nq at *
          have HQ := hide hq
          clear hq
          obtain ⟨nv, nok⟩ := nq
          simp only at HPD hrg
          cases nok
          · have HE := hide (HD4.out.trans (HPD.out.trans (if_pos rfl)))
            clear HD4 HPD
            go_wp2_with (go_at_call 208; refine (readPort_any _ _ (by omega)).mono ?_; rintro e w' ⟨rfl, rfl⟩; rw [HQ.out])
            refine ret14 (rb := w.heap.size + 1) Tryz.results193 rfl rfl (RecB.put ((HZ2.out.far (by omega) 3 _).far (by omega) 4 _) _ _ _ _ _ _ _ _ _ _ _ _ _ _) rfl ⟨⟨rz, [], (by rw [HE.out]; first | done | rfl), by rw [HE.out]; exact rz_is _, by simp⟩, (put14_below (Below.setCell (Below.setCell HN2.out (Nat.le_refl _) _) (Nat.le_refl _) _) (by omega) _ _ _ _ _ _ _ _ _ _ _ _ _ _)⟩
          · have HE := hide (HD4.out.trans (HPD.out.trans (if_neg (by decide))))
            clear HD4 HPD
            obtain ⟨pn, rfl⟩ : ∃ pn : Nat, nv = (pn : Int) := ⟨nv.toNat, by omega⟩
            have hpn : pn ≤ 65535 := by omega
            go_wp2_with (first | (go_at_call 208; refine (readPort_any _ _ (by omega)).mono ?_; rintro e w' ⟨rfl, rfl⟩; rw [HQ.out]) | fail)
            refine (atPort_any { ru with hh := true, host := fh } pn _).mono ?_
            rintro e w3 ⟨r3, rfl, hr3, hn3⟩
            have HR3 := hide ((((show RcIs w2 { ru with hh := true, host := fh } { u with hh := true, host := tl fh } bs from { HU2.out with eq := by rw [← HU2.out.eq]; rfl, lhost := hfs }).ks (Ks.then (Ks.then Ks.rfl (ks_set HUB2.out.ty (by decide) 3 (.bool true))) (ks_set (HUB2.out.ty.set w.heap.size 3 (.bool true)) (by decide) 4 (.string fh)))).on hn3).atPort hpn)
            rw [← hr3] at HR3
            have HZ3 := hide ((HZ2.out.far (q := w.heap.size) (by omega) 3 (.bool true)).far (q := w.heap.size) (by omega) 4 (.string fh) |>.on hn3)
            have HN3 := hide ((Below.setCell (p := ⟨w.heap.size, 4, none⟩) (Below.setCell (p := ⟨w.heap.size, 3, none⟩) HN2.out (Nat.le_refl _) (.bool true)) (Nat.le_refl _) (.string fh) |> fun h => Nx.then h hn3) : Nx w w3)
            clear hr3 hn3
            clear a0 a1 a2 a3 a4 a5 a6 a7 a8 a9 a10 a11 a12 a13 z0 z1 z2 z3 z4 z5 z6 z7 z8 z9 z10 z11 z12 z13 zf0 zf1 zf2 zf3 zf4 zf5 zf6 zf7 zf8 zf9 zf10 zf11 zf12 zf13 af3 af4 af5 af6
            obtain ⟨z0, z1, z2, z3, z4, z5, z6, z7, z8, z9, z10, z11, z12, z13⟩ := HZ3.out.cells
            have zf0 := HZ3.out.free 0
            have zf1 := HZ3.out.free 1
            have zf2 := HZ3.out.free 2
            have zf3 := HZ3.out.free 3
            have zf4 := HZ3.out.free 4
            have zf5 := HZ3.out.free 5
            have zf6 := HZ3.out.free 6
            have zf7 := HZ3.out.free 7
            have zf8 := HZ3.out.free 8
            have zf9 := HZ3.out.free 9
            have zf10 := HZ3.out.free 10
            have zf11 := HZ3.out.free 11
            have zf12 := HZ3.out.free 12
            have zf13 := HZ3.out.free 13
            go_wp2
            exact ret14 (rb := w.heap.size + 1) Tryz.results193 rfl rfl (RecB.put HZ3.out _ _ _ _ _ _ _ _ _ _ _ _ _ _) rfl ⟨⟨r3, bs, (by rw [HE.out]; first | done | rfl), (by rw [HE.out]; exact HR3.out.ks (Ks.then Ks.rfl (put14_ks HZ3.out.ty (by decide) _ _ _ _ _ _ _ _ _ _ _ _ _ _))), Nat.le_refl _⟩, (put14_below HN3.out (by omega) _ _ _ _ _ _ _ _ _ _ _ _ _ _)⟩
      · have HE := hide (HD2.out.trans (if_pos he))
        have he' : (err != 0) = true := bneT (beq_eq_false_iff_ne.2 he)
        clear HD2 he
        obtain ⟨z0, z1, z2, z3, z4, z5, z6, z7, z8, z9, z10, z11, z12, z13⟩ := HZ2.out.cells
        have zf0 := HZ2.out.free 0
        have zf1 := HZ2.out.free 1
        have zf2 := HZ2.out.free 2
        have zf3 := HZ2.out.free 3
        have zf4 := HZ2.out.free 4
        have zf5 := HZ2.out.free 5
        have zf6 := HZ2.out.free 6
        have zf7 := HZ2.out.free 7
        have zf8 := HZ2.out.free 8
        have zf9 := HZ2.out.free 9
        have zf10 := HZ2.out.free 10
        have zf11 := HZ2.out.free 11
        have zf12 := HZ2.out.free 12
        have zf13 := HZ2.out.free 13
        go_wp2
        refine ret14 (rb := w.heap.size + 1) Tryz.results193 rfl rfl (RecB.put HZ2.out _ _ _ _ _ _ _ _ _ _ _ _ _ _) rfl ⟨⟨rz, [], (by rw [HE.out]; first | done | rfl), (by rw [HE.out]; exact rz_is _), by simp⟩, (put14_below HN2.out (by omega) _ _ _ _ _ _ _ _ _ _ _ _ _ _)⟩
    · go_wp2_with fail
      refine main.out _ ?_
      intro fh w2 hfs hfh hn2
      rw [← hfh] at HD2
      have HUB2 := hide (HUB.out.on hn2)
      have HZ2 := hide (HZ.out.on hn2)
      have HN2 := hide (HN.out.then hn2)
      have HU2 := hide (HU.out.on HN2.out)
      clear hfh hn2 main HHL HUB HZ HN
      generalize (hostL (tl x) false).2 = err at *
      by_cases he : err = 0
      · subst he
        have HD3 := hide (HD2.out.trans (if_neg (by decide)))
        clear HD2
        obtain ⟨a0, a1, a2, a3, a4, a5, a6, a7, a8, a9, a10, a11, a12, a13⟩ := HUB2.out.cells
        have af3 := HUB2.out.free 3
        have af4 := HUB2.out.free 4
        have af5 := HUB2.out.free 5
        have af6 := HUB2.out.free 6
        obtain ⟨z0, z1, z2, z3, z4, z5, z6, z7, z8, z9, z10, z11, z12, z13⟩ := HZ2.out.cells
        have zf0 := HZ2.out.free 0
        have zf1 := HZ2.out.free 1
        have zf2 := HZ2.out.free 2
        have zf3 := HZ2.out.free 3
        have zf4 := HZ2.out.free 4
        have zf5 := HZ2.out.free 5
        have zf6 := HZ2.out.free 6
        have zf7 := HZ2.out.free 7
        have zf8 := HZ2.out.free 8
        have zf9 := HZ2.out.free 9
        have zf10 := HZ2.out.free 10
        have zf11 := HZ2.out.free 11
        have zf12 := HZ2.out.free 12
        have zf13 := HZ2.out.free 13
        by_cases hy0 : y.size = 0
        · have HE := hide (HD3.out.trans (if_pos (tl_empty hy0)))
          have hy0' := str_empty hy0
          clear HD3 hy0
          go_wp2
          refine ret14 (rb := w.heap.size + 1) Tryz.results193 rfl rfl (RecB.put ((HZ2.out.far (by omega) 3 _).far (by omega) 4 _) _ _ _ _ _ _ _ _ _ _ _ _ _ _) rfl ⟨⟨{ ru with hh := true, host := fh }, bs, (by rw [HE.out]; first | done | rfl), ?_, Nat.le_refl _⟩, (put14_below (Below.setCell (Below.setCell HN2.out (Nat.le_refl _) _) (Nat.le_refl _) _) (by omega) _ _ _ _ _ _ _ _ _ _ _ _ _ _)⟩
          exact { eq := by rw [HE.out, ← HU.out.eq]; rfl
                  seg := HU2.out.seg.ks (Ks.then (Ks.then (Ks.then Ks.rfl (ks_set HUB2.out.ty (by decide) 3 _)) (ks_set (HUB2.out.ty.set w.heap.size 3 _) (by decide) 4 _)) (put14_ks ((HZ2.out.ty.set w.heap.size 3 _).set w.heap.size 4 _) (by decide) _ _ _ _ _ _ _ _ _ _ _ _ _ _))
                  lsch := HU2.out.lsch
                  lnam := HU2.out.lnam
                  lpw := HU2.out.lpw
                  lhost := hfs
                  lport := HU2.out.lport
                  lopath := HU2.out.lopath
                  lsegs := HU2.out.lsegs
                  lseg := HU2.out.lseg
                  lq := HU2.out.lq
                  lfr := HU2.out.lfr }
        · have HD4 := hide (HD3.out.trans (if_neg (tl_ne hy0)))
          have hy0' := str_nonempty hy0
          clear HD3 hy0
          have HPD := hide (show portU { u with hh := true, host := tl fh } (tl y) = if (readPort (tl y)).2 = false then (zeroU, 2) else (atPortU { u with hh := true, host := tl fh } (readPort (tl y)).1, 0) from rfl)
          have hrg := readPort_rng (tl y)
          generalize hq : readPort (tl y) = nq at *
          have HQ := hide hq
          clear hq
          obtain ⟨nv, nok⟩ := nq
          simp only at HPD hrg
          cases nok
          · have HE := hide (HD4.out.trans (HPD.out.trans (if_pos rfl)))
            clear HD4 HPD
            go_wp2_with (go_at_call 208; refine (readPort_any _ _ (by omega)).mono ?_; rintro e w' ⟨rfl, rfl⟩; rw [HQ.out])
            refine ret14 (rb := w.heap.size + 1) Tryz.results193 rfl rfl (RecB.put ((HZ2.out.far (by omega) 3 _).far (by omega) 4 _) _ _ _ _ _ _ _ _ _ _ _ _ _ _) rfl ⟨⟨rz, [], (by rw [HE.out]; first | done | rfl), by rw [HE.out]; exact rz_is _, by simp⟩, (put14_below (Below.setCell (Below.setCell HN2.out (Nat.le_refl _) _) (Nat.le_refl _) _) (by omega) _ _ _ _ _ _ _ _ _ _ _ _ _ _)⟩
          · have HE := hide (HD4.out.trans (HPD.out.trans (if_neg (by decide))))
            clear HD4 HPD
            obtain ⟨pn, rfl⟩ : ∃ pn : Nat, nv = (pn : Int) := ⟨nv.toNat, by omega⟩
            have hpn : pn ≤ 65535 := by omega
            go_wp2_with (first | (go_at_call 208; refine (readPort_any _ _ (by omega)).mono ?_; rintro e w' ⟨rfl, rfl⟩; rw [HQ.out]) | fail)
            refine (atPort_any { ru with hh := true, host := fh } pn _).mono ?_
            rintro e w3 ⟨r3, rfl, hr3, hn3⟩
            have HR3 := hide ((((show RcIs w2 { ru with hh := true, host := fh } { u with hh := true, host := tl fh } bs from { HU2.out with eq := by rw [← HU2.out.eq]; rfl, lhost := hfs }).ks (Ks.then (Ks.then Ks.rfl (ks_set HUB2.out.ty (by decide) 3 (.bool true))) (ks_set (HUB2.out.ty.set w.heap.size 3 (.bool true)) (by decide) 4 (.string fh)))).on hn3).atPort hpn)
            rw [← hr3] at HR3
            have HZ3 := hide ((HZ2.out.far (q := w.heap.size) (by omega) 3 (.bool true)).far (q := w.heap.size) (by omega) 4 (.string fh) |>.on hn3)
            have HN3 := hide ((Below.setCell (p := ⟨w.heap.size, 4, none⟩) (Below.setCell (p := ⟨w.heap.size, 3, none⟩) HN2.out (Nat.le_refl _) (.bool true)) (Nat.le_refl _) (.string fh) |> fun h => Nx.then h hn3) : Nx w w3)
            clear hr3 hn3
            clear a0 a1 a2 a3 a4 a5 a6 a7 a8 a9 a10 a11 a12 a13 z0 z1 z2 z3 z4 z5 z6 z7 z8 z9 z10 z11 z12 z13 zf0 zf1 zf2 zf3 zf4 zf5 zf6 zf7 zf8 zf9 zf10 zf11 zf12 zf13 af3 af4 af5 af6
            obtain ⟨z0, z1, z2, z3, z4, z5, z6, z7, z8, z9, z10, z11, z12, z13⟩ := HZ3.out.cells
            have zf0 := HZ3.out.free 0
            have zf1 := HZ3.out.free 1
            have zf2 := HZ3.out.free 2
            have zf3 := HZ3.out.free 3
            have zf4 := HZ3.out.free 4
            have zf5 := HZ3.out.free 5
            have zf6 := HZ3.out.free 6
            have zf7 := HZ3.out.free 7
            have zf8 := HZ3.out.free 8
            have zf9 := HZ3.out.free 9
            have zf10 := HZ3.out.free 10
            have zf11 := HZ3.out.free 11
            have zf12 := HZ3.out.free 12
            have zf13 := HZ3.out.free 13
            go_wp2
            exact ret14 (rb := w.heap.size + 1) Tryz.results193 rfl rfl (RecB.put HZ3.out _ _ _ _ _ _ _ _ _ _ _ _ _ _) rfl ⟨⟨r3, bs, (by rw [HE.out]; first | done | rfl), (by rw [HE.out]; exact HR3.out.ks (Ks.then Ks.rfl (put14_ks HZ3.out.ty (by decide) _ _ _ _ _ _ _ _ _ _ _ _ _ _))), Nat.le_refl _⟩, (put14_below HN3.out (by omega) _ _ _ _ _ _ _ _ _ _ _ _ _ _)⟩
      · have HE := hide (HD2.out.trans (if_pos he))
        have he' : (err != 0) = true := bneT (beq_eq_false_iff_ne.2 he)
        clear HD2 he
        obtain ⟨z0, z1, z2, z3, z4, z5, z6, z7, z8, z9, z10, z11, z12, z13⟩ := HZ2.out.cells
        have zf0 := HZ2.out.free 0
        have zf1 := HZ2.out.free 1
        have zf2 := HZ2.out.free 2
        have zf3 := HZ2.out.free 3
        have zf4 := HZ2.out.free 4
        have zf5 := HZ2.out.free 5
        have zf6 := HZ2.out.free 6
        have zf7 := HZ2.out.free 7
        have zf8 := HZ2.out.free 8
        have zf9 := HZ2.out.free 9
        have zf10 := HZ2.out.free 10
        have zf11 := HZ2.out.free 11
        have zf12 := HZ2.out.free 12
        have zf13 := HZ2.out.free 13
        go_wp2
        refine ret14 (rb := w.heap.size + 1) Tryz.results193 rfl rfl (RecB.put HZ2.out _ _ _ _ _ _ _ _ _ _ _ _ _ _) rfl ⟨⟨rz, [], (by rw [HE.out]; first | done | rfl), (by rw [HE.out]; exact rz_is _), by simp⟩, (put14_below HN2.out (by omega) _ _ _ _ _ _ _ _ _ _ _ _ _ _)⟩
end Go.Proofs.YtchkhibgbnhjpaaGreatDoor
