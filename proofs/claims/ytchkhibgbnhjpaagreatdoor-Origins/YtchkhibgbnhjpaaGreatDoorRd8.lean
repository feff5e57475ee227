import Derived.Test.YtchkhibgbnhjpaaGreatDoorRd7
namespace Go.Proofs.YtchkhibgbnhjpaaGreatDoor
open Go.RowKit

theorem bcutLast_len (n : Int) (l : List UInt8) : (bcutLast n l).1.length ≤ l.length ∧ (bcutLast n l).2.1.length ≤ l.length := by
  induction l with
  | nil => simp [bcutLast]
  | cons c r ih =>
    rw [bcutLast]
    split
    · simp only [List.length_cons]; omega
    · split
      · simp
      · simp
/-- reading.readAuthority -/
def encU (l : List UInt8) : List UInt8 := encB (tl (setBA 5)) (clean l)
def authEnd (p : U × Int) (sch behind : List UInt8) (b : Bool) : U × Int :=
  if p.2 ≠ 0 then (zeroU, p.2) else if b = true then ({ p.1 with segs := readL behind sch }, 0) else (p.1, 0)
def authorityU (u : U) (t : List UInt8) : U × Int :=
  if (bcutLast 64 (bcut (slB (isSpecial u.sch)) t).1).2.2 = true ∧ (bcutLast 64 (bcut (slB (isSpecial u.sch)) t).1).2.1 = [] then (zeroU, 2)
  else authEnd (placeU { u with nam := encU (bcut (isB 58) (bcutLast 64 (bcut (slB (isSpecial u.sch)) t).1).1).1, pw := encU (bcut (isB 58) (bcutLast 64 (bcut (slB (isSpecial u.sch)) t).1).1).2.1 } (bcutLast 64 (bcut (slB (isSpecial u.sch)) t).1).2.1)
    u.sch (bcut (slB (isSpecial u.sch)) t).2.1 (isSpecial u.sch || (bcut (slB (isSpecial u.sch)) t).2.2)
set_option maxHeartbeats 16000000 in
theorem authorityU_any (ru : Rc) (u : U) (bs : List ByteArray) (t : ByteArray) (w : World) (h1 : RcIs w ru u bs) (ht : Tb w) (hl : t.size ≤ 30000) :
    Calls Tryz.prog 156 #[.agg #[.string ru.sch, .string ru.nam, .string ru.pw, .bool ru.hh, .string ru.host, .bool ru.hp, .int .i64 (ru.port : Int), .bool ru.op, .string ru.opath, .slice ru.so ru.sn ru.sc, .bool ru.hq, .string ru.q, .bool ru.hf, .string ru.fr], .string t] w fun e w' => ResIs e w' (authorityU u (tl t)) (bs.length + 30001) ∧ Nx w w' := by
  have HU := hide h1
  have HTB := hide ht
  have HD := hide (show authorityU u (tl t) = if (bcutLast 64 (bcut (slB (isSpecial (tl ru.sch))) (tl t)).1).2.2 = true ∧ (bcutLast 64 (bcut (slB (isSpecial (tl ru.sch))) (tl t)).1).2.1 = [] then (zeroU, 2)
    else authEnd (placeU { u with nam := encU (bcut (isB 58) (bcutLast 64 (bcut (slB (isSpecial (tl ru.sch))) (tl t)).1).1).1, pw := encU (bcut (isB 58) (bcutLast 64 (bcut (slB (isSpecial (tl ru.sch))) (tl t)).1).1).2.1 } (bcutLast 64 (bcut (slB (isSpecial (tl ru.sch))) (tl t)).1).2.1)
    (tl ru.sch) (bcut (slB (isSpecial (tl ru.sch))) (tl t)).2.1 (isSpecial (tl ru.sch) || (bcut (slB (isSpecial (tl ru.sch))) (tl t)).2.2) by rw [h1.usch]; rfl)
  clear h1 ht
  generalize hsp : isSpecial (tl ru.sch) = sp at *
  have HSP := hide hsp
  clear hsp
  have hc1 := bcut_len (slB sp) (tl t)
  go_enter Tryz.func156, Tryz.ntmps156
  go_wp2_with (first | (go_at_call 112; refine (special_any _ _).mono ?_; rintro e w' ⟨rfl, rfl⟩; rw [HSP.out]) | fail)
  refine (cutSlash_any t sp _ (small_len (by omega))).mono ?_
  rintro e w1 ⟨⟨ah, be, rfl, hah, hbe⟩, hn1⟩
  rw [← hah, ← hbe] at HD hc1
  rw [tl_length, tl_length, tl_length] at hc1
  have hal : ah.size ≤ 30000 := by omega
  have hbl : be.size ≤ 30000 := by omega
  obtain ⟨g1, g2, g3⟩ := two_new hn1
  have HUB := hide g1
  have HZ := hide g2
  have HN := hide g3
  clear hah hbe hn1 g1 g2 g3 hc1
  generalize (bcut (slB sp) (tl t)).2.2 = sl at *
  have hc2 := bcutLast_len 64 (tl ah)
  go_wp2_with fail
  refine (acutLast_any ah 64 _ (small_len (by omega))).mono ?_
  rintro e w2 ⟨⟨us, pl, rfl, hus, hpl⟩, hn2⟩
  rw [← hus, ← hpl] at HD hc2
  rw [tl_length, tl_length, tl_length] at hc2
  have hul : us.size ≤ 30000 := by omega
  have hpll : pl.size ≤ 30000 := by omega
  have HUB2 := hide (HUB.out.on hn2)
  have HZ2 := hide (HZ.out.on hn2)
  have HN2 := hide (HN.out.then hn2)
  clear hus hpl hn2 hc2 HUB HZ HN
  generalize (bcutLast 64 (tl ah)).2.2 = at_ at *
  by_cases hbad : at_ = true ∧ pl.size = 0
  · have HE := hide (HD.out.trans (if_pos ⟨hbad.1, tl_empty hbad.2⟩))
    obtain ⟨rfl, hp0⟩ := hbad
    have hp0' := str_empty hp0
    clear HD hp0
    obtain ⟨z0, z1, z2, z3, z4, z5, z6, z7, z8, z9, z10, z11, z12, z13⟩ := HZ2.out.cells
    have zf0 := HZ2.out.free 0
    have zf1 := HZ2.out.free 1
    have zf2 := HZ2.out.free 2
    have zf3 := HZ2.out.free 3
    have zf4 := HZ2.out.free 4
    have zf5 := HZ2.out.free 5
    have zf6 := HZ2.out.free 6
    have zf7 := HZ2.out.free 7
    have zf8 := HZ2.out.free 8
    have zf9 := HZ2.out.free 9
    have zf10 := HZ2.out.free 10
    have zf11 := HZ2.out.free 11
    have zf12 := HZ2.out.free 12
    have zf13 := HZ2.out.free 13
    go_wp2
    refine ret14 (rb := w.heap.size + 1) Tryz.results156 rfl rfl (RecB.put HZ2.out _ _ _ _ _ _ _ _ _ _ _ _ _ _) rfl ⟨⟨rz, [], (by rw [HE.out]; first | done | rfl), (by rw [HE.out]; exact rz_is _), by simp⟩, (put14_below HN2.out (by omega) _ _ _ _ _ _ _ _ _ _ _ _ _ _)⟩
  · have HD2 := hide (HD.out.trans (if_neg (fun h => hbad ⟨h.1, by have := congrArg List.length h.2; rw [tl_length] at this; simpa using this⟩)))
    clear HD
    have step : at_ = false ∨ (at_ = true ∧ pl.toList.isEmpty = false) := by
      cases at_
      · exact Or.inl rfl
      · exact Or.inr ⟨rfl, str_nonempty (fun h => hbad ⟨rfl, h⟩)⟩
    have STEP := hide step
    clear step hbad
    have hc3 := bcut_len (isB 58) (tl us)
    have main : Hid (∀ (K : Ending → World → Prop), (∀ (nm pw : ByteArray) (c : Bool) (w3 : World), nm.size ≤ 30000 → pw.size ≤ 30000 → tl nm = (bcut (isB 58) (tl us)).1 → tl pw = (bcut (isB 58) (tl us)).2.1 → Nx w2 w3 → K (.returned (.tuple #[.string nm, .string pw, .bool c])) w3) → Calls Tryz.prog 85 #[.string us, .int .u8 58] w2 K) := hide (fun K hK => (acut_any us 58 w2 (small_len (by omega))).mono (by
      rintro e w3 ⟨⟨a, b, rfl, ha, hb⟩, hn⟩
      rw [← ha, ← hb, tl_length, tl_length, tl_length] at hc3
      exact hK a b _ w3 (by omega) (by omega) ha hb hn))
    rcases STEP.out with rfl | ⟨rfl, hp0'⟩
    · go_wp2_with fail
      refine main.out _ ?_
      intro nm pw cb w3 hnl hpl hnm hpw hn3
      rw [← hnm, ← hpw] at HD2
      have HUB3 := hide (HUB2.out.on hn3)
      have HZ3 := hide (HZ2.out.on hn3)
      have HN3 := hide (HN2.out.then hn3)
      clear hnm hpw hn3 main HUB2 HZ2 HN2 hc3
      go_wp2_with fail
      refine (encode_any nm 5 _ (by omega)).mono ?_
      rintro e w4 ⟨en, rfl, hen, hn4⟩
      have hel : en.size ≤ 300000 := by rw [← tl_length, hen]; exact enc_short _ _ (by rw [tl_length]; exact hnl)
      have HEN := hide (show encU (tl nm) = tl en from hen.symm)
      have HUB4 := hide (HUB3.out.on hn4)
      have HZ4 := hide (HZ3.out.on hn4)
      have HN4 := hide (HN3.out.then hn4)
      clear hen hn4 HUB3 HZ3 HN3
      rw [HEN.out] at HD2
      obtain ⟨a0, a1, a2, a3, a4, a5, a6, a7, a8, a9, a10, a11, a12, a13⟩ := HUB4.out.cells
      have af1 := HUB4.out.free 1
      go_wp2_with fail
      refine (encode_any pw 5 _ (by omega)).mono ?_
      rintro e w5 ⟨ep, rfl, hep, hn5⟩
      have hepl : ep.size ≤ 300000 := by rw [← tl_length, hep]; exact enc_short _ _ (by rw [tl_length]; exact hpl)
      have HEP := hide (show encU (tl pw) = tl ep from hep.symm)
      have HUB5 := hide ((HUB4.out.s1 en).on hn5)
      have HZ5 := hide ((HZ4.out.far (q := w.heap.size) (by omega) 1 (.string en)).on hn5)
      have HN5 := hide (Nx.then (show Nx w _ from Below.setCell (p := ⟨w.heap.size, 1, none⟩) HN4.out (Nat.le_refl _) (.string en)) hn5)
      clear a0 a1 a2 a3 a4 a5 a6 a7 a8 a9 a10 a11 a12 a13 af1
      clear hep hn5 HUB4 HZ4 HN4
      rw [HEP.out] at HD2
      obtain ⟨a0, a1, a2, a3, a4, a5, a6, a7, a8, a9, a10, a11, a12, a13⟩ := HUB5.out.cells
      have af2 := HUB5.out.free 2
      have HUB6 := hide (HUB5.out.s2 ep)
      have HZ6 := hide (HZ5.out.far (q := w.heap.size) (by omega) 2 (.string ep))
      have HN6 := hide (show Nx w (w5.setCell ⟨w.heap.size, 2, none⟩ (.string ep)) from Below.setCell (p := ⟨w.heap.size, 2, none⟩) HN5.out (Nat.le_refl _) (.string ep))
      have HRC := hide (show RcIs (w5.setCell ⟨w.heap.size, 2, none⟩ (.string ep)) { ru with nam := en, pw := ep } { u with nam := tl en, pw := tl ep } bs from { HU.out.on HN6.out with eq := by rw [← HU.out.eq]; rfl, lnam := hel, lpw := hepl })
      go_wp2_with fail
      refine (placeU_any { ru with nam := en, pw := ep } _ bs pl _ HRC.out (HTB.out.on HN6.out) hpll).mono ?_
      rintro e w7 ⟨⟨rp, ps, rfl, hrp, hpsl⟩, hn7⟩
      have HUB7 := hide (HUB6.out.on hn7)
      have HZ7 := hide (HZ6.out.on hn7)
      have HN7 := hide (HN6.out.then hn7)
      have HP := hide hrp
      clear a0 a1 a2 a3 a4 a5 a6 a7 a8 a9 a10 a11 a12 a13 af2
      clear hrp hn7 HUB5 HZ5 HN5 HUB6 HZ6 HN6 HRC
      have hlz : w.heap.size + 1 < w7.heap.size := (Array.getElem?_eq_some_iff.1 HZ7.out).1
      have hlu : w.heap.size < w7.heap.size := by omega
      generalize placeU { u with nam := tl en, pw := tl ep } (tl pl) = pq at *
      obtain ⟨pu, err⟩ := pq
      simp only at HP
      have HPD := hide (show authEnd (pu, err) (tl ru.sch) (tl be) (sp || sl) = if err ≠ 0 then (zeroU, err) else if (sp || sl) = true then ({ pu with segs := readL (tl be) (tl ru.sch) }, 0) else (pu, 0) from rfl)
      obtain ⟨a0, a1, a2, a3, a4, a5, a6, a7, a8, a9, a10, a11, a12, a13⟩ := HUB7.out.cells
      obtain ⟨z0, z1, z2, z3, z4, z5, z6, z7, z8, z9, z10, z11, z12, z13⟩ := HZ7.out.cells
      have zf0 := HZ7.out.free 0
      have zf1 := HZ7.out.free 1
      have zf2 := HZ7.out.free 2
      have zf3 := HZ7.out.free 3
      have zf4 := HZ7.out.free 4
      have zf5 := HZ7.out.free 5
      have zf6 := HZ7.out.free 6
      have zf7 := HZ7.out.free 7
      have zf8 := HZ7.out.free 8
      have zf9 := HZ7.out.free 9
      have zf10 := HZ7.out.free 10
      have zf11 := HZ7.out.free 11
      have zf12 := HZ7.out.free 12
      have zf13 := HZ7.out.free 13
      by_cases he : err = 0
      · subst he
        have HD3 := hide (HD2.out.trans (HPD.out.trans (if_neg (by decide))))
        clear HD2 HPD
        by_cases hsl : (sp || sl) = true
        · have HE := hide (HD3.out.trans (if_pos hsl))
          clear HD3
          have two : sp = true ∨ (sp = false ∧ sl = true) := by
            cases sp
            · exact Or.inr ⟨rfl, by simpa using hsl⟩
            · exact Or.inl rfl
          clear hsl
          rcases two with rfl | ⟨rfl, rfl⟩
          · go_wp2_with fail
            refine (pread_any be ru.sch _ (by omega)).mono ?_
            rintro e w8 ⟨v8, ds, rfl, ho, hds, hdl, hn8⟩
            obtain ⟨ao, n, cap, rfl⟩ := ownS_open' ho
            have HO := hide (own_row ho)
            have HDS := hide hds
            have HSH := hide (short_map hds (readL_short (by rw [tl_length]; exact hbl)))
            have HPB := hide ((recB_new w7 rp).on hn8)
            have HZ8 := hide ((HZ7.out.on (Nx.rfl.alloc _)).on hn8)
            have HN8 := hide ((HN7.out.alloc _).then hn8)
            clear a0 a1 a2 a3 a4 a5 a6 a7 a8 a9 a10 a11 a12 a13 z0 z1 z2 z3 z4 z5 z6 z7 z8 z9 z10 z11 z12 z13 zf0 zf1 zf2 zf3 zf4 zf5 zf6 zf7 zf8 zf9 zf10 zf11 zf12 zf13
            clear ho hds hn8
            obtain ⟨a0, a1, a2, a3, a4, a5, a6, a7, a8, a9, a10, a11, a12, a13⟩ := HPB.out.cells
            have af9 := HPB.out.free 9
            obtain ⟨z0, z1, z2, z3, z4, z5, z6, z7, z8, z9, z10, z11, z12, z13⟩ := HZ8.out.cells
            have zf0 := HZ8.out.free 0
            have zf1 := HZ8.out.free 1
            have zf2 := HZ8.out.free 2
            have zf3 := HZ8.out.free 3
            have zf4 := HZ8.out.free 4
            have zf5 := HZ8.out.free 5
            have zf6 := HZ8.out.free 6
            have zf7 := HZ8.out.free 7
            have zf8 := HZ8.out.free 8
            have zf9 := HZ8.out.free 9
            have zf10 := HZ8.out.free 10
            have zf11 := HZ8.out.free 11
            have zf12 := HZ8.out.free 12
            have zf13 := HZ8.out.free 13
            go_wp2
            refine ret14 (rb := w.heap.size + 1) Tryz.results156 rfl rfl (RecB.put (HZ8.out.far (by omega) 9 _) _ _ _ _ _ _ _ _ _ _ _ _ _ _) rfl ⟨⟨{ rp with so := ao, sn := n, sc := cap }, ds, (by rw [HE.out]; first | done | rfl), ?_, by omega⟩, (put14_below (Below.setCell HN8.out (by show w.heap.size ≤ w7.heap.size; omega) _) (by omega) _ _ _ _ _ _ _ _ _ _ _ _ _ _)⟩
            exact { eq := by rw [HE.out, ← HP.out.eq]; simp only [Rc.u]; rw [HDS.out]
                    seg := HO.out.ks (Ks.then (Ks.then Ks.rfl (ks_set HPB.out.ty (by decide) 9 _)) (put14_ks (HZ8.out.ty.set w7.heap.size 9 _) (by decide) _ _ _ _ _ _ _ _ _ _ _ _ _ _))
                    lsch := HP.out.lsch
                    lnam := HP.out.lnam
                    lpw := HP.out.lpw
                    lhost := HP.out.lhost
                    lport := HP.out.lport
                    lopath := HP.out.lopath
                    lsegs := by omega
                    lseg := HSH.out
                    lq := HP.out.lq
                    lfr := HP.out.lfr }
          · go_wp2_with fail
            refine (pread_any be ru.sch _ (by omega)).mono ?_
            rintro e w8 ⟨v8, ds, rfl, ho, hds, hdl, hn8⟩
            obtain ⟨ao, n, cap, rfl⟩ := ownS_open' ho
            have HO := hide (own_row ho)
            have HDS := hide hds
            have HSH := hide (short_map hds (readL_short (by rw [tl_length]; exact hbl)))
            have HPB := hide ((recB_new w7 rp).on hn8)
            have HZ8 := hide ((HZ7.out.on (Nx.rfl.alloc _)).on hn8)
            have HN8 := hide ((HN7.out.alloc _).then hn8)
            clear a0 a1 a2 a3 a4 a5 a6 a7 a8 a9 a10 a11 a12 a13 z0 z1 z2 z3 z4 z5 z6 z7 z8 z9 z10 z11 z12 z13 zf0 zf1 zf2 zf3 zf4 zf5 zf6 zf7 zf8 zf9 zf10 zf11 zf12 zf13
            clear ho hds hn8
            obtain ⟨a0, a1, a2, a3, a4, a5, a6, a7, a8, a9, a10, a11, a12, a13⟩ := HPB.out.cells
            have af9 := HPB.out.free 9
            obtain ⟨z0, z1, z2, z3, z4, z5, z6, z7, z8, z9, z10, z11, z12, z13⟩ := HZ8.out.cells
            have zf0 := HZ8.out.free 0
            have zf1 := HZ8.out.free 1
            have zf2 := HZ8.out.free 2
            have zf3 := HZ8.out.free 3
            have zf4 := HZ8.out.free 4
            have zf5 := HZ8.out.free 5
            have zf6 := HZ8.out.free 6
            have zf7 := HZ8.out.free 7
            have zf8 := HZ8.out.free 8
            have zf9 := HZ8.out.free 9
            have zf10 := HZ8.out.free 10
            have zf11 := HZ8.out.free 11
            have zf12 := HZ8.out.free 12
            have zf13 := HZ8.out.free 13
            go_wp2
            refine ret14 (rb := w.heap.size + 1) Tryz.results156 rfl rfl (RecB.put (HZ8.out.far (by omega) 9 _) _ _ _ _ _ _ _ _ _ _ _ _ _ _) rfl ⟨⟨{ rp with so := ao, sn := n, sc := cap }, ds, (by rw [HE.out]; first | done | rfl), ?_, by omega⟩, (put14_below (Below.setCell HN8.out (by show w.heap.size ≤ w7.heap.size; omega) _) (by omega) _ _ _ _ _ _ _ _ _ _ _ _ _ _)⟩
            exact { eq := by rw [HE.out, ← HP.out.eq]; simp only [Rc.u]; rw [HDS.out]
                    seg := HO.out.ks (Ks.then (Ks.then Ks.rfl (ks_set HPB.out.ty (by decide) 9 _)) (put14_ks (HZ8.out.ty.set w7.heap.size 9 _) (by decide) _ _ _ _ _ _ _ _ _ _ _ _ _ _))
                    lsch := HP.out.lsch
                    lnam := HP.out.lnam
                    lpw := HP.out.lpw
                    lhost := HP.out.lhost
                    lport := HP.out.lport
                    lopath := HP.out.lopath
                    lsegs := by omega
                    lseg := HSH.out
                    lq := HP.out.lq
                    lfr := HP.out.lfr }
        · have HE := hide (HD3.out.trans (if_neg hsl))
          clear HD3
          obtain ⟨rfl, rfl⟩ : sp = false ∧ sl = false := by cases sp <;> cases sl <;> simp_all
          clear hsl
          go_wp2
          exact ret14 (rb := w.heap.size + 1) Tryz.results156 rfl rfl ((RecB.put HZ7.out _ _ _ _ _ _ _ _ _ _ _ _ _ _).on (Nx.rfl.alloc _)) rfl ⟨⟨rp, ps, (by rw [HE.out]; first | done | rfl), (by rw [HE.out]; exact HP.out.ks (Ks.then (put14_ks HZ7.out.ty (by decide) _ _ _ _ _ _ _ _ _ _ _ _ _ _) (Nx.ks (Nx.rfl.alloc _)))), by omega⟩, Nx.alloc (put14_below HN7.out (by omega) _ _ _ _ _ _ _ _ _ _ _ _ _ _) _⟩
      · have HE := hide (HD2.out.trans (HPD.out.trans (if_pos he)))
        have he' : (err != 0) = true := bneT (beq_eq_false_iff_ne.2 he)
        clear HD2 HPD he
        go_wp2
        exact ret14 (rb := w.heap.size + 1) Tryz.results156 rfl rfl ((RecB.put HZ7.out _ _ _ _ _ _ _ _ _ _ _ _ _ _).on (Nx.rfl.alloc _)) rfl ⟨⟨rz, [], (by rw [HE.out]; first | done | rfl), (by rw [HE.out]; exact rz_is _), by simp⟩, Nx.alloc (put14_below HN7.out (by omega) _ _ _ _ _ _ _ _ _ _ _ _ _ _) _⟩
    · go_wp2_with fail
      refine main.out _ ?_
      intro nm pw cb w3 hnl hpl hnm hpw hn3
      rw [← hnm, ← hpw] at HD2
      have HUB3 := hide (HUB2.out.on hn3)
      have HZ3 := hide (HZ2.out.on hn3)
      have HN3 := hide (HN2.out.then hn3)
      clear hnm hpw hn3 main HUB2 HZ2 HN2 hc3
      go_wp2_with fail
      refine (encode_any nm 5 _ (by omega)).mono ?_
      rintro e w4 ⟨en, rfl, hen, hn4⟩
      have hel : en.size ≤ 300000 := by rw [← tl_length, hen]; exact enc_short _ _ (by rw [tl_length]; exact hnl)
      have HEN := hide (show encU (tl nm) = tl en from hen.symm)
      have HUB4 := hide (HUB3.out.on hn4)
      have HZ4 := hide (HZ3.out.on hn4)
      have HN4 := hide (HN3.out.then hn4)
      clear hen hn4 HUB3 HZ3 HN3
      rw [HEN.out] at HD2
      obtain ⟨a0, a1, a2, a3, a4, a5, a6, a7, a8, a9, a10, a11, a12, a13⟩ := HUB4.out.cells
      have af1 := HUB4.out.free 1
      go_wp2_with fail
      refine (encode_any pw 5 _ (by omega)).mono ?_
      rintro e w5 ⟨ep, rfl, hep, hn5⟩
      have hepl : ep.size ≤ 300000 := by rw [← tl_length, hep]; exact enc_short _ _ (by rw [tl_length]; exact hpl)
      have HEP := hide (show encU (tl pw) = tl ep from hep.symm)
      have HUB5 := hide ((HUB4.out.s1 en).on hn5)
      have HZ5 := hide ((HZ4.out.far (q := w.heap.size) (by omega) 1 (.string en)).on hn5)
      have HN5 := hide (Nx.then (show Nx w _ from Below.setCell (p := ⟨w.heap.size, 1, none⟩) HN4.out (Nat.le_refl _) (.string en)) hn5)
      clear a0 a1 a2 a3 a4 a5 a6 a7 a8 a9 a10 a11 a12 a13 af1
      clear hep hn5 HUB4 HZ4 HN4
      rw [HEP.out] at HD2
      obtain ⟨a0, a1, a2, a3, a4, a5, a6, a7, a8, a9, a10, a11, a12, a13⟩ := HUB5.out.cells
      have af2 := HUB5.out.free 2
      have HUB6 := hide (HUB5.out.s2 ep)
      have HZ6 := hide (HZ5.out.far (q := w.heap.size) (by omega) 2 (.string ep))
      have HN6 := hide (show Nx w (w5.setCell ⟨w.heap.size, 2, none⟩ (.string ep)) from Below.setCell (p := ⟨w.heap.size, 2, none⟩) HN5.out (Nat.le_refl _) (.string ep))
      have HRC := hide (show RcIs (w5.setCell ⟨w.heap.size, 2, none⟩ (.string ep)) { ru with nam := en, pw := ep } { u with nam := tl en, pw := tl ep } bs from { HU.out.on HN6.out with eq := by rw [← HU.out.eq]; rfl, lnam := hel, lpw := hepl })
      go_wp2_with fail
      refine (placeU_any { ru with nam := en, pw := ep } _ bs pl _ HRC.out (HTB.out.on HN6.out) hpll).mono ?_
      rintro e w7 ⟨⟨rp, ps, rfl, hrp, hpsl⟩, hn7⟩
      have HUB7 := hide (HUB6.out.on hn7)
      have HZ7 := hide (HZ6.out.on hn7)
      have HN7 := hide (HN6.out.then hn7)
      have HP := hide hrp
      clear a0 a1 a2 a3 a4 a5 a6 a7 a8 a9 a10 a11 a12 a13 af2
      clear hrp hn7 HUB5 HZ5 HN5 HUB6 HZ6 HN6 HRC
      have hlz : w.heap.size + 1 < w7.heap.size := (Array.getElem?_eq_some_iff.1 HZ7.out).1
      have hlu : w.heap.size < w7.heap.size := by omega
      generalize placeU { u with nam := tl en, pw := tl ep } (tl pl) = pq at *
      obtain ⟨pu, err⟩ := pq
      simp only at HP
      have HPD := hide (show authEnd (pu, err) (tl ru.sch) (tl be) (sp || sl) = if err ≠ 0 then (zeroU, err) else if (sp || sl) = true then ({ pu with segs := readL (tl be) (tl ru.sch) }, 0) else (pu, 0) from rfl)
      obtain ⟨a0, a1, a2, a3, a4, a5, a6, a7, a8, a9, a10, a11, a12, a13⟩ := HUB7.out.cells
      obtain ⟨z0, z1, z2, z3, z4, z5, z6, z7, z8, z9, z10, z11, z12, z13⟩ := HZ7.out.cells
      have zf0 := HZ7.out.free 0
      have zf1 := HZ7.out.free 1
      have zf2 := HZ7.out.free 2
      have zf3 := HZ7.out.free 3
      have zf4 := HZ7.out.free 4
      have zf5 := HZ7.out.free 5
      have zf6 := HZ7.out.free 6
      have zf7 := HZ7.out.free 7
      have zf8 := HZ7.out.free 8
      have zf9 := HZ7.out.free 9
      have zf10 := HZ7.out.free 10
      have zf11 := HZ7.out.free 11
      have zf12 := HZ7.out.free 12
      have zf13 := HZ7.out.free 13
      by_cases he : err = 0
      · subst he
        have HD3 := hide (HD2.out.trans (HPD.out.trans (if_neg (by decide))))
        clear HD2 HPD
        by_cases hsl : (sp || sl) = true
        · have HE := hide (HD3.out.trans (if_pos hsl))
          clear HD3
          have two : sp = true ∨ (sp = false ∧ sl = true) := by
            cases sp
            · exact Or.inr ⟨rfl, by simpa using hsl⟩
            · exact Or.inl rfl
          clear hsl
          rcases two with rfl | ⟨rfl, rfl⟩
          · go_wp2_with fail
            refine (pread_any be ru.sch _ (by omega)).mono ?_
            rintro e w8 ⟨v8, ds, rfl, ho, hds, hdl, hn8⟩
            obtain ⟨ao, n, cap, rfl⟩ := ownS_open' ho
            have HO := hide (own_row ho)
            have HDS := hide hds
            have HSH := hide (short_map hds (readL_short (by rw [tl_length]; exact hbl)))
            have HPB := hide ((recB_new w7 rp).on hn8)
            have HZ8 := hide ((HZ7.out.on (Nx.rfl.alloc _)).on hn8)
            have HN8 := hide ((HN7.out.alloc _).then hn8)
            clear a0 a1 a2 a3 a4 a5 a6 a7 a8 a9 a10 a11 a12 a13 z0 z1 z2 z3 z4 z5 z6 z7 z8 z9 z10 z11 z12 z13 zf0 zf1 zf2 zf3 zf4 zf5 zf6 zf7 zf8 zf9 zf10 zf11 zf12 zf13
            clear ho hds hn8
            obtain ⟨a0, a1, a2, a3, a4, a5, a6, a7, a8, a9, a10, a11, a12, a13⟩ := HPB.out.cells
            have af9 := HPB.out.free 9
            obtain ⟨z0, z1, z2, z3, z4, z5, z6, z7, z8, z9, z10, z11, z12, z13⟩ := HZ8.out.cells
            have zf0 := HZ8.out.free 0
            have zf1 := HZ8.out.free 1
            have zf2 := HZ8.out.free 2
            have zf3 := HZ8.out.free 3
            have zf4 := HZ8.out.free 4
            have zf5 := HZ8.out.free 5
            have zf6 := HZ8.out.free 6
            have zf7 := HZ8.out.free 7
            have zf8 := HZ8.out.free 8
            have zf9 := HZ8.out.free 9
            have zf10 := HZ8.out.free 10
            have zf11 := HZ8.out.free 11
            have zf12 := HZ8.out.free 12
            have zf13 := HZ8.out.free 13
            go_wp2
            refine ret14 (rb := w.heap.size + 1) Tryz.results156 rfl rfl (RecB.put (HZ8.out.far (by omega) 9 _) _ _ _ _ _ _ _ _ _ _ _ _ _ _) rfl ⟨⟨{ rp with so := ao, sn := n, sc := cap }, ds, (by rw [HE.out]; first | done | rfl), ?_, by omega⟩, (put14_below (Below.setCell HN8.out (by show w.heap.size ≤ w7.heap.size; omega) _) (by omega) _ _ _ _ _ _ _ _ _ _ _ _ _ _)⟩
            exact { eq := by rw [HE.out, ← HP.out.eq]; simp only [Rc.u]; rw [HDS.out]
                    seg := HO.out.ks (Ks.then (Ks.then Ks.rfl (ks_set HPB.out.ty (by decide) 9 _)) (put14_ks (HZ8.out.ty.set w7.heap.size 9 _) (by decide) _ _ _ _ _ _ _ _ _ _ _ _ _ _))
                    lsch := HP.out.lsch
                    lnam := HP.out.lnam
                    lpw := HP.out.lpw
                    lhost := HP.out.lhost
                    lport := HP.out.lport
                    lopath := HP.out.lopath
                    lsegs := by omega
                    lseg := HSH.out
                    lq := HP.out.lq
                    lfr := HP.out.lfr }
          · go_wp2_with fail
            refine (pread_any be ru.sch _ (by omega)).mono ?_
            rintro e w8 ⟨v8, ds, rfl, ho, hds, hdl, hn8⟩
            obtain ⟨ao, n, cap, rfl⟩ := ownS_open' ho
            have HO := hide (own_row ho)
            have HDS := hide hds
            have HSH := hide (short_map hds (readL_short (by rw [tl_length]; exact hbl)))
            have HPB := hide ((recB_new w7 rp).on hn8)
            have HZ8 := hide ((HZ7.out.on (Nx.rfl.alloc _)).on hn8)
            have HN8 := hide ((HN7.out.alloc _).then hn8)
            clear a0 a1 a2 a3 a4 a5 a6 a7 a8 a9 a10 a11 a12 a13 z0 z1 z2 z3 z4 z5 z6 z7 z8 z9 z10 z11 z12 z13 zf0 zf1 zf2 zf3 zf4 zf5 zf6 zf7 zf8 zf9 zf10 zf11 zf12 zf13
            clear ho hds hn8
            obtain ⟨a0, a1, a2, a3, a4, a5, a6, a7, a8, a9, a10, a11, a12, a13⟩ := HPB.out.cells
            have af9 := HPB.out.free 9
            obtain ⟨z0, z1, z2, z3, z4, z5, z6, z7, z8, z9, z10, z11, z12, z13⟩ := HZ8.out.cells
            have zf0 := HZ8.out.free 0
            have zf1 := HZ8.out.free 1
            have zf2 := HZ8.out.free 2
            have zf3 := HZ8.out.free 3
            have zf4 := HZ8.out.free 4
            have zf5 := HZ8.out.free 5
            have zf6 := HZ8.out.free 6
            have zf7 := HZ8.out.free 7
            have zf8 := HZ8.out.free 8
            have zf9 := HZ8.out.free 9
            have zf10 := HZ8.out.free 10
            have zf11 := HZ8.out.free 11
            have zf12 := HZ8.out.free 12
            have zf13 := HZ8.out.free 13
            go_wp2
            refine ret14 (rb := w.heap.size + 1) Tryz.results156 rfl rfl (RecB.put (HZ8.out.far (by omega) 9 _) _ _ _ _ _ _ _ _ _ _ _ _ _ _) rfl ⟨⟨{ rp with so := ao, sn := n, sc := cap }, ds, (by rw [HE.out]; first | done | rfl), ?_, by omega⟩, (put14_below (Below.setCell HN8.out (by show w.heap.size ≤ w7.heap.size; omega) _) (by omega) _ _ _ _ _ _ _ _ _ _ _ _ _ _)⟩
            exact { eq := by rw [HE.out, ← HP.out.eq]; simp only [Rc.u]; rw [HDS.out]
                    seg := HO.out.ks (Ks.then (Ks.then Ks.rfl (ks_set HPB.out.ty (by decide) 9 _)) (put14_ks (HZ8.out.ty.set w7.heap.size 9 _) (by decide) _ _ _ _ _ _ _ _ _ _ _ _ _ _))
                    lsch := HP.out.lsch
                    lnam := HP.out.lnam
                    lpw := HP.out.lpw
                    lhost := HP.out.lhost
                    lport := HP.out.lport
                    lopath := HP.out.lopath
                    lsegs := by omega
                    lseg := HSH.out
                    lq := HP.out.lq
                    lfr := HP.out.lfr }
        · have HE := hide (HD3.out.trans (if_neg hsl))
          clear HD3
          obtain ⟨rfl, rfl⟩ : sp = false ∧ sl = false := by cases sp <;> cases sl <;> simp_all
          clear hsl
          go_wp2
          exact ret14 (rb := w.heap.size + 1) Tryz.results156 rfl rfl ((RecB.put HZ7.out _ _ _ _ _ _ _ _ _ _ _ _ _ _).on (Nx.rfl.alloc _)) rfl ⟨⟨rp, ps, (by rw [HE.out]; first | done | rfl), (by rw [HE.out]; exact HP.out.ks (Ks.then (put14_ks HZ7.out.ty (by decide) _ _ _ _ _ _ _ _ _ _ _ _ _ _) (Nx.ks (Nx.rfl.alloc _)))), by omega⟩, Nx.alloc (put14_below HN7.out (by omega) _ _ _ _ _ _ _ _ _ _ _ _ _ _) _⟩
      · have HE := hide (HD2.out.trans (HPD.out.trans (if_pos he)))
        have he' : (err != 0) = true := bneT (beq_eq_false_iff_ne.2 he)
        clear HD2 HPD he
        go_wp2
        exact ret14 (rb := w.heap.size + 1) Tryz.results156 rfl rfl ((RecB.put HZ7.out _ _ _ _ _ _ _ _ _ _ _ _ _ _).on (Nx.rfl.alloc _)) rfl ⟨⟨rz, [], (by rw [HE.out]; first | done | rfl), (by rw [HE.out]; exact rz_is _), by simp⟩, Nx.alloc (put14_below HN7.out (by omega) _ _ _ _ _ _ _ _ _ _ _ _ _ _) _⟩
end Go.Proofs.YtchkhibgbnhjpaaGreatDoor
