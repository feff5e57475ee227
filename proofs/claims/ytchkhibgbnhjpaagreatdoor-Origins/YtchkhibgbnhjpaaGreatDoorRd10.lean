import Derived.Test.YtchkhibgbnhjpaaGreatDoorRd9
namespace Go.Proofs.YtchkhibgbnhjpaaGreatDoor
open Go.RowKit

theorem eqBB {s t : ByteArray} (h : tl s = tl t) : (s.toList == t.toList) = true := by rw [ByteArray.toList_eq, ByteArray.toList_eq]; show (tl s == tl t) = true; rw [h]; simp
theorem neBB {s t : ByteArray} (h : ¬ tl s = tl t) : (s.toList == t.toList) = false := by rw [ByteArray.toList_eq, ByteArray.toList_eq]; show (tl s == tl t) = false; simpa using h
/-- reading.withSpecial -/
def specialU (u : U) (left : List UInt8) (base : U) : U × Int := if base.sch = u.sch ∧ countSl false left < 2 then withoutU u left base else authorityU u (left.drop (countSl true left))
set_option maxHeartbeats 16000000 in
theorem specialU_any (ru rb : Rc) (u base : U) (bs cs : List ByteArray) (left : ByteArray) (w : World) (h1 : RcIs w ru u bs) (h2 : RcIs w rb base cs) (hcs : cs.length ≤ 60000) (hbs : bs.length ≤ 0) (hl : left.size ≤ 30000) (ht : Tb w) :
    Calls Tryz.prog 153 #[.agg #[.string ru.sch, .string ru.nam, .string ru.pw, .bool ru.hh, .string ru.host, .bool ru.hp, .int .i64 (ru.port : Int), .bool ru.op, .string ru.opath, .slice ru.so ru.sn ru.sc, .bool ru.hq, .string ru.q, .bool ru.hf, .string ru.fr], .string left, .agg #[.string rb.sch, .string rb.nam, .string rb.pw, .bool rb.hh, .string rb.host, .bool rb.hp, .int .i64 (rb.port : Int), .bool rb.op, .string rb.opath, .slice rb.so rb.sn rb.sc, .bool rb.hq, .string rb.q, .bool rb.hf, .string rb.fr]] w fun e w' => ResIs e w' (specialU u (tl left) base) (cs.length + 30002) ∧ Nx w w' := by
  have HU := hide h1
  have HBS := hide h2
  have HTB := hide ht
  have HD := hide (show specialU u (tl left) base = if tl rb.sch = tl ru.sch ∧ countSl false (tl left) < 2 then withoutU u (tl left) base else authorityU u ((tl left).drop (countSl true (tl left))) by rw [h1.usch, h2.usch]; rfl)
  clear h1 h2 ht
  have hk := countSl_le true (tl left)
  rw [tl_length] at hk
  generalize hkk : countSl true (tl left) = k at *
  have HK := hide hkk
  clear hkk
  generalize hjj : countSl false (tl left) = j at *
  have HJ := hide hjj
  clear hjj
  have HFH := hide (fun w1 (hn : Nx w w1) => authorityU_any ru u bs (left.extract k left.size) w1 (HU.out.on hn) (HTB.out.on hn) (by rw [size_from]; omega))
  rw [tl_from] at HFH
  by_cases hq : tl rb.sch = tl ru.sch
  · have hq' := eqBB hq
    by_cases hj : j < 2
    · have HE := hide (HD.out.trans (if_pos ⟨hq, hj⟩))
      have hji : (j : Int) < 2 := by omega
      clear HD hq
      go_enter Tryz.func153, Tryz.ntmps153
      go_wp2_with (first | (go_at_call 154; refine (countSlashes_any _ _ _ (small_len (by omega))).mono ?_; rintro e w' ⟨rfl, rfl⟩; rw [HJ.out]) | fail)
      refine (withoutU_any ru rb u base bs cs left _ (HU.out.on (((Nx.rfl.alloc _).alloc _).alloc _)) (HBS.out.on (((Nx.rfl.alloc _).alloc _).alloc _)) hcs hbs hl (HTB.out.on (((Nx.rfl.alloc _).alloc _).alloc _))).mono ?_
      rintro e w1 ⟨⟨r, ds, rfl, hr, hdl⟩, hn⟩
      have HR := hide hr
      clear hr
      obtain ⟨g1, g2, g3, g4⟩ := three_new (ru := ru) (Nx.then (show Nx _ _ from Nx.rfl) hn)
      have HUB := hide g1
      have HBB := hide g2
      have HZ := hide g3
      have HN := hide g4
      clear g1 g2 g3 g4 hn
      obtain ⟨z0, z1, z2, z3, z4, z5, z6, z7, z8, z9, z10, z11, z12, z13⟩ := HZ.out.cells
      have zf0 := HZ.out.free 0
      have zf1 := HZ.out.free 1
      have zf2 := HZ.out.free 2
      have zf3 := HZ.out.free 3
      have zf4 := HZ.out.free 4
      have zf5 := HZ.out.free 5
      have zf6 := HZ.out.free 6
      have zf7 := HZ.out.free 7
      have zf8 := HZ.out.free 8
      have zf9 := HZ.out.free 9
      have zf10 := HZ.out.free 10
      have zf11 := HZ.out.free 11
      have zf12 := HZ.out.free 12
      have zf13 := HZ.out.free 13
      go_wp2
      exact ret14 (rb := w.heap.size + 1 + 1) Tryz.results153 rfl rfl (RecB.put HZ.out _ _ _ _ _ _ _ _ _ _ _ _ _ _) rfl ⟨⟨r, ds, (by rw [HE.out]; first | done | rfl), (by rw [HE.out]; exact HR.out.ks (Ks.then Ks.rfl (put14_ks HZ.out.ty (by decide) _ _ _ _ _ _ _ _ _ _ _ _ _ _))), by omega⟩, (put14_below HN.out (by omega) _ _ _ _ _ _ _ _ _ _ _ _ _ _)⟩
    · have HE := hide (HD.out.trans (if_neg (fun h => hj h.2)))
      have hji : 2 ≤ (j : Int) := by omega
      clear HD hq
      go_enter Tryz.func153, Tryz.ntmps153
      go_wp2_with fail
      refine (countSlashes_any left false _ (small_len (by omega))).mono ?_
      rintro e w' ⟨rfl, rfl⟩
      rw [HJ.out]
      go_wp2_with (go_at_call 154; refine (countSlashes_any left true _ (small_len (by omega))).mono ?_; rintro e w' ⟨rfl, rfl⟩; rw [HK.out])
      go_region_with (go_at_call 156; refine (HFH.out _ (((Nx.rfl.alloc _).alloc _).alloc _).drew).mono ?_; rintro e w1 ⟨⟨r, ds, rfl, hr, hdl⟩, hn⟩; have HR := hide hr; clear hr; obtain ⟨g1, g2, g3, g4⟩ := three_new (ru := ru) (Nx.then (show Nx _ _ from Nx.rfl.drew) hn); have HUB := hide g1; have HBB := hide g2; have HZ := hide g3; have HN := hide g4; clear g1 g2 g3 g4 hn; obtain ⟨z0, z1, z2, z3, z4, z5, z6, z7, z8, z9, z10, z11, z12, z13⟩ := HZ.out.cells; have zf0 := HZ.out.free 0; have zf1 := HZ.out.free 1; have zf2 := HZ.out.free 2; have zf3 := HZ.out.free 3; have zf4 := HZ.out.free 4; have zf5 := HZ.out.free 5; have zf6 := HZ.out.free 6; have zf7 := HZ.out.free 7; have zf8 := HZ.out.free 8; have zf9 := HZ.out.free 9; have zf10 := HZ.out.free 10; have zf11 := HZ.out.free 11; have zf12 := HZ.out.free 12; have zf13 := HZ.out.free 13)
      all_goals go_wp2
      all_goals exact ret14 (rb := w.heap.size + 1 + 1) Tryz.results153 rfl rfl (RecB.put HZ.out _ _ _ _ _ _ _ _ _ _ _ _ _ _) rfl ⟨⟨r, ds, (by rw [HE.out]; first | done | rfl), (by rw [HE.out]; exact HR.out.ks (Ks.then Ks.rfl (put14_ks HZ.out.ty (by decide) _ _ _ _ _ _ _ _ _ _ _ _ _ _))), by omega⟩, (put14_below HN.out (by omega) _ _ _ _ _ _ _ _ _ _ _ _ _ _)⟩
  · have hq' := neBB hq
    have HE := hide (HD.out.trans (if_neg (fun h => hq h.1)))
    clear HD hq
    go_enter Tryz.func153, Tryz.ntmps153
    go_wp2_with (go_at_call 154; refine (countSlashes_any _ true _ (small_len (by omega))).mono ?_; rintro e w' ⟨rfl, rfl⟩; rw [HK.out])
    go_region_with (go_at_call 156; refine (HFH.out _ (((Nx.rfl.alloc _).alloc _).alloc _).drew).mono ?_; rintro e w1 ⟨⟨r, ds, rfl, hr, hdl⟩, hn⟩; have HR := hide hr; clear hr; obtain ⟨g1, g2, g3, g4⟩ := three_new (ru := ru) (Nx.then (show Nx _ _ from Nx.rfl.drew) hn); have HUB := hide g1; have HBB := hide g2; have HZ := hide g3; have HN := hide g4; clear g1 g2 g3 g4 hn; obtain ⟨z0, z1, z2, z3, z4, z5, z6, z7, z8, z9, z10, z11, z12, z13⟩ := HZ.out.cells; have zf0 := HZ.out.free 0; have zf1 := HZ.out.free 1; have zf2 := HZ.out.free 2; have zf3 := HZ.out.free 3; have zf4 := HZ.out.free 4; have zf5 := HZ.out.free 5; have zf6 := HZ.out.free 6; have zf7 := HZ.out.free 7; have zf8 := HZ.out.free 8; have zf9 := HZ.out.free 9; have zf10 := HZ.out.free 10; have zf11 := HZ.out.free 11; have zf12 := HZ.out.free 12; have zf13 := HZ.out.free 13)
    all_goals go_wp2
    all_goals exact ret14 (rb := w.heap.size + 1 + 1) Tryz.results153 rfl rfl (RecB.put HZ.out _ _ _ _ _ _ _ _ _ _ _ _ _ _) rfl ⟨⟨r, ds, (by rw [HE.out]; first | done | rfl), (by rw [HE.out]; exact HR.out.ks (Ks.then Ks.rfl (put14_ks HZ.out.ty (by decide) _ _ _ _ _ _ _ _ _ _ _ _ _ _))), by omega⟩, (put14_below HN.out (by omega) _ _ _ _ _ _ _ _ _ _ _ _ _ _)⟩

/-- reading.withScheme -/
def schemedU (u : U) (left : List UInt8) (base : U) : U × Int :=
  if u.sch = fileB then fileU u left base else if isSpecial u.sch = true then specialU u left base
  else if countSl false left = 0 then ({ u with op := true, opath := encB (tl (setBA 0)) (clean left) }, 0)
  else if countSl false left = 1 then ({ u with segs := readL (left.drop 1) u.sch }, 0) else authorityU u (left.drop 2)
set_option maxHeartbeats 16000000 in
theorem schemedU_any (ru rb : Rc) (u base : U) (bs cs : List ByteArray) (left : ByteArray) (w : World) (h1 : RcIs w ru u bs) (h2 : RcIs w rb base cs) (hcs : cs.length ≤ 60000) (hbs : bs.length ≤ 0) (hl : left.size ≤ 30000) (ht : Tb w) :
    Calls Tryz.prog 114 #[.agg #[.string ru.sch, .string ru.nam, .string ru.pw, .bool ru.hh, .string ru.host, .bool ru.hp, .int .i64 (ru.port : Int), .bool ru.op, .string ru.opath, .slice ru.so ru.sn ru.sc, .bool ru.hq, .string ru.q, .bool ru.hf, .string ru.fr], .string left, .agg #[.string rb.sch, .string rb.nam, .string rb.pw, .bool rb.hh, .string rb.host, .bool rb.hp, .int .i64 (rb.port : Int), .bool rb.op, .string rb.opath, .slice rb.so rb.sn rb.sc, .bool rb.hq, .string rb.q, .bool rb.hf, .string rb.fr]] w fun e w' => ResIs e w' (schemedU u (tl left) base) (cs.length + 30002) ∧ Nx w w' := by
  have HU := hide h1
  have HBS := hide h2
  have HTB := hide ht
  have HD := hide (show schemedU u (tl left) base = if tl ru.sch = fileB then fileU u (tl left) base else if isSpecial (tl ru.sch) = true then specialU u (tl left) base
    else if countSl false (tl left) = 0 then ({ u with op := true, opath := encB (tl (setBA 0)) (clean (tl left)) }, 0)
    else if countSl false (tl left) = 1 then ({ u with segs := readL ((tl left).drop 1) (tl ru.sch) }, 0) else authorityU u ((tl left).drop 2) by rw [h1.usch]; rfl)
  clear h1 h2 ht
  by_cases hf : tl ru.sch = fileB
  · have HE := hide (HD.out.trans (if_pos hf))
    have hfe := eqB hf
    unfold fileB at hfe
    clear HD hf
    go_enter Tryz.func114, Tryz.ntmps114
    go_wp2_with fail
    refine (fileU_any ru rb u base bs cs left _ (HU.out.on (((Nx.rfl.alloc _).alloc _).alloc _)) (HBS.out.on (((Nx.rfl.alloc _).alloc _).alloc _)) hcs hl (HTB.out.on (((Nx.rfl.alloc _).alloc _).alloc _))).mono ?_
    rintro e w1 ⟨⟨r, ds, rfl, hr, hdl⟩, hn⟩
    have HR := hide hr
    clear hr
    obtain ⟨g1, g2, g3, g4⟩ := three_new (ru := ru) (Nx.then (show Nx _ _ from Nx.rfl) hn)
    have HUB := hide g1
    have HBB := hide g2
    have HZ := hide g3
    have HN := hide g4
    clear g1 g2 g3 g4 hn
    obtain ⟨z0, z1, z2, z3, z4, z5, z6, z7, z8, z9, z10, z11, z12, z13⟩ := HZ.out.cells
    have zf0 := HZ.out.free 0
    have zf1 := HZ.out.free 1
    have zf2 := HZ.out.free 2
    have zf3 := HZ.out.free 3
    have zf4 := HZ.out.free 4
    have zf5 := HZ.out.free 5
    have zf6 := HZ.out.free 6
    have zf7 := HZ.out.free 7
    have zf8 := HZ.out.free 8
    have zf9 := HZ.out.free 9
    have zf10 := HZ.out.free 10
    have zf11 := HZ.out.free 11
    have zf12 := HZ.out.free 12
    have zf13 := HZ.out.free 13
    go_wp2
    exact ret14 (rb := w.heap.size + 1 + 1) Tryz.results114 rfl rfl (RecB.put HZ.out _ _ _ _ _ _ _ _ _ _ _ _ _ _) rfl ⟨⟨r, ds, (by rw [HE.out]; first | done | rfl), (by rw [HE.out]; exact HR.out.ks (Ks.then Ks.rfl (put14_ks HZ.out.ty (by decide) _ _ _ _ _ _ _ _ _ _ _ _ _ _))), by omega⟩, (put14_below HN.out (by omega) _ _ _ _ _ _ _ _ _ _ _ _ _ _)⟩
  · have HD2 := hide (HD.out.trans (if_neg hf))
    have hfe := neB hf
    unfold fileB at hfe
    clear HD hf
    cases hsp : isSpecial (tl ru.sch)
    · have HD3 := hide (HD2.out.trans (if_neg (by rw [hsp]; decide)))
      have HSP := hide hsp
      clear HD2 hsp
      have hk := countSl_le false (tl left)
      rw [tl_length] at hk
      generalize hkk : countSl false (tl left) = k at *
      have HK := hide hkk
      clear hkk
      by_cases hk0 : k = 0
      · have HE := hide (HD3.out.trans (if_pos hk0))
        have hkb : ((k : Int) == 0) = true := by rw [hk0]; rfl
        clear HD3 hk0
        go_enter Tryz.func114, Tryz.ntmps114
        go_wp2_with (first | (go_at_call 112; refine (special_any _ _).mono ?_; rintro e w' ⟨rfl, rfl⟩; rw [HSP.out]) | (go_at_call 154; refine (countSlashes_any _ _ _ (small_len (by omega))).mono ?_; rintro e w' ⟨rfl, rfl⟩; rw [HK.out]) | fail)
        refine (encode_any left 0 _ (by omega)).mono ?_
        rintro e w1 ⟨en, rfl, hen, hn⟩
        have hel : en.size ≤ 300000 := by rw [← tl_length, hen]; exact enc_short _ _ (by rw [tl_length]; exact hl)
        have HEN := hide hen
        clear hen
        obtain ⟨g1, g2, g3, g4⟩ := three_new (ru := { ru with op := true }) (Nx.then (show Nx _ _ from Nx.rfl) hn)
        have HUB := hide g1
        have HBB := hide g2
        have HZ := hide g3
        have HN := hide g4
        clear g1 g2 g3 g4 hn
        obtain ⟨a0, a1, a2, a3, a4, a5, a6, a7, a8, a9, a10, a11, a12, a13⟩ := HUB.out.cells
        have af8 := HUB.out.free 8
        obtain ⟨z0, z1, z2, z3, z4, z5, z6, z7, z8, z9, z10, z11, z12, z13⟩ := HZ.out.cells
        have zf0 := HZ.out.free 0
        have zf1 := HZ.out.free 1
        have zf2 := HZ.out.free 2
        have zf3 := HZ.out.free 3
        have zf4 := HZ.out.free 4
        have zf5 := HZ.out.free 5
        have zf6 := HZ.out.free 6
        have zf7 := HZ.out.free 7
        have zf8 := HZ.out.free 8
        have zf9 := HZ.out.free 9
        have zf10 := HZ.out.free 10
        have zf11 := HZ.out.free 11
        have zf12 := HZ.out.free 12
        have zf13 := HZ.out.free 13
        have HU2 := hide (HU.out.on HN.out)
        go_wp2
        refine ret14 (rb := w.heap.size + 1 + 1) Tryz.results114 rfl rfl (RecB.put (HZ.out.far (by omega) 8 _) _ _ _ _ _ _ _ _ _ _ _ _ _ _) rfl ⟨⟨{ ru with op := true, opath := en }, bs, (by rw [HE.out]; first | done | rfl), ?_, by omega⟩, (put14_below (Below.setCell HN.out (Nat.le_refl _) _) (by omega) _ _ _ _ _ _ _ _ _ _ _ _ _ _)⟩
        exact { eq := by rw [HE.out, ← HU.out.eq]; simp only [Rc.u]; rw [HEN.out]
                seg := HU2.out.seg.ks (Ks.then (Ks.then Ks.rfl (ks_set HUB.out.ty (by decide) 8 _)) (put14_ks (HZ.out.ty.set w.heap.size 8 _) (by decide) _ _ _ _ _ _ _ _ _ _ _ _ _ _))
                lsch := HU2.out.lsch
                lnam := HU2.out.lnam
                lpw := HU2.out.lpw
                lhost := HU2.out.lhost
                lport := HU2.out.lport
                lopath := hel
                lsegs := HU2.out.lsegs
                lseg := HU2.out.lseg
                lq := HU2.out.lq
                lfr := HU2.out.lfr }
      · have HD4 := hide (HD3.out.trans (if_neg hk0))
        have hkb : ((k : Int) == 0) = false := beq_eq_false_iff_ne.2 (by omega)
        clear HD3
        by_cases hke : k = 1
        · have HE := hide (HD4.out.trans (if_pos hke))
          have hkb1 : ((k : Int) == 1) = true := by rw [hke]; rfl
          have hl1 : 1 ≤ left.size := by omega
          have HPR := hide (fun w1 => pread_any (left.extract 1 left.size) ru.sch w1 (by rw [size_from]; omega))
          rw [tl_from] at HPR
          clear HD4 hke hk0
          go_enter Tryz.func114, Tryz.ntmps114
          go_wp2_with (first | (go_at_call 112; refine (special_any _ _).mono ?_; rintro e w' ⟨rfl, rfl⟩; rw [HSP.out]) | (go_at_call 154; refine (countSlashes_any _ _ _ (small_len (by omega))).mono ?_; rintro e w' ⟨rfl, rfl⟩; rw [HK.out]))
          go_region_with (go_at_call 155; refine (HPR.out _).mono ?_; rintro e w1 ⟨v3, ds, rfl, ho, hds, hdl, hn⟩; obtain ⟨ao, n, cap, rfl⟩ := ownS_open' ho; have HO := hide (own_row ho); have HDS := hide hds; have HSH := hide (short_map hds (readL_short (by rw [List.length_drop, tl_length]; omega))); rw [size_from] at hdl; clear ho hds; obtain ⟨g1, g2, g3, g4⟩ := three_new (ru := ru) (Nx.then (show Nx _ _ from Nx.rfl.drew) hn); have HUB := hide g1; have HBB := hide g2; have HZ := hide g3; have HN := hide g4; clear g1 g2 g3 g4 hn; obtain ⟨a0, a1, a2, a3, a4, a5, a6, a7, a8, a9, a10, a11, a12, a13⟩ := HUB.out.cells; have af9 := HUB.out.free 9; obtain ⟨z0, z1, z2, z3, z4, z5, z6, z7, z8, z9, z10, z11, z12, z13⟩ := HZ.out.cells; have zf0 := HZ.out.free 0; have zf1 := HZ.out.free 1; have zf2 := HZ.out.free 2; have zf3 := HZ.out.free 3; have zf4 := HZ.out.free 4; have zf5 := HZ.out.free 5; have zf6 := HZ.out.free 6; have zf7 := HZ.out.free 7; have zf8 := HZ.out.free 8; have zf9 := HZ.out.free 9; have zf10 := HZ.out.free 10; have zf11 := HZ.out.free 11; have zf12 := HZ.out.free 12; have zf13 := HZ.out.free 13)
          all_goals go_wp2
          all_goals (
            refine ret14 (rb := w.heap.size + 1 + 1) Tryz.results114 rfl rfl (RecB.put (HZ.out.far (by omega) 9 _) _ _ _ _ _ _ _ _ _ _ _ _ _ _) rfl ⟨⟨{ ru with so := ao, sn := n, sc := cap }, ds, (by rw [HE.out]; first | done | rfl), ?_, by omega⟩, (put14_below (Below.setCell HN.out (Nat.le_refl _) _) (by omega) _ _ _ _ _ _ _ _ _ _ _ _ _ _)⟩
            exact { eq := by rw [HE.out, ← HU.out.eq]; simp only [Rc.u]; rw [HDS.out]
                    seg := HO.out.ks (Ks.then (Ks.then Ks.rfl (ks_set HUB.out.ty (by decide) 9 _)) (put14_ks (HZ.out.ty.set w.heap.size 9 _) (by decide) _ _ _ _ _ _ _ _ _ _ _ _ _ _))
                    lsch := HU.out.lsch
                    lnam := HU.out.lnam
                    lpw := HU.out.lpw
                    lhost := HU.out.lhost
                    lport := HU.out.lport
                    lopath := HU.out.lopath
                    lsegs := by omega
                    lseg := HSH.out
                    lq := HU.out.lq
                    lfr := HU.out.lfr })
        · have HE := hide (HD4.out.trans (if_neg hke))
          have hkb1 : ((k : Int) == 1) = false := beq_eq_false_iff_ne.2 (by omega)
          have hl2 : 2 ≤ left.size := by omega
          have HFH := hide (fun w1 (hn : Nx w w1) => authorityU_any ru u bs (left.extract 2 left.size) w1 (HU.out.on hn) (HTB.out.on hn) (by rw [size_from]; omega))
          rw [tl_from] at HFH
          clear HD4 hke hk0
          go_enter Tryz.func114, Tryz.ntmps114
          go_wp2_with (first | (go_at_call 112; refine (special_any _ _).mono ?_; rintro e w' ⟨rfl, rfl⟩; rw [HSP.out]) | (go_at_call 154; refine (countSlashes_any _ _ _ (small_len (by omega))).mono ?_; rintro e w' ⟨rfl, rfl⟩; rw [HK.out]))
          go_region_with (go_at_call 156; refine (HFH.out _ (((Nx.rfl.alloc _).alloc _).alloc _).drew).mono ?_; rintro e w1 ⟨⟨r, ds, rfl, hr, hdl⟩, hn⟩; have HR := hide hr; clear hr; obtain ⟨g1, g2, g3, g4⟩ := three_new (ru := ru) (Nx.then (show Nx _ _ from Nx.rfl.drew) hn); have HUB := hide g1; have HBB := hide g2; have HZ := hide g3; have HN := hide g4; clear g1 g2 g3 g4 hn; obtain ⟨z0, z1, z2, z3, z4, z5, z6, z7, z8, z9, z10, z11, z12, z13⟩ := HZ.out.cells; have zf0 := HZ.out.free 0; have zf1 := HZ.out.free 1; have zf2 := HZ.out.free 2; have zf3 := HZ.out.free 3; have zf4 := HZ.out.free 4; have zf5 := HZ.out.free 5; have zf6 := HZ.out.free 6; have zf7 := HZ.out.free 7; have zf8 := HZ.out.free 8; have zf9 := HZ.out.free 9; have zf10 := HZ.out.free 10; have zf11 := HZ.out.free 11; have zf12 := HZ.out.free 12; have zf13 := HZ.out.free 13)
          all_goals go_wp2
          all_goals exact ret14 (rb := w.heap.size + 1 + 1) Tryz.results114 rfl rfl (RecB.put HZ.out _ _ _ _ _ _ _ _ _ _ _ _ _ _) rfl ⟨⟨r, ds, (by rw [HE.out]; first | done | rfl), (by rw [HE.out]; exact HR.out.ks (Ks.then Ks.rfl (put14_ks HZ.out.ty (by decide) _ _ _ _ _ _ _ _ _ _ _ _ _ _))), by omega⟩, (put14_below HN.out (by omega) _ _ _ _ _ _ _ _ _ _ _ _ _ _)⟩
    · have HE := hide (HD2.out.trans (if_pos hsp))
      have HSP := hide hsp
      clear HD2 hsp
      go_enter Tryz.func114, Tryz.ntmps114
      go_wp2_with (first | (go_at_call 112; refine (special_any _ _).mono ?_; rintro e w' ⟨rfl, rfl⟩; rw [HSP.out]) | fail)
      refine (specialU_any ru rb u base bs cs left _ (HU.out.on (((Nx.rfl.alloc _).alloc _).alloc _)) (HBS.out.on (((Nx.rfl.alloc _).alloc _).alloc _)) hcs hbs hl (HTB.out.on (((Nx.rfl.alloc _).alloc _).alloc _))).mono ?_
      rintro e w1 ⟨⟨r, ds, rfl, hr, hdl⟩, hn⟩
      have HR := hide hr
      clear hr
      obtain ⟨g1, g2, g3, g4⟩ := three_new (ru := ru) (Nx.then (show Nx _ _ from Nx.rfl) hn)
      have HUB := hide g1
      have HBB := hide g2
      have HZ := hide g3
      have HN := hide g4
      clear g1 g2 g3 g4 hn
      obtain ⟨z0, z1, z2, z3, z4, z5, z6, z7, z8, z9, z10, z11, z12, z13⟩ := HZ.out.cells
      have zf0 := HZ.out.free 0
      have zf1 := HZ.out.free 1
      have zf2 := HZ.out.free 2
      have zf3 := HZ.out.free 3
      have zf4 := HZ.out.free 4
      have zf5 := HZ.out.free 5
      have zf6 := HZ.out.free 6
      have zf7 := HZ.out.free 7
      have zf8 := HZ.out.free 8
      have zf9 := HZ.out.free 9
      have zf10 := HZ.out.free 10
      have zf11 := HZ.out.free 11
      have zf12 := HZ.out.free 12
      have zf13 := HZ.out.free 13
      go_wp2
      exact ret14 (rb := w.heap.size + 1 + 1) Tryz.results114 rfl rfl (RecB.put HZ.out _ _ _ _ _ _ _ _ _ _ _ _ _ _) rfl ⟨⟨r, ds, (by rw [HE.out]; first | done | rfl), (by rw [HE.out]; exact HR.out.ks (Ks.then Ks.rfl (put14_ks HZ.out.ty (by decide) _ _ _ _ _ _ _ _ _ _ _ _ _ _))), by omega⟩, (put14_below HN.out (by omega) _ _ _ _ _ _ _ _ _ _ _ _ _ _)⟩
end Go.Proofs.YtchkhibgbnhjpaaGreatDoor
