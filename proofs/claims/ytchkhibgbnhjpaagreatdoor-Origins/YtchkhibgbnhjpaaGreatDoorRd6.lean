import Derived.Test.YtchkhibgbnhjpaaGreatDoorRd5
namespace Go.Proofs.YtchkhibgbnhjpaaGreatDoor
open Go.RowKit

theorem RcIs.whh {w : World} {r : Rc} {u : U} {bs : List ByteArray} (h : RcIs w r u bs) (x : Bool) : RcIs w { r with hh := x } { u with hh := x } bs := { h with eq := by rw [← h.eq]; rfl }
theorem RcIs.whost {w : World} {r : Rc} {u : U} {bs : List ByteArray} (h : RcIs w r u bs) (x : ByteArray) (hx : x.size ≤ 300000) : RcIs w { r with host := x } { u with host := tl x } bs := { h with eq := by rw [← h.eq]; rfl, lhost := hx }
theorem neqT {s : ByteArray} {l : List UInt8} (h : (s.toList == l) = false) : (s.toList != l) = true := by simp only [bne, h]; rfl
theorem neqF {s : ByteArray} {l : List UInt8} (h : (s.toList == l) = true) : (s.toList != l) = false := by simp only [bne, h]; rfl
/-- reading.readFile -/
def fileU (u : U) (left : List UInt8) (base : U) : U × Int :=
  if 1 < countSl true left then fileHostU { u with hh := true } (left.drop 2)
  else if base.sch ≠ fileB then ({ u with hh := true, segs := readL (left.drop (countSl true left)) u.sch }, 0)
  else if countSl true left = 1 then ({ u with hh := true, host := base.host, segs := onDriveL base.segs (left.drop 1) }, 0)
  else if driveAhead left = true then ({ u with hh := true, host := base.host, segs := readL left u.sch }, 0)
  else (besideU { u with hh := true, host := base.host } left base, 0)
set_option maxHeartbeats 16000000 in
theorem fileU_any (ru rb : Rc) (u base : U) (bs cs : List ByteArray) (left : ByteArray) (w : World) (h1 : RcIs w ru u bs) (h2 : RcIs w rb base cs) (hcs : cs.length ≤ 60000) (hl : left.size ≤ 30000) (ht : Tb w) :
    Calls Tryz.prog 152 #[.agg #[.string ru.sch, .string ru.nam, .string ru.pw, .bool ru.hh, .string ru.host, .bool ru.hp, .int .i64 (ru.port : Int), .bool ru.op, .string ru.opath, .slice ru.so ru.sn ru.sc, .bool ru.hq, .string ru.q, .bool ru.hf, .string ru.fr], .string left, .agg #[.string rb.sch, .string rb.nam, .string rb.pw, .bool rb.hh, .string rb.host, .bool rb.hp, .int .i64 (rb.port : Int), .bool rb.op, .string rb.opath, .slice rb.so rb.sn rb.sc, .bool rb.hq, .string rb.q, .bool rb.hf, .string rb.fr]] w fun e w' => ResIs e w' (fileU u (tl left) base) (cs.length + 30002) ∧ Nx w w' := by
  have HU := hide h1
  have HBS := hide h2
  have HTB := hide ht
  have hk := countSl_le true (tl left)
  rw [tl_length] at hk
  have HD := hide (show fileU u (tl left) base = if 1 < countSl true (tl left) then fileHostU { u with hh := true } ((tl left).drop 2)
    else if tl rb.sch ≠ fileB then ({ u with hh := true, segs := readL ((tl left).drop (countSl true (tl left))) u.sch }, 0)
    else if countSl true (tl left) = 1 then ({ u with hh := true, host := base.host, segs := onDriveL base.segs ((tl left).drop 1) }, 0)
    else if driveAhead (tl left) = true then ({ u with hh := true, host := base.host, segs := readL (tl left) u.sch }, 0)
    else (besideU { u with hh := true, host := base.host } (tl left) base, 0) by rw [h2.usch]; rfl)
  clear h1 h2 ht
  generalize hkk : countSl true (tl left) = k at *
  have HK := hide hkk
  clear hkk
  by_cases hk1 : 1 < k
  · have HE := hide (HD.out.trans (if_pos hk1))
    have hki : 1 < (k : Int) := by omega
    have hl2 : 2 ≤ left.size := by omega
    have HFH := hide (fun w1 (hn : Nx w w1) => fileHostU_any { ru with hh := true } { u with hh := true } bs (left.extract 2 left.size) w1 ((HU.out.on hn).whh true) (HTB.out.on hn) (by rw [size_from]; omega))
    rw [tl_from] at HFH
    clear HD
    go_enter Tryz.func152, Tryz.ntmps152
    go_wp2_with (go_at_call 154; refine (countSlashes_any _ _ _ (small_len (by omega))).mono ?_; rintro e w' ⟨rfl, rfl⟩; rw [HK.out])
    go_region_with (go_at_call 185; refine (HFH.out _ (((Nx.rfl.alloc _).alloc _).alloc _).drew).mono ?_; rintro e w1 ⟨⟨r, ds, rfl, hr, hdl⟩, hn⟩; have HR := hide hr; clear hr; obtain ⟨g1, g2, g3, g4⟩ := three_new (ru := { ru with hh := true }) (Nx.then (show Nx _ _ from Nx.rfl.drew) hn); have HUB := hide g1; have HBB := hide g2; have HZ := hide g3; have HN := hide g4; clear g1 g2 g3 g4 hn; obtain ⟨z0, z1, z2, z3, z4, z5, z6, z7, z8, z9, z10, z11, z12, z13⟩ := HZ.out.cells; have zf0 := HZ.out.free 0; have zf1 := HZ.out.free 1; have zf2 := HZ.out.free 2; have zf3 := HZ.out.free 3; have zf4 := HZ.out.free 4; have zf5 := HZ.out.free 5; have zf6 := HZ.out.free 6; have zf7 := HZ.out.free 7; have zf8 := HZ.out.free 8; have zf9 := HZ.out.free 9; have zf10 := HZ.out.free 10; have zf11 := HZ.out.free 11; have zf12 := HZ.out.free 12; have zf13 := HZ.out.free 13)
    all_goals go_wp2
    all_goals exact ret14 (rb := w.heap.size + 1 + 1) Tryz.results152 rfl rfl (RecB.put HZ.out _ _ _ _ _ _ _ _ _ _ _ _ _ _) rfl ⟨⟨r, ds, by rw [HE.out], by rw [HE.out]; exact HR.out.ks (Ks.then Ks.rfl (put14_ks HZ.out.ty (by decide) _ _ _ _ _ _ _ _ _ _ _ _ _ _)), by omega⟩, (put14_below HN.out (by omega) _ _ _ _ _ _ _ _ _ _ _ _ _ _)⟩
  · have HD2 := hide (HD.out.trans (if_neg hk1))
    have hki : (k : Int) ≤ 1 := by omega
    clear HD
    by_cases hf : tl rb.sch = fileB
    · have HD3 := hide (HD2.out.trans (if_neg (fun h => h hf)))
      have hfe := eqB hf
      unfold fileB at hfe
      have hfn := neqF hfe
      clear HD2 hf
      by_cases hke : k = 1
      · have HE := hide (HD3.out.trans (if_pos hke))
        have hkb : ((k : Int) == 1) = true := by rw [hke]; rfl
        have hl1 : 1 ≤ left.size := by omega
        have HPR := hide (fun w1 (hn : Nx w w1) => onDrive_any _ cs (left.extract 1 left.size) w1 (HBS.out.seg.on hn) (by rw [size_from]; omega))
        rw [tl_from, HBS.out.segs] at HPR
        clear HD3 hke
        go_enter Tryz.func152, Tryz.ntmps152
        go_wp2_with (go_at_call 154; refine (countSlashes_any _ _ _ (small_len (by omega))).mono ?_; rintro e w' ⟨rfl, rfl⟩; rw [HK.out])
        go_region_with (go_at_call 186; refine (HPR.out _ (((Nx.rfl.alloc _).alloc _).alloc _).drew).mono ?_; rintro e w1 ⟨v3, ds, rfl, ho, hds, hdl, hn⟩; obtain ⟨ao, n, cap, rfl⟩ := ownS_open' ho; have HO := hide (own_row ho); have HDS := hide hds; have HSH := hide (short_map hds (onDriveL_short HBS.out.short (by rw [List.length_drop, tl_length]; omega))); rw [size_from] at hdl; clear ho hds; obtain ⟨g1, g2, g3, g4⟩ := three_new (ru := { ru with hh := true, host := rb.host }) (Nx.then (show Nx _ _ from Nx.rfl.drew) hn); have HUB := hide g1; have HBB := hide g2; have HZ := hide g3; have HN := hide g4; clear g1 g2 g3 g4 hn; obtain ⟨a0, a1, a2, a3, a4, a5, a6, a7, a8, a9, a10, a11, a12, a13⟩ := HUB.out.cells; have af9 := HUB.out.free 9; obtain ⟨z0, z1, z2, z3, z4, z5, z6, z7, z8, z9, z10, z11, z12, z13⟩ := HZ.out.cells; have zf0 := HZ.out.free 0; have zf1 := HZ.out.free 1; have zf2 := HZ.out.free 2; have zf3 := HZ.out.free 3; have zf4 := HZ.out.free 4; have zf5 := HZ.out.free 5; have zf6 := HZ.out.free 6; have zf7 := HZ.out.free 7; have zf8 := HZ.out.free 8; have zf9 := HZ.out.free 9; have zf10 := HZ.out.free 10; have zf11 := HZ.out.free 11; have zf12 := HZ.out.free 12; have zf13 := HZ.out.free 13)
        all_goals go_wp2
        all_goals (
          refine ret14 (rb := w.heap.size + 1 + 1) Tryz.results152 rfl rfl (RecB.put (HZ.out.far (by omega) 9 _) _ _ _ _ _ _ _ _ _ _ _ _ _ _) rfl ⟨⟨{ ru with hh := true, host := rb.host, so := ao, sn := n, sc := cap }, ds, by rw [HE.out], ?_, by omega⟩, (put14_below (Below.setCell HN.out (Nat.le_refl _) _) (by omega) _ _ _ _ _ _ _ _ _ _ _ _ _ _)⟩
          exact { eq := by rw [HE.out, ← HU.out.eq, ← HBS.out.eq]; simp only [Rc.u]; rw [HDS.out, ← HBS.out.eq]; rfl
                  seg := HO.out.ks (Ks.then (Ks.then Ks.rfl (ks_set HUB.out.ty (by decide) 9 _)) (put14_ks (HZ.out.ty.set w.heap.size 9 _) (by decide) _ _ _ _ _ _ _ _ _ _ _ _ _ _))
                  lsch := HU.out.lsch
                  lnam := HU.out.lnam
                  lpw := HU.out.lpw
                  lhost := HBS.out.lhost
                  lport := HU.out.lport
                  lopath := HU.out.lopath
                  lsegs := by omega
                  lseg := HSH.out
                  lq := HU.out.lq
                  lfr := HU.out.lfr })
      · have HD4 := hide (HD3.out.trans (if_neg hke))
        have hkb : ((k : Int) == 1) = false := beq_eq_false_iff_ne.2 (by omega)
        clear HD3 hke
        go_enter Tryz.func152, Tryz.ntmps152
        go_wp2_with (first | (go_at_call 154; refine (countSlashes_any _ _ _ (small_len (by omega))).mono ?_; rintro e w' ⟨rfl, rfl⟩; rw [HK.out]) | fail)
        refine (driveAhead_any left _ (small_len (by omega))).mono ?_
        rintro e w0 ⟨rfl, hn⟩
        obtain ⟨g1, g2, g3, g4⟩ := three_new (ru := { ru with hh := true, host := rb.host }) (Nx.then (show Nx _ _ from Nx.rfl) hn)
        have HUB := hide g1
        have HBB := hide g2
        have HZ := hide g3
        have HN := hide g4
        clear g1 g2 g3 g4 hn
        obtain ⟨a0, a1, a2, a3, a4, a5, a6, a7, a8, a9, a10, a11, a12, a13⟩ := HUB.out.cells
        have af9 := HUB.out.free 9
        obtain ⟨z0, z1, z2, z3, z4, z5, z6, z7, z8, z9, z10, z11, z12, z13⟩ := HZ.out.cells
        have zf0 := HZ.out.free 0
        have zf1 := HZ.out.free 1
        have zf2 := HZ.out.free 2
        have zf3 := HZ.out.free 3
        have zf4 := HZ.out.free 4
        have zf5 := HZ.out.free 5
        have zf6 := HZ.out.free 6
        have zf7 := HZ.out.free 7
        have zf8 := HZ.out.free 8
        have zf9 := HZ.out.free 9
        have zf10 := HZ.out.free 10
        have zf11 := HZ.out.free 11
        have zf12 := HZ.out.free 12
        have zf13 := HZ.out.free 13
        obtain ⟨b0, b1, b2, b3, b4, b5, b6, b7, b8, b9, b10, b11, b12, b13⟩ := HBB.out.cells
        cases hd : driveAhead (tl left)
        · have HE := hide (HD4.out.trans (if_neg (by rw [hd]; decide)))
          have HRC := hide (((HU.out.on HN.out).whh true).whost rb.host HBS.out.lhost)
          have HBC := hide (HBS.out.on HN.out)
          clear HD4 hd
          go_wp2_with fail
          refine (beside_any { ru with hh := true, host := rb.host } rb _ base bs cs left _ HRC.out HBC.out hcs hl).mono ?_
          rintro e w1 ⟨r, ds, rfl, hr, hdl, hn1⟩
          have HR := hide hr
          have HUB1 := hide (HUB.out.on hn1)
          have HZ1 := hide (HZ.out.on hn1)
          have HN1 := hide (HN.out.then hn1)
          have HEB := hide (show base.host = tl rb.host by rw [← HBS.out.eq]; rfl)
          clear hr hn1
          clear a0 a1 a2 a3 a4 a5 a6 a7 a8 a9 a10 a11 a12 a13 b0 b1 b2 b3 b4 b5 b6 b7 b8 b9 b10 b11 b12 b13 z0 z1 z2 z3 z4 z5 z6 z7 z8 z9 z10 z11 z12 z13 zf0 zf1 zf2 zf3 zf4 zf5 zf6 zf7 zf8 zf9 zf10 zf11 zf12 zf13 af9
          obtain ⟨z0, z1, z2, z3, z4, z5, z6, z7, z8, z9, z10, z11, z12, z13⟩ := HZ1.out.cells
          have zf0 := HZ1.out.free 0
          have zf1 := HZ1.out.free 1
          have zf2 := HZ1.out.free 2
          have zf3 := HZ1.out.free 3
          have zf4 := HZ1.out.free 4
          have zf5 := HZ1.out.free 5
          have zf6 := HZ1.out.free 6
          have zf7 := HZ1.out.free 7
          have zf8 := HZ1.out.free 8
          have zf9 := HZ1.out.free 9
          have zf10 := HZ1.out.free 10
          have zf11 := HZ1.out.free 11
          have zf12 := HZ1.out.free 12
          have zf13 := HZ1.out.free 13
          go_wp2
          exact ret14 (rb := w.heap.size + 1 + 1) Tryz.results152 rfl rfl (RecB.put HZ1.out _ _ _ _ _ _ _ _ _ _ _ _ _ _) rfl ⟨⟨r, ds, by rw [HE.out], by rw [HE.out, HEB.out]; exact HR.out.ks (Ks.then Ks.rfl (put14_ks HZ1.out.ty (by decide) _ _ _ _ _ _ _ _ _ _ _ _ _ _)), by omega⟩, (put14_below HN1.out (by omega) _ _ _ _ _ _ _ _ _ _ _ _ _ _)⟩
        · have HE := hide (HD4.out.trans (if_pos hd))
          clear HD4 hd
          go_wp2_with fail
          refine (pread_any left ru.sch _ (by omega)).mono ?_
          rintro e w3 ⟨v3, ds, rfl, ho, hds, hdl, hn3⟩
          obtain ⟨ao, n, cap, rfl⟩ := ownS_open' ho
          have HO := hide (own_row ho)
          have HDS := hide hds
          have HSH := hide (short_map hds (readL_short (by rw [tl_length]; exact hl)))
          have HUB3 := hide (HUB.out.on hn3)
          have HZ3 := hide (HZ.out.on hn3)
          have HN3 := hide (HN.out.then hn3)
          clear ho hds hn3
          clear a0 a1 a2 a3 a4 a5 a6 a7 a8 a9 a10 a11 a12 a13 b0 b1 b2 b3 b4 b5 b6 b7 b8 b9 b10 b11 b12 b13 z0 z1 z2 z3 z4 z5 z6 z7 z8 z9 z10 z11 z12 z13 zf0 zf1 zf2 zf3 zf4 zf5 zf6 zf7 zf8 zf9 zf10 zf11 zf12 zf13 af9
          obtain ⟨a0, a1, a2, a3, a4, a5, a6, a7, a8, a9, a10, a11, a12, a13⟩ := HUB3.out.cells
          have af9 := HUB3.out.free 9
          obtain ⟨z0, z1, z2, z3, z4, z5, z6, z7, z8, z9, z10, z11, z12, z13⟩ := HZ3.out.cells
          have zf0 := HZ3.out.free 0
          have zf1 := HZ3.out.free 1
          have zf2 := HZ3.out.free 2
          have zf3 := HZ3.out.free 3
          have zf4 := HZ3.out.free 4
          have zf5 := HZ3.out.free 5
          have zf6 := HZ3.out.free 6
          have zf7 := HZ3.out.free 7
          have zf8 := HZ3.out.free 8
          have zf9 := HZ3.out.free 9
          have zf10 := HZ3.out.free 10
          have zf11 := HZ3.out.free 11
          have zf12 := HZ3.out.free 12
          have zf13 := HZ3.out.free 13
          go_wp2
          refine ret14 (rb := w.heap.size + 1 + 1) Tryz.results152 rfl rfl (RecB.put (HZ3.out.far (by omega) 9 _) _ _ _ _ _ _ _ _ _ _ _ _ _ _) rfl ⟨⟨{ ru with hh := true, host := rb.host, so := ao, sn := n, sc := cap }, ds, by rw [HE.out], ?_, by omega⟩, (put14_below (Below.setCell HN3.out (Nat.le_refl _) _) (by omega) _ _ _ _ _ _ _ _ _ _ _ _ _ _)⟩
          exact { eq := by rw [HE.out, ← HU.out.eq, ← HBS.out.eq]; simp only [Rc.u]; rw [HDS.out]
                  seg := HO.out.ks (Ks.then (Ks.then Ks.rfl (ks_set HUB3.out.ty (by decide) 9 _)) (put14_ks (HZ3.out.ty.set w.heap.size 9 _) (by decide) _ _ _ _ _ _ _ _ _ _ _ _ _ _))
                  lsch := HU.out.lsch
                  lnam := HU.out.lnam
                  lpw := HU.out.lpw
                  lhost := HBS.out.lhost
                  lport := HU.out.lport
                  lopath := HU.out.lopath
                  lsegs := by omega
                  lseg := HSH.out
                  lq := HU.out.lq
                  lfr := HU.out.lfr }
    · have HE := hide (HD2.out.trans (if_pos hf))
      have hfe := neB hf
      unfold fileB at hfe
      have hfn := neqT hfe
      have HPR := hide (fun w1 => pread_any (left.extract k left.size) ru.sch w1 (by rw [size_from]; omega))
      rw [tl_from] at HPR
      clear HD2 hf
      go_enter Tryz.func152, Tryz.ntmps152
      go_wp2_with (go_at_call 154; refine (countSlashes_any _ _ _ (small_len (by omega))).mono ?_; rintro e w' ⟨rfl, rfl⟩; rw [HK.out])
      go_region_with (go_at_call 155; refine (HPR.out _).mono ?_; rintro e w1 ⟨v3, ds, rfl, ho, hds, hdl, hn⟩; obtain ⟨ao, n, cap, rfl⟩ := ownS_open' ho; have HO := hide (own_row ho); have HDS := hide hds; have HSH := hide (short_map hds (readL_short (by rw [List.length_drop, tl_length]; omega))); rw [size_from] at hdl; clear ho hds; obtain ⟨g1, g2, g3, g4⟩ := three_new (ru := { ru with hh := true }) (Nx.then (show Nx _ _ from Nx.rfl.drew) hn); have HUB := hide g1; have HBB := hide g2; have HZ := hide g3; have HN := hide g4; clear g1 g2 g3 g4 hn; obtain ⟨a0, a1, a2, a3, a4, a5, a6, a7, a8, a9, a10, a11, a12, a13⟩ := HUB.out.cells; have af9 := HUB.out.free 9; obtain ⟨z0, z1, z2, z3, z4, z5, z6, z7, z8, z9, z10, z11, z12, z13⟩ := HZ.out.cells; have zf0 := HZ.out.free 0; have zf1 := HZ.out.free 1; have zf2 := HZ.out.free 2; have zf3 := HZ.out.free 3; have zf4 := HZ.out.free 4; have zf5 := HZ.out.free 5; have zf6 := HZ.out.free 6; have zf7 := HZ.out.free 7; have zf8 := HZ.out.free 8; have zf9 := HZ.out.free 9; have zf10 := HZ.out.free 10; have zf11 := HZ.out.free 11; have zf12 := HZ.out.free 12; have zf13 := HZ.out.free 13)
      all_goals go_wp2
      all_goals (
        refine ret14 (rb := w.heap.size + 1 + 1) Tryz.results152 rfl rfl (RecB.put (HZ.out.far (by omega) 9 _) _ _ _ _ _ _ _ _ _ _ _ _ _ _) rfl ⟨⟨{ ru with hh := true, so := ao, sn := n, sc := cap }, ds, by rw [HE.out], ?_, by omega⟩, (put14_below (Below.setCell HN.out (Nat.le_refl _) _) (by omega) _ _ _ _ _ _ _ _ _ _ _ _ _ _)⟩
        exact { eq := by rw [HE.out, ← HU.out.eq]; simp only [Rc.u]; rw [HDS.out]
                seg := HO.out.ks (Ks.then (Ks.then Ks.rfl (ks_set HUB.out.ty (by decide) 9 _)) (put14_ks (HZ.out.ty.set w.heap.size 9 _) (by decide) _ _ _ _ _ _ _ _ _ _ _ _ _ _))
                lsch := HU.out.lsch
                lnam := HU.out.lnam
                lpw := HU.out.lpw
                lhost := HU.out.lhost
                lport := HU.out.lport
                lopath := HU.out.lopath
                lsegs := by omega
                lseg := HSH.out
                lq := HU.out.lq
                lfr := HU.out.lfr })
end Go.Proofs.YtchkhibgbnhjpaaGreatDoor
