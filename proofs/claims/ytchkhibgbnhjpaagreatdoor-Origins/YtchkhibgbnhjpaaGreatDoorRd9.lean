import Derived.Test.YtchkhibgbnhjpaaGreatDoorRd6
import Derived.Test.YtchkhibgbnhjpaaGreatDoorRd8
namespace Go.Proofs.YtchkhibgbnhjpaaGreatDoor
open Go.RowKit

/-- reading.withoutScheme -/
def kept (u base : U) : U := { u with nam := base.nam, pw := base.pw, hh := base.hh, host := base.host, hp := base.hp, port := base.port }
def withoutU (u : U) (left : List UInt8) (base : U) : U × Int :=
  if u.sch = fileB then fileU u left base
  else if 1 < countSl (isSpecial u.sch) left then authorityU u (left.drop (if isSpecial u.sch = true then countSl (isSpecial u.sch) left else 2))
  else if countSl (isSpecial u.sch) left = 1 then ({ kept u base with segs := readL (left.drop 1) u.sch }, 0)
  else (besideU (kept u base) left base, 0)
theorem RcIs.kept {w : World} {ru rb : Rc} {u base : U} {bs cs : List ByteArray} (h1 : RcIs w ru u bs) (h2 : RcIs w rb base cs) : RcIs w { ru with nam := rb.nam, pw := rb.pw, hh := rb.hh, host := rb.host, hp := rb.hp, port := rb.port } (kept u base) bs :=
  { h1 with eq := by rw [← h1.eq, ← h2.eq]; rfl, lnam := h2.lnam, lpw := h2.lpw, lhost := h2.lhost, lport := h2.lport }
set_option maxHeartbeats 16000000 in
theorem withoutU_any (ru rb : Rc) (u base : U) (bs cs : List ByteArray) (left : ByteArray) (w : World) (h1 : RcIs w ru u bs) (h2 : RcIs w rb base cs) (hcs : cs.length ≤ 60000) (hbs : bs.length ≤ 0) (hl : left.size ≤ 30000) (ht : Tb w) :
    Calls Tryz.prog 115 #[.agg #[.string ru.sch, .string ru.nam, .string ru.pw, .bool ru.hh, .string ru.host, .bool ru.hp, .int .i64 (ru.port : Int), .bool ru.op, .string ru.opath, .slice ru.so ru.sn ru.sc, .bool ru.hq, .string ru.q, .bool ru.hf, .string ru.fr], .string left, .agg #[.string rb.sch, .string rb.nam, .string rb.pw, .bool rb.hh, .string rb.host, .bool rb.hp, .int .i64 (rb.port : Int), .bool rb.op, .string rb.opath, .slice rb.so rb.sn rb.sc, .bool rb.hq, .string rb.q, .bool rb.hf, .string rb.fr]] w fun e w' => ResIs e w' (withoutU u (tl left) base) (cs.length + 30002) ∧ Nx w w' := by
  have HU := hide h1
  have HBS := hide h2
  have HTB := hide ht
  have HD := hide (show withoutU u (tl left) base = if tl ru.sch = fileB then fileU u (tl left) base
    else if 1 < countSl (isSpecial (tl ru.sch)) (tl left) then authorityU u ((tl left).drop (if isSpecial (tl ru.sch) = true then countSl (isSpecial (tl ru.sch)) (tl left) else 2))
    else if countSl (isSpecial (tl ru.sch)) (tl left) = 1 then ({ kept u base with segs := readL ((tl left).drop 1) (tl ru.sch) }, 0)
    else (besideU (kept u base) (tl left) base, 0) by rw [h1.usch]; rfl)
  clear h1 h2 ht
  by_cases hf : tl ru.sch = fileB
  · have HE := hide (HD.out.trans (if_pos hf))
    have hfe := eqB hf
    unfold fileB at hfe
    clear HD hf
    go_enter Tryz.func115, Tryz.ntmps115
    go_wp2_with fail
    refine (fileU_any ru rb u base bs cs left _ (HU.out.on (((Nx.rfl.alloc _).alloc _).alloc _)) (HBS.out.on (((Nx.rfl.alloc _).alloc _).alloc _)) hcs hl (HTB.out.on (((Nx.rfl.alloc _).alloc _).alloc _))).mono ?_
    rintro e w1 ⟨⟨r, ds, rfl, hr, hdl⟩, hn⟩
    have HR := hide hr
    clear hr
    obtain ⟨g1, g2, g3, g4⟩ := three_new (ru := ru) (Nx.then (show Nx _ _ from Nx.rfl) hn)
    have HUB := hide g1
    have HBB := hide g2
    have HZ := hide g3
    have HN := hide g4
    clear g1 g2 g3 g4 hn
    obtain ⟨z0, z1, z2, z3, z4, z5, z6, z7, z8, z9, z10, z11, z12, z13⟩ := HZ.out.cells
    have zf0 := HZ.out.free 0
    have zf1 := HZ.out.free 1
    have zf2 := HZ.out.free 2
    have zf3 := HZ.out.free 3
    have zf4 := HZ.out.free 4
    have zf5 := HZ.out.free 5
    have zf6 := HZ.out.free 6
    have zf7 := HZ.out.free 7
    have zf8 := HZ.out.free 8
    have zf9 := HZ.out.free 9
    have zf10 := HZ.out.free 10
    have zf11 := HZ.out.free 11
    have zf12 := HZ.out.free 12
    have zf13 := HZ.out.free 13
    go_wp2
    exact ret14 (rb := w.heap.size + 1 + 1) Tryz.results115 rfl rfl (RecB.put HZ.out _ _ _ _ _ _ _ _ _ _ _ _ _ _) rfl ⟨⟨r, ds, (by rw [HE.out]; first | done | rfl), (by rw [HE.out]; exact HR.out.ks (Ks.then Ks.rfl (put14_ks HZ.out.ty (by decide) _ _ _ _ _ _ _ _ _ _ _ _ _ _))), by omega⟩, (put14_below HN.out (by omega) _ _ _ _ _ _ _ _ _ _ _ _ _ _)⟩
  · have HD2 := hide (HD.out.trans (if_neg hf))
    have hfe := neB hf
    unfold fileB at hfe
    clear HD hf
    generalize hsp : isSpecial (tl ru.sch) = sp at *
    have HSP := hide hsp
    clear hsp
    have hk := countSl_le sp (tl left)
    rw [tl_length] at hk
    generalize hkk : countSl sp (tl left) = k at *
    have HK := hide hkk
    clear hkk
    by_cases hk1 : 1 < k
    · have HD3 := hide (HD2.out.trans (if_pos hk1))
      have hki : 1 < (k : Int) := by omega
      have hl2 : 2 ≤ left.size := by omega
      clear HD2
      cases sp
      · have HE : Hid (withoutU u (tl left) base = authorityU u ((tl left).drop 2)) := hide HD3.out
        have HFH := hide (fun w1 (hn : Nx w w1) => authorityU_any ru u bs (left.extract 2 left.size) w1 (HU.out.on hn) (HTB.out.on hn) (by rw [size_from]; omega))
        rw [tl_from] at HFH
        clear HD3
        go_enter Tryz.func115, Tryz.ntmps115
        go_wp2_with (first | (go_at_call 112; refine (special_any _ _).mono ?_; rintro e w' ⟨rfl, rfl⟩; rw [HSP.out]) | (go_at_call 154; refine (countSlashes_any _ _ _ (small_len (by omega))).mono ?_; rintro e w' ⟨rfl, rfl⟩; rw [HK.out]))
        go_region_with (go_at_call 156; refine (HFH.out _ (((Nx.rfl.alloc _).alloc _).alloc _).drew).mono ?_; rintro e w1 ⟨⟨r, ds, rfl, hr, hdl⟩, hn⟩; have HR := hide hr; clear hr; obtain ⟨g1, g2, g3, g4⟩ := three_new (ru := ru) (Nx.then (show Nx _ _ from Nx.rfl.drew) hn); have HUB := hide g1; have HBB := hide g2; have HZ := hide g3; have HN := hide g4; clear g1 g2 g3 g4 hn; obtain ⟨z0, z1, z2, z3, z4, z5, z6, z7, z8, z9, z10, z11, z12, z13⟩ := HZ.out.cells; have zf0 := HZ.out.free 0; have zf1 := HZ.out.free 1; have zf2 := HZ.out.free 2; have zf3 := HZ.out.free 3; have zf4 := HZ.out.free 4; have zf5 := HZ.out.free 5; have zf6 := HZ.out.free 6; have zf7 := HZ.out.free 7; have zf8 := HZ.out.free 8; have zf9 := HZ.out.free 9; have zf10 := HZ.out.free 10; have zf11 := HZ.out.free 11; have zf12 := HZ.out.free 12; have zf13 := HZ.out.free 13)
        all_goals go_wp2
        all_goals exact ret14 (rb := w.heap.size + 1 + 1) Tryz.results115 rfl rfl (RecB.put HZ.out _ _ _ _ _ _ _ _ _ _ _ _ _ _) rfl ⟨⟨r, ds, (by rw [HE.out]; first | done | rfl), (by rw [HE.out]; exact HR.out.ks (Ks.then Ks.rfl (put14_ks HZ.out.ty (by decide) _ _ _ _ _ _ _ _ _ _ _ _ _ _))), by omega⟩, (put14_below HN.out (by omega) _ _ _ _ _ _ _ _ _ _ _ _ _ _)⟩
      · have HE : Hid (withoutU u (tl left) base = authorityU u ((tl left).drop k)) := hide HD3.out
        have HFH := hide (fun w1 (hn : Nx w w1) => authorityU_any ru u bs (left.extract k left.size) w1 (HU.out.on hn) (HTB.out.on hn) (by rw [size_from]; omega))
        rw [tl_from] at HFH
        clear HD3
        go_enter Tryz.func115, Tryz.ntmps115
        go_wp2_with (first | (go_at_call 112; refine (special_any _ _).mono ?_; rintro e w' ⟨rfl, rfl⟩; rw [HSP.out]) | (go_at_call 154; refine (countSlashes_any _ _ _ (small_len (by omega))).mono ?_; rintro e w' ⟨rfl, rfl⟩; rw [HK.out]))
        go_region_with (go_at_call 156; refine (HFH.out _ (((Nx.rfl.alloc _).alloc _).alloc _).drew).mono ?_; rintro e w1 ⟨⟨r, ds, rfl, hr, hdl⟩, hn⟩; have HR := hide hr; clear hr; obtain ⟨g1, g2, g3, g4⟩ := three_new (ru := ru) (Nx.then (show Nx _ _ from Nx.rfl.drew) hn); have HUB := hide g1; have HBB := hide g2; have HZ := hide g3; have HN := hide g4; clear g1 g2 g3 g4 hn; obtain ⟨z0, z1, z2, z3, z4, z5, z6, z7, z8, z9, z10, z11, z12, z13⟩ := HZ.out.cells; have zf0 := HZ.out.free 0; have zf1 := HZ.out.free 1; have zf2 := HZ.out.free 2; have zf3 := HZ.out.free 3; have zf4 := HZ.out.free 4; have zf5 := HZ.out.free 5; have zf6 := HZ.out.free 6; have zf7 := HZ.out.free 7; have zf8 := HZ.out.free 8; have zf9 := HZ.out.free 9; have zf10 := HZ.out.free 10; have zf11 := HZ.out.free 11; have zf12 := HZ.out.free 12; have zf13 := HZ.out.free 13)
        all_goals go_wp2
        all_goals exact ret14 (rb := w.heap.size + 1 + 1) Tryz.results115 rfl rfl (RecB.put HZ.out _ _ _ _ _ _ _ _ _ _ _ _ _ _) rfl ⟨⟨r, ds, (by rw [HE.out]; first | done | rfl), (by rw [HE.out]; exact HR.out.ks (Ks.then Ks.rfl (put14_ks HZ.out.ty (by decide) _ _ _ _ _ _ _ _ _ _ _ _ _ _))), by omega⟩, (put14_below HN.out (by omega) _ _ _ _ _ _ _ _ _ _ _ _ _ _)⟩
    · have HD3 := hide (HD2.out.trans (if_neg hk1))
      have hki : (k : Int) ≤ 1 := by omega
      clear HD2
      by_cases hke : k = 1
      · have HE := hide (HD3.out.trans (if_pos hke))
        have hkb : ((k : Int) == 1) = true := by rw [hke]; rfl
        have hl1 : 1 ≤ left.size := by omega
        have HPR := hide (fun w1 => pread_any (left.extract 1 left.size) ru.sch w1 (by rw [size_from]; omega))
        rw [tl_from] at HPR
        clear HD3 hke
        go_enter Tryz.func115, Tryz.ntmps115
        go_wp2_with (first | (go_at_call 112; refine (special_any _ _).mono ?_; rintro e w' ⟨rfl, rfl⟩; rw [HSP.out]) | (go_at_call 154; refine (countSlashes_any _ _ _ (small_len (by omega))).mono ?_; rintro e w' ⟨rfl, rfl⟩; rw [HK.out]))
        go_region_with (go_at_call 155; refine (HPR.out _).mono ?_; rintro e w1 ⟨v3, ds, rfl, ho, hds, hdl, hn⟩; obtain ⟨ao, n, cap, rfl⟩ := ownS_open' ho; have HO := hide (own_row ho); have HDS := hide hds; have HSH := hide (short_map hds (readL_short (by rw [List.length_drop, tl_length]; omega))); rw [size_from] at hdl; clear ho hds; obtain ⟨g1, g2, g3, g4⟩ := three_new (ru := { ru with nam := rb.nam, pw := rb.pw, hh := rb.hh, host := rb.host, hp := rb.hp, port := rb.port }) (Nx.then (show Nx _ _ from Nx.rfl.drew) hn); have HUB := hide g1; have HBB := hide g2; have HZ := hide g3; have HN := hide g4; clear g1 g2 g3 g4 hn; obtain ⟨a0, a1, a2, a3, a4, a5, a6, a7, a8, a9, a10, a11, a12, a13⟩ := HUB.out.cells; have af9 := HUB.out.free 9; obtain ⟨z0, z1, z2, z3, z4, z5, z6, z7, z8, z9, z10, z11, z12, z13⟩ := HZ.out.cells; have zf0 := HZ.out.free 0; have zf1 := HZ.out.free 1; have zf2 := HZ.out.free 2; have zf3 := HZ.out.free 3; have zf4 := HZ.out.free 4; have zf5 := HZ.out.free 5; have zf6 := HZ.out.free 6; have zf7 := HZ.out.free 7; have zf8 := HZ.out.free 8; have zf9 := HZ.out.free 9; have zf10 := HZ.out.free 10; have zf11 := HZ.out.free 11; have zf12 := HZ.out.free 12; have zf13 := HZ.out.free 13)
        all_goals go_wp2
        all_goals (
          refine ret14 (rb := w.heap.size + 1 + 1) Tryz.results115 rfl rfl (RecB.put (HZ.out.far (by omega) 9 _) _ _ _ _ _ _ _ _ _ _ _ _ _ _) rfl ⟨⟨{ ru with nam := rb.nam, pw := rb.pw, hh := rb.hh, host := rb.host, hp := rb.hp, port := rb.port, so := ao, sn := n, sc := cap }, ds, (by rw [HE.out]; first | done | rfl), ?_, by omega⟩, (put14_below (Below.setCell HN.out (Nat.le_refl _) _) (by omega) _ _ _ _ _ _ _ _ _ _ _ _ _ _)⟩
          exact { eq := by rw [HE.out, ← HU.out.eq, ← HBS.out.eq]; simp only [Rc.u, kept]; rw [HDS.out]
                  seg := HO.out.ks (Ks.then (Ks.then Ks.rfl (ks_set HUB.out.ty (by decide) 9 _)) (put14_ks (HZ.out.ty.set w.heap.size 9 _) (by decide) _ _ _ _ _ _ _ _ _ _ _ _ _ _))
                  lsch := HU.out.lsch
                  lnam := HBS.out.lnam
                  lpw := HBS.out.lpw
                  lhost := HBS.out.lhost
                  lport := HBS.out.lport
                  lopath := HU.out.lopath
                  lsegs := by omega
                  lseg := HSH.out
                  lq := HU.out.lq
                  lfr := HU.out.lfr })
      · have HE := hide (HD3.out.trans (if_neg hke))
        have hkb : ((k : Int) == 1) = false := beq_eq_false_iff_ne.2 (by omega)
        clear HD3 hke
        go_enter Tryz.func115, Tryz.ntmps115
        go_wp2_with (first | (go_at_call 112; refine (special_any _ _).mono ?_; rintro e w' ⟨rfl, rfl⟩; rw [HSP.out]) | (go_at_call 154; refine (countSlashes_any _ _ _ (small_len (by omega))).mono ?_; rintro e w' ⟨rfl, rfl⟩; rw [HK.out]) | fail)
        refine (beside_any { ru with nam := rb.nam, pw := rb.pw, hh := rb.hh, host := rb.host, hp := rb.hp, port := rb.port } rb (kept u base) base bs cs left _ (RcIs.kept (HU.out.on (((Nx.rfl.alloc _).alloc _).alloc _)) (HBS.out.on (((Nx.rfl.alloc _).alloc _).alloc _))) (HBS.out.on (((Nx.rfl.alloc _).alloc _).alloc _)) hcs hl).mono ?_
        rintro e w1 ⟨r, ds, rfl, hr, hdl, hn⟩
        have HR := hide hr
        clear hr
        obtain ⟨g1, g2, g3, g4⟩ := three_new (ru := { ru with nam := rb.nam, pw := rb.pw, hh := rb.hh, host := rb.host, hp := rb.hp, port := rb.port }) (Nx.then (show Nx _ _ from Nx.rfl) hn)
        have HUB := hide g1
        have HBB := hide g2
        have HZ := hide g3
        have HN := hide g4
        clear g1 g2 g3 g4 hn
        obtain ⟨z0, z1, z2, z3, z4, z5, z6, z7, z8, z9, z10, z11, z12, z13⟩ := HZ.out.cells
        have zf0 := HZ.out.free 0
        have zf1 := HZ.out.free 1
        have zf2 := HZ.out.free 2
        have zf3 := HZ.out.free 3
        have zf4 := HZ.out.free 4
        have zf5 := HZ.out.free 5
        have zf6 := HZ.out.free 6
        have zf7 := HZ.out.free 7
        have zf8 := HZ.out.free 8
        have zf9 := HZ.out.free 9
        have zf10 := HZ.out.free 10
        have zf11 := HZ.out.free 11
        have zf12 := HZ.out.free 12
        have zf13 := HZ.out.free 13
        go_wp2
        exact ret14 (rb := w.heap.size + 1 + 1) Tryz.results115 rfl rfl (RecB.put HZ.out _ _ _ _ _ _ _ _ _ _ _ _ _ _) rfl ⟨⟨r, ds, (by rw [HE.out]; first | done | rfl), (by rw [HE.out]; exact HR.out.ks (Ks.then Ks.rfl (put14_ks HZ.out.ty (by decide) _ _ _ _ _ _ _ _ _ _ _ _ _ _))), by omega⟩, (put14_below HN.out (by omega) _ _ _ _ _ _ _ _ _ _ _ _ _ _)⟩
end Go.Proofs.YtchkhibgbnhjpaaGreatDoor
