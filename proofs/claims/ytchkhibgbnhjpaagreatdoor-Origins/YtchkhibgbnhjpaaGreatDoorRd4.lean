import Derived.Test.YtchkhibgbnhjpaaGreatDoorRd3
namespace Go.Proofs.YtchkhibgbnhjpaaGreatDoor
open Go.RowKit

/-- The blocks of two records that came in and of the one that goes out. -/
theorem three_new {w w1 : World} {ru rb : Rc} (hn : Nx (((w.alloc (Obj.cells #[.string ru.sch, .string ru.nam, .string ru.pw, .bool ru.hh, .string ru.host, .bool ru.hp, .int .i64 (ru.port : Int), .bool ru.op, .string ru.opath, .slice ru.so ru.sn ru.sc, .bool ru.hq, .string ru.q, .bool ru.hf, .string ru.fr] 54)).alloc (Obj.cells #[.string rb.sch, .string rb.nam, .string rb.pw, .bool rb.hh, .string rb.host, .bool rb.hp, .int .i64 (rb.port : Int), .bool rb.op, .string rb.opath, .slice rb.so rb.sn rb.sc, .bool rb.hq, .string rb.q, .bool rb.hf, .string rb.fr] 54)).alloc (Obj.cells #[.string ⟨#[]⟩, .string ⟨#[]⟩, .string ⟨#[]⟩, .bool false, .string ⟨#[]⟩, .bool false, .int .i64 0, .bool false, .string ⟨#[]⟩, .slice none 0 0, .bool false, .string ⟨#[]⟩, .bool false, .string ⟨#[]⟩] 54)) w1) :
    RecB w1 w.heap.size ru ∧ RecB w1 (w.heap.size + 1) rb ∧ RecB w1 (w.heap.size + 1 + 1) rz ∧ Nx w w1 := by
  refine ⟨((recB_new w ru).on ((Nx.rfl.alloc _).alloc _)).on hn, ?_, ?_, (((Nx.rfl.alloc _).alloc _).alloc _).then hn⟩
  · have h := recB_new (w.alloc (Obj.cells #[.string ru.sch, .string ru.nam, .string ru.pw, .bool ru.hh, .string ru.host, .bool ru.hp, .int .i64 (ru.port : Int), .bool ru.op, .string ru.opath, .slice ru.so ru.sn ru.sc, .bool ru.hq, .string ru.q, .bool ru.hf, .string ru.fr] 54)) rb
    rw [show (w.alloc (Obj.cells #[.string ru.sch, .string ru.nam, .string ru.pw, .bool ru.hh, .string ru.host, .bool ru.hp, .int .i64 (ru.port : Int), .bool ru.op, .string ru.opath, .slice ru.so ru.sn ru.sc, .bool ru.hq, .string ru.q, .bool ru.hf, .string ru.fr] 54)).heap.size = w.heap.size + 1 by simp] at h
    exact (h.on (Nx.rfl.alloc _)).on hn
  · have h := rzB_new ((w.alloc (Obj.cells #[.string ru.sch, .string ru.nam, .string ru.pw, .bool ru.hh, .string ru.host, .bool ru.hp, .int .i64 (ru.port : Int), .bool ru.op, .string ru.opath, .slice ru.so ru.sn ru.sc, .bool ru.hq, .string ru.q, .bool ru.hf, .string ru.fr] 54)).alloc (Obj.cells #[.string rb.sch, .string rb.nam, .string rb.pw, .bool rb.hh, .string rb.host, .bool rb.hp, .int .i64 (rb.port : Int), .bool rb.op, .string rb.opath, .slice rb.so rb.sn rb.sc, .bool rb.hq, .string rb.q, .bool rb.hf, .string rb.fr] 54))
    rw [show ((w.alloc (Obj.cells #[.string ru.sch, .string ru.nam, .string ru.pw, .bool ru.hh, .string ru.host, .bool ru.hp, .int .i64 (ru.port : Int), .bool ru.op, .string ru.opath, .slice ru.so ru.sn ru.sc, .bool ru.hq, .string ru.q, .bool ru.hf, .string ru.fr] 54)).alloc (Obj.cells #[.string rb.sch, .string rb.nam, .string rb.pw, .bool rb.hh, .string rb.host, .bool rb.hp, .int .i64 (rb.port : Int), .bool rb.op, .string rb.opath, .slice rb.so rb.sn rb.sc, .bool rb.hq, .string rb.q, .bool rb.hf, .string rb.fr] 54)).heap.size = w.heap.size + 1 + 1 by simp] at h
    exact h.on hn
theorem two_new {w w1 : World} {ru : Rc} (hn : Nx ((w.alloc (Obj.cells #[.string ru.sch, .string ru.nam, .string ru.pw, .bool ru.hh, .string ru.host, .bool ru.hp, .int .i64 (ru.port : Int), .bool ru.op, .string ru.opath, .slice ru.so ru.sn ru.sc, .bool ru.hq, .string ru.q, .bool ru.hf, .string ru.fr] 54)).alloc (Obj.cells #[.string ⟨#[]⟩, .string ⟨#[]⟩, .string ⟨#[]⟩, .bool false, .string ⟨#[]⟩, .bool false, .int .i64 0, .bool false, .string ⟨#[]⟩, .slice none 0 0, .bool false, .string ⟨#[]⟩, .bool false, .string ⟨#[]⟩] 54)) w1) :
    RecB w1 w.heap.size ru ∧ RecB w1 (w.heap.size + 1) rz ∧ Nx w w1 := by
  refine ⟨((recB_new w ru).on (Nx.rfl.alloc _)).on hn, ?_, ((Nx.rfl.alloc _).alloc _).then hn⟩
  have h := rzB_new (w.alloc (Obj.cells #[.string ru.sch, .string ru.nam, .string ru.pw, .bool ru.hh, .string ru.host, .bool ru.hp, .int .i64 (ru.port : Int), .bool ru.op, .string ru.opath, .slice ru.so ru.sn ru.sc, .bool ru.hq, .string ru.q, .bool ru.hf, .string ru.fr] 54))
  rw [show (w.alloc (Obj.cells #[.string ru.sch, .string ru.nam, .string ru.pw, .bool ru.hh, .string ru.host, .bool ru.hp, .int .i64 (ru.port : Int), .bool ru.op, .string ru.opath, .slice ru.so ru.sn ru.sc, .bool ru.hq, .string ru.q, .bool ru.hf, .string ru.fr] 54)).heap.size = w.heap.size + 1 by simp] at h
  exact h.on hn

/-- reading.beside -/
def besideU (u : U) (left : List UInt8) (base : U) : U :=
  if left = [] then { u with segs := base.segs, hq := u.hq || base.hq, q := if u.hq = true then u.q else base.q } else { u with segs := besideL base.segs left u.sch }
set_option maxHeartbeats 8000000 in
theorem beside_any (ru rb : Rc) (u base : U) (bs cs : List ByteArray) (left : ByteArray) (w : World) (h1 : RcIs w ru u bs) (h2 : RcIs w rb base cs) (hcs : cs.length ≤ 60000) (hl : left.size ≤ 30000) :
    Calls Tryz.prog 157 #[.agg #[.string ru.sch, .string ru.nam, .string ru.pw, .bool ru.hh, .string ru.host, .bool ru.hp, .int .i64 (ru.port : Int), .bool ru.op, .string ru.opath, .slice ru.so ru.sn ru.sc, .bool ru.hq, .string ru.q, .bool ru.hf, .string ru.fr], .string left, .agg #[.string rb.sch, .string rb.nam, .string rb.pw, .bool rb.hh, .string rb.host, .bool rb.hp, .int .i64 (rb.port : Int), .bool rb.op, .string rb.opath, .slice rb.so rb.sn rb.sc, .bool rb.hq, .string rb.q, .bool rb.hf, .string rb.fr]] w fun e w' => ∃ (r : Rc) (ds : List ByteArray), e = .returned (.agg #[.string r.sch, .string r.nam, .string r.pw, .bool r.hh, .string r.host, .bool r.hp, .int .i64 (r.port : Int), .bool r.op, .string r.opath, .slice r.so r.sn r.sc, .bool r.hq, .string r.q, .bool r.hf, .string r.fr]) ∧ RcIs w' r (besideU u (tl left) base) ds ∧ ds.length ≤ cs.length + 30001 ∧ Nx w w' := by
  have HU := hide h1
  have HBS := hide h2
  clear h1 h2
  by_cases h0 : left.size = 0
  · have HE := hide (show besideU u (tl left) base = { u with segs := base.segs, hq := u.hq || base.hq, q := if u.hq = true then u.q else base.q } from if_pos (tl_empty h0))
    have h0' := str_empty h0
    clear h0
    go_enter Tryz.func157, Tryz.ntmps157
    go_wp2_with fail
    refine (copy_any _ cs _ (HBS.out.seg.on (((Nx.rfl.alloc _).alloc _).alloc _)) (by omega)).mono ?_
    rintro e w1 ⟨v1, rfl, ho, hn⟩
    obtain ⟨ao, n, cap, rfl⟩ := ownS_open' ho
    obtain ⟨g1, g2, g3, g4⟩ := three_new hn
    have HO := hide (own_row ho)
    have HUB := hide g1
    have HBB := hide g2
    have HZ := hide g3
    have HN := hide g4
    clear ho hn g1 g2 g3 g4
    obtain ⟨a0, a1, a2, a3, a4, a5, a6, a7, a8, a9, a10, a11, a12, a13⟩ := HUB.out.cells
    have af9 := HUB.out.free 9
    have af10 := HUB.out.free 10
    have af11 := HUB.out.free 11
    obtain ⟨-, -, -, -, -, -, -, -, -, -, b10, b11, -, -⟩ := HBB.out.cells
    obtain ⟨z0, z1, z2, z3, z4, z5, z6, z7, z8, z9, z10, z11, z12, z13⟩ := HZ.out.cells
    have zf0 := HZ.out.free 0
    have zf1 := HZ.out.free 1
    have zf2 := HZ.out.free 2
    have zf3 := HZ.out.free 3
    have zf4 := HZ.out.free 4
    have zf5 := HZ.out.free 5
    have zf6 := HZ.out.free 6
    have zf7 := HZ.out.free 7
    have zf8 := HZ.out.free 8
    have zf9 := HZ.out.free 9
    have zf10 := HZ.out.free 10
    have zf11 := HZ.out.free 11
    have zf12 := HZ.out.free 12
    have zf13 := HZ.out.free 13
    cases hhq : ru.hq
    · rw [hhq] at a10
      go_wp2
      refine ret14o (rb := w.heap.size + 1 + 1) Tryz.results157 rfl (RecB.put (((HZ.out.far (by omega) 9 _).far (by omega) 10 _).far (by omega) 11 _) _ _ _ _ _ _ _ _ _ _ _ _ _ _) rfl ⟨{ ru with so := ao, sn := n, sc := cap, hq := rb.hq, q := rb.q }, cs, rfl, ?_, by omega, (put14_below (Below.setCell (Below.setCell (Below.setCell HN.out (Nat.le_refl _) _) (Nat.le_refl _) _) (Nat.le_refl _) _) (by omega) _ _ _ _ _ _ _ _ _ _ _ _ _ _)⟩
      exact { eq := by rw [HE.out, ← HU.out.eq, ← HBS.out.eq]; simp [Rc.u, hhq]
              seg := HO.out.ks (Ks.then (Ks.then (Ks.then (Ks.then Ks.rfl (ks_set HUB.out.ty (by decide) 9 _)) (ks_set (HUB.out.ty.set w.heap.size 9 _) (by decide) 10 _)) (ks_set ((HUB.out.ty.set w.heap.size 9 _).set w.heap.size 10 _) (by decide) 11 _)) (put14_ks (((HZ.out.ty.set w.heap.size 9 _).set w.heap.size 10 _).set w.heap.size 11 _) (by decide) _ _ _ _ _ _ _ _ _ _ _ _ _ _))
              lsch := HU.out.lsch
              lnam := HU.out.lnam
              lpw := HU.out.lpw
              lhost := HU.out.lhost
              lport := HU.out.lport
              lopath := HU.out.lopath
              lsegs := HBS.out.lsegs
              lseg := HBS.out.lseg
              lq := HBS.out.lq
              lfr := HU.out.lfr }
    · rw [hhq] at a10
      go_wp2
      refine ret14o (rb := w.heap.size + 1 + 1) Tryz.results157 rfl (RecB.put (HZ.out.far (by omega) 9 _) _ _ _ _ _ _ _ _ _ _ _ _ _ _) rfl ⟨{ ru with so := ao, sn := n, sc := cap, hq := true }, cs, rfl, ?_, by omega, (put14_below (Below.setCell HN.out (Nat.le_refl _) _) (by omega) _ _ _ _ _ _ _ _ _ _ _ _ _ _)⟩
      exact { eq := by rw [HE.out, ← HU.out.eq, ← HBS.out.eq]; simp [Rc.u, hhq]
              seg := HO.out.ks (Ks.then (Ks.then Ks.rfl (ks_set HUB.out.ty (by decide) 9 _)) (put14_ks (HZ.out.ty.set w.heap.size 9 _) (by decide) _ _ _ _ _ _ _ _ _ _ _ _ _ _))
              lsch := HU.out.lsch
              lnam := HU.out.lnam
              lpw := HU.out.lpw
              lhost := HU.out.lhost
              lport := HU.out.lport
              lopath := HU.out.lopath
              lsegs := HBS.out.lsegs
              lseg := HBS.out.lseg
              lq := HU.out.lq
              lfr := HU.out.lfr }
  · have HE := hide (show besideU u (tl left) base = { u with segs := besideL base.segs (tl left) u.sch } from if_neg (tl_ne h0))
    have h0' := str_nonempty h0
    clear h0
    go_enter Tryz.func157, Tryz.ntmps157
    go_wp2_with fail
    refine (pbeside_any _ cs left ru.sch _ (HBS.out.seg.on (((Nx.rfl.alloc _).alloc _).alloc _)) (by omega) (by omega)).mono ?_
    rintro e w1 ⟨v1, ds, rfl, ho, hds, hdl, hn⟩
    obtain ⟨ao, n, cap, rfl⟩ := ownS_open' ho
    obtain ⟨g1, g2, g3, g4⟩ := three_new hn
    have HO := hide (own_row ho)
    have HUB := hide g1
    have HZ := hide g3
    have HN := hide g4
    have HDS := hide hds
    have HSH := hide (short_map (hds.trans (by rw [HBS.out.segs])) (besideL_short HBS.out.short (by rw [tl_length]; exact hl)))
    clear ho hn g1 g2 g3 g4 hds
    obtain ⟨a0, a1, a2, a3, a4, a5, a6, a7, a8, a9, a10, a11, a12, a13⟩ := HUB.out.cells
    have af9 := HUB.out.free 9
    obtain ⟨z0, z1, z2, z3, z4, z5, z6, z7, z8, z9, z10, z11, z12, z13⟩ := HZ.out.cells
    have zf0 := HZ.out.free 0
    have zf1 := HZ.out.free 1
    have zf2 := HZ.out.free 2
    have zf3 := HZ.out.free 3
    have zf4 := HZ.out.free 4
    have zf5 := HZ.out.free 5
    have zf6 := HZ.out.free 6
    have zf7 := HZ.out.free 7
    have zf8 := HZ.out.free 8
    have zf9 := HZ.out.free 9
    have zf10 := HZ.out.free 10
    have zf11 := HZ.out.free 11
    have zf12 := HZ.out.free 12
    have zf13 := HZ.out.free 13
    go_wp2
    refine ret14o (rb := w.heap.size + 1 + 1) Tryz.results157 rfl (RecB.put (HZ.out.far (by omega) 9 _) _ _ _ _ _ _ _ _ _ _ _ _ _ _) rfl ⟨{ ru with so := ao, sn := n, sc := cap }, ds, rfl, ?_, by omega, (put14_below (Below.setCell HN.out (Nat.le_refl _) _) (by omega) _ _ _ _ _ _ _ _ _ _ _ _ _ _)⟩
    exact { eq := by rw [HE.out, ← HU.out.eq, ← HBS.out.eq]; simp only [Rc.u]; rw [HDS.out]
            seg := HO.out.ks (Ks.then (Ks.then Ks.rfl (ks_set HUB.out.ty (by decide) 9 _)) (put14_ks (HZ.out.ty.set w.heap.size 9 _) (by decide) _ _ _ _ _ _ _ _ _ _ _ _ _ _))
            lsch := HU.out.lsch
            lnam := HU.out.lnam
            lpw := HU.out.lpw
            lhost := HU.out.lhost
            lport := HU.out.lport
            lopath := HU.out.lopath
            lsegs := by omega
            lseg := HSH.out
            lq := HU.out.lq
            lfr := HU.out.lfr }
end Go.Proofs.YtchkhibgbnhjpaaGreatDoor
