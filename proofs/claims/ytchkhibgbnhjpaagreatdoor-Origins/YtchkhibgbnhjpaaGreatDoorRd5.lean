import Derived.Test.YtchkhibgbnhjpaaGreatDoorRd4
namespace Go.Proofs.YtchkhibgbnhjpaaGreatDoor
open Go.RowKit

theorem RecB.s1 {w : World} {b : Nat} {r : Rc} (h : RecB w b r) (x : ByteArray) : RecB (w.setCell ⟨b, 1, none⟩ (.string x)) b { r with nam := x } := by
  unfold RecB at *
  simp [World.setCell, Array.getElem?_modify, h]
theorem RecB.s2 {w : World} {b : Nat} {r : Rc} (h : RecB w b r) (x : ByteArray) : RecB (w.setCell ⟨b, 2, none⟩ (.string x)) b { r with pw := x } := by
  unfold RecB at *
  simp [World.setCell, Array.getElem?_modify, h]
theorem RecB.s3 {w : World} {b : Nat} {r : Rc} (h : RecB w b r) (x : Bool) : RecB (w.setCell ⟨b, 3, none⟩ (.bool x)) b { r with hh := x } := by
  unfold RecB at *
  simp [World.setCell, Array.getElem?_modify, h]
theorem RecB.s4 {w : World} {b : Nat} {r : Rc} (h : RecB w b r) (x : ByteArray) : RecB (w.setCell ⟨b, 4, none⟩ (.string x)) b { r with host := x } := by
  unfold RecB at *
  simp [World.setCell, Array.getElem?_modify, h]
theorem RecB.s5 {w : World} {b : Nat} {r : Rc} (h : RecB w b r) (x : Bool) : RecB (w.setCell ⟨b, 5, none⟩ (.bool x)) b { r with hp := x } := by
  unfold RecB at *
  simp [World.setCell, Array.getElem?_modify, h]
theorem RecB.s7 {w : World} {b : Nat} {r : Rc} (h : RecB w b r) (x : Bool) : RecB (w.setCell ⟨b, 7, none⟩ (.bool x)) b { r with op := x } := by
  unfold RecB at *
  simp [World.setCell, Array.getElem?_modify, h]
theorem RecB.s8 {w : World} {b : Nat} {r : Rc} (h : RecB w b r) (x : ByteArray) : RecB (w.setCell ⟨b, 8, none⟩ (.string x)) b { r with opath := x } := by
  unfold RecB at *
  simp [World.setCell, Array.getElem?_modify, h]
theorem RecB.s10 {w : World} {b : Nat} {r : Rc} (h : RecB w b r) (x : Bool) : RecB (w.setCell ⟨b, 10, none⟩ (.bool x)) b { r with hq := x } := by
  unfold RecB at *
  simp [World.setCell, Array.getElem?_modify, h]
theorem RecB.s11 {w : World} {b : Nat} {r : Rc} (h : RecB w b r) (x : ByteArray) : RecB (w.setCell ⟨b, 11, none⟩ (.string x)) b { r with q := x } := by
  unfold RecB at *
  simp [World.setCell, Array.getElem?_modify, h]
theorem RecB.s12 {w : World} {b : Nat} {r : Rc} (h : RecB w b r) (x : Bool) : RecB (w.setCell ⟨b, 12, none⟩ (.bool x)) b { r with hf := x } := by
  unfold RecB at *
  simp [World.setCell, Array.getElem?_modify, h]
theorem RecB.s13 {w : World} {b : Nat} {r : Rc} (h : RecB w b r) (x : ByteArray) : RecB (w.setCell ⟨b, 13, none⟩ (.string x)) b { r with fr := x } := by
  unfold RecB at *
  simp [World.setCell, Array.getElem?_modify, h]
theorem RecB.s6 {w : World} {b : Nat} {r : Rc} (h : RecB w b r) (x : Nat) : RecB (w.setCell ⟨b, 6, none⟩ (.int .i64 (x : Int))) b { r with port := x } := by
  unfold RecB at *
  simp [World.setCell, Array.getElem?_modify, h]
theorem RecB.s9 {w : World} {b : Nat} {r : Rc} (h : RecB w b r) (ao : Option Addr) (n c : Nat) : RecB (w.setCell ⟨b, 9, none⟩ (.slice ao n c)) b { r with so := ao, sn := n, sc := c } := by
  unfold RecB at *
  simp [World.setCell, Array.getElem?_modify, h]

/-- reading.againstOpaque -/
def opaqueU (rest : List UInt8) (hf : Bool) (base : U) : U × Int := if rest = [] ∧ hf = true then (base, 0) else (zeroU, 2)
set_option maxHeartbeats 8000000 in
theorem opaque_any (rest : ByteArray) (hf : Bool) (rb : Rc) (base : U) (cs : List ByteArray) (w : World) (h2 : RcIs w rb base cs) :
    Calls Tryz.prog 111 #[.string rest, .bool hf, .agg #[.string rb.sch, .string rb.nam, .string rb.pw, .bool rb.hh, .string rb.host, .bool rb.hp, .int .i64 (rb.port : Int), .bool rb.op, .string rb.opath, .slice rb.so rb.sn rb.sc, .bool rb.hq, .string rb.q, .bool rb.hf, .string rb.fr]] w fun e w' => ResIs e w' (opaqueU (tl rest) hf base) cs.length ∧ Nx w w' := by
  have HBS := hide h2
  clear h2
  by_cases h0 : rest.size = 0
  · have h0' := str_empty h0
    have HT := hide (tl_empty h0)
    clear h0
    cases hf
    · have HE := hide (show opaqueU (tl rest) false base = (zeroU, 2) from if_neg (fun h => by cases h.2))
      go_enter Tryz.func111, Tryz.ntmps111
      go_wp2
      have HC := hide (rzB_new (w.alloc (Obj.cells #[.string rb.sch, .string rb.nam, .string rb.pw, .bool rb.hh, .string rb.host, .bool rb.hp, .int .i64 (rb.port : Int), .bool rb.op, .string rb.opath, .slice rb.so rb.sn rb.sc, .bool rb.hq, .string rb.q, .bool rb.hf, .string rb.fr] 54)))
      rw [show (w.alloc (Obj.cells #[.string rb.sch, .string rb.nam, .string rb.pw, .bool rb.hh, .string rb.host, .bool rb.hp, .int .i64 (rb.port : Int), .bool rb.op, .string rb.opath, .slice rb.so rb.sn rb.sc, .bool rb.hq, .string rb.q, .bool rb.hf, .string rb.fr] 54)).heap.size = w.heap.size + 1 by simp] at HC
      exact ret14 (rb := w.heap.size + 1) Tryz.results111 rfl rfl HC.out rfl ⟨⟨rz, [], by rw [HE.out], by rw [HE.out]; exact rz_is _, by simp⟩, (Nx.rfl.alloc _).alloc _⟩
    · have HE := hide (show opaqueU (tl rest) true base = (base, 0) from if_pos ⟨HT.out, rfl⟩)
      go_enter Tryz.func111, Tryz.ntmps111
      go_wp2
      have HC := hide (recB_new (w.alloc (Obj.cells #[.string rb.sch, .string rb.nam, .string rb.pw, .bool rb.hh, .string rb.host, .bool rb.hp, .int .i64 (rb.port : Int), .bool rb.op, .string rb.opath, .slice rb.so rb.sn rb.sc, .bool rb.hq, .string rb.q, .bool rb.hf, .string rb.fr] 54)) rb)
      rw [show (w.alloc (Obj.cells #[.string rb.sch, .string rb.nam, .string rb.pw, .bool rb.hh, .string rb.host, .bool rb.hp, .int .i64 (rb.port : Int), .bool rb.op, .string rb.opath, .slice rb.so rb.sn rb.sc, .bool rb.hq, .string rb.q, .bool rb.hf, .string rb.fr] 54)).heap.size = w.heap.size + 1 by simp] at HC
      exact ret14 (rb := w.heap.size + 1) Tryz.results111 rfl rfl HC.out rfl ⟨⟨rb, cs, by rw [HE.out], by rw [HE.out]; exact HBS.out.on ((Nx.rfl.alloc _).alloc _), Nat.le_refl _⟩, (Nx.rfl.alloc _).alloc _⟩
  · have h0' := str_nonempty h0
    have HE := hide (show opaqueU (tl rest) hf base = (zeroU, 2) from if_neg (fun h => tl_ne h0 h.1))
    clear h0
    go_enter Tryz.func111, Tryz.ntmps111
    go_wp2
    have HC := hide (rzB_new (w.alloc (Obj.cells #[.string rb.sch, .string rb.nam, .string rb.pw, .bool rb.hh, .string rb.host, .bool rb.hp, .int .i64 (rb.port : Int), .bool rb.op, .string rb.opath, .slice rb.so rb.sn rb.sc, .bool rb.hq, .string rb.q, .bool rb.hf, .string rb.fr] 54)))
    rw [show (w.alloc (Obj.cells #[.string rb.sch, .string rb.nam, .string rb.pw, .bool rb.hh, .string rb.host, .bool rb.hp, .int .i64 (rb.port : Int), .bool rb.op, .string rb.opath, .slice rb.so rb.sn rb.sc, .bool rb.hq, .string rb.q, .bool rb.hf, .string rb.fr] 54)).heap.size = w.heap.size + 1 by simp] at HC
    exact ret14 (rb := w.heap.size + 1) Tryz.results111 rfl rfl HC.out rfl ⟨⟨rz, [], by rw [HE.out], by rw [HE.out]; exact rz_is _, by simp⟩, (Nx.rfl.alloc _).alloc _⟩

/-- reading.readFileHost -/
def fileHostU (u : U) (t : List UInt8) : U × Int :=
  if driveB (bcut (slB true) t).1 = true then ({ u with segs := readL t u.sch }, 0)
  else if (fileHostL (bcut (slB true) t).1).2 ≠ 0 then (zeroU, (fileHostL (bcut (slB true) t).1).2)
  else ({ u with host := (fileHostL (bcut (slB true) t).1).1, segs := readL (bcut (slB true) t).2.1 u.sch }, 0)
theorem hostL_len {l : List UInt8} {sp : Bool} (hl : l.length ≤ 30000) : (hostL l sp).1.length ≤ 300000 := by
  unfold hostL
  split
  · unfold bracketsL
    split
    · simp
    · split
      · have := w6_len (ip6 ((l.take (l.length - 1)).drop 1)).1 (longRun (ip6 ((l.take (l.length - 1)).drop 1)).1).1 (longRun (ip6 ((l.take (l.length - 1)).drop 1)).1).2 8 0
        simp only [List.length_append, List.length_cons, List.length_nil]
        unfold text6
        omega
      · simp
  · split
    · unfold domainL domEnd
      have h1 := bdec_len l
      have h2 := low_len (bdecode l)
      split
      · simp
      · split
        · simp
        · split
          · show (lower (bdecode l)).length ≤ 300000; omega
          · split
            · have := suf4_len (ip4 (noEndL (bsplit 46 (lower (bdecode l))))).1.toNat 4
              show (suf4 _ 4).length ≤ 300000
              omega
            · simp
    · unfold otherL
      split
      · simp
      · exact enc_short _ _ hl
theorem fileHostL_len {l : List UInt8} (hl : l.length ≤ 30000) : (fileHostL l).1.length ≤ 300000 := by
  unfold fileHostL
  split
  · simp
  · split
    · simp
    · split
      · simp
      · exact hostL_len hl
set_option maxHeartbeats 8000000 in
theorem fileHostU_any (ru : Rc) (u : U) (bs : List ByteArray) (t : ByteArray) (w : World) (h1 : RcIs w ru u bs) (ht : Tb w) (hl : t.size ≤ 30000) :
    Calls Tryz.prog 185 #[.agg #[.string ru.sch, .string ru.nam, .string ru.pw, .bool ru.hh, .string ru.host, .bool ru.hp, .int .i64 (ru.port : Int), .bool ru.op, .string ru.opath, .slice ru.so ru.sn ru.sc, .bool ru.hq, .string ru.q, .bool ru.hf, .string ru.fr], .string t] w fun e w' => ResIs e w' (fileHostU u (tl t)) 30001 ∧ Nx w w' := by
  have HU := hide h1
  have HTB := hide ht
  have hcl := bcut_len (slB true) (tl t)
  have HD := hide (show fileHostU u (tl t) = if driveB (bcut (slB true) (tl t)).1 = true then ({ u with segs := readL (tl t) u.sch }, 0)
    else if (fileHostL (bcut (slB true) (tl t)).1).2 ≠ 0 then (zeroU, (fileHostL (bcut (slB true) (tl t)).1).2)
    else ({ u with host := (fileHostL (bcut (slB true) (tl t)).1).1, segs := readL (bcut (slB true) (tl t)).2.1 u.sch }, 0) from rfl)
  clear h1 ht
  go_enter Tryz.func185, Tryz.ntmps185
  go_wp2_with fail
  refine (cutSlash_any t true _ (small_len (by omega))).mono ?_
  rintro e w1 ⟨⟨x, y, rfl, hx, hy⟩, hn1⟩
  rw [← hx, ← hy] at HD hcl
  rw [tl_length, tl_length, tl_length] at hcl
  have hxl : x.size ≤ 30000 := by omega
  have hyl : y.size ≤ 30000 := by omega
  obtain ⟨g1, g2, g3⟩ := two_new hn1
  have HUB := hide g1
  have HZ := hide g2
  have HN := hide g3
  clear hx hy hn1 g1 g2 g3
  generalize (bcut (slB true) (tl t)).2.2 = fnd at *
  cases hd : driveB (tl x)
  · have HD2 := hide (HD.out.trans (if_neg (by rw [hd]; decide)))
    have HDR := hide hd
    have hfl := fileHostL_len (l := tl x) (by rw [tl_length]; exact hxl)
    clear HD hd
    go_wp2_with (first | (go_at_call 223; refine (drive_any _ _).mono ?_; rintro e w' ⟨rfl, rfl⟩; rw [HDR.out]) | fail)
    refine (fileHost_any x _ (by omega) (HTB.out.on HN.out)).mono ?_
    rintro e w2 ⟨fh, rfl, hfh, hn2⟩
    have hfs : fh.size ≤ 300000 := by rw [← tl_length, hfh]; exact hfl
    rw [← hfh] at HD2
    have HUB2 := hide (HUB.out.on hn2)
    have HZ2 := hide (HZ.out.on hn2)
    have HN2 := hide (HN.out.then hn2)
    clear hfh hn2 hfl HUB HZ HN
    generalize (fileHostL (tl x)).2 = err at *
    by_cases he : err = 0
    · subst he
      have HE := hide (HD2.out.trans (if_neg (by decide)))
      clear HD2
      obtain ⟨a0, a1, a2, a3, a4, a5, a6, a7, a8, a9, a10, a11, a12, a13⟩ := HUB2.out.cells
      have af4 := HUB2.out.free 4
      go_wp2_with fail
      refine (pread_any y ru.sch _ (by omega)).mono ?_
      rintro e w3 ⟨v3, ds, rfl, ho, hds, hdl, hn3⟩
      obtain ⟨ao, n, cap, rfl⟩ := ownS_open' ho
      have HO := hide (own_row ho)
      have HDS := hide hds
      have HSH := hide (short_map hds (readL_short (by rw [tl_length]; exact hyl)))
      have HUB3 := hide ((HUB2.out.s4 fh).on hn3)
      have HZ3 := hide ((HZ2.out.far (q := w.heap.size) (by omega) 4 (.string fh)).on hn3)
      have HN3 := hide (Nx.then (show Nx w _ from Below.setCell (p := ⟨w.heap.size, 4, none⟩) HN2.out (Nat.le_refl _) (.string fh)) hn3)
      clear ho hds hn3 HUB2 HZ2 HN2
      clear a0 a1 a2 a3 a4 a5 a6 a7 a8 a9 a10 a11 a12 a13 af4
      obtain ⟨a0, a1, a2, a3, a4, a5, a6, a7, a8, a9, a10, a11, a12, a13⟩ := HUB3.out.cells
      have af9 := HUB3.out.free 9
      obtain ⟨z0, z1, z2, z3, z4, z5, z6, z7, z8, z9, z10, z11, z12, z13⟩ := HZ3.out.cells
      have zf0 := HZ3.out.free 0
      have zf1 := HZ3.out.free 1
      have zf2 := HZ3.out.free 2
      have zf3 := HZ3.out.free 3
      have zf4 := HZ3.out.free 4
      have zf5 := HZ3.out.free 5
      have zf6 := HZ3.out.free 6
      have zf7 := HZ3.out.free 7
      have zf8 := HZ3.out.free 8
      have zf9 := HZ3.out.free 9
      have zf10 := HZ3.out.free 10
      have zf11 := HZ3.out.free 11
      have zf12 := HZ3.out.free 12
      have zf13 := HZ3.out.free 13
      go_wp2
      refine ret14 (rb := w.heap.size + 1) Tryz.results185 rfl rfl (RecB.put (HZ3.out.far (by omega) 9 _) _ _ _ _ _ _ _ _ _ _ _ _ _ _) rfl ⟨⟨{ ru with host := fh, so := ao, sn := n, sc := cap }, ds, by rw [HE.out], ?_, by omega⟩, (put14_below (Below.setCell HN3.out (Nat.le_refl _) _) (by omega) _ _ _ _ _ _ _ _ _ _ _ _ _ _)⟩
      exact { eq := by rw [HE.out, ← HU.out.eq]; simp only [Rc.u]; rw [HDS.out]
              seg := HO.out.ks (Ks.then (Ks.then Ks.rfl (ks_set HUB3.out.ty (by decide) 9 _)) (put14_ks (HZ3.out.ty.set w.heap.size 9 _) (by decide) _ _ _ _ _ _ _ _ _ _ _ _ _ _))
              lsch := HU.out.lsch
              lnam := HU.out.lnam
              lpw := HU.out.lpw
              lhost := hfs
              lport := HU.out.lport
              lopath := HU.out.lopath
              lsegs := by omega
              lseg := HSH.out
              lq := HU.out.lq
              lfr := HU.out.lfr }
    · have HE := hide (HD2.out.trans (if_pos he))
      have he' : (err != 0) = true := bneT (beq_eq_false_iff_ne.2 he)
      clear HD2 he
      obtain ⟨z0, z1, z2, z3, z4, z5, z6, z7, z8, z9, z10, z11, z12, z13⟩ := HZ2.out.cells
      have zf0 := HZ2.out.free 0
      have zf1 := HZ2.out.free 1
      have zf2 := HZ2.out.free 2
      have zf3 := HZ2.out.free 3
      have zf4 := HZ2.out.free 4
      have zf5 := HZ2.out.free 5
      have zf6 := HZ2.out.free 6
      have zf7 := HZ2.out.free 7
      have zf8 := HZ2.out.free 8
      have zf9 := HZ2.out.free 9
      have zf10 := HZ2.out.free 10
      have zf11 := HZ2.out.free 11
      have zf12 := HZ2.out.free 12
      have zf13 := HZ2.out.free 13
      go_wp2
      refine ret14 (rb := w.heap.size + 1) Tryz.results185 rfl rfl (RecB.put HZ2.out _ _ _ _ _ _ _ _ _ _ _ _ _ _) rfl ⟨⟨rz, [], by rw [HE.out]; rfl, by rw [HE.out]; exact rz_is _, by simp⟩, (put14_below HN2.out (by omega) _ _ _ _ _ _ _ _ _ _ _ _ _ _)⟩
  · have HE := hide (HD.out.trans (if_pos hd))
    have HDR := hide hd
    clear HD hd
    obtain ⟨a0, a1, a2, a3, a4, a5, a6, a7, a8, a9, a10, a11, a12, a13⟩ := HUB.out.cells
    have af9 := HUB.out.free 9
    go_wp2_with (first | (go_at_call 223; refine (drive_any _ _).mono ?_; rintro e w' ⟨rfl, rfl⟩; rw [HDR.out]) | fail)
    refine (pread_any t ru.sch _ (by omega)).mono ?_
    rintro e w3 ⟨v3, ds, rfl, ho, hds, hdl, hn3⟩
    obtain ⟨ao, n, cap, rfl⟩ := ownS_open' ho
    have HO := hide (own_row ho)
    have HDS := hide hds
    have HSH := hide (short_map hds (readL_short (by rw [tl_length]; exact hl)))
    have HUB3 := hide (HUB.out.on hn3)
    have HZ3 := hide (HZ.out.on hn3)
    have HN3 := hide (HN.out.then hn3)
    clear ho hds hn3 HUB HZ HN
    clear a0 a1 a2 a3 a4 a5 a6 a7 a8 a9 a10 a11 a12 a13 af9
    obtain ⟨a0, a1, a2, a3, a4, a5, a6, a7, a8, a9, a10, a11, a12, a13⟩ := HUB3.out.cells
    have af9 := HUB3.out.free 9
    obtain ⟨z0, z1, z2, z3, z4, z5, z6, z7, z8, z9, z10, z11, z12, z13⟩ := HZ3.out.cells
    have zf0 := HZ3.out.free 0
    have zf1 := HZ3.out.free 1
    have zf2 := HZ3.out.free 2
    have zf3 := HZ3.out.free 3
    have zf4 := HZ3.out.free 4
    have zf5 := HZ3.out.free 5
    have zf6 := HZ3.out.free 6
    have zf7 := HZ3.out.free 7
    have zf8 := HZ3.out.free 8
    have zf9 := HZ3.out.free 9
    have zf10 := HZ3.out.free 10
    have zf11 := HZ3.out.free 11
    have zf12 := HZ3.out.free 12
    have zf13 := HZ3.out.free 13
    go_wp2
    refine ret14 (rb := w.heap.size + 1) Tryz.results185 rfl rfl (RecB.put (HZ3.out.far (by omega) 9 _) _ _ _ _ _ _ _ _ _ _ _ _ _ _) rfl ⟨⟨{ ru with so := ao, sn := n, sc := cap }, ds, by rw [HE.out], ?_, by omega⟩, (put14_below (Below.setCell HN3.out (Nat.le_refl _) _) (by omega) _ _ _ _ _ _ _ _ _ _ _ _ _ _)⟩
    exact { eq := by rw [HE.out, ← HU.out.eq]; simp only [Rc.u]; rw [HDS.out]
            seg := HO.out.ks (Ks.then (Ks.then Ks.rfl (ks_set HUB3.out.ty (by decide) 9 _)) (put14_ks (HZ3.out.ty.set w.heap.size 9 _) (by decide) _ _ _ _ _ _ _ _ _ _ _ _ _ _))
            lsch := HU.out.lsch
            lnam := HU.out.lnam
            lpw := HU.out.lpw
            lhost := HU.out.lhost
            lport := HU.out.lport
            lopath := HU.out.lopath
            lsegs := by omega
            lseg := HSH.out
            lq := HU.out.lq
            lfr := HU.out.lfr }
end Go.Proofs.YtchkhibgbnhjpaaGreatDoor
