import Derived.Test.YtchkhibgbnhjpaaGreatDoorRd10
namespace Go.Proofs.YtchkhibgbnhjpaaGreatDoor
open Go.RowKit

theorem cutSch_len (l : List UInt8) : (cutSch l).1.length ≤ l.length ∧ (cutSch l).2.1.length ≤ l.length := by
  unfold cutSch
  have h := bcut_len (isB 58) l
  split
  · exact ⟨by show (lower (bcut (isB 58) l).1).length ≤ _; rw [low_len]; omega, by show (bcut (isB 58) l).2.1.length ≤ _; omega⟩
  · exact ⟨by simp, Nat.le_refl _⟩
/-- reading.readAhead -/
def freshU (sch : List UInt8) (hq : Bool) (q : List UInt8) : U := { zeroU with sch := sch, hq := hq, q := encB (tl (setBA (querySet sch))) (clean q) }
def restU (sch rest : List UInt8) (found : Bool) (base : U) : U × Int :=
  if sch = [] then (zeroU, 2)
  else if found = true then schemedU (freshU sch (bcut (isB 63) rest).2.2 (bcut (isB 63) rest).2.1) (bcut (isB 63) rest).1 base
  else withoutU (freshU sch (bcut (isB 63) rest).2.2 (bcut (isB 63) rest).2.1) (bcut (isB 63) rest).1 base
def aheadU (l : List UInt8) (hf : Bool) (base : U) : U × Int :=
  if (cutSch l).2.2 = true then restU (cutSch l).1 (cutSch l).2.1 true base
  else if base.op = true then opaqueU (cutSch l).2.1 hf base else restU base.sch (cutSch l).2.1 false base
theorem freshU_is {w : World} {sc q : ByteArray} {l : List UInt8} (hq : Bool) (h : tl q = encB (tl (setBA (querySet (tl sc)))) (clean l)) (h1 : sc.size ≤ 300000) (h2 : q.size ≤ 300000) : RcIs w { rz with sch := sc, hq := hq, q := q } (freshU (tl sc) hq l) [] :=
  ⟨by unfold freshU; rw [← h]; rfl, SlAt.nil w, h1, Nat.zero_le _, Nat.zero_le _, Nat.zero_le _, Nat.zero_le _, Nat.zero_le _, Nat.zero_le _, (fun b hb => by cases hb), h2, Nat.zero_le _⟩
theorem freshB_new (w : World) (sc : ByteArray) (hq : Bool) : RecB (w.alloc (Obj.cells #[.string sc, .string ⟨#[]⟩, .string ⟨#[]⟩, .bool false, .string ⟨#[]⟩, .bool false, .int .i64 0, .bool false, .string ⟨#[]⟩, .slice none 0 0, .bool hq, .string ⟨#[]⟩, .bool false, .string ⟨#[]⟩] 54)) w.heap.size { rz with sch := sc, hq := hq } := heap_alloc_new w _
set_option maxHeartbeats 16000000 in
theorem aheadU_any (s : ByteArray) (hf : Bool) (rb : Rc) (base : U) (cs : List ByteArray) (w : World) (h2 : RcIs w rb base cs) (hcs : cs.length ≤ 60000) (hl : s.size ≤ 30000) (ht : Tb w) :
    Calls Tryz.prog 86 #[.string s, .bool hf, .agg #[.string rb.sch, .string rb.nam, .string rb.pw, .bool rb.hh, .string rb.host, .bool rb.hp, .int .i64 (rb.port : Int), .bool rb.op, .string rb.opath, .slice rb.so rb.sn rb.sc, .bool rb.hq, .string rb.q, .bool rb.hf, .string rb.fr]] w fun e w' => ResIs e w' (aheadU (tl s) hf base) (cs.length + 30002) ∧ Nx w w' := by
  have HBS := hide h2
  have HTB := hide ht
  have hc := cutSch_len (tl s)
  have HD := hide (show aheadU (tl s) hf base = if (cutSch (tl s)).2.2 = true then restU (cutSch (tl s)).1 (cutSch (tl s)).2.1 true base
    else if rb.op = true then opaqueU (cutSch (tl s)).2.1 hf base else restU (tl rb.sch) (cutSch (tl s)).2.1 false base by rw [h2.usch, show rb.op = base.op by rw [← h2.eq]; rfl]; rfl)
  clear h2 ht
  go_enter Tryz.func86, Tryz.ntmps86
  go_wp2_with fail
  refine (cutSch_any s _ (by omega)).mono ?_
  rintro e w1 ⟨⟨sc, re, rfl, hsc, hre⟩, hn1⟩
  rw [← hsc, ← hre] at HD hc
  rw [tl_length, tl_length, tl_length] at hc
  have hscl : sc.size ≤ 30000 := by omega
  have hrel : re.size ≤ 30000 := by omega
  obtain ⟨g1, g2, g3⟩ := two_new hn1
  have HBB := hide g1
  have HZ := hide g2
  have HN := hide g3
  have HB1 := hide (HBS.out.on HN.out)
  clear hsc hre hn1 g1 g2 g3 hc
  generalize (cutSch (tl s)).2.2 = found at *
  obtain ⟨b0, b1, b2, b3, b4, b5, b6, b7, b8, b9, b10, b11, b12, b13⟩ := HBB.out.cells
  obtain ⟨z0, z1, z2, z3, z4, z5, z6, z7, z8, z9, z10, z11, z12, z13⟩ := HZ.out.cells
  have zf0 := HZ.out.free 0
  have zf1 := HZ.out.free 1
  have zf2 := HZ.out.free 2
  have zf3 := HZ.out.free 3
  have zf4 := HZ.out.free 4
  have zf5 := HZ.out.free 5
  have zf6 := HZ.out.free 6
  have zf7 := HZ.out.free 7
  have zf8 := HZ.out.free 8
  have zf9 := HZ.out.free 9
  have zf10 := HZ.out.free 10
  have zf11 := HZ.out.free 11
  have zf12 := HZ.out.free 12
  have zf13 := HZ.out.free 13
  cases found
  · have HD1 := hide (HD.out.trans (if_neg (by decide)))
    clear HD
    cases hop : rb.op
    · have HD2 := hide (HD1.out.trans (if_neg (by rw [hop]; decide)))
      have hrs := HBS.out.lsch
      rw [hop] at b7
      clear HD1 hop
      have HRD := hide (show restU (tl rb.sch) (tl re) false base = if tl rb.sch = [] then (zeroU, 2) else if false = true then schemedU (freshU (tl rb.sch) (bcut (isB 63) (tl re)).2.2 (bcut (isB 63) (tl re)).2.1) (bcut (isB 63) (tl re)).1 base else withoutU (freshU (tl rb.sch) (bcut (isB 63) (tl re)).2.2 (bcut (isB 63) (tl re)).2.1) (bcut (isB 63) (tl re)).1 base from rfl)
      by_cases hs0 : (rb.sch).size = 0
      · have HE := hide (HD2.out.trans (HRD.out.trans (if_pos (tl_empty hs0))))
        have hs0' := str_empty hs0
        clear HD2 HRD hs0
        go_wp2
        refine ret14 (rb := w.heap.size + 1) Tryz.results86 rfl rfl (RecB.put HZ.out _ _ _ _ _ _ _ _ _ _ _ _ _ _) rfl ⟨⟨rz, [], (by rw [HE.out]; first | done | rfl), (by rw [HE.out]; exact rz_is _), by simp⟩, (put14_below HN.out (by omega) _ _ _ _ _ _ _ _ _ _ _ _ _ _)⟩
      · have HD3 := hide (HD2.out.trans (HRD.out.trans (if_neg (tl_ne hs0))))
        have hs0' := str_nonempty hs0
        clear HD2 HRD hs0
        have hc2 := bcut_len (isB 63) (tl re)
        go_wp2_with fail
        refine (acut_any re 63 _ (small_len (by omega))).mono ?_
        rintro e w2 ⟨⟨lf, qu, rfl, hlf, hqu⟩, hn2⟩
        rw [← hlf, ← hqu] at HD3 hc2
        rw [tl_length, tl_length, tl_length] at hc2
        have hlfl : lf.size ≤ 30000 := by omega
        have hqul : qu.size ≤ 30000 := by omega
        have HBB2 := hide (HBB.out.on hn2)
        have HZ2 := hide (HZ.out.on hn2)
        have HN2 := hide (HN.out.then hn2)
        clear hlf hqu hn2 hc2
        generalize (bcut (isB 63) (tl re)).2.2 = hasq at *
        clear b0 b1 b2 b3 b4 b5 b6 b7 b8 b9 b10 b11 b12 b13 z0 z1 z2 z3 z4 z5 z6 z7 z8 z9 z10 z11 z12 z13 zf0 zf1 zf2 zf3 zf4 zf5 zf6 zf7 zf8 zf9 zf10 zf11 zf12 zf13
        have hlb : w.heap.size < w2.heap.size := (Array.getElem?_eq_some_iff.1 HBB2.out).1
        have hlz : w.heap.size + 1 < w2.heap.size := (Array.getElem?_eq_some_iff.1 HZ2.out).1
        go_wp2_with (first | (go_at_call 112; refine (special_any _ _).mono ?_; rintro e w' ⟨rfl, rfl⟩) | (go_at_call 113; refine (querySet_any _ _).mono ?_; rintro e w' ⟨rfl, rfl⟩) | fail)
        refine (encode_any qu (querySet (tl rb.sch)) _ (by omega)).mono ?_
        rintro e w3 ⟨en, rfl, hen, hn3⟩
        have hel : en.size ≤ 300000 := by rw [← tl_length, hen]; exact enc_short _ _ (by rw [tl_length]; exact hqul)
        have HEN := hide hen
        have HU3 := hide ((freshB_new w2 rb.sch hasq).on hn3)
        have HBB3 := hide ((HBB2.out.on (Nx.rfl.alloc _)).on hn3)
        have HZ3 := hide ((HZ2.out.on (Nx.rfl.alloc _)).on hn3)
        have HN3 := hide ((HN2.out.alloc _).then hn3)
        clear hen hn3
        obtain ⟨a0, a1, a2, a3, a4, a5, a6, a7, a8, a9, a10, a11, a12, a13⟩ := HU3.out.cells
        have af11 := HU3.out.free 11
        obtain ⟨b0, b1, b2, b3, b4, b5, b6, b7, b8, b9, b10, b11, b12, b13⟩ := HBB3.out.cells
        have HZ4 := hide (HZ3.out.far (q := w2.heap.size) (by omega) 11 (.string en))
        have HN4 := hide (show Nx w (w3.setCell ⟨w2.heap.size, 11, none⟩ (.string en)) from Below.setCell (p := ⟨w2.heap.size, 11, none⟩) HN3.out (by show w.heap.size ≤ w2.heap.size; omega) (.string en))
        have HRC := hide (show RcIs (w3.setCell ⟨w2.heap.size, 11, none⟩ (.string en)) { rz with sch := rb.sch, hq := hasq, q := en } (freshU (tl rb.sch) hasq (tl qu)) [] from freshU_is hasq HEN.out (by omega) hel)
        have HE := hide (HD3.out.trans (if_neg (by decide)))
        clear HD3
        go_wp2_with fail
        refine (withoutU_any { rz with sch := rb.sch, hq := hasq, q := en } rb _ base [] cs lf _ HRC.out (HBS.out.on HN4.out) hcs (by simp) hlfl (HTB.out.on HN4.out)).mono ?_
        rintro e w5 ⟨⟨r, ds, rfl, hr, hdl⟩, hn5⟩
        have HR := hide hr
        have HZ5 := hide (HZ4.out.on hn5)
        have HN5 := hide (HN4.out.then hn5)
        clear hr hn5
        clear a0 a1 a2 a3 a4 a5 a6 a7 a8 a9 a10 a11 a12 a13 af11 b0 b1 b2 b3 b4 b5 b6 b7 b8 b9 b10 b11 b12 b13
        obtain ⟨z0, z1, z2, z3, z4, z5, z6, z7, z8, z9, z10, z11, z12, z13⟩ := HZ5.out.cells
        have zf0 := HZ5.out.free 0
        have zf1 := HZ5.out.free 1
        have zf2 := HZ5.out.free 2
        have zf3 := HZ5.out.free 3
        have zf4 := HZ5.out.free 4
        have zf5 := HZ5.out.free 5
        have zf6 := HZ5.out.free 6
        have zf7 := HZ5.out.free 7
        have zf8 := HZ5.out.free 8
        have zf9 := HZ5.out.free 9
        have zf10 := HZ5.out.free 10
        have zf11 := HZ5.out.free 11
        have zf12 := HZ5.out.free 12
        have zf13 := HZ5.out.free 13
        go_wp2
        exact ret14 (rb := w.heap.size + 1) Tryz.results86 rfl rfl (RecB.put HZ5.out _ _ _ _ _ _ _ _ _ _ _ _ _ _) rfl ⟨⟨r, ds, (by rw [HE.out]; first | done | rfl), (by rw [HE.out]; exact HR.out.ks (Ks.then Ks.rfl (put14_ks HZ5.out.ty (by decide) _ _ _ _ _ _ _ _ _ _ _ _ _ _))), by omega⟩, (put14_below HN5.out (by omega) _ _ _ _ _ _ _ _ _ _ _ _ _ _)⟩
    · have HE := hide (HD1.out.trans (if_pos hop))
      have HOA := hide (opaque_any re hf rb base cs w1 HB1.out)
      rw [hop] at b7 HOA
      clear HD1
      go_wp2_with fail
      refine HOA.out.mono ?_
      rintro e w5 ⟨⟨r, ds, rfl, hr, hdl⟩, hn5⟩
      have HR := hide hr
      have HZ5 := hide (HZ.out.on hn5)
      have HN5 := hide (HN.out.then hn5)
      clear hr hn5
      clear z0 z1 z2 z3 z4 z5 z6 z7 z8 z9 z10 z11 z12 z13 zf0 zf1 zf2 zf3 zf4 zf5 zf6 zf7 zf8 zf9 zf10 zf11 zf12 zf13 b0 b1 b2 b3 b4 b5 b6 b7 b8 b9 b10 b11 b12 b13
      obtain ⟨z0, z1, z2, z3, z4, z5, z6, z7, z8, z9, z10, z11, z12, z13⟩ := HZ5.out.cells
      have zf0 := HZ5.out.free 0
      have zf1 := HZ5.out.free 1
      have zf2 := HZ5.out.free 2
      have zf3 := HZ5.out.free 3
      have zf4 := HZ5.out.free 4
      have zf5 := HZ5.out.free 5
      have zf6 := HZ5.out.free 6
      have zf7 := HZ5.out.free 7
      have zf8 := HZ5.out.free 8
      have zf9 := HZ5.out.free 9
      have zf10 := HZ5.out.free 10
      have zf11 := HZ5.out.free 11
      have zf12 := HZ5.out.free 12
      have zf13 := HZ5.out.free 13
      go_wp2
      exact ret14 (rb := w.heap.size + 1) Tryz.results86 rfl rfl (RecB.put HZ5.out _ _ _ _ _ _ _ _ _ _ _ _ _ _) rfl ⟨⟨r, ds, (by rw [HE.out]; first | done | rfl), (by rw [HE.out]; exact HR.out.ks (Ks.then Ks.rfl (put14_ks HZ5.out.ty (by decide) _ _ _ _ _ _ _ _ _ _ _ _ _ _))), by omega⟩, (put14_below HN5.out (by omega) _ _ _ _ _ _ _ _ _ _ _ _ _ _)⟩
  · have HD2 := hide (HD.out.trans (if_pos rfl))
    clear HD
    have HRD := hide (show restU (tl sc) (tl re) true base = if tl sc = [] then (zeroU, 2) else if true = true then schemedU (freshU (tl sc) (bcut (isB 63) (tl re)).2.2 (bcut (isB 63) (tl re)).2.1) (bcut (isB 63) (tl re)).1 base else withoutU (freshU (tl sc) (bcut (isB 63) (tl re)).2.2 (bcut (isB 63) (tl re)).2.1) (bcut (isB 63) (tl re)).1 base from rfl)
    by_cases hs0 : (sc).size = 0
    · have HE := hide (HD2.out.trans (HRD.out.trans (if_pos (tl_empty hs0))))
      have hs0' := str_empty hs0
      clear HD2 HRD hs0
      go_wp2
      refine ret14 (rb := w.heap.size + 1) Tryz.results86 rfl rfl (RecB.put HZ.out _ _ _ _ _ _ _ _ _ _ _ _ _ _) rfl ⟨⟨rz, [], (by rw [HE.out]; first | done | rfl), (by rw [HE.out]; exact rz_is _), by simp⟩, (put14_below HN.out (by omega) _ _ _ _ _ _ _ _ _ _ _ _ _ _)⟩
    · have HD3 := hide (HD2.out.trans (HRD.out.trans (if_neg (tl_ne hs0))))
      have hs0' := str_nonempty hs0
      clear HD2 HRD hs0
      have hc2 := bcut_len (isB 63) (tl re)
      go_wp2_with fail
      refine (acut_any re 63 _ (small_len (by omega))).mono ?_
      rintro e w2 ⟨⟨lf, qu, rfl, hlf, hqu⟩, hn2⟩
      rw [← hlf, ← hqu] at HD3 hc2
      rw [tl_length, tl_length, tl_length] at hc2
      have hlfl : lf.size ≤ 30000 := by omega
      have hqul : qu.size ≤ 30000 := by omega
      have HBB2 := hide (HBB.out.on hn2)
      have HZ2 := hide (HZ.out.on hn2)
      have HN2 := hide (HN.out.then hn2)
      clear hlf hqu hn2 hc2
      generalize (bcut (isB 63) (tl re)).2.2 = hasq at *
      clear b0 b1 b2 b3 b4 b5 b6 b7 b8 b9 b10 b11 b12 b13 z0 z1 z2 z3 z4 z5 z6 z7 z8 z9 z10 z11 z12 z13 zf0 zf1 zf2 zf3 zf4 zf5 zf6 zf7 zf8 zf9 zf10 zf11 zf12 zf13
      have hlb : w.heap.size < w2.heap.size := (Array.getElem?_eq_some_iff.1 HBB2.out).1
      have hlz : w.heap.size + 1 < w2.heap.size := (Array.getElem?_eq_some_iff.1 HZ2.out).1
      go_wp2_with (first | (go_at_call 112; refine (special_any _ _).mono ?_; rintro e w' ⟨rfl, rfl⟩) | (go_at_call 113; refine (querySet_any _ _).mono ?_; rintro e w' ⟨rfl, rfl⟩) | fail)
      refine (encode_any qu (querySet (tl sc)) _ (by omega)).mono ?_
      rintro e w3 ⟨en, rfl, hen, hn3⟩
      have hel : en.size ≤ 300000 := by rw [← tl_length, hen]; exact enc_short _ _ (by rw [tl_length]; exact hqul)
      have HEN := hide hen
      have HU3 := hide ((freshB_new w2 sc hasq).on hn3)
      have HBB3 := hide ((HBB2.out.on (Nx.rfl.alloc _)).on hn3)
      have HZ3 := hide ((HZ2.out.on (Nx.rfl.alloc _)).on hn3)
      have HN3 := hide ((HN2.out.alloc _).then hn3)
      clear hen hn3
      obtain ⟨a0, a1, a2, a3, a4, a5, a6, a7, a8, a9, a10, a11, a12, a13⟩ := HU3.out.cells
      have af11 := HU3.out.free 11
      obtain ⟨b0, b1, b2, b3, b4, b5, b6, b7, b8, b9, b10, b11, b12, b13⟩ := HBB3.out.cells
      have HZ4 := hide (HZ3.out.far (q := w2.heap.size) (by omega) 11 (.string en))
      have HN4 := hide (show Nx w (w3.setCell ⟨w2.heap.size, 11, none⟩ (.string en)) from Below.setCell (p := ⟨w2.heap.size, 11, none⟩) HN3.out (by show w.heap.size ≤ w2.heap.size; omega) (.string en))
      have HRC := hide (show RcIs (w3.setCell ⟨w2.heap.size, 11, none⟩ (.string en)) { rz with sch := sc, hq := hasq, q := en } (freshU (tl sc) hasq (tl qu)) [] from freshU_is hasq HEN.out (by omega) hel)
      have HE := hide (HD3.out.trans (if_pos (by decide)))
      clear HD3
      go_wp2_with fail
      refine (schemedU_any { rz with sch := sc, hq := hasq, q := en } rb _ base [] cs lf _ HRC.out (HBS.out.on HN4.out) hcs (by simp) hlfl (HTB.out.on HN4.out)).mono ?_
      rintro e w5 ⟨⟨r, ds, rfl, hr, hdl⟩, hn5⟩
      have HR := hide hr
      have HZ5 := hide (HZ4.out.on hn5)
      have HN5 := hide (HN4.out.then hn5)
      clear hr hn5
      clear a0 a1 a2 a3 a4 a5 a6 a7 a8 a9 a10 a11 a12 a13 af11 b0 b1 b2 b3 b4 b5 b6 b7 b8 b9 b10 b11 b12 b13
      obtain ⟨z0, z1, z2, z3, z4, z5, z6, z7, z8, z9, z10, z11, z12, z13⟩ := HZ5.out.cells
      have zf0 := HZ5.out.free 0
      have zf1 := HZ5.out.free 1
      have zf2 := HZ5.out.free 2
      have zf3 := HZ5.out.free 3
      have zf4 := HZ5.out.free 4
      have zf5 := HZ5.out.free 5
      have zf6 := HZ5.out.free 6
      have zf7 := HZ5.out.free 7
      have zf8 := HZ5.out.free 8
      have zf9 := HZ5.out.free 9
      have zf10 := HZ5.out.free 10
      have zf11 := HZ5.out.free 11
      have zf12 := HZ5.out.free 12
      have zf13 := HZ5.out.free 13
      go_wp2
      exact ret14 (rb := w.heap.size + 1) Tryz.results86 rfl rfl (RecB.put HZ5.out _ _ _ _ _ _ _ _ _ _ _ _ _ _) rfl ⟨⟨r, ds, (by rw [HE.out]; first | done | rfl), (by rw [HE.out]; exact HR.out.ks (Ks.then Ks.rfl (put14_ks HZ5.out.ty (by decide) _ _ _ _ _ _ _ _ _ _ _ _ _ _))), by omega⟩, (put14_below HN5.out (by omega) _ _ _ _ _ _ _ _ _ _ _ _ _ _)⟩
end Go.Proofs.YtchkhibgbnhjpaaGreatDoor
