import Derived.Test.YtchkhibgbnhjpaaGreatDoorRd7
import Derived.Deep.Cut
namespace Go.Proofs.YtchkhibgbnhjpaaGreatDoor
open Go.RowKit

/-- changing.withoutMark -/
def markOff (n : Int) (l : List UInt8) : List UInt8 := if l ≠ [] ∧ ((l.getD 0 0).toNat : Int) = n then l.drop 1 else l
theorem markOff_len (n : Int) (l : List UInt8) : (markOff n l).length ≤ l.length := by unfold markOff; split <;> simp
set_option maxHeartbeats 4000000 in
theorem withoutMark_any (s : ByteArray) (n : Nat) (w : World) (hs : s.size ≤ 1000000) :
    Calls Tryz.prog 214 #[.string s, .int .u8 (n : Int)] w fun e w' => ∃ r : ByteArray, e = .returned (.string r) ∧ tl r = noBreaks (markOff n (tl s)) ∧ Nx w w' := by
  by_cases h0 : s.size = 0
  · have HE := hide (show markOff n (tl s) = tl s by unfold markOff; rw [if_neg (fun x => x.1 (tl_empty h0))])
    have h0' := str_empty h0
    clear h0
    go_enter Tryz.func214, Tryz.ntmps214
    go_wp2_with fail
    refine (noBreaks_any s _ (by omega)).mono ?_
    rintro e w1 ⟨r, rfl, hr, hn1⟩
    have HR := hide hr
    have HN := hide hn1
    clear hr hn1
    go_wp2
    go_ret
    exact ⟨r, rfl, by rw [HE.out]; exact HR.out, HN.out⟩
  · have h0' := str_nonempty h0
    have hpos : 0 < s.size := by omega
    have hg := tl_getD s 0 hpos
    have hne := tl_ne h0
    cases hc : ((s[0].toNat : Int) == (n : Int))
    · have HE := hide (show markOff n (tl s) = tl s by unfold markOff; rw [if_neg (fun x => by rw [hg] at x; rw [x.2] at hc; simp at hc)])
      clear h0 hg hne
      go_enter Tryz.func214, Tryz.ntmps214
      go_wp2_with fail
      refine (noBreaks_any s _ (by omega)).mono ?_
      rintro e w1 ⟨r, rfl, hr, hn1⟩
      have HR := hide hr
      have HN := hide hn1
      clear hr hn1
      go_wp2
      go_ret
      exact ⟨r, rfl, by rw [HE.out]; exact HR.out, HN.out⟩
    · have HE := hide (show markOff n (tl s) = (tl s).drop 1 by unfold markOff; rw [if_pos ⟨hne, by rw [hg]; simpa using hc⟩])
      clear h0 hg hne
      go_enter Tryz.func214, Tryz.ntmps214
      go_wp2_with fail
      refine (noBreaks_any (s.extract 1 s.size) _ (by rw [size_from]; omega)).mono ?_
      rintro e w1 ⟨r, rfl, hr, hn1⟩
      rw [tl_from] at hr
      have HR := hide hr
      have HN := hide hn1
      clear hr hn1
      go_wp2
      go_ret
      exact ⟨r, rfl, by rw [HE.out]; exact HR.out, HN.out⟩

/-- changing.putHash, of a text that is not empty -/
def hashL (l : List UInt8) : List UInt8 := encB (tl (setBA 1)) (clean (noBreaks (markOff 35 l)))
theorem hashL_len {l : List UInt8} (h : l.length ≤ 30000) : (hashL l).length ≤ 300000 := enc_short _ _ (Nat.le_trans (noBreaks_len _) (Nat.le_trans (markOff_len _ _) h))
set_option maxHeartbeats 8000000 in
theorem putHash_any (ru : Rc) (s : ByteArray) (w : World) (h0 : ¬ s.size = 0) (hs : s.size ≤ 30000) :
    Calls Tryz.prog 171 #[.agg #[.string ru.sch, .string ru.nam, .string ru.pw, .bool ru.hh, .string ru.host, .bool ru.hp, .int .i64 (ru.port : Int), .bool ru.op, .string ru.opath, .slice ru.so ru.sn ru.sc, .bool ru.hq, .string ru.q, .bool ru.hf, .string ru.fr], .string s] w fun e w' => ∃ r : Rc, e = .returned (.agg #[.string r.sch, .string r.nam, .string r.pw, .bool r.hh, .string r.host, .bool r.hp, .int .i64 (r.port : Int), .bool r.op, .string r.opath, .slice r.so r.sn r.sc, .bool r.hq, .string r.q, .bool r.hf, .string r.fr]) ∧ (∃ fr : ByteArray, r = { ru with hf := true, fr := fr } ∧ tl fr = hashL (tl s) ∧ fr.size ≤ 300000) ∧ Nx w w' := by
  have h0' := str_nonempty h0
  clear h0
  go_enter Tryz.func171, Tryz.ntmps171
  go_upto_region 1 with fail
  obtain ⟨g1, g2, g3⟩ := two_new (w := w) (ru := ru) Nx.rfl
  have HUB := hide g1
  have HZ := hide g2
  have HN := hide g3
  clear g1 g2 g3
  generalize ((w.alloc (Obj.cells #[.string ru.sch, .string ru.nam, .string ru.pw, .bool ru.hh, .string ru.host, .bool ru.hp, .int .i64 (ru.port : Int), .bool ru.op, .string ru.opath, .slice ru.so ru.sn ru.sc, .bool ru.hq, .string ru.q, .bool ru.hf, .string ru.fr] 54)).alloc (Obj.cells #[.string ⟨#[]⟩, .string ⟨#[]⟩, .string ⟨#[]⟩, .bool false, .string ⟨#[]⟩, .bool false, .int .i64 0, .bool false, .string ⟨#[]⟩, .slice none 0 0, .bool false, .string ⟨#[]⟩, .bool false, .string ⟨#[]⟩] 54)) = w1 at *
  obtain ⟨a0, a1, a2, a3, a4, a5, a6, a7, a8, a9, a10, a11, a12, a13⟩ := HUB.out.cells
  have af12 := HUB.out.free 12
  go_wp2_with fail
  refine (withoutMark_any s 35 _ (by omega)).mono ?_
  rintro e w2 ⟨x, rfl, hx, hn2⟩
  rw [show ((35 : Nat) : Int) = 35 from rfl] at hx
  have hxl : x.size ≤ 30000 := by have h1 := noBreaks_len (markOff 35 (tl s)); have h2 := markOff_len 35 (tl s); rw [← hx, tl_length] at h1; rw [tl_length] at h2; omega
  have HX := hide hx
  have HUB2 := hide (HUB.out.on hn2)
  have HZ2 := hide (HZ.out.on hn2)
  have HN2 := hide (HN.out.then hn2)
  clear hx hn2 HUB HZ HN
  clear a0 a1 a2 a3 a4 a5 a6 a7 a8 a9 a10 a11 a12 a13 af12
  obtain ⟨a0, a1, a2, a3, a4, a5, a6, a7, a8, a9, a10, a11, a12, a13⟩ := HUB2.out.cells
  have af12 := HUB2.out.free 12
  go_wp2_with fail
  refine (encode_any x 1 _ (by omega)).mono ?_
  rintro e w3 ⟨en, rfl, hen, hn3⟩
  have HEN := hide (show tl en = hashL (tl s) by rw [hen, HX.out]; rfl)
  have hel : en.size ≤ 300000 := by rw [← tl_length, HEN.out]; exact hashL_len (by rw [tl_length]; exact hs)
  have HUB3 := hide ((HUB2.out.s12 true).on hn3)
  have HZ3 := hide ((HZ2.out.far (q := w.heap.size) (by omega) 12 (.bool true)).on hn3)
  have HN3 := hide (show Nx w w3 from Nx.then (show Nx w _ from Below.setCell (p := ⟨w.heap.size, 12, none⟩) HN2.out (Nat.le_refl _) (.bool true)) hn3)
  clear hen hn3 HUB2 HZ2 HN2 HX
  clear a0 a1 a2 a3 a4 a5 a6 a7 a8 a9 a10 a11 a12 a13 af12
  obtain ⟨a0, a1, a2, a3, a4, a5, a6, a7, a8, a9, a10, a11, a12, a13⟩ := HUB3.out.cells
  have af13 := HUB3.out.free 13
  obtain ⟨z0, z1, z2, z3, z4, z5, z6, z7, z8, z9, z10, z11, z12, z13⟩ := HZ3.out.cells
  have zf0 := HZ3.out.free 0
  have zf1 := HZ3.out.free 1
  have zf2 := HZ3.out.free 2
  have zf3 := HZ3.out.free 3
  have zf4 := HZ3.out.free 4
  have zf5 := HZ3.out.free 5
  have zf6 := HZ3.out.free 6
  have zf7 := HZ3.out.free 7
  have zf8 := HZ3.out.free 8
  have zf9 := HZ3.out.free 9
  have zf10 := HZ3.out.free 10
  have zf11 := HZ3.out.free 11
  have zf12 := HZ3.out.free 12
  have zf13 := HZ3.out.free 13
  go_wp2
  refine ret14o (rb := w.heap.size + 1) Tryz.results171 rfl (RecB.put (HZ3.out.far (by omega) 13 _) _ _ _ _ _ _ _ _ _ _ _ _ _ _) rfl ⟨{ ru with hf := true, fr := en }, rfl, ⟨en, rfl, HEN.out, hel⟩, (put14_below (Below.setCell HN3.out (Nat.le_refl _) _) (by omega) _ _ _ _ _ _ _ _ _ _ _ _ _ _)⟩

set_option maxHeartbeats 8000000 in
/-- changing.putPlain, of the same -/
theorem putPlain9_any (ru : Rc) (s : ByteArray) (w : World) (h0 : ¬ s.size = 0) (hs : s.size ≤ 30000) :
    Calls Tryz.prog 123 #[.agg #[.string ru.sch, .string ru.nam, .string ru.pw, .bool ru.hh, .string ru.host, .bool ru.hp, .int .i64 (ru.port : Int), .bool ru.op, .string ru.opath, .slice ru.so ru.sn ru.sc, .bool ru.hq, .string ru.q, .bool ru.hf, .string ru.fr], .int .i64 9, .string s] w fun e w' => ∃ r : Rc, e = .returned (.agg #[.string r.sch, .string r.nam, .string r.pw, .bool r.hh, .string r.host, .bool r.hp, .int .i64 (r.port : Int), .bool r.op, .string r.opath, .slice r.so r.sn r.sc, .bool r.hq, .string r.q, .bool r.hf, .string r.fr]) ∧ (∃ fr : ByteArray, r = { ru with hf := true, fr := fr } ∧ tl fr = hashL (tl s) ∧ fr.size ≤ 300000) ∧ Nx w w' := by
  have HP := hide (fun w' => putHash_any ru s w' h0 hs)
  clear h0
  go_enter Tryz.func123, Tryz.ntmps123
  go_upto_region 1 with fail
  obtain ⟨g1, g2, g3⟩ := two_new (w := w) (ru := ru) Nx.rfl
  have HUB := hide g1
  have HZ := hide g2
  have HN := hide g3
  clear g1 g2 g3
  generalize ((w.alloc (Obj.cells #[.string ru.sch, .string ru.nam, .string ru.pw, .bool ru.hh, .string ru.host, .bool ru.hp, .int .i64 (ru.port : Int), .bool ru.op, .string ru.opath, .slice ru.so ru.sn ru.sc, .bool ru.hq, .string ru.q, .bool ru.hf, .string ru.fr] 54)).alloc (Obj.cells #[.string ⟨#[]⟩, .string ⟨#[]⟩, .string ⟨#[]⟩, .bool false, .string ⟨#[]⟩, .bool false, .int .i64 0, .bool false, .string ⟨#[]⟩, .slice none 0 0, .bool false, .string ⟨#[]⟩, .bool false, .string ⟨#[]⟩] 54)) = w1 at *
  obtain ⟨a0, a1, a2, a3, a4, a5, a6, a7, a8, a9, a10, a11, a12, a13⟩ := HUB.out.cells
  go_wp2_with fail
  refine (HP.out _).mono ?_
  rintro e w2 ⟨r, rfl, hr, hn2⟩
  have HR := hide hr
  have HZ2 := hide (HZ.out.on hn2)
  have HN2 := hide (HN.out.then hn2)
  clear hr hn2 HZ HN
  clear a0 a1 a2 a3 a4 a5 a6 a7 a8 a9 a10 a11 a12 a13
  obtain ⟨z0, z1, z2, z3, z4, z5, z6, z7, z8, z9, z10, z11, z12, z13⟩ := HZ2.out.cells
  have zf0 := HZ2.out.free 0
  have zf1 := HZ2.out.free 1
  have zf2 := HZ2.out.free 2
  have zf3 := HZ2.out.free 3
  have zf4 := HZ2.out.free 4
  have zf5 := HZ2.out.free 5
  have zf6 := HZ2.out.free 6
  have zf7 := HZ2.out.free 7
  have zf8 := HZ2.out.free 8
  have zf9 := HZ2.out.free 9
  have zf10 := HZ2.out.free 10
  have zf11 := HZ2.out.free 11
  have zf12 := HZ2.out.free 12
  have zf13 := HZ2.out.free 13
  go_wp2
  exact ret14o (rb := w.heap.size + 1) Tryz.results123 rfl (RecB.put HZ2.out _ _ _ _ _ _ _ _ _ _ _ _ _ _) rfl ⟨r, rfl, HR.out, (put14_below HN2.out (by omega) _ _ _ _ _ _ _ _ _ _ _ _ _ _)⟩

theorem clean_ne' {l : List UInt8} (h : l ≠ []) : clean l ≠ [] := by
  intro e
  have h1 := measure_le h
  rw [clean_step l h] at e
  have e1 := (List.append_eq_nil_iff.1 e).1
  split at e1
  · have := congrArg List.length e1
    rw [List.length_take, List.length_nil] at this
    omega
  · cases e1
set_option maxHeartbeats 8000000 in
/-- changing.Put, of the same -/
theorem put9_any (ru : Rc) (s : ByteArray) (w : World) (h0 : ¬ s.size = 0) (hs : s.size ≤ 9000) :
    Calls Tryz.prog 91 #[.agg #[.string ru.sch, .string ru.nam, .string ru.pw, .bool ru.hh, .string ru.host, .bool ru.hp, .int .i64 (ru.port : Int), .bool ru.op, .string ru.opath, .slice ru.so ru.sn ru.sc, .bool ru.hq, .string ru.q, .bool ru.hf, .string ru.fr], .int .i64 9, .string s] w fun e w' => ∃ r : Rc, e = .returned (.tuple #[.agg #[.string r.sch, .string r.nam, .string r.pw, .bool r.hh, .string r.host, .bool r.hp, .int .i64 (r.port : Int), .bool r.op, .string r.opath, .slice r.so r.sn r.sc, .bool r.hq, .string r.q, .bool r.hf, .string r.fr], .int .i64 0]) ∧ (∃ fr : ByteArray, r = { ru with hf := true, fr := fr } ∧ tl fr = hashL (clean (tl s)) ∧ fr.size ≤ 300000) ∧ Nx w w' := by
  have hne := clean_ne' (tl_ne h0)
  clear h0
  go_enter Tryz.func91, Tryz.ntmps91
  go_upto_region 1 with fail
  obtain ⟨g1, g2, g3⟩ := two_new (w := w) (ru := ru) Nx.rfl
  have HUB := hide g1
  have HZ := hide g2
  have HN := hide g3
  clear g1 g2 g3
  generalize ((w.alloc (Obj.cells #[.string ru.sch, .string ru.nam, .string ru.pw, .bool ru.hh, .string ru.host, .bool ru.hp, .int .i64 (ru.port : Int), .bool ru.op, .string ru.opath, .slice ru.so ru.sn ru.sc, .bool ru.hq, .string ru.q, .bool ru.hf, .string ru.fr] 54)).alloc (Obj.cells #[.string ⟨#[]⟩, .string ⟨#[]⟩, .string ⟨#[]⟩, .bool false, .string ⟨#[]⟩, .bool false, .int .i64 0, .bool false, .string ⟨#[]⟩, .slice none 0 0, .bool false, .string ⟨#[]⟩, .bool false, .string ⟨#[]⟩] 54)) = w1 at *
  go_wp2_with fail
  refine (clean_any s _ (by omega)).mono ?_
  rintro e w2 ⟨x, rfl, hx, hn2⟩
  have hxl : x.size ≤ 27000 := by have := clean_len (tl s); rw [← hx, tl_length, tl_length] at this; omega
  have hx0 : ¬ x.size = 0 := fun e => hne (by rw [← hx]; exact tl_empty e)
  have HP := hide (fun w' => putPlain9_any ru x w' hx0 (by omega))
  rw [hx] at HP
  have HUB2 := hide (HUB.out.on hn2)
  have HZ2 := hide (HZ.out.on hn2)
  have HN2 := hide (HN.out.then hn2)
  clear hx hn2 hx0 hne HUB HZ HN
  obtain ⟨a0, a1, a2, a3, a4, a5, a6, a7, a8, a9, a10, a11, a12, a13⟩ := HUB2.out.cells
  go_wp2_with fail
  refine (HP.out _).mono ?_
  rintro e w3 ⟨r, rfl, hr, hn3⟩
  have HR := hide hr
  have HZ3 := hide (HZ2.out.on hn3)
  have HN3 := hide (HN2.out.then hn3)
  clear hr hn3 HZ2 HN2 HUB2
  clear a0 a1 a2 a3 a4 a5 a6 a7 a8 a9 a10 a11 a12 a13
  obtain ⟨z0, z1, z2, z3, z4, z5, z6, z7, z8, z9, z10, z11, z12, z13⟩ := HZ3.out.cells
  have zf0 := HZ3.out.free 0
  have zf1 := HZ3.out.free 1
  have zf2 := HZ3.out.free 2
  have zf3 := HZ3.out.free 3
  have zf4 := HZ3.out.free 4
  have zf5 := HZ3.out.free 5
  have zf6 := HZ3.out.free 6
  have zf7 := HZ3.out.free 7
  have zf8 := HZ3.out.free 8
  have zf9 := HZ3.out.free 9
  have zf10 := HZ3.out.free 10
  have zf11 := HZ3.out.free 11
  have zf12 := HZ3.out.free 12
  have zf13 := HZ3.out.free 13
  go_wp2
  exact ret14 (rb := w.heap.size + 1) Tryz.results91 rfl rfl (RecB.put HZ3.out _ _ _ _ _ _ _ _ _ _ _ _ _ _) rfl ⟨r, rfl, HR.out, (put14_below HN3.out (by omega) _ _ _ _ _ _ _ _ _ _ _ _ _ _)⟩
end Go.Proofs.YtchkhibgbnhjpaaGreatDoor
