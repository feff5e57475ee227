import Derived.Test.YtcgoimipjnlagaaGreatDoorRd7
import Derived.Deep.Cut
import Derived.Test.YtcgoimipjnlagaaGreatDoorUrl1
import Derived.Test.YtcgoimipjnlagaaGreatDoorGet1
import Derived.Test.YtcgoimipjnlagaaGreatDoorRrB
import Derived.Test.YtcgoimipjnlagaaGreatDoorAtA
namespace Go.Proofs.YtcgoimipjnlagaaGreatDoor
open Go.RowKit

/-- changing.withoutMark -/
def markOff (n : Int) (l : List UInt8) : List UInt8 := if l ≠ [] ∧ ((l.getD 0 0).toNat : Int) = n then l.drop 1 else l
theorem markOff_len (n : Int) (l : List UInt8) : (markOff n l).length ≤ l.length := by unfold markOff; split <;> simp
set_option maxHeartbeats 4000000 in
theorem withoutMark_any (s : ByteArray) (n : Nat) (w : World) (hs : s.size ≤ 1000000) :
    Calls Tryz.prog 206 #[.string s, .int .u8 (n : Int)] w fun e w' => ∃ r : ByteArray, e = .returned (.string r) ∧ tl r = noBreaks (markOff n (tl s)) ∧ Nx w w' := by
  by_cases h0 : s.size = 0
  · have HE := hide (show markOff n (tl s) = tl s by unfold markOff; rw [if_neg (fun x => x.1 (tl_empty h0))])
    have h0' := str_empty h0
    clear h0
    go_enter Tryz.func206, Tryz.ntmps206
    go_wp2_with fail
    refine (noBreaks_any s _ (by omega)).mono ?_
    rintro e w1 ⟨r, rfl, hr, hn1⟩
    have HR := hide hr
    have HN := hide hn1
    clear hr hn1
    go_wp2
    go_ret
    exact ⟨r, rfl, by rw [HE.out]; exact HR.out, HN.out⟩
  · have h0' := str_nonempty h0
    have hpos : 0 < s.size := by omega
    have hg := tl_getD s 0 hpos
    have hne := tl_ne h0
    cases hc : ((s[0].toNat : Int) == (n : Int))
    · have HE := hide (show markOff n (tl s) = tl s by unfold markOff; rw [if_neg (fun x => by rw [hg] at x; rw [x.2] at hc; simp at hc)])
      clear h0 hg hne
      go_enter Tryz.func206, Tryz.ntmps206
      go_wp2_with fail
      refine (noBreaks_any s _ (by omega)).mono ?_
      rintro e w1 ⟨r, rfl, hr, hn1⟩
      have HR := hide hr
      have HN := hide hn1
      clear hr hn1
      go_wp2
      go_ret
      exact ⟨r, rfl, by rw [HE.out]; exact HR.out, HN.out⟩
    · have HE := hide (show markOff n (tl s) = (tl s).drop 1 by unfold markOff; rw [if_pos ⟨hne, by rw [hg]; simpa using hc⟩])
      clear h0 hg hne
      go_enter Tryz.func206, Tryz.ntmps206
      go_wp2_with fail
      refine (noBreaks_any (s.extract 1 s.size) _ (by rw [size_from]; omega)).mono ?_
      rintro e w1 ⟨r, rfl, hr, hn1⟩
      rw [tl_from] at hr
      have HR := hide hr
      have HN := hide hn1
      clear hr hn1
      go_wp2
      go_ret
      exact ⟨r, rfl, by rw [HE.out]; exact HR.out, HN.out⟩

/-- changing.putHash, of a text that is not empty -/
def hashL (l : List UInt8) : List UInt8 := encB (tl (setBA 1)) (clean (noBreaks (markOff 35 l)))
theorem hashL_len {l : List UInt8} (h : l.length ≤ 30000) : (hashL l).length ≤ 300000 := enc_short _ _ (Nat.le_trans (noBreaks_len _) (Nat.le_trans (markOff_len _ _) h))
set_option maxHeartbeats 8000000 in
theorem putHash_any (ru : Rc) (s : ByteArray) (w : World) (h0 : ¬ s.size = 0) (hs : s.size ≤ 30000) :
    Calls Tryz.prog 165 #[.agg #[.string ru.sch, .string ru.nam, .string ru.pw, .bool ru.hh, .string ru.host, .bool ru.hp, .int .i64 (ru.port : Int), .bool ru.op, .string ru.opath, .slice ru.so ru.sn ru.sc, .bool ru.hq, .string ru.q, .bool ru.hf, .string ru.fr], .string s] w fun e w' => ∃ r : Rc, e = .returned (.agg #[.string r.sch, .string r.nam, .string r.pw, .bool r.hh, .string r.host, .bool r.hp, .int .i64 (r.port : Int), .bool r.op, .string r.opath, .slice r.so r.sn r.sc, .bool r.hq, .string r.q, .bool r.hf, .string r.fr]) ∧ (∃ fr : ByteArray, r = { ru with hf := true, fr := fr } ∧ tl fr = hashL (tl s) ∧ fr.size ≤ 300000) ∧ Nx w w' := by
  have h0' := str_nonempty h0
  clear h0
  go_enter Tryz.func165, Tryz.ntmps165
  go_upto_region 1 with fail
  obtain ⟨g1, g2, g3⟩ := two_new (w := w) (ru := ru) Nx.rfl
  have HUB := hide g1
  have HZ := hide g2
  have HN := hide g3
  clear g1 g2 g3
  generalize ((w.alloc (Obj.cells #[.string ru.sch, .string ru.nam, .string ru.pw, .bool ru.hh, .string ru.host, .bool ru.hp, .int .i64 (ru.port : Int), .bool ru.op, .string ru.opath, .slice ru.so ru.sn ru.sc, .bool ru.hq, .string ru.q, .bool ru.hf, .string ru.fr] 54)).alloc (Obj.cells #[.string ⟨#[]⟩, .string ⟨#[]⟩, .string ⟨#[]⟩, .bool false, .string ⟨#[]⟩, .bool false, .int .i64 0, .bool false, .string ⟨#[]⟩, .slice none 0 0, .bool false, .string ⟨#[]⟩, .bool false, .string ⟨#[]⟩] 54)) = w1 at *
  obtain ⟨a0, a1, a2, a3, a4, a5, a6, a7, a8, a9, a10, a11, a12, a13⟩ := HUB.out.cells
  have af12 := HUB.out.free 12
  go_wp2_with fail
  refine (withoutMark_any s 35 _ (by omega)).mono ?_
  rintro e w2 ⟨x, rfl, hx, hn2⟩
  rw [show ((35 : Nat) : Int) = 35 from rfl] at hx
  have hxl : x.size ≤ 30000 := by have h1 := noBreaks_len (markOff 35 (tl s)); have h2 := markOff_len 35 (tl s); rw [← hx, tl_length] at h1; rw [tl_length] at h2; omega
  have HX := hide hx
  have HUB2 := hide (HUB.out.on hn2)
  have HZ2 := hide (HZ.out.on hn2)
  have HN2 := hide (HN.out.then hn2)
  clear hx hn2 HUB HZ HN
  clear a0 a1 a2 a3 a4 a5 a6 a7 a8 a9 a10 a11 a12 a13 af12
  obtain ⟨a0, a1, a2, a3, a4, a5, a6, a7, a8, a9, a10, a11, a12, a13⟩ := HUB2.out.cells
  have af12 := HUB2.out.free 12
  go_wp2_with fail
  refine (encode_any x 1 _ (by omega)).mono ?_
  rintro e w3 ⟨en, rfl, hen, hn3⟩
  have HEN := hide (show tl en = hashL (tl s) by rw [hen, HX.out]; rfl)
  have hel : en.size ≤ 300000 := by rw [← tl_length, HEN.out]; exact hashL_len (by rw [tl_length]; exact hs)
  have HUB3 := hide ((HUB2.out.s12 true).on hn3)
  have HZ3 := hide ((HZ2.out.far (q := w.heap.size) (by omega) 12 (.bool true)).on hn3)
  have HN3 := hide (show Nx w w3 from Nx.then (show Nx w _ from Below.setCell (p := ⟨w.heap.size, 12, none⟩) HN2.out (Nat.le_refl _) (.bool true)) hn3)
  clear hen hn3 HUB2 HZ2 HN2 HX
  clear a0 a1 a2 a3 a4 a5 a6 a7 a8 a9 a10 a11 a12 a13 af12
  obtain ⟨a0, a1, a2, a3, a4, a5, a6, a7, a8, a9, a10, a11, a12, a13⟩ := HUB3.out.cells
  have af13 := HUB3.out.free 13
  obtain ⟨z0, z1, z2, z3, z4, z5, z6, z7, z8, z9, z10, z11, z12, z13⟩ := HZ3.out.cells
  have zf0 := HZ3.out.free 0
  have zf1 := HZ3.out.free 1
  have zf2 := HZ3.out.free 2
  have zf3 := HZ3.out.free 3
  have zf4 := HZ3.out.free 4
  have zf5 := HZ3.out.free 5
  have zf6 := HZ3.out.free 6
  have zf7 := HZ3.out.free 7
  have zf8 := HZ3.out.free 8
  have zf9 := HZ3.out.free 9
  have zf10 := HZ3.out.free 10
  have zf11 := HZ3.out.free 11
  have zf12 := HZ3.out.free 12
  have zf13 := HZ3.out.free 13
  go_wp2
  refine ret14o (rb := w.heap.size + 1) Tryz.results165 rfl (RecB.put (HZ3.out.far (by omega) 13 _) _ _ _ _ _ _ _ _ _ _ _ _ _ _) rfl ⟨{ ru with hf := true, fr := en }, rfl, ⟨en, rfl, HEN.out, hel⟩, (put14_below (Below.setCell HN3.out (Nat.le_refl _) _) (by omega) _ _ _ _ _ _ _ _ _ _ _ _ _ _)⟩

set_option maxHeartbeats 8000000 in
/-- changing.putPlain, of the same -/
theorem putPlain9_any (ru : Rc) (s : ByteArray) (w : World) (h0 : ¬ s.size = 0) (hs : s.size ≤ 30000) :
    Calls Tryz.prog 119 #[.agg #[.string ru.sch, .string ru.nam, .string ru.pw, .bool ru.hh, .string ru.host, .bool ru.hp, .int .i64 (ru.port : Int), .bool ru.op, .string ru.opath, .slice ru.so ru.sn ru.sc, .bool ru.hq, .string ru.q, .bool ru.hf, .string ru.fr], .int .i64 9, .string s] w fun e w' => ∃ r : Rc, e = .returned (.agg #[.string r.sch, .string r.nam, .string r.pw, .bool r.hh, .string r.host, .bool r.hp, .int .i64 (r.port : Int), .bool r.op, .string r.opath, .slice r.so r.sn r.sc, .bool r.hq, .string r.q, .bool r.hf, .string r.fr]) ∧ (∃ fr : ByteArray, r = { ru with hf := true, fr := fr } ∧ tl fr = hashL (tl s) ∧ fr.size ≤ 300000) ∧ Nx w w' := by
  have HP := hide (fun w' => putHash_any ru s w' h0 hs)
  clear h0
  go_enter Tryz.func119, Tryz.ntmps119
  go_upto_region 1 with fail
  obtain ⟨g1, g2, g3⟩ := two_new (w := w) (ru := ru) Nx.rfl
  have HUB := hide g1
  have HZ := hide g2
  have HN := hide g3
  clear g1 g2 g3
  generalize ((w.alloc (Obj.cells #[.string ru.sch, .string ru.nam, .string ru.pw, .bool ru.hh, .string ru.host, .bool ru.hp, .int .i64 (ru.port : Int), .bool ru.op, .string ru.opath, .slice ru.so ru.sn ru.sc, .bool ru.hq, .string ru.q, .bool ru.hf, .string ru.fr] 54)).alloc (Obj.cells #[.string ⟨#[]⟩, .string ⟨#[]⟩, .string ⟨#[]⟩, .bool false, .string ⟨#[]⟩, .bool false, .int .i64 0, .bool false, .string ⟨#[]⟩, .slice none 0 0, .bool false, .string ⟨#[]⟩, .bool false, .string ⟨#[]⟩] 54)) = w1 at *
  obtain ⟨a0, a1, a2, a3, a4, a5, a6, a7, a8, a9, a10, a11, a12, a13⟩ := HUB.out.cells
  go_wp2_with fail
  refine (HP.out _).mono ?_
  rintro e w2 ⟨r, rfl, hr, hn2⟩
  have HR := hide hr
  have HZ2 := hide (HZ.out.on hn2)
  have HN2 := hide (HN.out.then hn2)
  clear hr hn2 HZ HN
  clear a0 a1 a2 a3 a4 a5 a6 a7 a8 a9 a10 a11 a12 a13
  obtain ⟨z0, z1, z2, z3, z4, z5, z6, z7, z8, z9, z10, z11, z12, z13⟩ := HZ2.out.cells
  have zf0 := HZ2.out.free 0
  have zf1 := HZ2.out.free 1
  have zf2 := HZ2.out.free 2
  have zf3 := HZ2.out.free 3
  have zf4 := HZ2.out.free 4
  have zf5 := HZ2.out.free 5
  have zf6 := HZ2.out.free 6
  have zf7 := HZ2.out.free 7
  have zf8 := HZ2.out.free 8
  have zf9 := HZ2.out.free 9
  have zf10 := HZ2.out.free 10
  have zf11 := HZ2.out.free 11
  have zf12 := HZ2.out.free 12
  have zf13 := HZ2.out.free 13
  go_wp2
  exact ret14o (rb := w.heap.size + 1) Tryz.results119 rfl (RecB.put HZ2.out _ _ _ _ _ _ _ _ _ _ _ _ _ _) rfl ⟨r, rfl, HR.out, (put14_below HN2.out (by omega) _ _ _ _ _ _ _ _ _ _ _ _ _ _)⟩

theorem clean_ne' {l : List UInt8} (h : l ≠ []) : clean l ≠ [] := by
  intro e
  have h1 := measure_le h
  rw [clean_step l h] at e
  have e1 := (List.append_eq_nil_iff.1 e).1
  split at e1
  · have := congrArg List.length e1
    rw [List.length_take, List.length_nil] at this
    omega
  · cases e1
set_option maxHeartbeats 8000000 in
/-- changing.Put, of the same -/
theorem put9_any (ru : Rc) (s : ByteArray) (w : World) (h0 : ¬ s.size = 0) (hs : s.size ≤ 9000) :
    Calls Tryz.prog 89 #[.agg #[.string ru.sch, .string ru.nam, .string ru.pw, .bool ru.hh, .string ru.host, .bool ru.hp, .int .i64 (ru.port : Int), .bool ru.op, .string ru.opath, .slice ru.so ru.sn ru.sc, .bool ru.hq, .string ru.q, .bool ru.hf, .string ru.fr], .int .i64 9, .string s] w fun e w' => ∃ r : Rc, e = .returned (.tuple #[.agg #[.string r.sch, .string r.nam, .string r.pw, .bool r.hh, .string r.host, .bool r.hp, .int .i64 (r.port : Int), .bool r.op, .string r.opath, .slice r.so r.sn r.sc, .bool r.hq, .string r.q, .bool r.hf, .string r.fr], .int .i64 0]) ∧ (∃ fr : ByteArray, r = { ru with hf := true, fr := fr } ∧ tl fr = hashL (clean (tl s)) ∧ fr.size ≤ 300000) ∧ Nx w w' := by
  have hne := clean_ne' (tl_ne h0)
  clear h0
  go_enter Tryz.func89, Tryz.ntmps89
  go_upto_region 1 with fail
  obtain ⟨g1, g2, g3⟩ := two_new (w := w) (ru := ru) Nx.rfl
  have HUB := hide g1
  have HZ := hide g2
  have HN := hide g3
  clear g1 g2 g3
  generalize ((w.alloc (Obj.cells #[.string ru.sch, .string ru.nam, .string ru.pw, .bool ru.hh, .string ru.host, .bool ru.hp, .int .i64 (ru.port : Int), .bool ru.op, .string ru.opath, .slice ru.so ru.sn ru.sc, .bool ru.hq, .string ru.q, .bool ru.hf, .string ru.fr] 54)).alloc (Obj.cells #[.string ⟨#[]⟩, .string ⟨#[]⟩, .string ⟨#[]⟩, .bool false, .string ⟨#[]⟩, .bool false, .int .i64 0, .bool false, .string ⟨#[]⟩, .slice none 0 0, .bool false, .string ⟨#[]⟩, .bool false, .string ⟨#[]⟩] 54)) = w1 at *
  go_wp2_with fail
  refine (clean_any s _ (by omega)).mono ?_
  rintro e w2 ⟨x, rfl, hx, hn2⟩
  have hxl : x.size ≤ 27000 := by have := clean_len (tl s); rw [← hx, tl_length, tl_length] at this; omega
  have hx0 : ¬ x.size = 0 := fun e => hne (by rw [← hx]; exact tl_empty e)
  have HP := hide (fun w' => putPlain9_any ru x w' hx0 (by omega))
  rw [hx] at HP
  have HUB2 := hide (HUB.out.on hn2)
  have HZ2 := hide (HZ.out.on hn2)
  have HN2 := hide (HN.out.then hn2)
  clear hx hn2 hx0 hne HUB HZ HN
  obtain ⟨a0, a1, a2, a3, a4, a5, a6, a7, a8, a9, a10, a11, a12, a13⟩ := HUB2.out.cells
  go_wp2_with fail
  refine (HP.out _).mono ?_
  rintro e w3 ⟨r, rfl, hr, hn3⟩
  have HR := hide hr
  have HZ3 := hide (HZ2.out.on hn3)
  have HN3 := hide (HN2.out.then hn3)
  clear hr hn3 HZ2 HN2 HUB2
  clear a0 a1 a2 a3 a4 a5 a6 a7 a8 a9 a10 a11 a12 a13
  obtain ⟨z0, z1, z2, z3, z4, z5, z6, z7, z8, z9, z10, z11, z12, z13⟩ := HZ3.out.cells
  have zf0 := HZ3.out.free 0
  have zf1 := HZ3.out.free 1
  have zf2 := HZ3.out.free 2
  have zf3 := HZ3.out.free 3
  have zf4 := HZ3.out.free 4
  have zf5 := HZ3.out.free 5
  have zf6 := HZ3.out.free 6
  have zf7 := HZ3.out.free 7
  have zf8 := HZ3.out.free 8
  have zf9 := HZ3.out.free 9
  have zf10 := HZ3.out.free 10
  have zf11 := HZ3.out.free 11
  have zf12 := HZ3.out.free 12
  have zf13 := HZ3.out.free 13
  go_wp2
  exact ret14 (rb := w.heap.size + 1) Tryz.results89 rfl rfl (RecB.put HZ3.out _ _ _ _ _ _ _ _ _ _ _ _ _ _) rfl ⟨r, rfl, HR.out, (put14_below HN3.out (by omega) _ _ _ _ _ _ _ _ _ _ _ _ _ _)⟩
end Go.Proofs.YtcgoimipjnlagaaGreatDoor

namespace Go.Proofs.YtcgoimipjnlagaaGreatDoor
open Go.RowKit

theorem UrlB.ty {w : World} {b : Nat} {r : Rc} (h : UrlB w b r) : TyB w b 56 := ⟨_, _, h⟩
theorem UrlB.free {w : World} {b : Nat} {r : Rc} (h : UrlB w b r) (i : Nat) : w.frozen? ⟨b, i, none⟩ = false := by
  unfold UrlB at h
  simp [World.frozen?, h]
theorem UrlB.put {w : World} {b : Nat} {q : Rc} (h : UrlB w b q) (r : Rc) : UrlB ((((((((((((((w.setCell ⟨b, 0, none⟩ (.string r.sch)).setCell ⟨b, 1, none⟩ (.string r.nam)).setCell ⟨b, 2, none⟩ (.string r.pw)).setCell ⟨b, 3, none⟩ (.bool r.hh)).setCell ⟨b, 4, none⟩ (.string r.host)).setCell ⟨b, 5, none⟩ (.bool r.hp)).setCell ⟨b, 6, none⟩ (.int .i64 (r.port : Int))).setCell ⟨b, 7, none⟩ (.bool r.op)).setCell ⟨b, 8, none⟩ (.string r.opath)).setCell ⟨b, 9, none⟩ (.slice r.so r.sn r.sc)).setCell ⟨b, 10, none⟩ (.bool r.hq)).setCell ⟨b, 11, none⟩ (.string r.q)).setCell ⟨b, 12, none⟩ (.bool r.hf)).setCell ⟨b, 13, none⟩ (.string r.fr)) b r := by
  unfold UrlB at *
  simp [World.setCell, Array.getElem?_modify, h]
theorem but14 {b : Nat} {a w : World} (h : But b a w) (v0 v1 v2 v3 v4 v5 v6 v7 v8 v9 v10 v11 v12 v13 : Value) : But b a ((((((((((((((w.setCell ⟨b, 0, none⟩ v0).setCell ⟨b, 1, none⟩ v1).setCell ⟨b, 2, none⟩ v2).setCell ⟨b, 3, none⟩ v3).setCell ⟨b, 4, none⟩ v4).setCell ⟨b, 5, none⟩ v5).setCell ⟨b, 6, none⟩ v6).setCell ⟨b, 7, none⟩ v7).setCell ⟨b, 8, none⟩ v8).setCell ⟨b, 9, none⟩ v9).setCell ⟨b, 10, none⟩ v10).setCell ⟨b, 11, none⟩ v11).setCell ⟨b, 12, none⟩ v12).setCell ⟨b, 13, none⟩ v13) :=
  (But.set (But.set (But.set (But.set (But.set (But.set (But.set (But.set (But.set (But.set (But.set (But.set (But.set (But.set h 0 _) 1 _) 2 _) 3 _) 4 _) 5 _) 6 _) 7 _) 8 _) 9 _) 10 _) 11 _) 12 _) 13 _)
set_option maxRecDepth 8000 in
set_option maxHeartbeats 4000000 in
/-- (*urls.URL).put, of a fragment that is not empty -/
theorem putU9_any (pb : Nat) (r : Rc) (u : U) (bs : List ByteArray) (s : ByteArray) (w : World) (hu : UrlB w pb r) (hr : RcIs w r u bs) (h0 : ¬ s.size = 0) (hs : s.size ≤ 160) :
    Calls Tryz.prog 61 #[.pointer (some ⟨pb, 0, none⟩), .int .i64 9, .string s] w fun e w' => e = .returned (.int .i64 0) ∧ (∃ r' : Rc, UrlB w' pb r' ∧ RcIs w' r' { u with hf := true, fr := hashL (clean (tl s)) } bs) ∧ But pb w w' := by
  have HU := hide hu
  have HR := hide hr
  have HP := hide (put9_any r s w h0 (by omega))
  obtain ⟨u0, u1, u2, u3, u4, u5, u6, u7, u8, u9, u10, u11, u12, u13⟩ := hu.cells
  clear hu hr h0
  go_enter Tryz.func61, Tryz.ntmps61
  go_wp2_with fail
  refine HP.out.mono ?_
  rintro e w1 ⟨r1, rfl, ⟨fr, hr1, hfr, hfl⟩, hn⟩
  have HU1 := hide (HU.out.on hn)
  have HR1 := hide (HR.out.on hn)
  have HN := hide hn
  have HF := hide hfr
  have HE := hide hr1
  have hlb : pb < w1.heap.size := (Array.getElem?_eq_some_iff.1 HU1.out).1
  clear hn hfr hr1 u0 u1 u2 u3 u4 u5 u6 u7 u8 u9 u10 u11 u12 u13
  go_upto_region 6 with fail
  have HU2 := hide (HU1.out.on (Nx.rfl.alloc (Obj.cells #[.string r1.sch, .string r1.nam, .string r1.pw, .bool r1.hh, .string r1.host, .bool r1.hp, .int .i64 (r1.port : Int), .bool r1.op, .string r1.opath, .slice r1.so r1.sn r1.sc, .bool r1.hq, .string r1.q, .bool r1.hf, .string r1.fr] 54)))
  have HR2 := hide (HR1.out.on (Nx.rfl.alloc (Obj.cells #[.string r1.sch, .string r1.nam, .string r1.pw, .bool r1.hh, .string r1.host, .bool r1.hp, .int .i64 (r1.port : Int), .bool r1.op, .string r1.opath, .slice r1.so r1.sn r1.sc, .bool r1.hq, .string r1.q, .bool r1.hf, .string r1.fr] 54)))
  have HV2 := hide (recB_new w1 r1)
  have HN2 := hide (HN.out.alloc (Obj.cells #[.string r1.sch, .string r1.nam, .string r1.pw, .bool r1.hh, .string r1.host, .bool r1.hp, .int .i64 (r1.port : Int), .bool r1.op, .string r1.opath, .slice r1.so r1.sn r1.sc, .bool r1.hq, .string r1.q, .bool r1.hf, .string r1.fr] 54))
  clear HU1 HR1 HN
  generalize (w1.alloc (Obj.cells #[.string r1.sch, .string r1.nam, .string r1.pw, .bool r1.hh, .string r1.host, .bool r1.hp, .int .i64 (r1.port : Int), .bool r1.op, .string r1.opath, .slice r1.so r1.sn r1.sc, .bool r1.hq, .string r1.q, .bool r1.hf, .string r1.fr] 54)) = w2 at *
  obtain ⟨u0, u1, u2, u3, u4, u5, u6, u7, u8, u9, u10, u11, u12, u13⟩ := HU2.out.cells
  obtain ⟨x0, x1, x2, x3, x4, x5, x6, x7, x8, x9, x10, x11, x12, x13⟩ := HV2.out.cells
  have uf0 := HU2.out.free 0
  have uf1 := HU2.out.free 1
  have uf2 := HU2.out.free 2
  have uf3 := HU2.out.free 3
  have uf4 := HU2.out.free 4
  have uf5 := HU2.out.free 5
  have uf6 := HU2.out.free 6
  have uf7 := HU2.out.free 7
  have uf8 := HU2.out.free 8
  have uf9 := HU2.out.free 9
  have uf10 := HU2.out.free 10
  have uf11 := HU2.out.free 11
  have uf12 := HU2.out.free 12
  have uf13 := HU2.out.free 13
  go_wp2
  go_ret
  refine ⟨rfl, ⟨r1, UrlB.put HU2.out r1, ?_⟩, but14 (But.nx HN2.out) _ _ _ _ _ _ _ _ _ _ _ _ _ _⟩
  refine RcIs.ks ?_ (put14_ks HU2.out.ty (by decide) _ _ _ _ _ _ _ _ _ _ _ _ _ _)
  rw [HE.out]
  exact { HR2.out with eq := by rw [← HF.out, ← HR2.out.eq]; rfl, lfr := hfl }
set_option maxHeartbeats 4000000 in
theorem setHash_any (pb : Nat) (r : Rc) (u : U) (bs : List ByteArray) (s : ByteArray) (w : World) (hu : UrlB w pb r) (hr : RcIs w r u bs) (h0 : ¬ s.size = 0) (hs : s.size ≤ 160) :
    Calls Tryz.prog 49 #[.pointer (some ⟨pb, 0, none⟩), .string s] w fun e w' => e = .returned (.int .i64 0) ∧ (∃ r' : Rc, UrlB w' pb r' ∧ RcIs w' r' { u with hf := true, fr := hashL (clean (tl s)) } bs) ∧ But pb w w' := by
  have HP := hide (putU9_any pb r u bs s w hu hr h0 hs)
  clear hu hr h0 hs
  go_enter Tryz.func49, Tryz.ntmps49
  go_wp2_with fail
  refine HP.out.mono ?_
  rintro e w1 ⟨rfl, hx, hb⟩
  have HX := hide hx
  have HB := hide hb
  clear hx hb
  go_wp2
  go_ret
  exact ⟨rfl, HX.out, HB.out⟩
end Go.Proofs.YtcgoimipjnlagaaGreatDoor

namespace Go.Proofs.YtcgoimipjnlagaaGreatDoor
open Go.RowKit

theorem three11 {w w1 : World} {a0 a1 a2 a3 a4 a5 a6 a7 a8 a9 a10 b0 b10 : ByteArray} (hn : Nx (((w.alloc (Obj.cells #[.string a0, .string a1, .string a2, .string a3, .string a4, .string a5, .string a6, .string a7, .string a8, .string a9, .string a10] 34)).alloc (Obj.cells #[.string b0, .string a1, .string a2, .string a3, .string a4, .string a5, .string a6, .string a7, .string a8, .string a9, .string b10] 34)).alloc (Obj.cells #[.string ⟨#[]⟩, .string ⟨#[]⟩, .string ⟨#[]⟩, .string ⟨#[]⟩, .string ⟨#[]⟩, .string ⟨#[]⟩, .string ⟨#[]⟩, .string ⟨#[]⟩, .string ⟨#[]⟩, .string ⟨#[]⟩, .string ⟨#[]⟩] 34)) w1) :
    C11 w1 w.heap.size (.string a0) (.string a1) (.string a2) (.string a3) (.string a4) (.string a5) (.string a6) (.string a7) (.string a8) (.string a9) (.string a10) ∧ C11 w1 (w.heap.size + 1) (.string b0) (.string a1) (.string a2) (.string a3) (.string a4) (.string a5) (.string a6) (.string a7) (.string a8) (.string a9) (.string b10) ∧ C11 w1 (w.heap.size + 1 + 1) (.string ⟨#[]⟩) (.string ⟨#[]⟩) (.string ⟨#[]⟩) (.string ⟨#[]⟩) (.string ⟨#[]⟩) (.string ⟨#[]⟩) (.string ⟨#[]⟩) (.string ⟨#[]⟩) (.string ⟨#[]⟩) (.string ⟨#[]⟩) (.string ⟨#[]⟩) ∧ Nx w w1 := by
  refine ⟨((show C11 (w.alloc (Obj.cells #[.string a0, .string a1, .string a2, .string a3, .string a4, .string a5, .string a6, .string a7, .string a8, .string a9, .string a10] 34)) w.heap.size (.string a0) (.string a1) (.string a2) (.string a3) (.string a4) (.string a5) (.string a6) (.string a7) (.string a8) (.string a9) (.string a10) from heap_alloc_new w _).on ((Nx.rfl.alloc _).alloc _)).on hn, ?_, ?_, (((Nx.rfl.alloc _).alloc _).alloc _).then hn⟩
  · have h : C11 ((w.alloc (Obj.cells #[.string a0, .string a1, .string a2, .string a3, .string a4, .string a5, .string a6, .string a7, .string a8, .string a9, .string a10] 34)).alloc (Obj.cells #[.string b0, .string a1, .string a2, .string a3, .string a4, .string a5, .string a6, .string a7, .string a8, .string a9, .string b10] 34)) (w.alloc (Obj.cells #[.string a0, .string a1, .string a2, .string a3, .string a4, .string a5, .string a6, .string a7, .string a8, .string a9, .string a10] 34)).heap.size (.string b0) (.string a1) (.string a2) (.string a3) (.string a4) (.string a5) (.string a6) (.string a7) (.string a8) (.string a9) (.string b10) := heap_alloc_new _ _
    rw [show (w.alloc (Obj.cells #[.string a0, .string a1, .string a2, .string a3, .string a4, .string a5, .string a6, .string a7, .string a8, .string a9, .string a10] 34)).heap.size = w.heap.size + 1 by simp] at h
    exact (h.on (Nx.rfl.alloc _)).on hn
  · have h : C11 (((w.alloc (Obj.cells #[.string a0, .string a1, .string a2, .string a3, .string a4, .string a5, .string a6, .string a7, .string a8, .string a9, .string a10] 34)).alloc (Obj.cells #[.string b0, .string a1, .string a2, .string a3, .string a4, .string a5, .string a6, .string a7, .string a8, .string a9, .string b10] 34)).alloc (Obj.cells #[.string ⟨#[]⟩, .string ⟨#[]⟩, .string ⟨#[]⟩, .string ⟨#[]⟩, .string ⟨#[]⟩, .string ⟨#[]⟩, .string ⟨#[]⟩, .string ⟨#[]⟩, .string ⟨#[]⟩, .string ⟨#[]⟩, .string ⟨#[]⟩] 34)) ((w.alloc (Obj.cells #[.string a0, .string a1, .string a2, .string a3, .string a4, .string a5, .string a6, .string a7, .string a8, .string a9, .string a10] 34)).alloc (Obj.cells #[.string b0, .string a1, .string a2, .string a3, .string a4, .string a5, .string a6, .string a7, .string a8, .string a9, .string b10] 34)).heap.size (.string ⟨#[]⟩) (.string ⟨#[]⟩) (.string ⟨#[]⟩) (.string ⟨#[]⟩) (.string ⟨#[]⟩) (.string ⟨#[]⟩) (.string ⟨#[]⟩) (.string ⟨#[]⟩) (.string ⟨#[]⟩) (.string ⟨#[]⟩) (.string ⟨#[]⟩) := heap_alloc_new _ _
    rw [show ((w.alloc (Obj.cells #[.string a0, .string a1, .string a2, .string a3, .string a4, .string a5, .string a6, .string a7, .string a8, .string a9, .string a10] 34)).alloc (Obj.cells #[.string b0, .string a1, .string a2, .string a3, .string a4, .string a5, .string a6, .string a7, .string a8, .string a9, .string b10] 34)).heap.size = w.heap.size + 1 + 1 by simp] at h
    exact h.on hn
set_option maxRecDepth 8000 in
set_option maxHeartbeats 16000000 in
/-- urlskeep.with, of the fragment's setter: all but the text and the fragment stay. -/
theorem with9_any (a0 a1 a2 a3 a4 a5 a6 a7 a8 a9 a10 b0 b10 : ByteArray) (w : World) (h8 : a8.size ≤ 200000000000) :
    Calls Tryz.prog 48 #[.agg #[.string a0, .string a1, .string a2, .string a3, .string a4, .string a5, .string a6, .string a7, .string a8, .string a9, .string a10], .agg #[.string b0, .string a1, .string a2, .string a3, .string a4, .string a5, .string a6, .string a7, .string a8, .string a9, .string b10], .int .i64 9] w fun e w' => e = .returned (.agg #[.string b0, .string a1, .string a2, .string a3, .string a4, .string a5, .string a6, .string a7, .string a8, .string a9, .string b10]) ∧ Nx w w' := by
  go_enter Tryz.func48, Tryz.ntmps48
  go_upto_region 1 with fail
  obtain ⟨g1, g2, g3, g4⟩ := three11 (w := w) (a0 := a0) (a1 := a1) (a2 := a2) (a3 := a3) (a4 := a4) (a5 := a5) (a6 := a6) (a7 := a7) (a8 := a8) (a9 := a9) (a10 := a10) (b0 := b0) (b10 := b10) Nx.rfl
  have HA := hide g1
  have HB := hide g2
  have HZ := hide g3
  have HN := hide g4
  clear g1 g2 g3 g4
  generalize (((w.alloc (Obj.cells #[.string a0, .string a1, .string a2, .string a3, .string a4, .string a5, .string a6, .string a7, .string a8, .string a9, .string a10] 34)).alloc (Obj.cells #[.string b0, .string a1, .string a2, .string a3, .string a4, .string a5, .string a6, .string a7, .string a8, .string a9, .string b10] 34)).alloc (Obj.cells #[.string ⟨#[]⟩, .string ⟨#[]⟩, .string ⟨#[]⟩, .string ⟨#[]⟩, .string ⟨#[]⟩, .string ⟨#[]⟩, .string ⟨#[]⟩, .string ⟨#[]⟩, .string ⟨#[]⟩, .string ⟨#[]⟩, .string ⟨#[]⟩] 34)) = w1 at *
  obtain ⟨x0, x1, x2, x3, x4, x5, x6, x7, x8, x9, x10⟩ := HA.out.cells
  obtain ⟨y0, -, -, -, -, -, -, -, y8, -, y10⟩ := HB.out.cells
  obtain ⟨z0, z1, z2, z3, z4, z5, z6, z7, z8, z9, z10⟩ := HZ.out.cells
  have f0 := HA.out.free 0
  have f8 := HA.out.free 8
  have f10 := HA.out.free 10
  have zf0 := HZ.out.free 0
  have zf1 := HZ.out.free 1
  have zf2 := HZ.out.free 2
  have zf3 := HZ.out.free 3
  have zf4 := HZ.out.free 4
  have zf5 := HZ.out.free 5
  have zf6 := HZ.out.free 6
  have zf7 := HZ.out.free 7
  have zf8 := HZ.out.free 8
  have zf9 := HZ.out.free 9
  have zf10 := HZ.out.free 10
  by_cases h0 : a8.size = 0
  · have h0b : ((a8.size : Int) == 0) = true := by rw [h0]; rfl
    clear h0
    go_wp2
    exact ret11 (rb := w.heap.size + 1 + 1) Tryz.results48 rfl (C11.put (C11.far (C11.far (C11.far HZ.out (by omega) 0 _) (by omega) 10 _) (by omega) 8 _) _ _ _ _ _ _ _ _ _ _ _) rfl ⟨rfl, (Below.setCell (Below.setCell (Below.setCell (Below.setCell (Below.setCell (Below.setCell (Below.setCell (Below.setCell (Below.setCell (Below.setCell (Below.setCell (Below.setCell (Below.setCell (Below.setCell HN.out (Nat.le_refl _) _) (Nat.le_refl _) _) (Nat.le_refl _) _) (by show w.heap.size ≤ w.heap.size + 1 + 1; omega) _) (by show w.heap.size ≤ w.heap.size + 1 + 1; omega) _) (by show w.heap.size ≤ w.heap.size + 1 + 1; omega) _) (by show w.heap.size ≤ w.heap.size + 1 + 1; omega) _) (by show w.heap.size ≤ w.heap.size + 1 + 1; omega) _) (by show w.heap.size ≤ w.heap.size + 1 + 1; omega) _) (by show w.heap.size ≤ w.heap.size + 1 + 1; omega) _) (by show w.heap.size ≤ w.heap.size + 1 + 1; omega) _) (by show w.heap.size ≤ w.heap.size + 1 + 1; omega) _) (by show w.heap.size ≤ w.heap.size + 1 + 1; omega) _) (by show w.heap.size ≤ w.heap.size + 1 + 1; omega) _)⟩
  · have h0b : ((a8.size : Int) == 0) = false := beq_eq_false_iff_ne.2 (by omega)
    have hpos : 0 < a8.size := by omega
    cases hsl : ((a8[0].toNat : Int) == 47)
    · have hsl' : ((a8[0].toNat : Int) != 47) = true := by simp only [bne, hsl]; rfl
      clear h0
      go_wp2
      exact ret11 (rb := w.heap.size + 1 + 1) Tryz.results48 rfl (C11.put (C11.far (C11.far (C11.far HZ.out (by omega) 0 _) (by omega) 10 _) (by omega) 8 _) _ _ _ _ _ _ _ _ _ _ _) rfl ⟨rfl, (Below.setCell (Below.setCell (Below.setCell (Below.setCell (Below.setCell (Below.setCell (Below.setCell (Below.setCell (Below.setCell (Below.setCell (Below.setCell (Below.setCell (Below.setCell (Below.setCell HN.out (Nat.le_refl _) _) (Nat.le_refl _) _) (Nat.le_refl _) _) (by show w.heap.size ≤ w.heap.size + 1 + 1; omega) _) (by show w.heap.size ≤ w.heap.size + 1 + 1; omega) _) (by show w.heap.size ≤ w.heap.size + 1 + 1; omega) _) (by show w.heap.size ≤ w.heap.size + 1 + 1; omega) _) (by show w.heap.size ≤ w.heap.size + 1 + 1; omega) _) (by show w.heap.size ≤ w.heap.size + 1 + 1; omega) _) (by show w.heap.size ≤ w.heap.size + 1 + 1; omega) _) (by show w.heap.size ≤ w.heap.size + 1 + 1; omega) _) (by show w.heap.size ≤ w.heap.size + 1 + 1; omega) _) (by show w.heap.size ≤ w.heap.size + 1 + 1; omega) _) (by show w.heap.size ≤ w.heap.size + 1 + 1; omega) _)⟩
    · have hsl' : ((a8[0].toNat : Int) != 47) = false := by simp only [bne, hsl]; rfl
      clear h0
      go_wp2
      exact ret11 (rb := w.heap.size + 1 + 1) Tryz.results48 rfl (C11.put (C11.far (C11.far HZ.out (by omega) 0 _) (by omega) 10 _) _ _ _ _ _ _ _ _ _ _ _) rfl ⟨rfl, (Below.setCell (Below.setCell (Below.setCell (Below.setCell (Below.setCell (Below.setCell (Below.setCell (Below.setCell (Below.setCell (Below.setCell (Below.setCell (Below.setCell (Below.setCell HN.out (Nat.le_refl _) _) (Nat.le_refl _) _) (by show w.heap.size ≤ w.heap.size + 1 + 1; omega) _) (by show w.heap.size ≤ w.heap.size + 1 + 1; omega) _) (by show w.heap.size ≤ w.heap.size + 1 + 1; omega) _) (by show w.heap.size ≤ w.heap.size + 1 + 1; omega) _) (by show w.heap.size ≤ w.heap.size + 1 + 1; omega) _) (by show w.heap.size ≤ w.heap.size + 1 + 1; omega) _) (by show w.heap.size ≤ w.heap.size + 1 + 1; omega) _) (by show w.heap.size ≤ w.heap.size + 1 + 1; omega) _) (by show w.heap.size ≤ w.heap.size + 1 + 1; omega) _) (by show w.heap.size ≤ w.heap.size + 1 + 1; omega) _) (by show w.heap.size ≤ w.heap.size + 1 + 1; omega) _)⟩
end Go.Proofs.YtcgoimipjnlagaaGreatDoor

namespace Go.Proofs.YtcgoimipjnlagaaGreatDoor
open Go.RowKit

set_option maxHeartbeats 1000000 in
theorem pairs_any (pb : Nat) (w : World) : Calls Tryz.prog 46 #[.pointer (some ⟨pb, 0, none⟩)] w fun e w' => e = .returned (.slice none 0 0) ∧ w = w' := by
  go_enter Tryz.func46, Tryz.ntmps46
  go_wp2
  go_ret
  exact ⟨rfl, rfl⟩
set_option maxHeartbeats 1000000 in
theorem same_none (w : World) : Calls Tryz.prog 47 #[.slice none 0 0, .slice none 0 0] w fun e w' => e = .returned (.bool true) ∧ w = w' := by
  go_enter Tryz.func47, Tryz.ntmps47
  go_wp2
  go_loop [5] (fun i => i = .int .i64 0) (fun _ => 0)
  case atStart => rfl
  case round =>
    subst hrel
    go_wp2
    go_ret
    exact ⟨rfl, rfl⟩
theorem ItemB.cell1 {w : World} {b pb : Nat} (h : ItemB w b pb) : w.cell? ⟨b, 1, none⟩ = some (.bool false) := by unfold ItemB at h; simp [World.cell?, h]
theorem all_eq {u : U} {a0 a1 a2 a3 a4 a5 a6 a7 a8 a9 a10 : ByteArray} {e : Ending} (he : AllIs e u) (h0 : tl a0 = hrefU u) (h1 : tl a1 = originU u) (h2 : tl a2 = protocolU u) (h3 : tl a3 = u.nam) (h4 : tl a4 = u.pw) (h5 : tl a5 = hostPortU u) (h6 : tl a6 = u.host) (h7 : tl a7 = portTextU u) (h8 : tl a8 = pathU u) (h9 : tl a9 = searchU u) (h10 : tl a10 = hashU u) :
    e = .returned (.agg #[.string a0, .string a1, .string a2, .string a3, .string a4, .string a5, .string a6, .string a7, .string a8, .string a9, .string a10]) := by
  obtain ⟨t0, t1, t2, t3, t4, t5, t6, t7, t8, t9, t10, rfl, g0, g1, g2, g3, g4, g5, g6, g7, g8, g9, g10, -, -⟩ := he
  rw [tl_inj (g0.trans h0.symm), tl_inj (g1.trans h1.symm), tl_inj (g2.trans h2.symm), tl_inj (g3.trans h3.symm), tl_inj (g4.trans h4.symm), tl_inj (g5.trans h5.symm), tl_inj (g6.trans h6.symm), tl_inj (g7.trans h7.symm), tl_inj (g8.trans h8.symm), tl_inj (g9.trans h9.symm), tl_inj (g10.trans h10.symm)]
/-- What is written, parsed: alone, and against what is written of another. -/
theorem parse_again {u : U} (h : St u) (hl : (hrefU u).length ≤ 160) : parseU (hrefU u) [] false = (u, 0) := by
  unfold parseU
  rw [if_neg (by rintro (x | x); omega; cases x.1), if_neg (by intro x; exact x rfl)]
  exact reread h zeroU
theorem parse_based {u v : U} (h : St u) (hv : St v) (hl : (hrefU u).length ≤ 160) (hlv : (hrefU v).length ≤ 160) : parseU (hrefU u) (hrefU v) true = (u, 0) := by
  have hb : baseU (hrefU v) true = (v, 0) := by
    unfold baseU textU
    rw [if_neg (by decide), reread hv zeroU, if_neg (by intro x; cases x)]
  unfold parseU
  rw [if_neg (by rintro (x | x); omega; omega), hb, if_neg (by intro x; exact x rfl)]
  exact reread h v
end Go.Proofs.YtcgoimipjnlagaaGreatDoor
