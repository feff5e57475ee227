import Derived.Test.YtchkhibgbnhjpaaGreatDoorHsh1
import Derived.Test.YtchkhibgbnhjpaaGreatDoorUrl1
import Derived.Deep.Cut
import Derived.Test.YtchkhibgbnhjpaaGreatDoorGet1
import Derived.Test.YtchkhibgbnhjpaaGreatDoorRrB
import Derived.Test.YtchkhibgbnhjpaaGreatDoorAtA
namespace Go.Proofs.YtchkhibgbnhjpaaGreatDoor
open Go.RowKit

theorem UrlB.ty {w : World} {b : Nat} {r : Rc} (h : UrlB w b r) : TyB w b 56 := ⟨_, _, h⟩
theorem UrlB.free {w : World} {b : Nat} {r : Rc} (h : UrlB w b r) (i : Nat) : w.frozen? ⟨b, i, none⟩ = false := by
  unfold UrlB at h
  simp [World.frozen?, h]
theorem UrlB.put {w : World} {b : Nat} {q : Rc} (h : UrlB w b q) (r : Rc) : UrlB ((((((((((((((w.setCell ⟨b, 0, none⟩ (.string r.sch)).setCell ⟨b, 1, none⟩ (.string r.nam)).setCell ⟨b, 2, none⟩ (.string r.pw)).setCell ⟨b, 3, none⟩ (.bool r.hh)).setCell ⟨b, 4, none⟩ (.string r.host)).setCell ⟨b, 5, none⟩ (.bool r.hp)).setCell ⟨b, 6, none⟩ (.int .i64 (r.port : Int))).setCell ⟨b, 7, none⟩ (.bool r.op)).setCell ⟨b, 8, none⟩ (.string r.opath)).setCell ⟨b, 9, none⟩ (.slice r.so r.sn r.sc)).setCell ⟨b, 10, none⟩ (.bool r.hq)).setCell ⟨b, 11, none⟩ (.string r.q)).setCell ⟨b, 12, none⟩ (.bool r.hf)).setCell ⟨b, 13, none⟩ (.string r.fr)) b r := by
  unfold UrlB at *
  simp [World.setCell, Array.getElem?_modify, h]
theorem but14 {b : Nat} {a w : World} (h : But b a w) (v0 v1 v2 v3 v4 v5 v6 v7 v8 v9 v10 v11 v12 v13 : Value) : But b a ((((((((((((((w.setCell ⟨b, 0, none⟩ v0).setCell ⟨b, 1, none⟩ v1).setCell ⟨b, 2, none⟩ v2).setCell ⟨b, 3, none⟩ v3).setCell ⟨b, 4, none⟩ v4).setCell ⟨b, 5, none⟩ v5).setCell ⟨b, 6, none⟩ v6).setCell ⟨b, 7, none⟩ v7).setCell ⟨b, 8, none⟩ v8).setCell ⟨b, 9, none⟩ v9).setCell ⟨b, 10, none⟩ v10).setCell ⟨b, 11, none⟩ v11).setCell ⟨b, 12, none⟩ v12).setCell ⟨b, 13, none⟩ v13) :=
  (But.set (But.set (But.set (But.set (But.set (But.set (But.set (But.set (But.set (But.set (But.set (But.set (But.set (But.set h 0 _) 1 _) 2 _) 3 _) 4 _) 5 _) 6 _) 7 _) 8 _) 9 _) 10 _) 11 _) 12 _) 13 _)
set_option maxRecDepth 8000 in
set_option maxHeartbeats 4000000 in
/-- (*urls.URL).put, of a fragment that is not empty -/
theorem putU9_any (pb : Nat) (r : Rc) (u : U) (bs : List ByteArray) (s : ByteArray) (w : World) (hu : UrlB w pb r) (hr : RcIs w r u bs) (h0 : ¬ s.size = 0) (hs : s.size ≤ 160) :
    Calls Tryz.prog 62 #[.pointer (some ⟨pb, 0, none⟩), .int .i64 9, .string s] w fun e w' => e = .returned (.int .i64 0) ∧ (∃ r' : Rc, UrlB w' pb r' ∧ RcIs w' r' { u with hf := true, fr := hashL (clean (tl s)) } bs) ∧ But pb w w' := by
  have HU := hide hu
  have HR := hide hr
  have HP := hide (put9_any r s w h0 (by omega))
  obtain ⟨u0, u1, u2, u3, u4, u5, u6, u7, u8, u9, u10, u11, u12, u13⟩ := hu.cells
  clear hu hr h0
  go_enter Tryz.func62, Tryz.ntmps62
  go_wp2_with fail
  refine HP.out.mono ?_
  rintro e w1 ⟨r1, rfl, ⟨fr, hr1, hfr, hfl⟩, hn⟩
  have HU1 := hide (HU.out.on hn)
  have HR1 := hide (HR.out.on hn)
  have HN := hide hn
  have HF := hide hfr
  have HE := hide hr1
  have hlb : pb < w1.heap.size := (Array.getElem?_eq_some_iff.1 HU1.out).1
  clear hn hfr hr1 u0 u1 u2 u3 u4 u5 u6 u7 u8 u9 u10 u11 u12 u13
  go_upto_region 6 with fail
  have HU2 := hide (HU1.out.on (Nx.rfl.alloc (Obj.cells #[.string r1.sch, .string r1.nam, .string r1.pw, .bool r1.hh, .string r1.host, .bool r1.hp, .int .i64 (r1.port : Int), .bool r1.op, .string r1.opath, .slice r1.so r1.sn r1.sc, .bool r1.hq, .string r1.q, .bool r1.hf, .string r1.fr] 54)))
  have HR2 := hide (HR1.out.on (Nx.rfl.alloc (Obj.cells #[.string r1.sch, .string r1.nam, .string r1.pw, .bool r1.hh, .string r1.host, .bool r1.hp, .int .i64 (r1.port : Int), .bool r1.op, .string r1.opath, .slice r1.so r1.sn r1.sc, .bool r1.hq, .string r1.q, .bool r1.hf, .string r1.fr] 54)))
  have HV2 := hide (recB_new w1 r1)
  have HN2 := hide (HN.out.alloc (Obj.cells #[.string r1.sch, .string r1.nam, .string r1.pw, .bool r1.hh, .string r1.host, .bool r1.hp, .int .i64 (r1.port : Int), .bool r1.op, .string r1.opath, .slice r1.so r1.sn r1.sc, .bool r1.hq, .string r1.q, .bool r1.hf, .string r1.fr] 54))
  clear HU1 HR1 HN
  generalize (w1.alloc (Obj.cells #[.string r1.sch, .string r1.nam, .string r1.pw, .bool r1.hh, .string r1.host, .bool r1.hp, .int .i64 (r1.port : Int), .bool r1.op, .string r1.opath, .slice r1.so r1.sn r1.sc, .bool r1.hq, .string r1.q, .bool r1.hf, .string r1.fr] 54)) = w2 at *
  obtain ⟨u0, u1, u2, u3, u4, u5, u6, u7, u8, u9, u10, u11, u12, u13⟩ := HU2.out.cells
  obtain ⟨x0, x1, x2, x3, x4, x5, x6, x7, x8, x9, x10, x11, x12, x13⟩ := HV2.out.cells
  have uf0 := HU2.out.free 0
  have uf1 := HU2.out.free 1
  have uf2 := HU2.out.free 2
  have uf3 := HU2.out.free 3
  have uf4 := HU2.out.free 4
  have uf5 := HU2.out.free 5
  have uf6 := HU2.out.free 6
  have uf7 := HU2.out.free 7
  have uf8 := HU2.out.free 8
  have uf9 := HU2.out.free 9
  have uf10 := HU2.out.free 10
  have uf11 := HU2.out.free 11
  have uf12 := HU2.out.free 12
  have uf13 := HU2.out.free 13
  go_wp2
  go_ret
  refine ⟨rfl, ⟨r1, UrlB.put HU2.out r1, ?_⟩, but14 (But.nx HN2.out) _ _ _ _ _ _ _ _ _ _ _ _ _ _⟩
  refine RcIs.ks ?_ (put14_ks HU2.out.ty (by decide) _ _ _ _ _ _ _ _ _ _ _ _ _ _)
  rw [HE.out]
  exact { HR2.out with eq := by rw [← HF.out, ← HR2.out.eq]; rfl, lfr := hfl }
set_option maxHeartbeats 4000000 in
theorem setHash_any (pb : Nat) (r : Rc) (u : U) (bs : List ByteArray) (s : ByteArray) (w : World) (hu : UrlB w pb r) (hr : RcIs w r u bs) (h0 : ¬ s.size = 0) (hs : s.size ≤ 160) :
    Calls Tryz.prog 49 #[.pointer (some ⟨pb, 0, none⟩), .string s] w fun e w' => e = .returned (.int .i64 0) ∧ (∃ r' : Rc, UrlB w' pb r' ∧ RcIs w' r' { u with hf := true, fr := hashL (clean (tl s)) } bs) ∧ But pb w w' := by
  have HP := hide (putU9_any pb r u bs s w hu hr h0 hs)
  clear hu hr h0 hs
  go_enter Tryz.func49, Tryz.ntmps49
  go_wp2_with fail
  refine HP.out.mono ?_
  rintro e w1 ⟨rfl, hx, hb⟩
  have HX := hide hx
  have HB := hide hb
  clear hx hb
  go_wp2
  go_ret
  exact ⟨rfl, HX.out, HB.out⟩
end Go.Proofs.YtchkhibgbnhjpaaGreatDoor

namespace Go.Proofs.YtchkhibgbnhjpaaGreatDoor
open Go.RowKit

theorem three11 {w w1 : World} {a0 a1 a2 a3 a4 a5 a6 a7 a8 a9 a10 b0 b10 : ByteArray} (hn : Nx (((w.alloc (Obj.cells #[.string a0, .string a1, .string a2, .string a3, .string a4, .string a5, .string a6, .string a7, .string a8, .string a9, .string a10] 34)).alloc (Obj.cells #[.string b0, .string a1, .string a2, .string a3, .string a4, .string a5, .string a6, .string a7, .string a8, .string a9, .string b10] 34)).alloc (Obj.cells #[.string ⟨#[]⟩, .string ⟨#[]⟩, .string ⟨#[]⟩, .string ⟨#[]⟩, .string ⟨#[]⟩, .string ⟨#[]⟩, .string ⟨#[]⟩, .string ⟨#[]⟩, .string ⟨#[]⟩, .string ⟨#[]⟩, .string ⟨#[]⟩] 34)) w1) :
    C11 w1 w.heap.size (.string a0) (.string a1) (.string a2) (.string a3) (.string a4) (.string a5) (.string a6) (.string a7) (.string a8) (.string a9) (.string a10) ∧ C11 w1 (w.heap.size + 1) (.string b0) (.string a1) (.string a2) (.string a3) (.string a4) (.string a5) (.string a6) (.string a7) (.string a8) (.string a9) (.string b10) ∧ C11 w1 (w.heap.size + 1 + 1) (.string ⟨#[]⟩) (.string ⟨#[]⟩) (.string ⟨#[]⟩) (.string ⟨#[]⟩) (.string ⟨#[]⟩) (.string ⟨#[]⟩) (.string ⟨#[]⟩) (.string ⟨#[]⟩) (.string ⟨#[]⟩) (.string ⟨#[]⟩) (.string ⟨#[]⟩) ∧ Nx w w1 := by
  refine ⟨((show C11 (w.alloc (Obj.cells #[.string a0, .string a1, .string a2, .string a3, .string a4, .string a5, .string a6, .string a7, .string a8, .string a9, .string a10] 34)) w.heap.size (.string a0) (.string a1) (.string a2) (.string a3) (.string a4) (.string a5) (.string a6) (.string a7) (.string a8) (.string a9) (.string a10) from heap_alloc_new w _).on ((Nx.rfl.alloc _).alloc _)).on hn, ?_, ?_, (((Nx.rfl.alloc _).alloc _).alloc _).then hn⟩
  · have h : C11 ((w.alloc (Obj.cells #[.string a0, .string a1, .string a2, .string a3, .string a4, .string a5, .string a6, .string a7, .string a8, .string a9, .string a10] 34)).alloc (Obj.cells #[.string b0, .string a1, .string a2, .string a3, .string a4, .string a5, .string a6, .string a7, .string a8, .string a9, .string b10] 34)) (w.alloc (Obj.cells #[.string a0, .string a1, .string a2, .string a3, .string a4, .string a5, .string a6, .string a7, .string a8, .string a9, .string a10] 34)).heap.size (.string b0) (.string a1) (.string a2) (.string a3) (.string a4) (.string a5) (.string a6) (.string a7) (.string a8) (.string a9) (.string b10) := heap_alloc_new _ _
    rw [show (w.alloc (Obj.cells #[.string a0, .string a1, .string a2, .string a3, .string a4, .string a5, .string a6, .string a7, .string a8, .string a9, .string a10] 34)).heap.size = w.heap.size + 1 by simp] at h
    exact (h.on (Nx.rfl.alloc _)).on hn
  · have h : C11 (((w.alloc (Obj.cells #[.string a0, .string a1, .string a2, .string a3, .string a4, .string a5, .string a6, .string a7, .string a8, .string a9, .string a10] 34)).alloc (Obj.cells #[.string b0, .string a1, .string a2, .string a3, .string a4, .string a5, .string a6, .string a7, .string a8, .string a9, .string b10] 34)).alloc (Obj.cells #[.string ⟨#[]⟩, .string ⟨#[]⟩, .string ⟨#[]⟩, .string ⟨#[]⟩, .string ⟨#[]⟩, .string ⟨#[]⟩, .string ⟨#[]⟩, .string ⟨#[]⟩, .string ⟨#[]⟩, .string ⟨#[]⟩, .string ⟨#[]⟩] 34)) ((w.alloc (Obj.cells #[.string a0, .string a1, .string a2, .string a3, .string a4, .string a5, .string a6, .string a7, .string a8, .string a9, .string a10] 34)).alloc (Obj.cells #[.string b0, .string a1, .string a2, .string a3, .string a4, .string a5, .string a6, .string a7, .string a8, .string a9, .string b10] 34)).heap.size (.string ⟨#[]⟩) (.string ⟨#[]⟩) (.string ⟨#[]⟩) (.string ⟨#[]⟩) (.string ⟨#[]⟩) (.string ⟨#[]⟩) (.string ⟨#[]⟩) (.string ⟨#[]⟩) (.string ⟨#[]⟩) (.string ⟨#[]⟩) (.string ⟨#[]⟩) := heap_alloc_new _ _
    rw [show ((w.alloc (Obj.cells #[.string a0, .string a1, .string a2, .string a3, .string a4, .string a5, .string a6, .string a7, .string a8, .string a9, .string a10] 34)).alloc (Obj.cells #[.string b0, .string a1, .string a2, .string a3, .string a4, .string a5, .string a6, .string a7, .string a8, .string a9, .string b10] 34)).heap.size = w.heap.size + 1 + 1 by simp] at h
    exact h.on hn
set_option maxRecDepth 8000 in
set_option maxHeartbeats 16000000 in
/-- urlskeep.with, of the fragment's setter: all but the text and the fragment stay. -/
theorem with9_any (a0 a1 a2 a3 a4 a5 a6 a7 a8 a9 a10 b0 b10 : ByteArray) (w : World) (h8 : a8.size ≤ 200000000000) :
    Calls Tryz.prog 48 #[.agg #[.string a0, .string a1, .string a2, .string a3, .string a4, .string a5, .string a6, .string a7, .string a8, .string a9, .string a10], .agg #[.string b0, .string a1, .string a2, .string a3, .string a4, .string a5, .string a6, .string a7, .string a8, .string a9, .string b10], .int .i64 9] w fun e w' => e = .returned (.agg #[.string b0, .string a1, .string a2, .string a3, .string a4, .string a5, .string a6, .string a7, .string a8, .string a9, .string b10]) ∧ Nx w w' := by
  go_enter Tryz.func48, Tryz.ntmps48
  go_upto_region 1 with fail
  obtain ⟨g1, g2, g3, g4⟩ := three11 (w := w) (a0 := a0) (a1 := a1) (a2 := a2) (a3 := a3) (a4 := a4) (a5 := a5) (a6 := a6) (a7 := a7) (a8 := a8) (a9 := a9) (a10 := a10) (b0 := b0) (b10 := b10) Nx.rfl
  have HA := hide g1
  have HB := hide g2
  have HZ := hide g3
  have HN := hide g4
  clear g1 g2 g3 g4
  generalize (((w.alloc (Obj.cells #[.string a0, .string a1, .string a2, .string a3, .string a4, .string a5, .string a6, .string a7, .string a8, .string a9, .string a10] 34)).alloc (Obj.cells #[.string b0, .string a1, .string a2, .string a3, .string a4, .string a5, .string a6, .string a7, .string a8, .string a9, .string b10] 34)).alloc (Obj.cells #[.string ⟨#[]⟩, .string ⟨#[]⟩, .string ⟨#[]⟩, .string ⟨#[]⟩, .string ⟨#[]⟩, .string ⟨#[]⟩, .string ⟨#[]⟩, .string ⟨#[]⟩, .string ⟨#[]⟩, .string ⟨#[]⟩, .string ⟨#[]⟩] 34)) = w1 at *
  obtain ⟨x0, x1, x2, x3, x4, x5, x6, x7, x8, x9, x10⟩ := HA.out.cells
  obtain ⟨y0, -, -, -, -, -, -, -, y8, -, y10⟩ := HB.out.cells
  obtain ⟨z0, z1, z2, z3, z4, z5, z6, z7, z8, z9, z10⟩ := HZ.out.cells
  have f0 := HA.out.free 0
  have f8 := HA.out.free 8
  have f10 := HA.out.free 10
  have zf0 := HZ.out.free 0
  have zf1 := HZ.out.free 1
  have zf2 := HZ.out.free 2
  have zf3 := HZ.out.free 3
  have zf4 := HZ.out.free 4
  have zf5 := HZ.out.free 5
  have zf6 := HZ.out.free 6
  have zf7 := HZ.out.free 7
  have zf8 := HZ.out.free 8
  have zf9 := HZ.out.free 9
  have zf10 := HZ.out.free 10
  by_cases h0 : a8.size = 0
  · have h0b : ((a8.size : Int) == 0) = true := by rw [h0]; rfl
    clear h0
    go_wp2
    exact ret11 (rb := w.heap.size + 1 + 1) Tryz.results48 rfl (C11.put (C11.far (C11.far (C11.far HZ.out (by omega) 0 _) (by omega) 10 _) (by omega) 8 _) _ _ _ _ _ _ _ _ _ _ _) rfl ⟨rfl, (Below.setCell (Below.setCell (Below.setCell (Below.setCell (Below.setCell (Below.setCell (Below.setCell (Below.setCell (Below.setCell (Below.setCell (Below.setCell (Below.setCell (Below.setCell (Below.setCell HN.out (Nat.le_refl _) _) (Nat.le_refl _) _) (Nat.le_refl _) _) (by show w.heap.size ≤ w.heap.size + 1 + 1; omega) _) (by show w.heap.size ≤ w.heap.size + 1 + 1; omega) _) (by show w.heap.size ≤ w.heap.size + 1 + 1; omega) _) (by show w.heap.size ≤ w.heap.size + 1 + 1; omega) _) (by show w.heap.size ≤ w.heap.size + 1 + 1; omega) _) (by show w.heap.size ≤ w.heap.size + 1 + 1; omega) _) (by show w.heap.size ≤ w.heap.size + 1 + 1; omega) _) (by show w.heap.size ≤ w.heap.size + 1 + 1; omega) _) (by show w.heap.size ≤ w.heap.size + 1 + 1; omega) _) (by show w.heap.size ≤ w.heap.size + 1 + 1; omega) _) (by show w.heap.size ≤ w.heap.size + 1 + 1; omega) _)⟩
  · have h0b : ((a8.size : Int) == 0) = false := beq_eq_false_iff_ne.2 (by omega)
    have hpos : 0 < a8.size := by omega
    cases hsl : ((a8[0].toNat : Int) == 47)
    · have hsl' : ((a8[0].toNat : Int) != 47) = true := by simp only [bne, hsl]; rfl
      clear h0
      go_wp2
      exact ret11 (rb := w.heap.size + 1 + 1) Tryz.results48 rfl (C11.put (C11.far (C11.far (C11.far HZ.out (by omega) 0 _) (by omega) 10 _) (by omega) 8 _) _ _ _ _ _ _ _ _ _ _ _) rfl ⟨rfl, (Below.setCell (Below.setCell (Below.setCell (Below.setCell (Below.setCell (Below.setCell (Below.setCell (Below.setCell (Below.setCell (Below.setCell (Below.setCell (Below.setCell (Below.setCell (Below.setCell HN.out (Nat.le_refl _) _) (Nat.le_refl _) _) (Nat.le_refl _) _) (by show w.heap.size ≤ w.heap.size + 1 + 1; omega) _) (by show w.heap.size ≤ w.heap.size + 1 + 1; omega) _) (by show w.heap.size ≤ w.heap.size + 1 + 1; omega) _) (by show w.heap.size ≤ w.heap.size + 1 + 1; omega) _) (by show w.heap.size ≤ w.heap.size + 1 + 1; omega) _) (by show w.heap.size ≤ w.heap.size + 1 + 1; omega) _) (by show w.heap.size ≤ w.heap.size + 1 + 1; omega) _) (by show w.heap.size ≤ w.heap.size + 1 + 1; omega) _) (by show w.heap.size ≤ w.heap.size + 1 + 1; omega) _) (by show w.heap.size ≤ w.heap.size + 1 + 1; omega) _) (by show w.heap.size ≤ w.heap.size + 1 + 1; omega) _)⟩
    · have hsl' : ((a8[0].toNat : Int) != 47) = false := by simp only [bne, hsl]; rfl
      clear h0
      go_wp2
      exact ret11 (rb := w.heap.size + 1 + 1) Tryz.results48 rfl (C11.put (C11.far (C11.far HZ.out (by omega) 0 _) (by omega) 10 _) _ _ _ _ _ _ _ _ _ _ _) rfl ⟨rfl, (Below.setCell (Below.setCell (Below.setCell (Below.setCell (Below.setCell (Below.setCell (Below.setCell (Below.setCell (Below.setCell (Below.setCell (Below.setCell (Below.setCell (Below.setCell HN.out (Nat.le_refl _) _) (Nat.le_refl _) _) (by show w.heap.size ≤ w.heap.size + 1 + 1; omega) _) (by show w.heap.size ≤ w.heap.size + 1 + 1; omega) _) (by show w.heap.size ≤ w.heap.size + 1 + 1; omega) _) (by show w.heap.size ≤ w.heap.size + 1 + 1; omega) _) (by show w.heap.size ≤ w.heap.size + 1 + 1; omega) _) (by show w.heap.size ≤ w.heap.size + 1 + 1; omega) _) (by show w.heap.size ≤ w.heap.size + 1 + 1; omega) _) (by show w.heap.size ≤ w.heap.size + 1 + 1; omega) _) (by show w.heap.size ≤ w.heap.size + 1 + 1; omega) _) (by show w.heap.size ≤ w.heap.size + 1 + 1; omega) _) (by show w.heap.size ≤ w.heap.size + 1 + 1; omega) _)⟩
end Go.Proofs.YtchkhibgbnhjpaaGreatDoor

namespace Go.Proofs.YtchkhibgbnhjpaaGreatDoor
open Go.RowKit

theorem ItemB.cell1 {w : World} {b pb : Nat} (h : ItemB w b pb) : w.cell? ⟨b, 1, none⟩ = some (.bool false) := by unfold ItemB at h; simp [World.cell?, h]
theorem all_eq {u : U} {a0 a1 a2 a3 a4 a5 a6 a7 a8 a9 a10 : ByteArray} {e : Ending} (he : AllIs e u) (h0 : tl a0 = hrefU u) (h1 : tl a1 = originU u) (h2 : tl a2 = protocolU u) (h3 : tl a3 = u.nam) (h4 : tl a4 = u.pw) (h5 : tl a5 = hostPortU u) (h6 : tl a6 = u.host) (h7 : tl a7 = portTextU u) (h8 : tl a8 = pathU u) (h9 : tl a9 = searchU u) (h10 : tl a10 = hashU u) :
    e = .returned (.agg #[.string a0, .string a1, .string a2, .string a3, .string a4, .string a5, .string a6, .string a7, .string a8, .string a9, .string a10]) := by
  obtain ⟨t0, t1, t2, t3, t4, t5, t6, t7, t8, t9, t10, rfl, g0, g1, g2, g3, g4, g5, g6, g7, g8, g9, g10, -, -⟩ := he
  rw [tl_inj (g0.trans h0.symm), tl_inj (g1.trans h1.symm), tl_inj (g2.trans h2.symm), tl_inj (g3.trans h3.symm), tl_inj (g4.trans h4.symm), tl_inj (g5.trans h5.symm), tl_inj (g6.trans h6.symm), tl_inj (g7.trans h7.symm), tl_inj (g8.trans h8.symm), tl_inj (g9.trans h9.symm), tl_inj (g10.trans h10.symm)]
/-- What is written, parsed: alone, and against what is written of another. -/
theorem parse_again {u : U} (h : St u) (hl : (hrefU u).length ≤ 160) : parseU (hrefU u) [] false = (u, 0) := by
  unfold parseU
  rw [if_neg (by rintro (x | x); omega; cases x.1), if_neg (by intro x; exact x rfl)]
  exact reread h zeroU
theorem parse_based {u v : U} (h : St u) (hv : St v) (hl : (hrefU u).length ≤ 160) (hlv : (hrefU v).length ≤ 160) : parseU (hrefU u) (hrefU v) true = (u, 0) := by
  have hb : baseU (hrefU v) true = (v, 0) := by
    unfold baseU textU
    rw [if_neg (by decide), reread hv zeroU, if_neg (by intro x; cases x)]
  unfold parseU
  rw [if_neg (by rintro (x | x); omega; omega), hb, if_neg (by intro x; exact x rfl)]
  exact reread h v
end Go.Proofs.YtchkhibgbnhjpaaGreatDoor
