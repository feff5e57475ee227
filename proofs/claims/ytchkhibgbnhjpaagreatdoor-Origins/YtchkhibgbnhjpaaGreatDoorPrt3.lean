import Derived.Test.YtchkhibgbnhjpaaGreatDoorRd5
import Derived.Deep.Cut
namespace Go.Proofs.YtchkhibgbnhjpaaGreatDoor
open Go.RowKit

/-- schemes.ReadPort -/
def readPort (l : List UInt8) : Int × Bool := if (number l 10 65535).2 = false ∨ 65535 < (number l 10 65535).1 then (0, false) else ((number l 10 65535).1, true)
theorem readPort_rng (l : List UInt8) : 0 ≤ (readPort l).1 ∧ (readPort l).1 ≤ 65535 := by
  have h := number_rng l 10 65535 (by decide) (by decide)
  unfold readPort
  split
  · exact ⟨by decide, by decide⟩
  · next hn => exact ⟨h.1, Int.not_lt.1 (fun hh => hn (Or.inr hh))⟩
set_option maxHeartbeats 2000000 in
theorem readPort_any (s : ByteArray) (w : World) (hs : s.size ≤ 1000000) :
    Calls Tryz.prog 208 #[.string s] w fun e w' => e = .returned (.tuple #[.int .i64 (readPort (tl s)).1, .bool (readPort (tl s)).2]) ∧ w = w' := by
  have HD := hide (show readPort (tl s) = if (number (tl s) 10 65535).2 = false ∨ 65535 < (number (tl s) 10 65535).1 then (0, false) else ((number (tl s) 10 65535).1, true) from rfl)
  have hrg := number_rng (tl s) 10 65535 (by decide) (by decide)
  generalize hq : number (tl s) 10 65535 = nq at *
  have HQ := hide hq
  clear hq
  obtain ⟨nv, nok⟩ := nq
  simp only at HD hrg
  by_cases hnb : nok = false ∨ 65535 < nv
  · have HE := hide (HD.out.trans (if_pos hnb))
    clear HD
    cases nok
    · clear hnb
      go_enter Tryz.func208, Tryz.ntmps208
      go_wp2_with (go_at_call 233; refine (number10_any _ _ _ hs (by decide) (by decide)).mono ?_; rintro e w' ⟨rfl, rfl⟩; rw [HQ.out])
      go_ret2
      exact ⟨by rw [HE.out]; rfl, rfl⟩
    · have hnv : 65535 < nv := by rcases hnb with h | h; cases h; exact h
      clear hnb
      go_enter Tryz.func208, Tryz.ntmps208
      go_wp2_with (go_at_call 233; refine (number10_any _ _ _ hs (by decide) (by decide)).mono ?_; rintro e w' ⟨rfl, rfl⟩; rw [HQ.out])
      go_ret2
      exact ⟨by rw [HE.out]; rfl, rfl⟩
  · have hok : nok = true := by cases nok; exact absurd (Or.inl rfl) hnb; rfl
    subst hok
    have hnv : nv ≤ 65535 := Int.not_lt.1 (fun h => hnb (Or.inr h))
    have HE := hide (HD.out.trans (if_neg hnb))
    clear HD hnb
    go_enter Tryz.func208, Tryz.ntmps208
    go_wp2_with (go_at_call 233; refine (number10_any _ _ _ hs (by decide) (by decide)).mono ?_; rintro e w' ⟨rfl, rfl⟩; rw [HQ.out])
    go_ret2
    exact ⟨by rw [HE.out]; rfl, rfl⟩

/-- (parts.URL).WithoutPort -/
def Rc.noPort (r : Rc) : Rc := { r with hp := false, port := 0 }
set_option maxHeartbeats 4000000 in
theorem withoutPort_any (ru : Rc) (w : World) :
    Calls Tryz.prog 212 #[.agg #[.string ru.sch, .string ru.nam, .string ru.pw, .bool ru.hh, .string ru.host, .bool ru.hp, .int .i64 (ru.port : Int), .bool ru.op, .string ru.opath, .slice ru.so ru.sn ru.sc, .bool ru.hq, .string ru.q, .bool ru.hf, .string ru.fr]] w fun e w' => ∃ r : Rc, e = .returned (.agg #[.string r.sch, .string r.nam, .string r.pw, .bool r.hh, .string r.host, .bool r.hp, .int .i64 (r.port : Int), .bool r.op, .string r.opath, .slice r.so r.sn r.sc, .bool r.hq, .string r.q, .bool r.hf, .string r.fr]) ∧ r = ru.noPort ∧ Nx w w' := by
  go_enter Tryz.func212, Tryz.ntmps212
  go_upto_region 1 with fail
  obtain ⟨g1, g2, g3⟩ := two_new (w := w) (ru := ru) Nx.rfl
  have HUB := hide g1
  have HZ := hide g2
  have HN := hide g3
  clear g1 g2 g3
  generalize ((w.alloc (Obj.cells #[.string ru.sch, .string ru.nam, .string ru.pw, .bool ru.hh, .string ru.host, .bool ru.hp, .int .i64 (ru.port : Int), .bool ru.op, .string ru.opath, .slice ru.so ru.sn ru.sc, .bool ru.hq, .string ru.q, .bool ru.hf, .string ru.fr] 54)).alloc (Obj.cells #[.string ⟨#[]⟩, .string ⟨#[]⟩, .string ⟨#[]⟩, .bool false, .string ⟨#[]⟩, .bool false, .int .i64 0, .bool false, .string ⟨#[]⟩, .slice none 0 0, .bool false, .string ⟨#[]⟩, .bool false, .string ⟨#[]⟩] 54)) = w1 at *
  obtain ⟨a0, a1, a2, a3, a4, a5, a6, a7, a8, a9, a10, a11, a12, a13⟩ := HUB.out.cells
  have af5 := HUB.out.free 5
  have af6 := HUB.out.free 6
  obtain ⟨z0, z1, z2, z3, z4, z5, z6, z7, z8, z9, z10, z11, z12, z13⟩ := HZ.out.cells
  have zf0 := HZ.out.free 0
  have zf1 := HZ.out.free 1
  have zf2 := HZ.out.free 2
  have zf3 := HZ.out.free 3
  have zf4 := HZ.out.free 4
  have zf5 := HZ.out.free 5
  have zf6 := HZ.out.free 6
  have zf7 := HZ.out.free 7
  have zf8 := HZ.out.free 8
  have zf9 := HZ.out.free 9
  have zf10 := HZ.out.free 10
  have zf11 := HZ.out.free 11
  have zf12 := HZ.out.free 12
  have zf13 := HZ.out.free 13
  go_wp2
  refine ret14o (rb := w.heap.size + 1) Tryz.results212 rfl (RecB.put ((HZ.out.far (by omega) 5 _).far (by omega) 6 _) _ _ _ _ _ _ _ _ _ _ _ _ _ _) rfl ⟨ru.noPort, rfl, rfl, (put14_below (Below.setCell (Below.setCell HN.out (Nat.le_refl _) _) (Nat.le_refl _) _) (by omega) _ _ _ _ _ _ _ _ _ _ _ _ _ _)⟩
/-- (parts.URL).AtPort -/
def Rc.atPort (r : Rc) (p : Nat) : Rc := if (ownPort (tl r.sch)).2 = true ∧ (p : Int) = (ownPort (tl r.sch)).1 then r.noPort else { r with hp := true, port := p }
def atPortU (u : U) (p : Int) : U := if (ownPort u.sch).2 = true ∧ p = (ownPort u.sch).1 then { u with hp := false, port := 0 } else { u with hp := true, port := p.toNat }
set_option maxHeartbeats 8000000 in
theorem atPort_any (ru : Rc) (p : Nat) (w : World) :
    Calls Tryz.prog 209 #[.agg #[.string ru.sch, .string ru.nam, .string ru.pw, .bool ru.hh, .string ru.host, .bool ru.hp, .int .i64 (ru.port : Int), .bool ru.op, .string ru.opath, .slice ru.so ru.sn ru.sc, .bool ru.hq, .string ru.q, .bool ru.hf, .string ru.fr], .int .i64 (p : Int)] w fun e w' => ∃ r : Rc, e = .returned (.agg #[.string r.sch, .string r.nam, .string r.pw, .bool r.hh, .string r.host, .bool r.hp, .int .i64 (r.port : Int), .bool r.op, .string r.opath, .slice r.so r.sn r.sc, .bool r.hq, .string r.q, .bool r.hf, .string r.fr]) ∧ r = ru.atPort p ∧ Nx w w' := by
  have HD := hide (show ru.atPort p = if (ownPort (tl ru.sch)).2 = true ∧ (p : Int) = (ownPort (tl ru.sch)).1 then ru.noPort else { ru with hp := true, port := p } from rfl)
  generalize ho : ownPort (tl ru.sch) = op at *
  have HOP := hide ho
  clear ho
  obtain ⟨ov, ook⟩ := op
  simp only at HD
  go_enter Tryz.func209, Tryz.ntmps209
  go_upto_region 1 with fail
  obtain ⟨g1, g2, g3⟩ := two_new (w := w) (ru := ru) Nx.rfl
  have HUB := hide g1
  have HZ := hide g2
  have HN := hide g3
  clear g1 g2 g3
  generalize ((w.alloc (Obj.cells #[.string ru.sch, .string ru.nam, .string ru.pw, .bool ru.hh, .string ru.host, .bool ru.hp, .int .i64 (ru.port : Int), .bool ru.op, .string ru.opath, .slice ru.so ru.sn ru.sc, .bool ru.hq, .string ru.q, .bool ru.hf, .string ru.fr] 54)).alloc (Obj.cells #[.string ⟨#[]⟩, .string ⟨#[]⟩, .string ⟨#[]⟩, .bool false, .string ⟨#[]⟩, .bool false, .int .i64 0, .bool false, .string ⟨#[]⟩, .slice none 0 0, .bool false, .string ⟨#[]⟩, .bool false, .string ⟨#[]⟩] 54)) = w1 at *
  obtain ⟨a0, a1, a2, a3, a4, a5, a6, a7, a8, a9, a10, a11, a12, a13⟩ := HUB.out.cells
  have af5 := HUB.out.free 5
  have af6 := HUB.out.free 6
  obtain ⟨z0, z1, z2, z3, z4, z5, z6, z7, z8, z9, z10, z11, z12, z13⟩ := HZ.out.cells
  have zf0 := HZ.out.free 0
  have zf1 := HZ.out.free 1
  have zf2 := HZ.out.free 2
  have zf3 := HZ.out.free 3
  have zf4 := HZ.out.free 4
  have zf5 := HZ.out.free 5
  have zf6 := HZ.out.free 6
  have zf7 := HZ.out.free 7
  have zf8 := HZ.out.free 8
  have zf9 := HZ.out.free 9
  have zf10 := HZ.out.free 10
  have zf11 := HZ.out.free 11
  have zf12 := HZ.out.free 12
  have zf13 := HZ.out.free 13
  cases ook
  · have HE := hide (HD.out.trans (if_neg (by rintro ⟨h, -⟩; cases h)))
    clear HD
    go_wp2_with (go_at_call 151; refine (ownPort_any _ _).mono ?_; rintro e w' ⟨rfl, rfl⟩; rw [HOP.out])
    refine ret14o (rb := w.heap.size + 1) Tryz.results209 rfl (RecB.put ((HZ.out.far (by omega) 5 _).far (by omega) 6 _) _ _ _ _ _ _ _ _ _ _ _ _ _ _) rfl ⟨{ ru with hp := true, port := p }, rfl, HE.out.symm, (put14_below (Below.setCell (Below.setCell HN.out (Nat.le_refl _) _) (Nat.le_refl _) _) (by omega) _ _ _ _ _ _ _ _ _ _ _ _ _ _)⟩
  · by_cases hov : (p : Int) = ov
    · have HE := hide (HD.out.trans (if_pos ⟨rfl, hov⟩))
      have hov' : ((p : Int) == ov) = true := by rw [hov]; simp
      clear HD hov
      go_wp2_with (first | (go_at_call 151; refine (ownPort_any _ _).mono ?_; rintro e w' ⟨rfl, rfl⟩; rw [HOP.out]) | fail)
      refine (withoutPort_any ru _).mono ?_
      rintro e w2 ⟨r, rfl, hr, hn⟩
      have HR := hide hr
      have HZ2 := hide (HZ.out.on hn)
      have HN2 := hide (HN.out.then hn)
      clear hr hn z0 z1 z2 z3 z4 z5 z6 z7 z8 z9 z10 z11 z12 z13 zf0 zf1 zf2 zf3 zf4 zf5 zf6 zf7 zf8 zf9 zf10 zf11 zf12 zf13
      obtain ⟨z0, z1, z2, z3, z4, z5, z6, z7, z8, z9, z10, z11, z12, z13⟩ := HZ2.out.cells
      have zf0 := HZ2.out.free 0
      have zf1 := HZ2.out.free 1
      have zf2 := HZ2.out.free 2
      have zf3 := HZ2.out.free 3
      have zf4 := HZ2.out.free 4
      have zf5 := HZ2.out.free 5
      have zf6 := HZ2.out.free 6
      have zf7 := HZ2.out.free 7
      have zf8 := HZ2.out.free 8
      have zf9 := HZ2.out.free 9
      have zf10 := HZ2.out.free 10
      have zf11 := HZ2.out.free 11
      have zf12 := HZ2.out.free 12
      have zf13 := HZ2.out.free 13
      go_wp2
      exact ret14o (rb := w.heap.size + 1) Tryz.results209 rfl (RecB.put HZ2.out _ _ _ _ _ _ _ _ _ _ _ _ _ _) rfl ⟨r, rfl, by rw [HE.out]; exact HR.out, (put14_below HN2.out (by omega) _ _ _ _ _ _ _ _ _ _ _ _ _ _)⟩
    · have HE := hide (HD.out.trans (if_neg (by rintro ⟨-, h⟩; exact hov h)))
      have hov' : ((p : Int) == ov) = false := beq_eq_false_iff_ne.2 hov
      clear HD hov
      go_wp2_with (go_at_call 151; refine (ownPort_any _ _).mono ?_; rintro e w' ⟨rfl, rfl⟩; rw [HOP.out])
      refine ret14o (rb := w.heap.size + 1) Tryz.results209 rfl (RecB.put ((HZ.out.far (by omega) 5 _).far (by omega) 6 _) _ _ _ _ _ _ _ _ _ _ _ _ _ _) rfl ⟨{ ru with hp := true, port := p }, rfl, HE.out.symm, (put14_below (Below.setCell (Below.setCell HN.out (Nat.le_refl _) _) (Nat.le_refl _) _) (by omega) _ _ _ _ _ _ _ _ _ _ _ _ _ _)⟩
theorem RcIs.atPort {w : World} {r : Rc} {u : U} {bs : List ByteArray} {p : Nat} (h : RcIs w r u bs) (hp : p ≤ 65535) : RcIs w (r.atPort p) (atPortU u p) bs := by
  have e : atPortU u p = if (ownPort (tl r.sch)).2 = true ∧ (p : Int) = (ownPort (tl r.sch)).1 then { u with hp := false, port := 0 } else { u with hp := true, port := p } := by rw [h.usch]; rfl
  rw [e]
  unfold Rc.atPort
  split
  · exact { h with eq := by rw [← h.eq]; rfl, lport := Nat.zero_le _ }
  · exact { h with eq := by rw [← h.eq]; rfl, lport := hp }
end Go.Proofs.YtchkhibgbnhjpaaGreatDoor
