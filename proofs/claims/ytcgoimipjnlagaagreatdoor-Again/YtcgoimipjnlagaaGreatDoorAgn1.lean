import Derived.Test.YtcgoimipjnlagaaGreatDoorRrB
import Derived.Test.YtcgoimipjnlagaaGreatDoorAtA
import Derived.Test.YtcgoimipjnlagaaGreatDoorGet1
import Derived.Deep.Cut
namespace Go.Proofs.YtcgoimipjnlagaaGreatDoor
open Go.RowKit

set_option maxHeartbeats 1000000 in
theorem pairs_any (pb : Nat) (w : World) : Calls Tryz.prog 46 #[.pointer (some ⟨pb, 0, none⟩)] w fun e w' => e = .returned (.slice none 0 0) ∧ w = w' := by
  go_enter Tryz.func46, Tryz.ntmps46
  go_wp2
  go_ret
  exact ⟨rfl, rfl⟩
set_option maxHeartbeats 1000000 in
theorem same_none (w : World) : Calls Tryz.prog 47 #[.slice none 0 0, .slice none 0 0] w fun e w' => e = .returned (.bool true) ∧ w = w' := by
  go_enter Tryz.func47, Tryz.ntmps47
  go_wp2
  go_loop [5] (fun i => i = .int .i64 0) (fun _ => 0)
  case atStart => rfl
  case round =>
    subst hrel
    go_wp2
    go_ret
    exact ⟨rfl, rfl⟩
theorem ItemB.cell1 {w : World} {b pb : Nat} (h : ItemB w b pb) : w.cell? ⟨b, 1, none⟩ = some (.bool false) := by unfold ItemB at h; simp [World.cell?, h]
theorem all_eq {u : U} {a0 a1 a2 a3 a4 a5 a6 a7 a8 a9 a10 : ByteArray} {e : Ending} (he : AllIs e u) (h0 : tl a0 = hrefU u) (h1 : tl a1 = originU u) (h2 : tl a2 = protocolU u) (h3 : tl a3 = u.nam) (h4 : tl a4 = u.pw) (h5 : tl a5 = hostPortU u) (h6 : tl a6 = u.host) (h7 : tl a7 = portTextU u) (h8 : tl a8 = pathU u) (h9 : tl a9 = searchU u) (h10 : tl a10 = hashU u) :
    e = .returned (.agg #[.string a0, .string a1, .string a2, .string a3, .string a4, .string a5, .string a6, .string a7, .string a8, .string a9, .string a10]) := by
  obtain ⟨t0, t1, t2, t3, t4, t5, t6, t7, t8, t9, t10, rfl, g0, g1, g2, g3, g4, g5, g6, g7, g8, g9, g10, -, -⟩ := he
  rw [tl_inj (g0.trans h0.symm), tl_inj (g1.trans h1.symm), tl_inj (g2.trans h2.symm), tl_inj (g3.trans h3.symm), tl_inj (g4.trans h4.symm), tl_inj (g5.trans h5.symm), tl_inj (g6.trans h6.symm), tl_inj (g7.trans h7.symm), tl_inj (g8.trans h8.symm), tl_inj (g9.trans h9.symm), tl_inj (g10.trans h10.symm)]
/-- What is written, parsed: alone, and against what is written of another. -/
theorem parse_again {u : U} (h : St u) (hl : (hrefU u).length ≤ 160) : parseU (hrefU u) [] false = (u, 0) := by
  unfold parseU
  rw [if_neg (by rintro (x | x); omega; cases x.1), if_neg (by intro x; exact x rfl)]
  exact reread h zeroU
theorem parse_based {u v : U} (h : St u) (hv : St v) (hl : (hrefU u).length ≤ 160) (hlv : (hrefU v).length ≤ 160) : parseU (hrefU u) (hrefU v) true = (u, 0) := by
  have hb : baseU (hrefU v) true = (v, 0) := by
    unfold baseU textU
    rw [if_neg (by decide), reread hv zeroU, if_neg (by intro x; cases x)]
  unfold parseU
  rw [if_neg (by rintro (x | x); omega; omega), hb, if_neg (by intro x; exact x rfl)]
  exact reread h v
end Go.Proofs.YtcgoimipjnlagaaGreatDoor
