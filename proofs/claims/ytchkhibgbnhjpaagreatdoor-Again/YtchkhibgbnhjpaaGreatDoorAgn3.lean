import Derived.Test.YtchkhibgbnhjpaaGreatDoorAgn2
import Derived.Test.YtchkhibgbnhjpaaGreatDoorInvA
namespace Go.Proofs.YtchkhibgbnhjpaaGreatDoor
open Go.RowKit

set_option maxHeartbeats 8000000 in
/-- urlskeep.Again answers true. -/
theorem again_full (s t : ByteArray) (w : World) (hs : s.size ≤ maxLen) (hb : t.size ≤ maxLen) (ht : Tb w) :
    Calls Tryz.prog 9 #[.string s, .string t] w fun e w' => e = .returned (.bool true) ∧ Nx w w' := by
  have HTB := hide ht
  have HAS := hide (at_any s ⟨#[]⟩ false w hs (small_len (by decide)) ht)
  have HAT := hide (fun w' (hn : Nx w w') => at_any t ⟨#[]⟩ false w' hb (small_len (by decide)) (HTB.out.on hn))
  have HSU := hide (st_parse (tl s) (tl ⟨#[]⟩) false)
  have HSV := hide (st_parse (tl t) (tl ⟨#[]⟩) false)
  have HLU := hide (pm_parse (tl s) (tl ⟨#[]⟩) false)
  have HLV := hide (pm_parse (tl t) (tl ⟨#[]⟩) false)
  clear ht hs hb
  generalize parseU (tl s) (tl ⟨#[]⟩) false = x at *
  generalize parseU (tl t) (tl ⟨#[]⟩) false = y at *
  go_enter Tryz.func9, Tryz.ntmps9
  go_wp2_with fail
  refine HAS.out.mono ?_
  rintro e w1 ⟨hp, hn⟩
  have HN := hide hn
  clear hn HAS
  rcases hp with rfl | ⟨hx0, ib, pb, r, bs, rfl, hi, hu, hr⟩
  · go_wp2_with fail
    refine (HAT.out _ HN.out).mono ?_
    rintro e w2 ⟨hp, hn2⟩
    have HN2 := hide (HN.out.then hn2)
    clear hn2 HAT
    rcases hp with rfl | ⟨-, jb, qb, q, cs, rfl, -, -, -⟩
    · go_wp2
      go_ret
      exact ⟨rfl, HN2.out⟩
    · go_wp2
      go_ret
      exact ⟨rfl, HN2.out⟩
  · have HI := hide hi
    have HU := hide hu
    have HR := hide hr
    have HS := hide (HSU.out hx0)
    clear hi hu hr hx0 HSU
    go_wp2_with fail
    refine (HAT.out _ HN.out).mono ?_
    rintro e w2 ⟨hp, hn2⟩
    have HN2 := hide (HN.out.then hn2)
    have HI2 := hide (HI.out.on hn2)
    have HU2 := hide (HU.out.on hn2)
    have HR2 := hide (HR.out.on hn2)
    clear hn2 HAT HI HU HR
    rcases hp with rfl | ⟨hy0, jb, qb, q, cs, rfl, hj, hv, hq⟩
    · go_wp2
      go_ret
      exact ⟨rfl, HN2.out⟩
    · have HAG := hide (again_any ib jb pb qb r q x.1 y.1 bs cs w2 HI2.out hj HU2.out hv HR2.out hq (HTB.out.on HN2.out) HS.out (HSV.out hy0) (Nat.le_trans HLU.out (by decide)) (Nat.le_trans HLV.out (by decide)))
      clear hj hv hq hy0 HSV
      go_wp2_with fail
      refine HAG.out.mono ?_
      rintro e w3 ⟨rfl, hn3⟩
      have HN3 := hide (HN2.out.then hn3)
      clear hn3
      go_wp2
      go_ret
      exact ⟨rfl, HN3.out⟩
end Go.Proofs.YtchkhibgbnhjpaaGreatDoor
