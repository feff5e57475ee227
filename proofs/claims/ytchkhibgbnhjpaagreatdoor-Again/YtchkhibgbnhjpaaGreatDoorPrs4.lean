import Derived.Test.YtchkhibgbnhjpaaGreatDoorPrsA
import Derived.Test.YtchkhibgbnhjpaaGreatDoorUrl1
namespace Go.Proofs.YtchkhibgbnhjpaaGreatDoor
open Go.RowKit

theorem readPrs_count (l : List UInt8) : (readPrs l).length ≤ l.length + 1 := by unfold readPrs; rw [List.length_map]; exact filled_count l
theorem pairs_count {ps : List Pq} {l : List UInt8} (h : ps.map tl2 = readPrs l) (hl : l.length ≤ 300000) : ps.length ≤ 1000000 := by
  have h1 := readPrs_count l
  rw [← h, List.length_map] at h1
  omega
/-- (*urls.URL).list -/
def PairsIs (e : Ending) (w w' : World) (q : List UInt8) : Prop := ∃ v ps, e = .returned v ∧ PrsIs w' w.heap.size v ps ∧ ps.map tl2 = readPrs q ∧ Nx w w'
set_option maxHeartbeats 2000000 in
theorem list_any (pb : Nat) (r : Rc) (u : U) (bs : List ByteArray) (w : World) (h0 : UrlB w pb r) (h : RcIs w r u bs) :
    Calls Tryz.prog 61 #[.pointer (some ⟨pb, 0, none⟩)] w fun e w' => PairsIs e w w' u.q := by
  obtain ⟨-, -, -, -, -, -, -, -, -, -, -, a11, -, -⟩ := h0.cells
  have hl := h.lq
  have HQ := hide (show tl r.q = u.q by rw [← h.eq]; rfl)
  clear h h0
  go_enter Tryz.func61, Tryz.ntmps61
  go_wp2_with fail
  refine (readPrs_any r.q _ hl).mono ?_
  rintro e w1 ⟨v, ps, rfl, h1, h2, h3⟩
  have H1 := hide h1
  have H2 := hide h2
  have H3 := hide h3
  clear h1 h2 h3
  go_wp2
  go_ret
  exact ⟨v, ps, rfl, H1.out, by rw [H2.out, HQ.out], H3.out⟩
set_option maxHeartbeats 2000000 in
theorem pairs_any (pb : Nat) (r : Rc) (u : U) (bs : List ByteArray) (w : World) (h0 : UrlB w pb r) (h : RcIs w r u bs) :
    Calls Tryz.prog 46 #[.pointer (some ⟨pb, 0, none⟩)] w fun e w' => PairsIs e w w' u.q := by
  go_enter Tryz.func46, Tryz.ntmps46
  go_wp2_with fail
  refine (list_any pb r u bs _ h0 h).mono ?_
  rintro e w1 ⟨v, ps, rfl, h1, h2, h3⟩
  have H1 := hide h1
  have H2 := hide h2
  have H3 := hide h3
  clear h1 h2 h3 h0 h
  go_wp2
  go_ret
  exact ⟨v, ps, rfl, H1.out, H2.out, H3.out⟩
end Go.Proofs.YtchkhibgbnhjpaaGreatDoor
