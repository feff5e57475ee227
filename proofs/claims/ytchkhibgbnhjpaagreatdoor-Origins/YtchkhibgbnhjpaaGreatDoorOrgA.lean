import Derived.Test.YtchkhibgbnhjpaaGreatDoorUrl1
namespace Go.Proofs.YtchkhibgbnhjpaaGreatDoor
open Go.RowKit

/-- urls.placeOrigin -/
def placeOriginU (u : U) : List UInt8 := u.sch ++ [58, 47, 47] ++ hostPortU u
set_option maxHeartbeats 2000000 in
theorem placeOrigin_any (r : Rc) (u : U) (bs : List ByteArray) (w : World) (h : RcIs w r u bs) (ht : Tb w) :
    Calls Tryz.prog 57 #[.agg #[.string r.sch, .string r.nam, .string r.pw, .bool r.hh, .string r.host, .bool r.hp, .int .i64 (r.port : Int), .bool r.op, .string r.opath, .slice r.so r.sn r.sc, .bool r.hq, .string r.q, .bool r.hf, .string r.fr]] w fun e w' => ∃ t : ByteArray, e = .returned (.string t) ∧ tl t = placeOriginU u ∧ t.size ≤ 1000000 ∧ Nx w w' := by
  have hs := h.lsch
  have HE := hide (show placeOriginU u = tl r.sch ++ [58, 47, 47] ++ hostPortU u by rw [← h.eq]; rfl)
  have HTB := hide ht
  have HRC := hide h
  have HB := hide (recB_new w r)
  have HPT := hide (fun w1 (hn : Nx w w1) => hostPort_any r u bs w1 (HRC.out.on hn) (HTB.out.on hn))
  clear h ht
  go_enter Tryz.func57, Tryz.ntmps57
  go_wp2
  go_region_with (go_at_call 41; refine (HPT.out _ ((Nx.rfl.alloc _).drew)).mono ?_; rintro e w1 ⟨x, rfl, hx, hxs, hn⟩; obtain ⟨hc0, -⟩ := (RecB.on (RecB.on HB.out Nx.rfl.drew) hn).cells; have HX := hide hx; have HN := hide (show Nx w w1 from ((Nx.rfl.alloc _).drew).then hn); clear hx hn)
  all_goals go_wp2
  all_goals go_ret
  all_goals exact ⟨r.sch ++ (⟨#[58, 47, 47]⟩ : ByteArray) ++ x, rfl, by rw [HE.out, tl_append', tl_append', HX.out]; rfl, by rw [size_append', size_append']; show r.sch.size + 3 + x.size ≤ _; omega, HN.out⟩
end Go.Proofs.YtchkhibgbnhjpaaGreatDoor

namespace Go.Proofs.YtchkhibgbnhjpaaGreatDoor
open Go.RowKit

def nullB : List UInt8 := [110, 117, 108, 108]
/-- urls.blobOrigin -/
def blobOriginU (u : U) : List UInt8 :=
  if (textU (pathU u)).2 ≠ 0 then nullB
  else if (textU (pathU u)).1.sch ≠ [104, 116, 116, 112] ∧ (textU (pathU u)).1.sch ≠ [104, 116, 116, 112, 115] then nullB else placeOriginU (textU (pathU u)).1
set_option maxHeartbeats 8000000 in
theorem blobOrigin_any (r : Rc) (u : U) (bs : List ByteArray) (w : World) (h : RcIs w r u bs) (ht : Tb w) (hpl : (pathU u).length ≤ 9000) :
    Calls Tryz.prog 58 #[.agg #[.string r.sch, .string r.nam, .string r.pw, .bool r.hh, .string r.host, .bool r.hp, .int .i64 (r.port : Int), .bool r.op, .string r.opath, .slice r.so r.sn r.sc, .bool r.hq, .string r.q, .bool r.hf, .string r.fr]] w fun e w' => ∃ t : ByteArray, e = .returned (.string t) ∧ tl t = blobOriginU u ∧ t.size ≤ 1000000 ∧ Nx w w' := by
  have HTB := hide ht
  have HRC := hide h
  have HPL := hide hpl
  have HD := hide (show blobOriginU u = if (textU (pathU u)).2 ≠ 0 then nullB else if (textU (pathU u)).1.sch ≠ [104, 116, 116, 112] ∧ (textU (pathU u)).1.sch ≠ [104, 116, 116, 112, 115] then nullB else placeOriginU (textU (pathU u)).1 from rfl)
  clear h ht hpl
  go_enter Tryz.func58, Tryz.ntmps58
  go_wp2_with fail
  refine (pathname_any r u bs _ (HRC.out.on (Nx.rfl.alloc _))).mono ?_
  rintro e w1 ⟨x, rfl, hx, hxs, hn⟩
  have hxl : x.size ≤ 9000 := by rw [← tl_length, hx]; exact HPL.out
  have HN := hide (show Nx w w1 from (Nx.rfl.alloc _).then hn)
  rw [← hx] at HD
  clear hx hn hxs HPL
  go_wp2_with fail
  refine (textU_any x _ hxl (HTB.out.on HN.out)).mono ?_
  rintro e w2 ⟨⟨r2, ds, rfl, hr, hdl⟩, hn⟩
  have HR := hide hr
  have HN2 := hide (show Nx w w2 from HN.out.then hn)
  clear hr hn HN
  generalize textU (tl x) = q at *
  obtain ⟨qu, err⟩ := q
  simp only at HR HD
  by_cases he : err = 0
  · subst he
    have HD2 := hide (HD.out.trans (if_neg (by decide)))
    clear HD
    have HS := hide (show tl r2.sch = qu.sch from by rw [HR.out.usch])
    by_cases h1 : tl r2.sch = [104, 116, 116, 112]
    · have HE := hide (HD2.out.trans (if_neg (fun k => k.1 (HS.out.symm.trans h1))))
      have h1' := eqB h1
      clear HD2 h1
      go_wp2_with fail
      refine (placeOrigin_any r2 qu ds _ (HR.out.on (Nx.rfl.alloc _)) (HTB.out.on (HN2.out.alloc _))).mono ?_
      rintro e w3 ⟨t, rfl, ht, hts, hn⟩
      have HT := hide ht
      have HN3 := hide (show Nx w w3 from (HN2.out.alloc _).then hn)
      clear ht hn
      go_wp2
      go_ret
      exact ⟨t, rfl, by rw [HE.out, HT.out], hts, HN3.out⟩
    · have h1' := neB h1
      by_cases h2 : tl r2.sch = [104, 116, 116, 112, 115]
      · have HE := hide (HD2.out.trans (if_neg (fun k => k.2 (HS.out.symm.trans h2))))
        have h2' := eqB h2
        clear HD2 h1 h2
        go_wp2_with fail
        refine (placeOrigin_any r2 qu ds _ (HR.out.on (Nx.rfl.alloc _)) (HTB.out.on (HN2.out.alloc _))).mono ?_
        rintro e w3 ⟨t, rfl, ht, hts, hn⟩
        have HT := hide ht
        have HN3 := hide (show Nx w w3 from (HN2.out.alloc _).then hn)
        clear ht hn
        go_wp2
        go_ret
        exact ⟨t, rfl, by rw [HE.out, HT.out], hts, HN3.out⟩
      · have HE := hide (HD2.out.trans (if_pos ⟨fun k => h1 (HS.out.trans k), fun k => h2 (HS.out.trans k)⟩))
        have h2' := neB h2
        clear HD2 h1 h2
        go_wp2
        go_ret
        exact ⟨⟨#[110, 117, 108, 108]⟩, rfl, HE.out.symm, by decide, HN2.out.alloc _⟩
  · have HE := hide (HD.out.trans (if_pos he))
    have he' : (err != 0) = true := bneT (beq_eq_false_iff_ne.2 he)
    clear HD he
    go_wp2
    go_ret
    exact ⟨⟨#[110, 117, 108, 108]⟩, rfl, HE.out.symm, by decide, HN2.out.alloc _⟩
end Go.Proofs.YtchkhibgbnhjpaaGreatDoor

namespace Go.Proofs.YtchkhibgbnhjpaaGreatDoor
open Go.RowKit

/-- urls.origin -/
def placedB (s : List UInt8) : Bool := s == [104, 116, 116, 112] || s == [104, 116, 116, 112, 115] || s == [119, 115] || s == [119, 115, 115] || s == [102, 116, 112]
def originU (u : U) : List UInt8 := if placedB u.sch = true then placeOriginU u else if u.sch = [98, 108, 111, 98] then blobOriginU u else nullB
set_option maxHeartbeats 8000000 in
theorem origin_any (r : Rc) (u : U) (bs : List ByteArray) (w : World) (h : RcIs w r u bs) (ht : Tb w) (hpl : u.sch = [98, 108, 111, 98] → (pathU u).length ≤ 9000) :
    Calls Tryz.prog 39 #[.agg #[.string r.sch, .string r.nam, .string r.pw, .bool r.hh, .string r.host, .bool r.hp, .int .i64 (r.port : Int), .bool r.op, .string r.opath, .slice r.so r.sn r.sc, .bool r.hq, .string r.q, .bool r.hf, .string r.fr]] w fun e w' => ∃ t : ByteArray, e = .returned (.string t) ∧ tl t = originU u ∧ t.size ≤ 1000000 ∧ Nx w w' := by
  have HTB := hide ht
  have HRC := hide h
  have HS := hide (show tl r.sch = u.sch from by rw [h.usch])
  have HPL := hide hpl
  clear h ht hpl
  by_cases h0 : tl r.sch = [104, 116, 116, 112]
  · have HE := hide (show originU u = placeOriginU u from if_pos (by unfold placedB; rw [← HS.out, h0]; decide))
    have h0' := eqB h0
    clear HPL HS h0
    go_enter Tryz.func39, Tryz.ntmps39
    go_wp2_with fail
    refine (placeOrigin_any r u bs _ (HRC.out.on (Nx.rfl.alloc _)) (HTB.out.on (Nx.rfl.alloc _))).mono ?_
    rintro e w1 ⟨t, rfl, ht, hts, hn⟩
    have HT := hide ht
    have HN := hide (show Nx w w1 from (Nx.rfl.alloc _).then hn)
    clear ht hn
    go_wp2
    go_ret
    exact ⟨t, rfl, by rw [HE.out, HT.out], hts, HN.out⟩
  have h0' := neB h0
  by_cases h1 : tl r.sch = [104, 116, 116, 112, 115]
  · have HE := hide (show originU u = placeOriginU u from if_pos (by unfold placedB; rw [← HS.out, h1]; decide))
    have h1' := eqB h1
    clear HPL HS h0 h1
    go_enter Tryz.func39, Tryz.ntmps39
    go_wp2_with fail
    refine (placeOrigin_any r u bs _ (HRC.out.on (Nx.rfl.alloc _)) (HTB.out.on (Nx.rfl.alloc _))).mono ?_
    rintro e w1 ⟨t, rfl, ht, hts, hn⟩
    have HT := hide ht
    have HN := hide (show Nx w w1 from (Nx.rfl.alloc _).then hn)
    clear ht hn
    go_wp2
    go_ret
    exact ⟨t, rfl, by rw [HE.out, HT.out], hts, HN.out⟩
  have h1' := neB h1
  by_cases h2 : tl r.sch = [119, 115]
  · have HE := hide (show originU u = placeOriginU u from if_pos (by unfold placedB; rw [← HS.out, h2]; decide))
    have h2' := eqB h2
    clear HPL HS h0 h1 h2
    go_enter Tryz.func39, Tryz.ntmps39
    go_wp2_with fail
    refine (placeOrigin_any r u bs _ (HRC.out.on (Nx.rfl.alloc _)) (HTB.out.on (Nx.rfl.alloc _))).mono ?_
    rintro e w1 ⟨t, rfl, ht, hts, hn⟩
    have HT := hide ht
    have HN := hide (show Nx w w1 from (Nx.rfl.alloc _).then hn)
    clear ht hn
    go_wp2
    go_ret
    exact ⟨t, rfl, by rw [HE.out, HT.out], hts, HN.out⟩
  have h2' := neB h2
  by_cases h3 : tl r.sch = [119, 115, 115]
  · have HE := hide (show originU u = placeOriginU u from if_pos (by unfold placedB; rw [← HS.out, h3]; decide))
    have h3' := eqB h3
    clear HPL HS h0 h1 h2 h3
    go_enter Tryz.func39, Tryz.ntmps39
    go_wp2_with fail
    refine (placeOrigin_any r u bs _ (HRC.out.on (Nx.rfl.alloc _)) (HTB.out.on (Nx.rfl.alloc _))).mono ?_
    rintro e w1 ⟨t, rfl, ht, hts, hn⟩
    have HT := hide ht
    have HN := hide (show Nx w w1 from (Nx.rfl.alloc _).then hn)
    clear ht hn
    go_wp2
    go_ret
    exact ⟨t, rfl, by rw [HE.out, HT.out], hts, HN.out⟩
  have h3' := neB h3
  by_cases h4 : tl r.sch = [102, 116, 112]
  · have HE := hide (show originU u = placeOriginU u from if_pos (by unfold placedB; rw [← HS.out, h4]; decide))
    have h4' := eqB h4
    clear HPL HS h0 h1 h2 h3 h4
    go_enter Tryz.func39, Tryz.ntmps39
    go_wp2_with fail
    refine (placeOrigin_any r u bs _ (HRC.out.on (Nx.rfl.alloc _)) (HTB.out.on (Nx.rfl.alloc _))).mono ?_
    rintro e w1 ⟨t, rfl, ht, hts, hn⟩
    have HT := hide ht
    have HN := hide (show Nx w w1 from (Nx.rfl.alloc _).then hn)
    clear ht hn
    go_wp2
    go_ret
    exact ⟨t, rfl, by rw [HE.out, HT.out], hts, HN.out⟩
  have h4' := neB h4
  have HNP := hide (show ¬ placedB u.sch = true by unfold placedB; rw [← HS.out]; simp [h0, h1, h2, h3, h4])
  clear h0 h1 h2 h3 h4
  by_cases h5 : tl r.sch = [98, 108, 111, 98]
  · have HE := hide (show originU u = blobOriginU u from (if_neg HNP.out).trans (if_pos (HS.out.symm.trans h5)))
    have HL := hide (HPL.out (HS.out.symm.trans h5))
    have h5' := eqB h5
    clear HPL HS HNP h5
    go_enter Tryz.func39, Tryz.ntmps39
    go_wp2_with fail
    refine (blobOrigin_any r u bs _ (HRC.out.on (Nx.rfl.alloc _)) (HTB.out.on (Nx.rfl.alloc _)) HL.out).mono ?_
    rintro e w1 ⟨t, rfl, ht, hts, hn⟩
    have HT := hide ht
    have HN := hide (show Nx w w1 from (Nx.rfl.alloc _).then hn)
    clear ht hn
    go_wp2
    go_ret
    exact ⟨t, rfl, by rw [HE.out, HT.out], hts, HN.out⟩
  have HE := hide (show originU u = nullB from (if_neg HNP.out).trans (if_neg (fun k => h5 (HS.out.trans k))))
  have h5' := neB h5
  clear HPL HS HNP h5
  go_enter Tryz.func39, Tryz.ntmps39
  go_wp2
  go_ret
  exact ⟨⟨#[110, 117, 108, 108]⟩, rfl, HE.out.symm, by decide, Nx.rfl.alloc _⟩
end Go.Proofs.YtchkhibgbnhjpaaGreatDoor
