import Derived.Test.YtchkhibgbnhjpaaGreatDoorPrt1
namespace Go.Proofs.YtchkhibgbnhjpaaGreatDoor
open Go.RowKit

/-- (parts.URL).HostPort -/
def hostPortU (u : U) : List UInt8 := if u.hp = true then u.host ++ [58] ++ portTextU u else u.host
set_option maxHeartbeats 2000000 in
theorem hostPort_any (r : Rc) (u : U) (bs : List ByteArray) (w : World) (h : RcIs w r u bs) (ht : Tb w) :
    Calls Tryz.prog 41 #[.agg #[.string r.sch, .string r.nam, .string r.pw, .bool r.hh, .string r.host, .bool r.hp, .int .i64 (r.port : Int), .bool r.op, .string r.opath, .slice r.so r.sn r.sc, .bool r.hq, .string r.q, .bool r.hf, .string r.fr]] w fun e w' => ∃ t : ByteArray, e = .returned (.string t) ∧ tl t = hostPortU u ∧ t.size ≤ 600000 ∧ Nx w w' := by
  have hs := h.lhost
  have HD := hide (show hostPortU u = if r.hp = true then tl r.host ++ [58] ++ portTextU u else tl r.host by rw [← h.eq]; rfl)
  have HTB := hide ht
  have HRC := hide h
  have HB := hide (recB_new w r)
  clear h ht
  cases hhp : r.hp
  · have HE := hide (HD.out.trans (if_neg (by rw [hhp]; decide)))
    clear HD
    go_enter Tryz.func41, Tryz.ntmps41
    go_wp2
    go_ret
    exact ⟨r.host, rfl, HE.out.symm, by omega, Nx.rfl.alloc _⟩
  · have HE := hide (HD.out.trans (if_pos hhp))
    have HPT := hide (fun w1 (hn : Nx w w1) => portText_any r u bs w1 (HRC.out.on hn) (HTB.out.on hn))
    rw [hhp] at HPT HB
    clear HD
    go_enter Tryz.func41, Tryz.ntmps41
    go_wp2
    go_region_with (go_at_call 42; refine (HPT.out _ ((Nx.rfl.alloc _).drew)).mono ?_; rintro e w1 ⟨x, rfl, hx, hxs, hn⟩; obtain ⟨-, -, -, -, hc4, -⟩ := (RecB.on (RecB.on HB.out Nx.rfl.drew) hn).cells; have HX := hide hx; have HN := hide (show Nx w w1 from ((Nx.rfl.alloc _).drew).then hn); clear hx hn)
    all_goals go_wp2
    all_goals go_ret
    all_goals exact ⟨r.host ++ (⟨#[58]⟩ : ByteArray) ++ x, rfl, by rw [HE.out, tl_append', tl_append', HX.out]; rfl, by rw [size_append', size_append']; show r.host.size + 1 + x.size ≤ _; omega, HN.out⟩

/-- (parts.URL).Pathname -/
def joinSl (ps : List (List UInt8)) : List UInt8 := ps.flatMap fun s => [47] ++ s
def pathU (u : U) : List UInt8 := if u.op = true then u.opath else joinSl u.segs
theorem joinSl_snoc (ps : List (List UInt8)) (s : List UInt8) : joinSl (ps ++ [s]) = joinSl ps ++ ([47] ++ s) := by simp [joinSl]
set_option maxHeartbeats 2000000 in
theorem pathname_any (r : Rc) (u : U) (bs : List ByteArray) (w : World) (h : RcIs w r u bs) :
    Calls Tryz.prog 43 #[.agg #[.string r.sch, .string r.nam, .string r.pw, .bool r.hh, .string r.host, .bool r.hp, .int .i64 (r.port : Int), .bool r.op, .string r.opath, .slice r.so r.sn r.sc, .bool r.hq, .string r.q, .bool r.hf, .string r.fr]] w fun e w' => ∃ t : ByteArray, e = .returned (.string t) ∧ tl t = pathU u ∧ t.size ≤ 200000000000 ∧ Nx w w' := by
  have HD := hide (show pathU u = if r.op = true then tl r.opath else joinSl (bs.map tl) by rw [← h.eq]; rfl)
  have hlo := h.lopath
  have hls := h.lsegs
  have HLS := hide h.lseg
  have hseg := h.seg
  clear h
  obtain ⟨sch, nam, pw, hh, host, hp, port, op, opath, so, sn, sc, hq, q, hf, fr⟩ := r
  simp only at *
  obtain ⟨ao, cap, he, hlc, hcap, hnone, hsome⟩ := hseg
  simp only [Value.slice.injEq] at he
  obtain ⟨rfl, rfl, rfl⟩ := he
  unfold maxLen at hcap
  cases op
  · have HE := hide (HD.out.trans (if_neg (by decide)))
    clear HD
    go_enter Tryz.func43, Tryz.ntmps43
    go_wp2
    go_loop [3, 4] (fun t i => ∃ (k : Nat) (txt : ByteArray), k ≤ bs.length ∧ t = .string txt ∧ i = .int .i64 k ∧ tl txt = joinSl ((bs.take k).map tl) ∧ txt.size ≤ 300001 * k) (fun _ i => bs.length - (intOf i).toNat)
    case atStart => exact ⟨0, ⟨#[]⟩, Nat.zero_le _, rfl, rfl, rfl, by decide⟩
    case round =>
      obtain ⟨k, txt, hk, rfl, rfl, hE, hsz⟩ := hrel
      have HT := hide hE
      clear hE
      by_cases hlt : k < bs.length
      · obtain ⟨a, ha⟩ := sl_some hlt hnone
        subst ha
        obtain ⟨b, off, rfl, hr⟩ := hsome a rfl
        have hck := (hr.on (Nx.rfl.alloc (Obj.cells #[.string sch, .string nam, .string pw, .bool hh, .string host, .bool hp, .int .i64 (port : Int), .bool false, .string opath, .slice (some ⟨b, off, none⟩) bs.length sc, .bool hq, .string q, .bool hf, .string fr] 54))).cell hlt
        have hbz := HLS.out _ (List.getElem_mem hlt)
        have HS := hide (show (bs.take (k + 1)).map tl = (bs.take k).map tl ++ [tl bs[k]] by rw [List.take_succ_eq_append_getElem hlt, List.map_append]; rfl)
        clear hnone hsome hr
        generalize bs[k] = p at *
        go_wp2
        go_round
        case rel => exact ⟨k + 1, txt ++ ((⟨#[47]⟩ : ByteArray) ++ p), by omega, rfl, by go_num, by rw [HS.out, joinSl_snoc, tl_append', tl_append', HT.out]; rfl, by rw [size_append', size_append']; show txt.size + (1 + p.size) ≤ _; omega⟩
        case measure => simp [intOf]; omega
      · have HF := hide (show tl txt = pathU u by rw [HT.out, HE.out, List.take_of_length_le (by omega)])
        have hz2 : txt.size ≤ 200000000000 := by
          have : 300001 * k ≤ 300001 * 300000 := Nat.mul_le_mul_left _ (by omega)
          omega
        clear hnone hsome
        go_wp2
        go_ret
        exact ⟨txt, rfl, HF.out, hz2, Nx.rfl.alloc _⟩
  · have HE := hide (HD.out.trans (if_pos rfl))
    clear HD hnone hsome
    go_enter Tryz.func43, Tryz.ntmps43
    go_wp2
    go_ret
    exact ⟨opath, rfl, HE.out.symm, by omega, Nx.rfl.alloc _⟩

/-- (parts.URL).front -/
def frontU (u : U) : List UInt8 := if u.hh = true then [47, 47] ++ userU u ++ hostPortU u else if u.op = false ∧ 1 < u.segs.length ∧ u.segs.getD 0 [] = [] then [47, 46] else []
set_option maxHeartbeats 4000000 in
theorem front_any (r : Rc) (u : U) (bs : List ByteArray) (w : World) (h : RcIs w r u bs) (ht : Tb w) :
    Calls Tryz.prog 56 #[.agg #[.string r.sch, .string r.nam, .string r.pw, .bool r.hh, .string r.host, .bool r.hp, .int .i64 (r.port : Int), .bool r.op, .string r.opath, .slice r.so r.sn r.sc, .bool r.hq, .string r.q, .bool r.hf, .string r.fr]] w fun e w' => ∃ t : ByteArray, e = .returned (.string t) ∧ tl t = frontU u ∧ t.size ≤ 3000000 ∧ Nx w w' := by
  have HD := hide (show frontU u = if r.hh = true then [47, 47] ++ userU u ++ hostPortU u else if r.op = false ∧ 1 < bs.length ∧ (bs.map tl).getD 0 [] = [] then [47, 46] else [] by rw [← List.length_map (f := tl), ← h.eq]; rfl)
  have HTB := hide ht
  have HRC := hide h
  have HB := hide (recB_new w r)
  clear h ht
  cases hhh : r.hh
  · have HE := hide (HD.out.trans (if_neg (by rw [hhh]; decide)))
    have hseg := HRC.out.seg
    have hls := HRC.out.lsegs
    clear HD HRC HB
    obtain ⟨sch, nam, pw, hh, host, hp, port, op, opath, so, sn, sc, hq, q, hf, fr⟩ := r
    simp only at *
    obtain ⟨ao, cap, he, hlc, hcap, hnone, hsome⟩ := hseg
    simp only [Value.slice.injEq] at he
    obtain ⟨rfl, rfl, rfl⟩ := he
    unfold maxLen at hcap
    subst hhh
    cases op
    · by_cases h1 : 1 < bs.length
      · have hpos : 0 < bs.length := by omega
        obtain ⟨a, ha⟩ := sl_some (k := 0) hpos hnone
        subst ha
        obtain ⟨b, off, rfl, hr⟩ := hsome a rfl
        have hck := (hr.on (Nx.rfl.alloc (Obj.cells #[.string sch, .string nam, .string pw, .bool false, .string host, .bool hp, .int .i64 (port : Int), .bool false, .string opath, .slice (some ⟨b, off, none⟩) bs.length sc, .bool hq, .string q, .bool hf, .string fr] 54))).cell (i := 0) hpos
        rw [Nat.add_zero] at hck
        rw [map_getD bs hpos] at HE
        clear hnone hsome hr
        by_cases h0 : bs[0].size = 0
        · have HE2 := hide (HE.out.trans (if_pos ⟨rfl, h1, tl_empty h0⟩))
          have h0' := str_empty h0
          clear HE h0
          go_enter Tryz.func56, Tryz.ntmps56
          go_wp2
          go_ret
          exact ⟨⟨#[47, 46]⟩, rfl, HE2.out.symm, by decide, Nx.rfl.alloc _⟩
        · have HE2 := hide (HE.out.trans (if_neg (fun h => tl_ne h0 h.2.2)))
          have h0' := str_nonempty h0
          clear HE h0
          go_enter Tryz.func56, Tryz.ntmps56
          go_wp2
          go_ret
          exact ⟨⟨#[]⟩, rfl, HE2.out.symm, by decide, Nx.rfl.alloc _⟩
      · have HE2 := hide (HE.out.trans (if_neg (fun h => h1 h.2.1)))
        clear HE hnone hsome
        go_enter Tryz.func56, Tryz.ntmps56
        go_wp2
        go_ret
        exact ⟨⟨#[]⟩, rfl, HE2.out.symm, by decide, Nx.rfl.alloc _⟩
    · have HE2 := hide (HE.out.trans (if_neg (fun h => by cases h.1)))
      clear HE hnone hsome
      go_enter Tryz.func56, Tryz.ntmps56
      go_wp2
      go_ret
      exact ⟨⟨#[]⟩, rfl, HE2.out.symm, by decide, Nx.rfl.alloc _⟩
  · have HE := hide (HD.out.trans (if_pos hhh))
    have HU := hide (fun w1 (hn : Nx w w1) => user_any r u bs w1 (HRC.out.on hn))
    have HHP := hide (fun w1 (hn : Nx w w1) => hostPort_any r u bs w1 (HRC.out.on hn) (HTB.out.on hn))
    rw [hhh] at HU HHP HB
    clear HD
    go_enter Tryz.func56, Tryz.ntmps56
    go_wp2_with fail
    refine (HU.out _ (Nx.rfl.alloc _)).mono ?_
    rintro e w1 ⟨x, rfl, hx, hxs, hn⟩
    obtain ⟨c0, c1, c2, c3, c4, c5, c6, c7, c8, c9, c10, c11, c12, c13⟩ := (RecB.on HB.out hn).cells
    rw [hhh] at c3
    have HX := hide hx
    have HN := hide (show Nx w w1 from (Nx.rfl.alloc _).then hn)
    clear hx hn
    go_wp2_with fail
    refine (HHP.out _ HN.out).mono ?_
    rintro e w2 ⟨y, rfl, hy, hys, hn2⟩
    have HY := hide hy
    have HN2 := hide (HN.out.then hn2)
    clear hy hn2 c0 c1 c2 c3 c4 c5 c6 c7 c8 c9 c10 c11 c12 c13
    go_wp2
    go_ret
    exact ⟨(⟨#[47, 47]⟩ : ByteArray) ++ x ++ y, rfl, by rw [HE.out, tl_append', tl_append', HX.out, HY.out]; rfl, by rw [size_append', size_append']; show 2 + x.size + y.size ≤ _; omega, HN2.out⟩

/-- (parts.URL).Href -/
def hrefU (u : U) : List UInt8 := protocolU u ++ frontU u ++ pathU u ++ (if u.hq = true then [63] ++ u.q else []) ++ (if u.hf = true then [35] ++ u.fr else [])
set_option maxHeartbeats 8000000 in
theorem href_any (r : Rc) (u : U) (bs : List ByteArray) (w : World) (h : RcIs w r u bs) (ht : Tb w) :
    Calls Tryz.prog 38 #[.agg #[.string r.sch, .string r.nam, .string r.pw, .bool r.hh, .string r.host, .bool r.hp, .int .i64 (r.port : Int), .bool r.op, .string r.opath, .slice r.so r.sn r.sc, .bool r.hq, .string r.q, .bool r.hf, .string r.fr]] w fun e w' => ∃ t : ByteArray, e = .returned (.string t) ∧ tl t = hrefU u ∧ Nx w w' := by
  have HD := hide (show hrefU u = protocolU u ++ frontU u ++ pathU u ++ (if r.hq = true then [63] ++ tl r.q else []) ++ (if r.hf = true then [35] ++ tl r.fr else []) by rw [← h.eq]; rfl)
  have hlq := h.lq
  have hlf := h.lfr
  have hlp : protocolU u = tl r.sch ++ [58] := by rw [← h.eq]; rfl
  have hls := h.lsch
  have HTB := hide ht
  have HRC := hide h
  have HB := hide (recB_new w r)
  clear h ht
  go_enter Tryz.func38, Tryz.ntmps38
  go_wp2_with fail
  refine (protocol_any r u bs _ (HRC.out.on (Nx.rfl.alloc _))).mono ?_
  rintro e w1 ⟨x1, rfl, hx1, hn1⟩
  have hz1 : x1.size ≤ 600000 := by have := congrArg List.length (hx1.trans hlp); rw [tl_length, List.length_append, tl_length] at this; simp at this; omega
  have HX1 := hide hx1
  have HN1 := hide (show Nx w w1 from (Nx.rfl.alloc _).then hn1)
  have HB1 := hide (RecB.on HB.out hn1)
  clear hx1 hn1 hlp HB
  obtain ⟨c0, c1, c2, c3, c4, c5, c6, c7, c8, c9, c10, c11, c12, c13⟩ := HB1.out.cells
  go_wp2_with fail
  refine (front_any r u bs _ (HRC.out.on HN1.out) (HTB.out.on HN1.out)).mono ?_
  rintro e w2 ⟨x2, rfl, hx2, hz2, hn2⟩
  have HX2 := hide hx2
  have HN2 := hide (HN1.out.then hn2)
  have HB2 := hide (RecB.on HB1.out hn2)
  clear hx2 hn2 HB1 c0 c1 c2 c3 c4 c5 c6 c7 c8 c9 c10 c11 c12 c13
  obtain ⟨c0, c1, c2, c3, c4, c5, c6, c7, c8, c9, c10, c11, c12, c13⟩ := HB2.out.cells
  go_wp2_with fail
  refine (pathname_any r u bs _ (HRC.out.on HN2.out)).mono ?_
  rintro e w3 ⟨x3, rfl, hx3, hz3, hn3⟩
  have HX3 := hide hx3
  have HN3 := hide (HN2.out.then hn3)
  have HB3 := hide (RecB.on HB2.out hn3)
  clear hx3 hn3 HB2 c0 c1 c2 c3 c4 c5 c6 c7 c8 c9 c10 c11 c12 c13
  obtain ⟨-, -, -, -, -, -, -, -, -, -, c10, c11, c12, c13⟩ := HB3.out.cells
  cases hhq : r.hq
  · rw [hhq] at c10
    rw [hhq] at HD
    cases hhf : r.hf
    · rw [hhf] at c12
      rw [hhf] at HD
      go_wp2
      go_ret
      exact ⟨x1 ++ x2 ++ x3, rfl, by rw [HD.out, if_neg (by decide), if_neg (by decide), tl_append', tl_append', HX1.out, HX2.out, HX3.out, List.append_nil, List.append_nil], HN3.out⟩
    · rw [hhf] at c12
      rw [hhf] at HD
      go_wp2
      go_ret
      exact ⟨x1 ++ x2 ++ x3 ++ ((⟨#[35]⟩ : ByteArray) ++ r.fr), rfl, by rw [HD.out, if_neg (by decide), if_pos trivial, tl_append', tl_append', tl_append', tl_append', HX1.out, HX2.out, HX3.out, List.append_nil]; rfl, HN3.out⟩
  · rw [hhq] at c10
    rw [hhq] at HD
    cases hhf : r.hf
    · rw [hhf] at c12
      rw [hhf] at HD
      go_wp2
      go_ret
      exact ⟨x1 ++ x2 ++ x3 ++ ((⟨#[63]⟩ : ByteArray) ++ r.q), rfl, by rw [HD.out, if_pos trivial, if_neg (by decide), tl_append', tl_append', tl_append', tl_append', HX1.out, HX2.out, HX3.out, List.append_nil]; rfl, HN3.out⟩
    · rw [hhf] at c12
      rw [hhf] at HD
      go_wp2
      go_ret
      exact ⟨x1 ++ x2 ++ x3 ++ ((⟨#[63]⟩ : ByteArray) ++ r.q) ++ ((⟨#[35]⟩ : ByteArray) ++ r.fr), rfl, by rw [HD.out, if_pos trivial, if_pos trivial, tl_append', tl_append', tl_append', tl_append', tl_append', tl_append', HX1.out, HX2.out, HX3.out]; rfl, HN3.out⟩
end Go.Proofs.YtchkhibgbnhjpaaGreatDoor
