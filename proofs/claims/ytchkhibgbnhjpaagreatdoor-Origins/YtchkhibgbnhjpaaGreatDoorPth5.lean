import Derived.Test.YtchkhibgbnhjpaaGreatDoorPth4
namespace Go.Proofs.YtchkhibgbnhjpaaGreatDoor
open Go.RowKit

/-- (*paths.path).take -/
def takeL (f : Bool) (ps : List (List UInt8)) (seg : List UInt8) (last : Bool) : List (List UInt8) :=
  if countDots seg = 0 then joinL f ps seg else
  if last then (if countDots seg = 2 then shortL f ps else ps) ++ [[]] else (if countDots seg = 2 then shortL f ps else ps)
theorem shortL_map_len {f : Bool} {bs bs' : List ByteArray} (h : bs'.map tl = shortL f (bs.map tl)) : bs'.length ≤ bs.length := by
  have h1 := congrArg List.length h
  have h2 := shortL_len f (bs.map tl)
  rw [List.length_map] at h1 h2
  omega
set_option maxHeartbeats 4000000 in
theorem take_any (pb base : Nat) (f s : Bool) (v : Value) (bs : List ByteArray) (q : ByteArray) (last : Bool) (w : World) (hp : PthAt w pb f s v) (ho : OwnS w base v bs) (hb : base ≤ pb) (hbw : base ≤ w.heap.size) (hl : bs.length ≤ 1000000) (hq : q.size ≤ 1000000) :
    Calls Tryz.prog 225 #[.pointer (some ⟨pb, 0, none⟩), .string q, .bool last] w fun e w' => ∃ x v' bs', e = .returned x ∧ PthAt w' pb f s v' ∧ OwnS w' base v' bs' ∧ bs'.map tl = takeL f (bs.map tl) (tl q) last ∧ bs'.length ≤ bs.length + 1 ∧ Below base w w' := by
  have HP := hide hp
  have HO := hide ho
  have HB := hide hb
  clear hp ho hb
  have HT := hide (show takeL f (bs.map tl) (tl q) last = if countDots (tl q) = 0 then joinL f (bs.map tl) (tl q) else
    if last then (if countDots (tl q) = 2 then shortL f (bs.map tl) else bs.map tl) ++ [[]] else (if countDots (tl q) = 2 then shortL f (bs.map tl) else bs.map tl) from rfl)
  have hd2 := cdGo_le 3 0 (tl q) rfl
  change countDots (tl q) ≤ 2 at hd2
  generalize hd : countDots (tl q) = d at *
  have HD := hide hd
  clear hd
  have key : ∀ (w1 w2 : World) (v1 v' : Value) (cs : List ByteArray), Below base w w1 → PthAt w1 pb f s v1 → OwnS w2 base v' (cs ++ [(⟨#[]⟩ : ByteArray)]) → Below base w1 w2 → Kp 9 w1 w2 → PthAt w2 pb f s v1 ∧ (∀ u, PthAt (w2.setCell ⟨pb, 2, none⟩ u) pb f s u) ∧ (∀ u, OwnS (w2.setCell ⟨pb, 2, none⟩ u) base v' (cs ++ [(⟨#[]⟩ : ByteArray)])) ∧ (∀ u, Below base w (w2.setCell ⟨pb, 2, none⟩ u)) := by
    intro w1 w2 v1 v' cs h0 hp1 h1 h2 h3
    have h4 := hp1.kp h3
    exact ⟨h4, fun u => h4.set u, fun u => h4.own h1 u, fun u => (h0.trans h2).setCell HB.out u⟩
  have KEY := hide key
  clear key
  rcases (show d = 0 ∨ d = 1 ∨ d = 2 by omega) with rfl | rfl | rfl
  · have HE := hide (HT.out.trans (if_pos rfl))
    clear HT hd2
    go_enter Tryz.func225, Tryz.ntmps225
    go_wp2_with (first | (go_at_call 237; refine (countDots_any _ _ hq).mono ?_; rintro e w' ⟨rfl, rfl⟩; rw [HD.out]) | (go_at_call 238; refine (join_any pb base f s v bs q _ HP.out HO.out HB.out hbw hl hq).mono ?_; rintro e w1 ⟨x, v1, bs1, rfl, h1, h2, h3, h4, h5⟩; have H1 := hide h1; have H2 := hide h2; have H3 := hide h3; have H4 := hide h4; have H5 := hide h5; clear h1 h2 h3 h4 h5))
    exact bodyPost_end (results_none rfl _ _ _) rfl ⟨_, _, _, rfl, H1.out, H2.out, H3.out.trans HE.out.symm, H4.out, H5.out⟩
  · have HE := hide (show takeL f (bs.map tl) (tl q) last = if last then bs.map tl ++ [[]] else bs.map tl from by rw [HT.out, if_neg (show ¬ (1 : Nat) = 0 by decide), if_neg (show ¬ (1 : Nat) = 2 by decide)])
    clear HT hd2
    cases last
    · have HE2 := hide (HE.out.trans (if_neg (by decide)))
      clear HE
      go_enter Tryz.func225, Tryz.ntmps225
      go_wp2_with (go_at_call 237; refine (countDots_any _ _ hq).mono ?_; rintro e w' ⟨rfl, rfl⟩; rw [HD.out])
      exact bodyPost_end (results_none rfl _ _ _) rfl ⟨_, _, _, rfl, HP.out, HO.out, HE2.out.symm, by omega, Below.refl _ _⟩
    · have HE2 := hide (HE.out.trans (if_pos rfl))
      clear HE
      obtain ⟨hc0, hc1, hc2, hf2⟩ := HP.out.facts
      have hbl : bs.length < 1099511627776 := by omega
      go_enter Tryz.func225, Tryz.ntmps225
      go_wp2_with (first | (go_at_call 237; refine (countDots_any _ _ hq).mono ?_; rintro e w' ⟨rfl, rfl⟩; rw [HD.out]) | (at_builtin; go_must (refine app_s1 w (⟨#[]⟩ : ByteArray) rfl _ _ rfl base v bs rfl HO.out rfl hbl hbw ?_; intro v' w2 ho2 hb2 hk2; obtain ⟨g2, n2, c2, rfl⟩ := ownS_openN ho2 (by simp); obtain ⟨hp4, hps, hos, hbs⟩ := KEY.out w w2 v _ bs (Below.refl _ _) HP.out ho2 hb2 hk2; obtain ⟨-, -, hd2, hg2⟩ := hp4.facts; have HPS := hide hps; have HOS := hide hos; have HBS := hide hbs; clear ho2 hb2 hk2 hp4 hps hos hbs)))
      exact bodyPost_end (results_none rfl _ _ _) rfl ⟨_, _, _, rfl, HPS.out _, HOS.out _, by rw [HE2.out, List.map_append]; rfl, by simp, HBS.out _⟩
  · have HE := hide (show takeL f (bs.map tl) (tl q) last = if last then shortL f (bs.map tl) ++ [[]] else shortL f (bs.map tl) from by rw [HT.out, if_neg (show ¬ (2 : Nat) = 0 by decide), if_pos (show (2 : Nat) = 2 from rfl)])
    clear HT hd2
    cases last
    · have HE2 := hide (HE.out.trans (if_neg (by decide)))
      clear HE
      go_enter Tryz.func225, Tryz.ntmps225
      go_wp2_with (first | (go_at_call 237; refine (countDots_any _ _ hq).mono ?_; rintro e w' ⟨rfl, rfl⟩; rw [HD.out]) | (go_at_call 226; refine (shorten_any pb base f s v bs _ HP.out HO.out HB.out hl).mono ?_; rintro e w1 ⟨x, v1, bs1, rfl, h1, h2, h3, h5⟩; have H1 := hide h1; have H2 := hide h2; have H3 := hide h3; have H5 := hide h5; clear h1 h2 h3 h5))
      exact bodyPost_end (results_none rfl _ _ _) rfl ⟨_, _, _, rfl, H1.out, H2.out, H3.out.trans HE2.out.symm, by have := shortL_map_len H3.out; omega, H5.out⟩
    · have HE2 := hide (HE.out.trans (if_pos rfl))
      clear HE
      go_enter Tryz.func225, Tryz.ntmps225
      go_wp2_with (first | (go_at_call 237; refine (countDots_any _ _ hq).mono ?_; rintro e w' ⟨rfl, rfl⟩; rw [HD.out]) | fail)
      refine (shorten_any pb base f s v bs _ HP.out HO.out HB.out hl).mono ?_
      rintro e w1 ⟨x, v1, bs1, rfl, h1, h2, h3, h5⟩
      have H1 := hide h1
      have H2 := hide h2
      have H3 := hide h3
      have H5 := hide h5
      have hbl : bs1.length < 1099511627776 := by have := shortL_map_len h3; omega
      have hbl2 := shortL_map_len h3
      have hz : base ≤ w1.heap.size := Nat.le_trans hbw h5.size
      clear h1 h2 h3 h5
      obtain ⟨hc0, hc1, hc2, hf2⟩ := H1.out.facts
      go_wp2_with (at_builtin; go_must (refine app_s1 w1 (⟨#[]⟩ : ByteArray) rfl _ _ rfl base v1 bs1 rfl H2.out rfl hbl hz ?_; intro v' w2 ho2 hb2 hk2; obtain ⟨g2, n2, c2, rfl⟩ := ownS_openN ho2 (by simp); obtain ⟨hp4, hps, hos, hbs⟩ := KEY.out w1 w2 v1 _ bs1 H5.out H1.out ho2 hb2 hk2; obtain ⟨-, -, hd2, hg2⟩ := hp4.facts; have HPS := hide hps; have HOS := hide hos; have HBS := hide hbs; clear ho2 hb2 hk2 hp4 hps hos hbs))
      exact bodyPost_end (results_none rfl _ _ _) rfl ⟨_, _, _, rfl, HPS.out _, HOS.out _, by rw [HE2.out, List.map_append, H3.out]; rfl, by rw [List.length_append]; simp; omega, HBS.out _⟩

/-- The parts between the signs that a test says yes to. -/
def splitP (p : UInt8 → Bool) (l : List UInt8) : List (List UInt8) :=
  match l with
  | [] => [[]]
  | c :: r => if p c then [] :: splitP p r else
    match splitP p r with
    | [] => [[c]]
    | x :: q => (c :: x) :: q
theorem splitP_cut (p : UInt8 → Bool) (l : List UInt8) : splitP p l = if (bcut p l).2.2 then (bcut p l).1 :: splitP p (bcut p l).2.1 else [(bcut p l).1] := by
  induction l with
  | nil => simp [splitP, bcut]
  | cons c r ih =>
    cases h : p c
    · have hc : bcut p (c :: r) = (c :: (bcut p r).1, (bcut p r).2) := by simp [bcut, h]
      rw [splitP, if_neg (by simp [h]), hc, ih]
      cases h2 : (bcut p r).2.2 <;> simp
    · have hc : bcut p (c :: r) = ([], r, true) := by simp [bcut, h]
      rw [splitP, if_pos h, hc]
      simp
theorem splitP_ne (p : UInt8 → Bool) (l : List UInt8) : ∃ x q, splitP p l = x :: q := by
  rw [splitP_cut]
  split
  · exact ⟨_, _, rfl⟩
  · exact ⟨_, _, rfl⟩
/-- (*paths.path).follow -/
def segsGo (f : Bool) : List (List UInt8) → List (List UInt8) → List (List UInt8)
  | ps, [] => ps
  | ps, [x] => takeL f ps x true
  | ps, x :: y :: r => segsGo f (takeL f ps x false) (y :: r)
def followL (f sp : Bool) (ps : List (List UInt8)) (text : List UInt8) : List (List UInt8) := segsGo f ps (splitP (slB sp) text)
theorem followL_step (f sp : Bool) (ps : List (List UInt8)) (text : List UInt8) : followL f sp ps text = if (bcut (slB sp) text).2.2 then followL f sp (takeL f ps (bcut (slB sp) text).1 false) (bcut (slB sp) text).2.1 else takeL f ps (bcut (slB sp) text).1 true := by
  unfold followL
  rw [splitP_cut]
  cases h : (bcut (slB sp) text).2.2
  · rfl
  · simp only [if_true]
    obtain ⟨x, q, hx⟩ := splitP_ne (slB sp) (bcut (slB sp) text).2.1
    rw [hx]
    rfl
set_option maxHeartbeats 4000000 in
theorem follow_any' (pb base : Nat) (f s : Bool) (v : Value) (bs : List ByteArray) (t : ByteArray) (w : World) (hp : PthAt w pb f s v) (ho : OwnS w base v bs) (hb : base ≤ pb) (hbw : base ≤ w.heap.size) (hl : bs.length ≤ 100000) (ht : t.size ≤ 100000) :
    Calls Tryz.prog 190 #[.pointer (some ⟨pb, 0, none⟩), .string t] w fun e w' => ∃ x v' bs', e = .returned x ∧ PthAt w' pb f s v' ∧ OwnS w' base v' bs' ∧ bs'.map tl = followL f s (bs.map tl) (tl t) ∧ bs'.length ≤ bs.length + t.size + 1 ∧ Below base w w' := by
  have HP := hide hp
  have HO := hide ho
  have HB := hide hb
  clear hp ho hb
  go_enter Tryz.func190, Tryz.ntmps190
  go_wp2
  go_loopw [4, 5] (fun x m wr => ∃ (q : ByteArray) (more : Bool) (v1 : Value) (cs : List ByteArray), x = .string q ∧ m = .bool more ∧ PthAt wr pb f s v1 ∧ OwnS wr base v1 cs ∧ cs.length + q.size ≤ bs.length + t.size + 1 ∧ (more = true → cs.length + q.size ≤ bs.length + t.size) ∧ followL f s (bs.map tl) (tl t) = (if more then followL f s (cs.map tl) (tl q) else cs.map tl) ∧ Below base w wr)
    (fun x m _ => if boolOf m then strLen x + 1 else 0)
  case atStart => exact ⟨t, true, v, bs, rfl, rfl, HP.out, HO.out, by omega, fun _ => Nat.le_refl _, rfl, Below.refl _ _⟩
  case round =>
    obtain ⟨q, more, v1, cs, rfl, rfl, hp1, ho1, hl1, hm, hE, hbel⟩ := hrel
    cases more
    · simp only [Bool.false_eq_true, if_false] at hE
      have HE := hide hE
      have HP1 := hide hp1
      have HO1 := hide ho1
      have HBL := hide hbel
      clear hE hp1 ho1 hbel hm
      go_wp2
      exact bodyPost_end (results_none rfl _ _ _) rfl ⟨_, _, _, rfl, HP1.out, HO1.out, HE.out.symm, by omega, HBL.out⟩
    · have hl2 := hm rfl
      simp only [if_true] at hE
      rw [followL_step f s (cs.map tl) (tl q)] at hE
      have HE := hide hE
      have HP1 := hide hp1
      have HO1 := hide ho1
      have HBL := hide hbel
      have HL := hide (bcut_len (slB s) (tl q))
      obtain ⟨hc0, hc1, hc2, hf2⟩ := hp1.facts
      clear hE hp1 ho1 hbel hm HP HO
      go_wp2_with fail
      refine (cutSlash_any q s _ (small_len (by omega))).mono ?_
      rintro e w1 ⟨⟨a, b, rfl, ha, hb⟩, hn1⟩
      have hla : a.size = (bcut (slB s) (tl q)).1.length := by rw [← ha, tl_length]
      have hlb : b.size = (bcut (slB s) (tl q)).2.1.length := by rw [← hb, tl_length]
      have HA := hide ha
      have HBB := hide hb
      have HLA := hide hla
      have HLB := hide hlb
      have hqa : a.size ≤ 1000000 := by have h := HL.out.1; rw [tl_length] at h; omega
      have hz1 : base ≤ wr.heap.size := Nat.le_trans hbw HBL.out.size
      have hz : base ≤ w1.heap.size := Nat.le_trans hz1 hn1.size
      have HP2 := hide (HP1.out.on hn1)
      have HO2 := hide (own_on HO1.out hn1)
      have HBL2 := hide (show Below base w w1 from HBL.out.trans (hn1.mono hz1))
      clear ha hb hla hlb hn1 HP1 HO1 HBL
      generalize bcut (slB s) (tl q) = c at *
      obtain ⟨c1, c2, found⟩ := c
      simp only at *
      go_wp2_with fail
      refine (take_any pb base f s v1 cs a (!found) w1 HP2.out HO2.out HB.out hz (by omega) hqa).mono ?_
      rintro e w2 ⟨x, v2, cs2, rfl, h1, h2, h3, h4, h5⟩
      have H1 := hide h1
      have H2 := hide h2
      have H3 := hide h3
      have H4 := hide h4
      have H5 := hide (HBL2.out.trans h5)
      clear h1 h2 h3 h4 h5
      go_wp2
      go_roundw
      case rel =>
        refine ⟨b, found, v2, cs2, rfl, rfl, H1.out, H2.out, ?_, ?_, ?_, H5.out⟩
        · have h := HL.out.1; have h1 := HLA.out; have h2 := HLB.out; have h3 := H4.out; rw [tl_length] at h; omega
        · intro hf; have h := HL.out.2 hf; have h2 := HLB.out; have h3 := H4.out; rw [tl_length] at h; omega
        · rw [HE.out, H3.out, HA.out, HBB.out]
          cases found <;> rfl
      case measure =>
        have h := HL.out
        have h2 := HLB.out
        rw [tl_length] at h
        simp only [boolOf, strLen]
        cases found
        · simp
        · have := h.2 rfl
          simp only [if_true]; omega
end Go.Proofs.YtchkhibgbnhjpaaGreatDoor
