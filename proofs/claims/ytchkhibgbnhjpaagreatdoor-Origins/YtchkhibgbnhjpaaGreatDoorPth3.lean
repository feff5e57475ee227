import Derived.Test.YtchkhibgbnhjpaaGreatDoorPth2
namespace Go.Proofs.YtchkhibgbnhjpaaGreatDoor
open Go.RowKit

theorem ownS_openN {w : World} {base : Nat} {v : Value} {bs : List ByteArray} (h : OwnS w base v bs) (h0 : 0 < bs.length) : ∃ g n cap, v = .slice (some ⟨g, 0, none⟩) n cap := by
  obtain ⟨g, cap, h, -, -⟩ := ownS_open h h0
  exact ⟨g, _, cap, h⟩
theorem tl_append' (a b : ByteArray) : tl (a ++ b) = tl a ++ tl b := by simp [tl]
theorem size_append' (a b : ByteArray) : (a ++ b).size = a.size + b.size := by simp
/-- (*paths.path).join -/
def joinL (f : Bool) (ps : List (List UInt8)) (seg : List UInt8) : List (List UInt8) :=
  ps ++ [if f = true ∧ ps = [] ∧ driveB seg = true then seg.take 1 ++ [58] else encB (tl (setBA 4)) (clean seg)]
theorem joinL_drive {ps : List (List UInt8)} {seg : List UInt8} (h : ps = []) (hd : driveB seg = true) : joinL true ps seg = ps ++ [seg.take 1 ++ [58]] := by unfold joinL; rw [if_pos ⟨rfl, h, hd⟩]
theorem joinL_no {f : Bool} {ps : List (List UInt8)} {seg : List UInt8} (h : ¬ (f = true ∧ ps = [] ∧ driveB seg = true)) : joinL f ps seg = ps ++ [encB (tl (setBA 4)) (clean seg)] := by unfold joinL; rw [if_neg h]
set_option maxHeartbeats 2000000 in
theorem join_any (pb base : Nat) (f s : Bool) (v : Value) (bs : List ByteArray) (q : ByteArray) (w : World) (hp : PthAt w pb f s v) (ho : OwnS w base v bs) (hb : base ≤ pb) (hbw : base ≤ w.heap.size) (hl : bs.length ≤ 1000000) (hq : q.size ≤ 1000000) :
    Calls Tryz.prog 238 #[.pointer (some ⟨pb, 0, none⟩), .string q] w fun e w' => ∃ x v' bs', e = .returned x ∧ PthAt w' pb f s v' ∧ OwnS w' base v' bs' ∧ bs'.map tl = joinL f (bs.map tl) (tl q) ∧ bs'.length ≤ bs.length + 1 ∧ Below base w w' := by
  have HP := hide hp
  have HO := hide ho
  have HB := hide hb
  clear hp ho hb
  go_enter Tryz.func238, Tryz.ntmps238
  go_wp2_with fail
  refine (encode_any _ _ _ hq).mono ?_
  rintro e w1 ⟨r1, rfl, hr1, hn1⟩
  have HP1 := hide (HP.out.on hn1)
  have HO1 := hide (own_on HO.out hn1)
  have HR1 := hide hr1
  have hz : base ≤ w1.heap.size := Nat.le_trans hbw hn1.size
  have HN1 := hide (show Below base w w1 from hn1.mono hbw)
  clear hr1 hn1 HP HO
  obtain ⟨hc0, hc1, hc2, hf2⟩ := HP1.out.facts
  have hbl : bs.length < 1099511627776 := by omega
  have key : ∀ (y : ByteArray) (w2 : World) (v' : Value), OwnS w2 base v' (bs ++ [y]) → Below base w1 w2 → Kp 9 w1 w2 → PthAt w2 pb f s v ∧ (∀ u, PthAt (w2.setCell ⟨pb, 2, none⟩ u) pb f s u) ∧ (∀ u, OwnS (w2.setCell ⟨pb, 2, none⟩ u) base v' (bs ++ [y])) ∧ (∀ u, Below base w (w2.setCell ⟨pb, 2, none⟩ u)) := by
    intro y w2 v' h1 h2 h3
    have h4 := HP1.out.kp h3
    exact ⟨h4, fun u => h4.set u, fun u => h4.own h1 u, fun u => (HN1.out.trans h2).setCell HB.out u⟩
  have KEY := hide key
  clear key
  cases f
  · have HE := hide (show joinL false (bs.map tl) (tl q) = (bs ++ [r1]).map tl by rw [joinL_no (by rintro ⟨h, -⟩; cases h), List.map_append, List.map_cons, List.map_nil, HR1.out])
    go_wp2_with (at_builtin; go_must (refine app_s1 w1 r1 rfl _ _ rfl base v bs rfl HO1.out rfl hbl hz ?_; intro v' w2 ho2 hb2 hk2; obtain ⟨g2, n2, c2, rfl⟩ := ownS_openN ho2 (by simp); obtain ⟨hp4, hps, hos, hbs⟩ := KEY.out r1 w2 _ ho2 hb2 hk2; obtain ⟨-, -, hd2, hg2⟩ := hp4.facts; have HPS := hide hps; have HOS := hide hos; have HBS := hide hbs; clear ho2 hb2 hk2 hp4 hps hos hbs))
    exact bodyPost_end (results_none rfl _ _ _) rfl ⟨_, _, _, rfl, HPS.out _, HOS.out _, HE.out.symm, by simp, HBS.out _⟩
  · rcases Nat.eq_zero_or_pos bs.length with h0 | hpos
    · have e0 : bs = [] := List.eq_nil_of_length_eq_zero h0
      subst e0
      obtain ⟨ao, cap, rfl⟩ := ownS_open0 HO1.out
      clear h0
      cases hd : driveB (tl q)
      · have HD := hide hd
        have HE := hide (show joinL true ([].map tl) (tl q) = ([] ++ [r1] : List ByteArray).map tl by rw [joinL_no (by rintro ⟨-, -, h⟩; rw [hd] at h; cases h), List.nil_append, List.map_nil, List.nil_append, List.map_cons, List.map_nil, HR1.out])
        clear hd
        go_wp2_with (first | (go_at_call 223; refine (drive_any _ _).mono ?_; rintro e w' ⟨rfl, rfl⟩; rw [HD.out]) | (at_builtin; go_must (refine app_s1 w1 r1 rfl _ _ rfl base _ [] rfl HO1.out rfl hbl hz ?_; intro v' w2 ho2 hb2 hk2; obtain ⟨g2, n2, c2, rfl⟩ := ownS_openN ho2 (by simp); obtain ⟨hp4, hps, hos, hbs⟩ := KEY.out r1 w2 _ ho2 hb2 hk2; obtain ⟨-, -, hd2, hg2⟩ := hp4.facts; have HPS := hide hps; have HOS := hide hos; have HBS := hide hbs; clear ho2 hb2 hk2 hp4 hps hos hbs)))
        exact bodyPost_end (results_none rfl _ _ _) rfl ⟨_, _, _, rfl, HPS.out _, HOS.out _, HE.out.symm, by simp, HBS.out _⟩
      · have hq2 := driveB_len hd
        rw [tl_length] at hq2
        have hq1 : 1 ≤ q.size := by omega
        have HD := hide hd
        have HE := hide (show joinL true ([].map tl) (tl q) = ([] ++ [q.extract 0 1 ++ (⟨#[58]⟩ : ByteArray)] : List ByteArray).map tl by rw [List.map_nil, joinL_drive rfl hd, List.nil_append, List.nil_append, List.map_cons, List.map_nil, tl_append', tl_to]; rfl)
        have hsz : (q.extract 0 1).size ≤ 1000000 := Nat.le_trans (size_to q 1) hq
        clear hd hq2
        go_wp2_with (first | (go_at_call 223; refine (drive_any _ _).mono ?_; rintro e w' ⟨rfl, rfl⟩; rw [HD.out]) | (at_builtin; go_must (refine app_s1 w1 (q.extract 0 1 ++ (⟨#[58]⟩ : ByteArray)) rfl _ _ rfl base _ [] rfl HO1.out rfl hbl hz ?_; intro v' w2 ho2 hb2 hk2; obtain ⟨g2, n2, c2, rfl⟩ := ownS_openN ho2 (by simp); obtain ⟨hp4, hps, hos, hbs⟩ := KEY.out (q.extract 0 1 ++ (⟨#[58]⟩ : ByteArray)) w2 _ ho2 hb2 hk2; obtain ⟨-, -, hd2, hg2⟩ := hp4.facts; have HPS := hide hps; have HOS := hide hos; have HBS := hide hbs; clear ho2 hb2 hk2 hp4 hps hos hbs)))
        exact bodyPost_end (results_none rfl _ _ _) rfl ⟨_, _, _, rfl, HPS.out _, HOS.out _, HE.out.symm, by simp, HBS.out _⟩
    · obtain ⟨g, cap, rfl, hlc, hcm⟩ := ownS_open HO1.out hpos
      unfold maxLen at hcm
      have hn0 : ((bs.length : Int) == 0) = false := beq_eq_false_iff_ne.2 (by omega)
      have HE := hide (show joinL true (bs.map tl) (tl q) = (bs ++ [r1]).map tl by
        rw [joinL_no (by rintro ⟨-, h, -⟩; have := congrArg List.length h; rw [List.length_map] at this; simp at this; subst this; simp at hpos), List.map_append, List.map_cons, List.map_nil, HR1.out])
      go_wp2_with (at_builtin; go_must (refine app_s1 w1 r1 rfl _ _ rfl base _ bs rfl HO1.out rfl hbl hz ?_; intro v' w2 ho2 hb2 hk2; obtain ⟨g2, n2, c2, rfl⟩ := ownS_openN ho2 (by simp); obtain ⟨hp4, hps, hos, hbs⟩ := KEY.out r1 w2 _ ho2 hb2 hk2; obtain ⟨-, -, hd2, hg2⟩ := hp4.facts; have HPS := hide hps; have HOS := hide hos; have HBS := hide hbs; clear ho2 hb2 hk2 hp4 hps hos hbs))
      exact bodyPost_end (results_none rfl _ _ _) rfl ⟨_, _, _, rfl, HPS.out _, HOS.out _, HE.out.symm, by simp, HBS.out _⟩
end Go.Proofs.YtchkhibgbnhjpaaGreatDoor
