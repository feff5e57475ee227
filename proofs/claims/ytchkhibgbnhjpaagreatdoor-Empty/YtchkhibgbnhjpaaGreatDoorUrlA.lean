import Derived.Test.YtchkhibgbnhjpaaGreatDoorUrl1
import Derived.Test.YtchkhibgbnhjpaaGreatDoorAtA
namespace Go.Proofs.YtchkhibgbnhjpaaGreatDoor
open Go.RowKit

/-- As ParsedIs, and the URL's block is new. -/
def ParsedIs2 (n : Nat) (e : Ending) (w' : World) (x : U × Int) : Prop :=
  (x.2 ≠ 0 ∧ e = .returned (.tuple #[.pointer none, .int .i64 x.2])) ∨ (x.2 = 0 ∧ ∃ (pb : Nat) (r : Rc) (bs : List ByteArray), e = .returned (.tuple #[.pointer (some ⟨pb, 0, none⟩), .int .i64 0]) ∧ UrlB w' pb r ∧ RcIs w' r x.1 bs ∧ n ≤ pb)
set_option maxHeartbeats 16000000 in
theorem parseU_new (s base : ByteArray) (based : Bool) (w : World) (hs : s.size ≤ maxLen) (hb : base.size ≤ maxLen) (ht : Tb w) :
    Calls Tryz.prog 30 #[.string s, .string base, .bool based] w fun e w' => ParsedIs2 w.heap.size e w' (parseU (tl s) (tl base) based) ∧ Nx w w' := by
  have HTB := hide ht
  clear ht
  unfold maxLen at hs hb
  have HD := hide (show parseU (tl s) (tl base) based = if 160 < s.size ∨ (based = true ∧ 160 < base.size) then (zeroU, 1)
    else if (baseU (tl base) based).2 ≠ 0 then (zeroU, (baseU (tl base) based).2) else againstU (tl s) (baseU (tl base) based).1 by rw [← tl_length s, ← tl_length base]; rfl)
  by_cases h1 : 160 < s.size
  · have HE := hide (HD.out.trans (if_pos (Or.inl h1)))
    clear HD
    go_enter Tryz.func30, Tryz.ntmps30
    go_wp2
    go_ret2
    exact ⟨Or.inl ⟨by rw [HE.out]; decide, by rw [HE.out]; rfl⟩, Nx.rfl⟩
  by_cases h2 : based = true ∧ 160 < base.size
  · have HE := hide (HD.out.trans (if_pos (Or.inr h2)))
    obtain ⟨rfl, h3⟩ := h2
    clear HD
    go_enter Tryz.func30, Tryz.ntmps30
    go_wp2
    go_ret2
    exact ⟨Or.inl ⟨by rw [HE.out]; decide, by rw [HE.out]; rfl⟩, Nx.rfl⟩
  have HD2 := hide (HD.out.trans (if_neg (by rintro (h | h); exact h1 h; exact h2 h)))
  clear HD
  have HBC := hide (fun w1 (hn : Nx w w1) => baseU_any base based w1 (fun hb => by have : ¬ 160 < base.size := fun h => h2 ⟨hb, h⟩; omega) (HTB.out.on hn))
  have two : based = false ∨ (based = true ∧ ¬ 160 < base.size) := by
    cases based
    · exact Or.inl rfl
    · exact Or.inr ⟨rfl, fun h => h2 ⟨rfl, h⟩⟩
  clear h2
  rcases two with rfl | ⟨rfl, h3⟩
  · go_enter Tryz.func30, Tryz.ntmps30
    go_wp2_with fail
    refine (HBC.out _ Nx.rfl).mono ?_
    rintro e w1 ⟨⟨r, ds, rfl, hr, hdl⟩, hn1⟩
    have HR := hide hr
    have HN1 := hide hn1
    clear hr hn1
    generalize baseU (tl base) false = q at *
    obtain ⟨qu, err⟩ := q
    simp only at HR HD2
    by_cases he : err = 0
    · subst he
      have HE := hide (HD2.out.trans (if_neg (by decide)))
      clear HD2
      go_wp2_with fail
      refine (againstU_any s r qu ds _ (HR.out.on (Nx.rfl.alloc _)) (by omega) (by omega) (HTB.out.on (HN1.out.alloc _))).mono ?_
      rintro e w2 ⟨⟨r2, ds2, rfl, hr2, hdl2⟩, hn2⟩
      have HR2 := hide hr2
      have HN2 := hide ((HN1.out.alloc _).then hn2)
      clear hr2 hn2
      generalize againstU (tl s) qu = q2 at *
      obtain ⟨qu2, err2⟩ := q2
      simp only at HR2
      by_cases he2 : err2 = 0
      · subst he2
        go_wp2
        go_ret2
        refine ⟨Or.inr ⟨by rw [HE.out], w2.heap.size + 1, r2, ds2, rfl, ?_, by rw [HE.out]; exact HR2.out.on ((Nx.rfl.alloc _).alloc _), Nat.le_trans HN2.out.size (Nat.le_succ _)⟩, (HN2.out.alloc _).alloc _⟩
        have h := urlB_new (w2.alloc (Obj.cells #[.string r2.sch, .string r2.nam, .string r2.pw, .bool r2.hh, .string r2.host, .bool r2.hp, .int .i64 (r2.port : Int), .bool r2.op, .string r2.opath, .slice r2.so r2.sn r2.sc, .bool r2.hq, .string r2.q, .bool r2.hf, .string r2.fr] 54)) r2
        rw [show (w2.alloc (Obj.cells #[.string r2.sch, .string r2.nam, .string r2.pw, .bool r2.hh, .string r2.host, .bool r2.hp, .int .i64 (r2.port : Int), .bool r2.op, .string r2.opath, .slice r2.so r2.sn r2.sc, .bool r2.hq, .string r2.q, .bool r2.hf, .string r2.fr] 54)).heap.size = w2.heap.size + 1 by simp] at h
        exact h
      · have he' : (err2 != 0) = true := bneT (beq_eq_false_iff_ne.2 he2)
        have HE2 := hide he2
        clear he2
        go_wp2
        go_ret2
        exact ⟨Or.inl ⟨by rw [HE.out]; exact HE2.out, by rw [HE.out]; rfl⟩, HN2.out.alloc _⟩
    · have HE := hide (HD2.out.trans (if_pos he))
      have he' : (err != 0) = true := bneT (beq_eq_false_iff_ne.2 he)
      have HE2 := hide he
      clear HD2 he
      go_wp2
      go_ret2
      exact ⟨Or.inl ⟨by rw [HE.out]; exact HE2.out, by rw [HE.out]; rfl⟩, HN1.out.alloc _⟩
  · go_enter Tryz.func30, Tryz.ntmps30
    go_wp2_with fail
    refine (HBC.out _ Nx.rfl).mono ?_
    rintro e w1 ⟨⟨r, ds, rfl, hr, hdl⟩, hn1⟩
    have HR := hide hr
    have HN1 := hide hn1
    clear hr hn1
    generalize baseU (tl base) true = q at *
    obtain ⟨qu, err⟩ := q
    simp only at HR HD2
    by_cases he : err = 0
    · subst he
      have HE := hide (HD2.out.trans (if_neg (by decide)))
      clear HD2
      go_wp2_with fail
      refine (againstU_any s r qu ds _ (HR.out.on (Nx.rfl.alloc _)) (by omega) (by omega) (HTB.out.on (HN1.out.alloc _))).mono ?_
      rintro e w2 ⟨⟨r2, ds2, rfl, hr2, hdl2⟩, hn2⟩
      have HR2 := hide hr2
      have HN2 := hide ((HN1.out.alloc _).then hn2)
      clear hr2 hn2
      generalize againstU (tl s) qu = q2 at *
      obtain ⟨qu2, err2⟩ := q2
      simp only at HR2
      by_cases he2 : err2 = 0
      · subst he2
        go_wp2
        go_ret2
        refine ⟨Or.inr ⟨by rw [HE.out], w2.heap.size + 1, r2, ds2, rfl, ?_, by rw [HE.out]; exact HR2.out.on ((Nx.rfl.alloc _).alloc _), Nat.le_trans HN2.out.size (Nat.le_succ _)⟩, (HN2.out.alloc _).alloc _⟩
        have h := urlB_new (w2.alloc (Obj.cells #[.string r2.sch, .string r2.nam, .string r2.pw, .bool r2.hh, .string r2.host, .bool r2.hp, .int .i64 (r2.port : Int), .bool r2.op, .string r2.opath, .slice r2.so r2.sn r2.sc, .bool r2.hq, .string r2.q, .bool r2.hf, .string r2.fr] 54)) r2
        rw [show (w2.alloc (Obj.cells #[.string r2.sch, .string r2.nam, .string r2.pw, .bool r2.hh, .string r2.host, .bool r2.hp, .int .i64 (r2.port : Int), .bool r2.op, .string r2.opath, .slice r2.so r2.sn r2.sc, .bool r2.hq, .string r2.q, .bool r2.hf, .string r2.fr] 54)).heap.size = w2.heap.size + 1 by simp] at h
        exact h
      · have he' : (err2 != 0) = true := bneT (beq_eq_false_iff_ne.2 he2)
        have HE2 := hide he2
        clear he2
        go_wp2
        go_ret2
        exact ⟨Or.inl ⟨by rw [HE.out]; exact HE2.out, by rw [HE.out]; rfl⟩, HN2.out.alloc _⟩
    · have HE := hide (HD2.out.trans (if_pos he))
      have he' : (err != 0) = true := bneT (beq_eq_false_iff_ne.2 he)
      have HE2 := hide he
      clear HD2 he
      go_wp2
      go_ret2
      exact ⟨Or.inl ⟨by rw [HE.out]; exact HE2.out, by rw [HE.out]; rfl⟩, HN1.out.alloc _⟩
end Go.Proofs.YtchkhibgbnhjpaaGreatDoor

namespace Go.Proofs.YtchkhibgbnhjpaaGreatDoor
open Go.RowKit

def AtIs2 (n : Nat) (e : Ending) (w' : World) (x : U × Int) : Prop :=
  e = .returned (.tuple #[.pointer none, .bool true]) ∨ (x.2 = 0 ∧ ∃ (ib pb : Nat) (r : Rc) (bs : List ByteArray), e = .returned (.tuple #[.pointer (some ⟨ib, 0, none⟩), .bool true]) ∧ ItemB w' ib pb ∧ UrlB w' pb r ∧ RcIs w' r x.1 bs ∧ n ≤ pb)
set_option maxHeartbeats 16000000 in
theorem at_new (s base : ByteArray) (based : Bool) (w : World) (hs : s.size ≤ maxLen) (hb : base.size ≤ maxLen) (ht : Tb w) :
    Calls Tryz.prog 19 #[.string s, .string base, .bool based] w fun e w' => AtIs2 w.heap.size e w' (parseU (tl s) (tl base) based) ∧ Nx w w' := by
  have HTB := hide ht
  have HPA := hide (parseU_new s base based w hs hb ht)
  have HST := hide (fun w1 (hn : Nx w w1) => stands_any s.size hs w1 (HTB.out.on hn))
  clear ht
  unfold maxLen at hs hb
  by_cases h1 : 65536 < s.size
  · clear HPA HST HTB
    go_enter Tryz.func19, Tryz.ntmps19
    go_wp2
    go_ret2
    exact ⟨Or.inl rfl, Nx.rfl⟩
  by_cases h2 : 65536 < base.size
  · clear HPA HST HTB
    go_enter Tryz.func19, Tryz.ntmps19
    go_wp2
    go_ret2
    exact ⟨Or.inl rfl, Nx.rfl⟩
  by_cases h3 : 160 < s.size
  · skip
    have HX := hide (parse_long (tl s) (tl base) based (by rw [tl_length, tl_length]; first | exact Or.inl h3 | exact Or.inr ⟨rfl, h4⟩))
    go_enter Tryz.func19, Tryz.ntmps19
    go_wp2_with fail
    refine HPA.out.mono ?_
    rintro e w1 ⟨hp, hn⟩
    have HN := hide hn
    clear hn HPA
    generalize hpx : parseU (tl s) (tl base) based = x at *
    obtain ⟨xu, xe⟩ := x
    have HPX := hide hpx
    clear hpx
    simp only at HX
    rcases hp with ⟨hx, rfl⟩ | ⟨hx, pb, r, bs, rfl, hu, hr, hnew⟩
    · obtain rfl : xe = 1 := HX.out
      clear hx HX
      go_wp2_with (go_at_call 32; refine (HST.out _ HN.out).mono ?_; rintro e w2 ⟨rfl, hn2⟩; have HN2 := hide (HN.out.then hn2); clear hn2)
      go_ret2
      exact ⟨Or.inl rfl, HN2.out⟩
    · exact absurd (hx.symm.trans HX.out) (by decide)
  cases based
  · skip
    have HX := hide (parse_short (tl s) (tl base) false (by rw [tl_length, tl_length]; exact fun h => h.elim h3 (fun k => by cases k.1)))
    have hd : decide (160 < (s.size : Int)) = false := decide_eq_false (by omega)
    go_enter Tryz.func19, Tryz.ntmps19
    go_wp2_with fail
    refine HPA.out.mono ?_
    rintro e w1 ⟨hp, hn⟩
    have HN := hide hn
    clear hn HPA
    generalize hpx : parseU (tl s) (tl base) false = x at *
    obtain ⟨xu, xe⟩ := x
    have HPX := hide hpx
    clear hpx
    simp only at HX
    rcases hp with ⟨hx, rfl⟩ | ⟨hx, pb, r, bs, rfl, hu, hr, hnew⟩
    · have hx0 : (xe != 0) = true := bneT (beq_eq_false_iff_ne.2 hx)
      have hx1 : (xe == 1) = false := beq_eq_false_iff_ne.2 HX.out
      clear hx HX
      go_wp2_with (go_at_call 32; refine (HST.out _ HN.out).mono ?_; rintro e w2 ⟨rfl, hn2⟩; have HN2 := hide (HN.out.then hn2); clear hn2)
      go_ret2
      exact ⟨Or.inl (by first | rfl | simp [hd]), HN2.out⟩
    · have HU := hide hu
      have HNW := hide hnew
      clear hnew
      have HR := hide hr
      simp only at hx
      subst hx
      clear hu hr HX HST
      go_wp2
      go_ret2
      exact ⟨Or.inr ⟨by rw [HPX.out], w1.heap.size, pb, r, bs, rfl, itemB_new w1 pb, HU.out.on (Nx.rfl.alloc _), by rw [HPX.out]; exact HR.out.on (Nx.rfl.alloc _), HNW.out⟩, HN.out.alloc _⟩
  · by_cases h4 : 160 < base.size
    · skip
      have HX := hide (parse_long (tl s) (tl base) true (by rw [tl_length, tl_length]; first | exact Or.inl h3 | exact Or.inr ⟨rfl, h4⟩))
      have hd : decide (160 < (s.size : Int)) = false := decide_eq_false (by omega)
      have hd4 : decide (160 < (base.size : Int)) = true := decide_eq_true (by omega)
      go_enter Tryz.func19, Tryz.ntmps19
      go_wp2_with fail
      refine HPA.out.mono ?_
      rintro e w1 ⟨hp, hn⟩
      have HN := hide hn
      clear hn HPA
      generalize hpx : parseU (tl s) (tl base) true = x at *
      obtain ⟨xu, xe⟩ := x
      have HPX := hide hpx
      clear hpx
      simp only at HX
      rcases hp with ⟨hx, rfl⟩ | ⟨hx, pb, r, bs, rfl, hu, hr, hnew⟩
      · obtain rfl : xe = 1 := HX.out
        clear hx HX
        go_wp2_with (go_at_call 32; refine (HST.out _ HN.out).mono ?_; rintro e w2 ⟨rfl, hn2⟩; have HN2 := hide (HN.out.then hn2); clear hn2)
        go_ret2
        exact ⟨Or.inl (by first | rfl | simp [hd, hd4]), HN2.out⟩
      · exact absurd (hx.symm.trans HX.out) (by decide)
    · skip
      have HX := hide (parse_short (tl s) (tl base) true (by rw [tl_length, tl_length]; exact fun h => h.elim h3 (fun k => h4 k.2)))
      have hd : decide (160 < (s.size : Int)) = false := decide_eq_false (by omega)
      have hd4 : decide (160 < (base.size : Int)) = false := decide_eq_false (by omega)
      go_enter Tryz.func19, Tryz.ntmps19
      go_wp2_with fail
      refine HPA.out.mono ?_
      rintro e w1 ⟨hp, hn⟩
      have HN := hide hn
      clear hn HPA
      generalize hpx : parseU (tl s) (tl base) true = x at *
      obtain ⟨xu, xe⟩ := x
      have HPX := hide hpx
      clear hpx
      simp only at HX
      rcases hp with ⟨hx, rfl⟩ | ⟨hx, pb, r, bs, rfl, hu, hr, hnew⟩
      · have hx0 : (xe != 0) = true := bneT (beq_eq_false_iff_ne.2 hx)
        have hx1 : (xe == 1) = false := beq_eq_false_iff_ne.2 HX.out
        clear hx HX
        go_wp2_with (go_at_call 32; refine (HST.out _ HN.out).mono ?_; rintro e w2 ⟨rfl, hn2⟩; have HN2 := hide (HN.out.then hn2); clear hn2)
        go_ret2
        exact ⟨Or.inl (by first | rfl | simp [hd, hd4]), HN2.out⟩
      · have HU := hide hu
        have HNW := hide hnew
        clear hnew
        have HR := hide hr
        simp only at hx
        subst hx
        clear hu hr HX HST
        go_wp2
        go_ret2
        exact ⟨Or.inr ⟨by rw [HPX.out], w1.heap.size, pb, r, bs, rfl, itemB_new w1 pb, HU.out.on (Nx.rfl.alloc _), by rw [HPX.out]; exact HR.out.on (Nx.rfl.alloc _), HNW.out⟩, HN.out.alloc _⟩
end Go.Proofs.YtchkhibgbnhjpaaGreatDoor
