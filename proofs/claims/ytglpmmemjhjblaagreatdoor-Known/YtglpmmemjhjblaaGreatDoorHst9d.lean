import Derived.Test.YtglpmmemjhjblaaGreatDoorHst9c
namespace Go.Proofs.YtglpmmemjhjblaaGreatDoor
open Go.RowKit

theorem bdec_len (l : List UInt8) : (bdecode l).length ≤ l.length := by
  generalize hn : l.length = n
  induction n using Nat.strongRecOn generalizing l with
  | ind n ih =>
    cases l with
    | nil => rw [bdecode]; simp
    | cons c r =>
      rw [List.length_cons] at hn
      have key : bdecode (c :: r) = if (coded (c :: r)).2 then toB (coded (c :: r)).1 :: bdecode (r.drop 2) else c :: bdecode r := by rw [bdecode]
      rw [key]
      split
      · have := ih (r.drop 2).length (by rw [List.length_drop]; omega) _ rfl
        rw [List.length_drop] at this
        rw [List.length_cons]
        omega
      · have := ih r.length (by omega) _ rfl
        rw [List.length_cons]
        omega
theorem low_len (l : List UInt8) : (lower l).length = l.length := by simp [lower]
/-- hosts.readOther -/
def otherL (l : List UInt8) : List UInt8 × Int := if (l.any fun b => among b.toNat forbB) = true then ([], 2) else (encB (tl (setBA 0)) (clean l), 0)
set_option maxHeartbeats 2000000 in
theorem other_any (s : ByteArray) (w : World) (hs : s.size ≤ 1000000) :
    Calls Tryz.prog 201 #[.string s] w fun e w' => ∃ r : ByteArray, e = .returned (.tuple #[.string r, .int .i64 (otherL (tl s)).2]) ∧ tl r = (otherL (tl s)).1 ∧ Nx w w' := by
  have HD := hide (show otherL (tl s) = if ((tl s).any fun b => among b.toNat forbB) = true then ([], 2) else (encB (tl (setBA 0)) (clean (tl s)), 0) from rfl)
  go_enter Tryz.func201, Tryz.ntmps201
  go_wp2
  go_loop [4] (fun i => ∃ k : Nat, k ≤ s.size ∧ i = .int .i64 k ∧ (((tl s).take k).any fun b => among b.toNat forbB) = false) (fun i => s.size - (intOf i).toNat)
  case atStart => exact ⟨0, Nat.zero_le _, rfl, rfl⟩
  case round =>
    obtain ⟨k, hk, rfl, ha⟩ := hrel
    have HA := hide ha
    clear ha
    by_cases hlt : k < s.size
    · have hb := bb s[k]
      cases hA : among (s[k].toNat : Int) forbB
      · have HH := hide (show (((tl s).take (k + 1)).any fun b => among b.toNat forbB) = false by rw [tl_take_succ s k hlt, any_snoc, HA.out, hA]; rfl)
        have HA2 := hide hA
        clear hA
        go_wp2_with (go_at_call 107; refine (contains_any _ _ _ (small_len (by decide))).mono ?_; rintro e w' ⟨rfl, rfl⟩; rw [show among (s[k].toNat : Int) (tl ⟨#[0, 9, 10, 13, 32, 35, 47, 58, 60, 62, 63, 64, 91, 92, 93, 94, 124]⟩) = false from HA2.out])
        go_round
        case rel => exact ⟨k + 1, by omega, by go_num, HH.out⟩
        case measure => simp [intOf]; omega
      · have HE := hide (HD.out.trans (if_pos (any_hitB (fun b => among b.toNat forbB) s k hlt hA)))
        have HA2 := hide hA
        clear hA
        go_wp2_with (go_at_call 107; refine (contains_any _ _ _ (small_len (by decide))).mono ?_; rintro e w' ⟨rfl, rfl⟩; rw [show among (s[k].toNat : Int) (tl ⟨#[0, 9, 10, 13, 32, 35, 47, 58, 60, 62, 63, 64, 91, 92, 93, 94, 124]⟩) = true from HA2.out])
        go_ret2
        exact ⟨⟨#[]⟩, by rw [HE.out]; rfl, by rw [HE.out]; rfl, Nx.rfl⟩
    · have HE := hide (HD.out.trans (if_neg (by have h := HA.out; rw [tl_take_all _ _ (by omega)] at h; rw [h]; decide)))
      go_wp2_with fail
      refine (encode_any s 0 _ hs).mono ?_
      rintro e w1 ⟨r, rfl, hr, hn⟩
      have HR := hide hr
      have HN := hide hn
      clear hr hn
      go_wp2
      go_ret2
      exact ⟨r, by rw [HE.out]; rfl, by rw [HE.out]; exact HR.out, HN.out⟩

/-- hosts.readDomain -/
def domEnd (d : List UInt8) (qs : List (List UInt8)) : List UInt8 × Int :=
  if endsNum qs = false then (d, 0) else if (ip4 qs).2 = true then (ip4Text (ip4 qs).1.toNat, 0) else ([], 2)
def domainL (l : List UInt8) : List UInt8 × Int :=
  if (beyondB (lower (bdecode l)) || puny (bsplit 46 (lower (bdecode l)))) = true then ([], 3)
  else if plainDom (lower (bdecode l)) = false then ([], 2)
  else domEnd (lower (bdecode l)) (noEndL (bsplit 46 (lower (bdecode l))))
theorem ip4Go_rng (ps : List (List UInt8)) : ∀ room value, 0 ≤ room → room ≤ 4294967296 → 0 ≤ value → 0 ≤ (ip4Go ps room value).1 ∧ (ip4Go ps room value).1 ≤ value + ps.length * 4294967296 := by
  induction ps with
  | nil => intro room value h0 h1 h2; rw [ip4Go]; exact ⟨h2, by simp⟩
  | cons p r ih =>
    intro room value h0 h1 h2
    rw [ip4Go, List.length_cons]
    split
    · exact ⟨by decide, by show (0 : Int) ≤ _; omega⟩
    · split
      · exact ⟨by decide, by show (0 : Int) ≤ _; omega⟩
      · rename_i hb
        have hr := readNum_rng p
        have hlt : (readNum p).1 < room := Int.not_le.1 (fun h => hb (Or.inl h))
        split
        · rename_i hne
          have h255 : ¬ 255 < (readNum p).1 := fun h => hb (Or.inr ⟨hne, h⟩)
          have hd0 : 0 ≤ room / 256 := by omega
          have hd1 : room / 256 ≤ 16777216 := by omega
          have hm0 : 0 ≤ (readNum p).1 * (room / 256) := Int.mul_nonneg hr.1 hd0
          have hm1 : (readNum p).1 * (room / 256) ≤ 255 * 16777216 := Int.mul_le_mul (by omega) hd1 hd0 (by decide)
          have := ih (room / 256) (value + (readNum p).1 * (room / 256)) hd0 (by omega) (by omega)
          exact ⟨this.1, by omega⟩
        · have := ih room (value + (readNum p).1) h0 h1 (by omega)
          exact ⟨this.1, by omega⟩
theorem ip4_rng (ps : List (List UInt8)) : 0 ≤ (ip4 ps).1 ∧ (ip4 ps).1 ≤ 17179869184 := by
  unfold ip4
  split
  · exact ⟨by decide, by decide⟩
  · have := ip4Go_rng ps 4294967296 0 (by decide) (by decide) (by decide)
    exact ⟨this.1, by omega⟩
set_option maxHeartbeats 4000000 in
theorem domain_any (s : ByteArray) (w : World) (hs : s.size ≤ 1000000) (ht : Tb w) :
    Calls Tryz.prog 200 #[.string s] w fun e w' => ∃ r : ByteArray, e = .returned (.tuple #[.string r, .int .i64 (domainL (tl s)).2]) ∧ tl r = (domainL (tl s)).1 ∧ Nx w w' := by
  have HTB := hide ht
  clear ht
  go_enter Tryz.func200, Tryz.ntmps200
  go_wp2_with fail
  refine (decode_any s _ hs).mono ?_
  rintro e w1 ⟨dec, rfl, hdec, hn1⟩
  have hds : dec.size ≤ 1000000 := by have := bdec_len (tl s); rw [← hdec, tl_length, tl_length] at this; omega
  go_wp2_with fail
  refine (alower_any dec _ hds).mono ?_
  rintro e w2 ⟨d, rfl, hd, hn2⟩
  have hdd : d.size ≤ 1000000 := by have := low_len (tl dec); rw [← hd, tl_length, tl_length] at this; omega
  have HD := hide (show domainL (tl s) = if (beyondB (tl d) || puny (bsplit 46 (tl d))) = true then ([], 3) else if plainDom (tl d) = false then ([], 2) else domEnd (tl d) (noEndL (bsplit 46 (tl d))) by
    unfold domainL; rw [hd, hdec])
  have HN2 := hide (hn1.then hn2)
  clear hdec hn1 hd hn2
  go_wp2_with fail
  refine (split_any d 46 _ hdd).mono ?_
  rintro e w3 ⟨v, bs, rfl, hv, hbs, hn3⟩
  rw [← hbs] at HD
  have HSZ := hide (show ∀ b ∈ bs, b.size ≤ 1000000 from fun b hb => Nat.le_trans (bsplit_size hbs b hb) hdd)
  have HN3 := hide (HN2.out.then hn3)
  have HV := hide hv
  clear hbs hn3 hv HN2
  cases hbe : beyondB (tl d)
  · cases hpu : puny (bs.map tl)
    · have HD2 := hide (HD.out.trans (if_neg (by rw [hbe, hpu]; decide)))
      have HBE := hide hbe
      have HPU := hide hpu
      clear HD hbe hpu
      cases hpl : plainDom (tl d)
      · have HE := hide (HD2.out.trans (if_pos hpl))
        have HPL := hide hpl
        clear HD2 hpl
        go_wp2_with (first | (go_at_call 208; refine (beyond_any _ _ (small_len hdd)).mono ?_; rintro e w' ⟨rfl, rfl⟩; rw [HBE.out]) | (go_at_call 209; refine (puny_any _ bs _ HV.out HSZ.out).mono ?_; rintro e w' ⟨rfl, rfl⟩; rw [HPU.out]) | (go_at_call 210; refine (plainDom_any _ _ (small_len hdd)).mono ?_; rintro e w' ⟨rfl, rfl⟩; rw [HPL.out]))
        go_ret2
        exact ⟨⟨#[]⟩, by rw [HE.out]; rfl, by rw [HE.out]; rfl, HN3.out⟩
      · have HE := hide (HD2.out.trans (if_neg (by rw [hpl]; decide)))
        have HPL := hide hpl
        rw [← noEnd_map] at HE
        clear HD2 hpl
        go_wp2_with (first | (go_at_call 208; refine (beyond_any _ _ (small_len hdd)).mono ?_; rintro e w' ⟨rfl, rfl⟩; rw [HBE.out]) | (go_at_call 209; refine (puny_any _ bs _ HV.out HSZ.out).mono ?_; rintro e w' ⟨rfl, rfl⟩; rw [HPU.out]) | (go_at_call 210; refine (plainDom_any _ _ (small_len hdd)).mono ?_; rintro e w' ⟨rfl, rfl⟩; rw [HPL.out]))
        refine (noEnd_any _ bs _ HV.out).mono ?_
        rintro e w' ⟨v2, rfl, hv2, rfl⟩
        have HV2 := hide hv2
        have HSZ2 := hide (show ∀ b ∈ noEnd bs, b.size ≤ 1000000 from fun b hb => HSZ.out b (noEnd_mem hb))
        clear hv2
        generalize noEnd bs = qs at *
        have HDE := hide (show domEnd (tl d) (qs.map tl) = if endsNum (qs.map tl) = false then (tl d, 0) else if (ip4 (qs.map tl)).2 = true then (ip4Text (ip4 (qs.map tl)).1.toNat, 0) else ([], 2) from rfl)
        cases hen : endsNum (qs.map tl)
        · have HE2 := hide (HE.out.trans (HDE.out.trans (if_pos hen)))
          have HEN := hide hen
          clear hen HE HDE
          go_wp2_with (go_at_call 212; refine (endsNum_any _ qs _ HV2.out HSZ2.out).mono ?_; rintro e w' ⟨rfl, rfl⟩; rw [HEN.out])
          go_ret2
          exact ⟨d, by rw [HE2.out]; rfl, by rw [HE2.out], HN3.out⟩
        · have HE2 := hide (HE.out.trans (HDE.out.trans (if_neg (by rw [hen]; decide))))
          have HEN := hide hen
          have hrg := ip4_rng (qs.map tl)
          clear hen HE HDE
          generalize hq : ip4 (qs.map tl) = q at *
          have HQ := hide hq
          clear hq
          obtain ⟨val, ok⟩ := q
          simp only at HE2 hrg
          obtain ⟨vn, rfl⟩ : ∃ vn : Nat, val = (vn : Int) := ⟨val.toNat, by omega⟩
          rw [Int.toNat_natCast] at HE2
          have hvn : vn ≤ 1099511627776 := by omega
          clear hrg
          cases ok
          · have HE3 := hide (HE2.out.trans (if_neg (by decide)))
            clear HE2
            go_wp2_with (first | (go_at_call 212; refine (endsNum_any _ qs _ HV2.out HSZ2.out).mono ?_; rintro e w' ⟨rfl, rfl⟩; rw [HEN.out]) | (go_at_call 213; refine (ip4_any _ qs _ HV2.out HSZ2.out).mono ?_; rintro e w' ⟨rfl, rfl⟩; rw [HQ.out]))
            go_ret2
            exact ⟨⟨#[]⟩, by rw [HE3.out]; rfl, by rw [HE3.out]; rfl, HN3.out⟩
          · have HE3 := hide (HE2.out.trans (if_pos rfl))
            clear HE2
            go_wp2_with (first | (go_at_call 212; refine (endsNum_any _ qs _ HV2.out HSZ2.out).mono ?_; rintro e w' ⟨rfl, rfl⟩; rw [HEN.out]) | (go_at_call 213; refine (ip4_any _ qs _ HV2.out HSZ2.out).mono ?_; rintro e w' ⟨rfl, rfl⟩; rw [HQ.out]) | (go_at_call 214; refine (ip4Text_any vn hvn _ (HTB.out.on HN3.out)).mono ?_; rintro e w4 ⟨r, rfl, hr, hn4⟩; have HR := hide hr; have HN4 := hide (HN3.out.then hn4); clear hr hn4))
            go_ret2
            exact ⟨r, by rw [HE3.out]; rfl, by rw [HE3.out]; exact HR.out, HN4.out⟩
    · have HE := hide (HD.out.trans (if_pos (by rw [hpu]; simp)))
      have HBE := hide hbe
      have HPU := hide hpu
      clear HD hbe hpu
      go_wp2_with (first | (go_at_call 208; refine (beyond_any _ _ (small_len hdd)).mono ?_; rintro e w' ⟨rfl, rfl⟩; rw [HBE.out]) | (go_at_call 209; refine (puny_any _ bs _ HV.out HSZ.out).mono ?_; rintro e w' ⟨rfl, rfl⟩; rw [HPU.out]))
      go_ret2
      exact ⟨⟨#[]⟩, by rw [HE.out]; rfl, by rw [HE.out]; rfl, HN3.out⟩
  · have HE := hide (HD.out.trans (if_pos (by rw [hbe]; simp)))
    have HBE := hide hbe
    clear HD hbe
    go_wp2_with (first | (go_at_call 208; refine (beyond_any _ _ (small_len hdd)).mono ?_; rintro e w' ⟨rfl, rfl⟩; rw [HBE.out]) | (go_at_call 209; refine (puny_any _ bs _ HV.out HSZ.out).mono ?_; rintro e w' ⟨rfl, rfl⟩))
    go_ret2
    exact ⟨⟨#[]⟩, by rw [HE.out]; rfl, by rw [HE.out]; rfl, HN3.out⟩

/-- hosts.Read -/
def hostL (l : List UInt8) (sp : Bool) : List UInt8 × Int := if ((l.getD 0 0).toNat : Int) = 91 then bracketsL l else if sp = true then domainL l else otherL l
set_option maxHeartbeats 2000000 in
theorem hostL_any (s : ByteArray) (sp : Bool) (w : World) (hs : s.size ≤ 1000000) (ht : Tb w) :
    Calls Tryz.prog 190 #[.string s, .bool sp] w fun e w' => ∃ r : ByteArray, e = .returned (.tuple #[.string r, .int .i64 (hostL (tl s) sp).2]) ∧ tl r = (hostL (tl s) sp).1 ∧ Nx w w' := by
  have HD := hide (show hostL (tl s) sp = if (((tl s).getD 0 0).toNat : Int) = 91 then bracketsL (tl s) else if sp = true then domainL (tl s) else otherL (tl s) from rfl)
  by_cases h0 : s.size = 0
  · have HE := hide (HD.out.trans (if_neg (by rw [tl_empty h0]; decide)))
    have h0' := str_empty h0
    clear HD h0
    cases sp
    · have HE2 : Hid (hostL (tl s) false = otherL (tl s)) := hide (HE.out.trans (if_neg (by decide)))
      clear HE
      go_enter Tryz.func190, Tryz.ntmps190
      go_wp2_with (go_at_call 201; refine (other_any s _ hs).mono ?_; rintro e w1 ⟨r, rfl, hr, hn⟩; have HR := hide hr; have HN := hide hn; clear hr hn)
      go_ret2
      exact ⟨r, by rw [HE2.out]; rfl, by rw [HE2.out]; exact HR.out, HN.out⟩
    · have HE2 : Hid (hostL (tl s) true = domainL (tl s)) := hide (HE.out.trans (if_pos rfl))
      clear HE
      go_enter Tryz.func190, Tryz.ntmps190
      go_wp2_with (go_at_call 200; refine (domain_any s _ hs ht).mono ?_; rintro e w1 ⟨r, rfl, hr, hn⟩; have HR := hide hr; have HN := hide hn; clear hr hn)
      go_ret2
      exact ⟨r, by rw [HE2.out]; rfl, by rw [HE2.out]; exact HR.out, HN.out⟩
  · have hpos : 0 < s.size := by omega
    have h0' := str_nonempty h0
    rw [tl_getD s 0 hpos] at HD
    have hb := bb (s[0]'hpos)
    clear h0
    cases h91 : (((s[0]'hpos).toNat : Int) == 91)
    · have HE := hide (HD.out.trans (if_neg (by simpa using h91)))
      clear HD
      cases sp
      · have HE2 : Hid (hostL (tl s) false = otherL (tl s)) := hide (HE.out.trans (if_neg (by decide)))
        clear HE
        go_enter Tryz.func190, Tryz.ntmps190
        go_wp2_with (go_at_call 201; refine (other_any s _ hs).mono ?_; rintro e w1 ⟨r, rfl, hr, hn⟩; have HR := hide hr; have HN := hide hn; clear hr hn)
        go_ret2
        exact ⟨r, by rw [HE2.out]; rfl, by rw [HE2.out]; exact HR.out, HN.out⟩
      · have HE2 : Hid (hostL (tl s) true = domainL (tl s)) := hide (HE.out.trans (if_pos rfl))
        clear HE
        go_enter Tryz.func190, Tryz.ntmps190
        go_wp2_with (go_at_call 200; refine (domain_any s _ hs ht).mono ?_; rintro e w1 ⟨r, rfl, hr, hn⟩; have HR := hide hr; have HN := hide hn; clear hr hn)
        go_ret2
        exact ⟨r, by rw [HE2.out]; rfl, by rw [HE2.out]; exact HR.out, HN.out⟩
    · have HE := hide (HD.out.trans (if_pos (by simpa using h91)))
      clear HD
      go_enter Tryz.func190, Tryz.ntmps190
      go_wp2_with (go_at_call 199; refine (brackets_any s _ hs ht).mono ?_; rintro e w1 ⟨r, rfl, hr, hn⟩; have HR := hide hr; have HN := hide hn; clear hr hn)
      go_ret2
      exact ⟨r, by rw [HE.out]; rfl, by rw [HE.out]; exact HR.out, HN.out⟩
end Go.Proofs.YtglpmmemjhjblaaGreatDoor
