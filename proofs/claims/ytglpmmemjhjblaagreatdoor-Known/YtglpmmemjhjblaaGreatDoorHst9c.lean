import Derived.Test.YtglpmmemjhjblaaGreatDoorHst9b
namespace Go.Proofs.YtglpmmemjhjblaaGreatDoor
open Go.RowKit

/-- The decimal digits, written out. -/
def decC (d : Nat) : UInt8 := UInt8.ofNat (48 + d)
def decD (n : Nat) : List UInt8 :=
  if n < 10 then [decC n] else if n < 100 then [decC (n / 10), decC (n % 10)] else if n < 1000 then [decC (n / 100), decC (n / 10 % 10), decC (n % 10)]
  else if n < 10000 then [decC (n / 1000), decC (n / 100 % 10), decC (n / 10 % 10), decC (n % 10)] else [decC (n / 10000), decC (n / 1000 % 10), decC (n / 100 % 10), decC (n / 10 % 10), decC (n % 10)]
theorem dec_step {n : Nat} (h : ¬ n < 10) : Lib.decDigits n = Lib.decDigits (n / 10) ++ [decC (n % 10)] := by rw [Lib.decDigits, dif_neg h]; rfl
theorem dec_last {n : Nat} (h : n < 10) : Lib.decDigits n = [decC n] := by rw [Lib.decDigits, dif_pos h]; rfl
theorem decD_eq (n : Nat) (h : n ≤ 99999) : Lib.decDigits n = decD n := by
  unfold decD
  by_cases h1 : n < 10
  · rw [if_pos h1, dec_last h1]
  rw [if_neg h1, dec_step h1]
  by_cases h2 : n < 100
  · rw [if_pos h2, dec_last (by omega)]; rfl
  rw [if_neg h2, dec_step (by omega), show n / 10 / 10 = n / 100 by omega]
  by_cases h3 : n < 1000
  · rw [if_pos h3, dec_last (by omega)]; rfl
  rw [if_neg h3, dec_step (by omega), show n / 100 / 10 = n / 1000 by omega]
  by_cases h4 : n < 10000
  · rw [if_pos h4, dec_last (by omega)]; rfl
  rw [if_neg h4, dec_step (by omega), show n / 1000 / 10 = n / 10000 by omega, dec_last (by omega)]
  rfl
theorem decD_len (n : Nat) : (decD n).length ≤ 5 := by
  unfold decD
  split
  · simp
  · split
    · simp
    · split
      · simp
      · split <;> simp
theorem fmtD_any (n : Nat) (hn : n ≤ 65535) (w : World) (h : Tb w) :
    Calls Tryz.prog 219 #[.int .i64 n, .int .i64 10] w fun e w' => ∃ r : ByteArray, e = .returned (.string r) ∧ tl r = decD n ∧ Nx w w' := by
  refine (fmt10_any n (by omega) w h).mono ?_
  rintro e w' ⟨r, rfl, hr, hn1⟩
  exact ⟨r, rfl, by rw [hr, decD_eq n (by omega)], hn1⟩
theorem itoaD_any (n : Nat) (hn : n ≤ 65535) (w : World) (h : Tb w) :
    Calls Tryz.prog 53 #[.int .i64 n] w fun e w' => ∃ r : ByteArray, e = .returned (.string r) ∧ tl r = decD n ∧ Nx w w' := by
  refine (itoa_any n (by omega) w h).mono ?_
  rintro e w' ⟨r, rfl, hr, hn1⟩
  exact ⟨r, rfl, by rw [hr, decD_eq n (by omega)], hn1⟩

/-- hosts.writeIPv4 -/
def suf4 (v : Nat) : Nat → List UInt8
  | 0 => []
  | k + 1 => decD (v / 256 ^ k % 256) ++ (if 0 < k then [46] ++ suf4 v k else suf4 v k)
def ip4Text (v : Nat) : List UInt8 := suf4 v 4
theorem suf4_len (v : Nat) : ∀ k, (suf4 v k).length ≤ 6 * k := by
  intro k
  induction k with
  | zero => simp [suf4]
  | succ k ih =>
    rw [suf4, List.length_append]
    have := decD_len (v / 256 ^ k % 256)
    split
    · simp only [List.length_append, List.length_cons, List.length_nil]; omega
    · omega
set_option maxHeartbeats 2000000 in
theorem ip4Text_any (v : Nat) (hv : v ≤ 1099511627776) (w : World) (ht : Tb w) :
    Calls Tryz.prog 214 #[.int .i64 v] w fun e w' => ∃ r : ByteArray, e = .returned (.string r) ∧ tl r = ip4Text v ∧ Nx w w' := by
  have HTB := hide ht
  clear ht
  go_enter Tryz.func214, Tryz.ntmps214
  go_wp2
  go_loopw [3, 4, 5] (fun t r i wr => ∃ (k : Nat) (txt : ByteArray) (rest : Nat), k ≤ 4 ∧ t = .string txt ∧ r = .int .i64 rest ∧ i = .int .i64 k ∧ rest = v / 256 ^ k ∧ tl txt = suf4 v k ∧ Nx w wr) (fun _ _ i _ => 4 - (intOf i).toNat)
  case atStart => exact ⟨0, ⟨#[]⟩, v, by omega, rfl, rfl, rfl, by simp, rfl, Nx.rfl⟩
  case round =>
    obtain ⟨k, txt, rest, hk, rfl, rfl, rfl, hrest, hE, hnx⟩ := hrel
    have hrl : rest ≤ 1099511627776 := by rw [hrest]; exact Nat.le_trans (Nat.div_le_self _ _) hv
    have hsz : txt.size ≤ 100 := by have := suf4_len v k; rw [← hE, tl_length] at this; omega
    have HR := hide hrest
    have HE := hide hE
    have HN := hide hnx
    clear hrest hE hnx
    by_cases hlt : k < 4
    · have HDV := hide (show Int.tdiv (rest : Int) 256 = ((rest / 256 : Nat) : Int) by rw [Int.tdiv_eq_ediv_of_nonneg (by omega)]; omega)
      have HNR := hide (show rest / 256 = v / 256 ^ (k + 1) by rw [HR.out, Nat.div_div_eq_div_mul, Nat.pow_succ])
      have HS := hide (show suf4 v (k + 1) = decD (rest % 256) ++ (if 0 < k then [46] ++ suf4 v k else suf4 v k) by rw [suf4, HR.out])
      by_cases hk0 : 0 < k
      · have HS2 := hide (HS.out.trans (by rw [if_pos hk0]))
        clear HS
        go_wp2_with fail
        refine (fmtD_any (rest % 256) (by omega) _ (HTB.out.on HN.out)).mono ?_
        rintro e w1 ⟨r, rfl, hr, hn1⟩
        have hrs : r.size ≤ 5 := by rw [← tl_length, hr]; exact decD_len _
        have HRR := hide hr
        have HN1 := hide (HN.out.then hn1)
        clear hr hn1
        go_wp2
        go_roundw
        case rel => exact ⟨k + 1, _, rest / 256, by omega, rfl, by simp, by go_num, HNR.out, by rw [HS2.out, tl_append', tl_append', HRR.out, HE.out]; rfl, HN1.out⟩
        case measure => simp [intOf]; omega
      · have HS2 := hide (HS.out.trans (by rw [if_neg hk0]))
        clear HS
        go_wp2_with fail
        refine (fmtD_any (rest % 256) (by omega) _ (HTB.out.on HN.out)).mono ?_
        rintro e w1 ⟨r, rfl, hr, hn1⟩
        have hrs : r.size ≤ 5 := by rw [← tl_length, hr]; exact decD_len _
        have HRR := hide hr
        have HN1 := hide (HN.out.then hn1)
        clear hr hn1
        go_wp2
        go_roundw
        case rel => exact ⟨k + 1, _, rest / 256, by omega, rfl, by simp, by go_num, HNR.out, by rw [HS2.out, tl_append', HRR.out, HE.out], HN1.out⟩
        case measure => simp [intOf]; omega
    · have HE2 := hide (show tl txt = ip4Text v by rw [HE.out, show k = 4 by omega]; rfl)
      go_wp2
      go_ret
      exact ⟨_, rfl, HE2.out, HN.out⟩
end Go.Proofs.YtglpmmemjhjblaaGreatDoor
