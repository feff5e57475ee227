import Derived.Test.YtchkhibgbnhjpaaGreatDoorPgB
import Derived.Laws.Bits64b
namespace Go.Proofs.YtchkhibgbnhjpaaGreatDoor
open Go.RowKit

theorem pow2_16 (w : World) : Calls Tryz.prog 199 #[.int .i64 16] w fun e w' => e = .returned (.bool true) ∧ w = w' := by
  go_enter Tryz.func199, Tryz.ntmps199
  go_wp2
  go_ret
  exact ⟨rfl, rfl⟩
theorem tz64_16 (w : World) (h : w.cell? ⟨2, 15, none⟩ = some (.int .u8 4)) : Calls Tryz.prog 228 #[.int .u64 16] w fun e w' => e = .returned (.int .i64 4) ∧ w = w' := by
  have e1 : IntKind.u64.wrap (bits BinOp.and IntKind.u64 16 (IntKind.u64.wrap (-16)) * 285870213051353865) / 288230376151711744 = 15 := by decide
  go_enter Tryz.func228, Tryz.ntmps228
  go_wp2
  go_ret
  exact ⟨rfl, rfl⟩
theorem tz_16 (w : World) (h : w.cell? ⟨2, 15, none⟩ = some (.int .u8 4)) : Calls Tryz.prog 200 #[.int .u64 16] w fun e w' => e = .returned (.int .i64 4) ∧ w = w' := by
  go_enter Tryz.func200, Tryz.ntmps200
  go_wp2_with (go_at_call 228; refine (tz64_16 _ h).mono ?_; rintro e w' ⟨rfl, rfl⟩)
  go_ret
  exact ⟨rfl, rfl⟩
/-- The small digits to the base 16. -/
def hexC (d : Nat) : UInt8 := if d < 10 then UInt8.ofNat (48 + d) else UInt8.ofNat (87 + d)
def hexD (n : Nat) : List UInt8 := if n < 16 then [hexC n] else if n < 256 then [hexC (n / 16), hexC (n % 16)] else if n < 4096 then [hexC (n / 256), hexC (n / 16 % 16), hexC (n % 16)] else [hexC (n / 4096), hexC (n / 256 % 16), hexC (n / 16 % 16), hexC (n % 16)]
theorem hexD_small {n : Nat} (h : n < 16) : hexD n = [hexC n] := by unfold hexD; rw [if_pos h]
theorem hexD_step {n : Nat} (h : 16 ≤ n) (h2 : n ≤ 65535) : hexD n = hexD (n / 16) ++ [hexC (n % 16)] := by
  unfold hexD
  by_cases h1 : n < 256
  · rw [if_neg (by omega), if_pos h1, if_pos (by omega)]; rfl
  · by_cases h3 : n < 4096
    · rw [if_neg (by omega), if_neg h1, if_pos h3, if_neg (by omega), if_pos (by omega), show n / 16 / 16 = n / 256 by omega]; rfl
    · rw [if_neg (by omega), if_neg h1, if_neg h3, if_neg (by omega), if_neg (by omega), if_pos (by omega), show n / 16 / 256 = n / 4096 by omega, show n / 16 / 16 = n / 256 by omega]; rfl
theorem hexD_len (n : Nat) : 1 ≤ (hexD n).length ∧ (hexD n).length ≤ 4 := by
  unfold hexD
  split
  · simp
  · split
    · simp
    · split <;> simp
/-- The bytes in which the digits are laid. -/
def BufAt (w : World) (ab : Nat) (cs : List UInt8) : Prop := w.heap[ab]? = some (Obj.cells (cs.map fun b => Value.int .u8 (b.toNat : Int)).toArray 176 (0, 0)) ∧ cs.length = 65
theorem BufAt.cell {w : World} {ab : Nat} {cs : List UInt8} (h : BufAt w ab cs) {i : Nat} (hi : i < cs.length) : w.cell? ⟨ab, i, none⟩ = some (.int .u8 (cs[i].toNat : Int)) := by
  have h1 := h.1
  simp [World.cell?, h1, List.getElem?_eq_getElem hi]
theorem BufAt.free {w : World} {ab : Nat} {cs : List UInt8} (h : BufAt w ab cs) (i : Nat) : w.frozen? ⟨ab, i, none⟩ = false := by
  have h1 := h.1
  simp [World.frozen?, h1]
theorem BufAt.set {w : World} {ab : Nat} {cs : List UInt8} (h : BufAt w ab cs) (i : Nat) (x : UInt8) (y : Int) (hy : y = (x.toNat : Int)) : BufAt (w.setCell ⟨ab, i, none⟩ (.int .u8 y)) ab (cs.set i x) := by
  subst hy
  obtain ⟨h1, h2⟩ := h
  refine ⟨?_, by rw [List.length_set]; exact h2⟩
  simp only [World.setCell, Array.getElem?_modify, if_pos, h1]
  simp [List.map_set]
theorem buf_new (w : World) : BufAt (w.alloc (Obj.cells Tryz.zeroCells176 176)) w.heap.size (List.replicate 65 0) := ⟨(heap_alloc_new w _).trans (by kernel_rfl), rfl⟩
def digitsBA : ByteArray := ⟨#[48, 49, 50, 51, 52, 53, 54, 55, 56, 57, 97, 98, 99, 100, 101, 102, 103, 104, 105, 106, 107, 108, 109, 110, 111, 112, 113, 114, 115, 116, 117, 118, 119, 120, 121, 122]⟩
theorem digit_at (d : Nat) (h : d < 16) (hh : d < digitsBA.size) : digitsBA[d]'hh = hexC d := by
  match d, h with
  | 0, _ => rfl
  | 1, _ => rfl
  | 2, _ => rfl
  | 3, _ => rfl
  | 4, _ => rfl
  | 5, _ => rfl
  | 6, _ => rfl
  | 7, _ => rfl
  | 8, _ => rfl
  | 9, _ => rfl
  | 10, _ => rfl
  | 11, _ => rfl
  | 12, _ => rfl
  | 13, _ => rfl
  | 14, _ => rfl
  | 15, _ => rfl
  | k + 16, h => exact absurd h (by omega)
theorem drop_set (cs : List UInt8) (j : Nat) (d : UInt8) (h : j < cs.length) : (cs.set j d).drop j = d :: cs.drop (j + 1) := by
  rw [List.drop_eq_getElem_cons (by rw [List.length_set]; exact h), List.getElem_set_self, List.drop_set_of_lt (by omega)]
theorem hexC_digit (m : Nat) (hh : m % 16 < digitsBA.size) : (((digitsBA[m % 16]'hh).toNat : Nat) : Int) = ((hexC (m % 16)).toNat : Int) := by rw [digit_at (m % 16) (by omega) hh]
theorem hexC_digit' (m : Nat) (h : m < 16) (hh : m < digitsBA.size) : (((digitsBA[m]'hh).toNat : Nat) : Int) = ((hexC m).toNat : Int) := by rw [digit_at m h hh]
theorem and15 (m : Nat) (h : m ≤ 65535) : bits BinOp.and IntKind.u64 (m : Int) 15 = ((m % 16 : Nat) : Int) := by
  have := bits_and_u64_nat m 15 (by omega) (by decide)
  rw [show ((15 : Nat) : Int) = 15 from rfl] at this
  rw [this, show (15 : Nat) = 2 ^ 4 - 1 from rfl, Nat.and_two_pow_sub_one_eq_mod]
set_option maxHeartbeats 2000000 in
set_option maxRecDepth 100000 in
theorem fbits_any (n : Nat) (hn : n ≤ 65535) (w : World) (h : w.cell? ⟨2, 15, none⟩ = some (.int .u8 4)) :
    Calls Tryz.prog 161 #[.slice none 0 0, .int .u64 n, .int .i64 16, .bool false, .bool false] w fun e w' => ∃ r : ByteArray, e = .returned (.tuple #[.slice none 0 0, .string r]) ∧ tl r = hexD n ∧ Nx w w' := by
  go_enter Tryz.func161, Tryz.ntmps161
  have h' : ∀ o, (w.alloc o).cell? ⟨2, 15, none⟩ = some (.int .u8 4) := fun o => ((Nx.rfl.alloc o).cell (World.block_lt_of_cell? w _ h)).trans h
  go_wp2_with (first | (go_at_call 199; refine (pow2_16 _).mono ?_; rintro e w' ⟨rfl, rfl⟩) | (go_at_call 200; refine (tz_16 _ (h' _)).mono ?_; rintro e w' ⟨rfl, rfl⟩))
  clear h'
  go_loopw [1, 13] (fun u i wr => ∃ (m j : Nat) (cs : List UInt8), u = .int .u64 m ∧ i = .int .i64 ((j : Int) + 1) ∧ m ≤ 65535 ∧ j ≤ 64 ∧ BufAt wr w.heap.size cs ∧ hexD n = hexD m ++ cs.drop (j + 1) ∧ (hexD m).length + (64 - j) ≤ 4 ∧ Nx w wr) (fun u _ _ => (intOf u).toNat)
  case atStart => exact ⟨n, 64, _, rfl, rfl, hn, by omega, buf_new w, by rw [List.drop_of_length_le (by simp), List.append_nil], by have := hexD_len n; omega, Nx.rfl.alloc _⟩
  case round =>
    obtain ⟨m, j, cs, rfl, rfl, hm, hj, hbuf, hE, hL, hnx⟩ := hrel
    have hl := hexD_len m
    have hjl : j < cs.length := by have := hbuf.2; omega
    have hcj := hbuf.cell hjl
    have hfj := hbuf.free j
    have hand := and15 m hm
    have HB := hide hbuf
    have HE := hide hE
    have HL := hide hL
    have HN := hide hnx
    clear hbuf hE hL hnx
    generalize cs[j] = old at *
    by_cases h16 : 16 ≤ m
    · have hst := hexD_step h16 hm
      have HST := hide hst
      have hl2 := congrArg List.length hst
      rw [List.length_append, List.length_singleton] at hl2
      have hl3 := hexD_len (m / 16)
      have HL2 := hide hl2
      have hj1 : 1 ≤ j := by have := HL.out; omega
      clear hst hl2
      go_wp2
      refine ⟨⟨m / 16, j - 1, cs.set j (hexC (m % 16)), by simp, by rw [show ((j - 1 : Nat) : Int) + 1 = (j : Int) by omega], by omega, by omega, HB.out.set j (hexC (m % 16)) _ (hexC_digit m _), ?_, by have := HL.out; have := HL2.out; omega, HN.out.setCell (Nat.le_refl _) _⟩, by simp [intOf]; omega⟩
      rw [HE.out, HST.out, show j - 1 + 1 = j by omega, drop_set cs j _ hjl, List.append_assoc]
      rfl
    · have HST := hide (hexD_small (n := m) (by omega))
      have h16' : m < 16 := by omega
      have HB2 := hide (HB.out.set j (hexC m) _ rfl)
      have HE2 := hide (show hexD n = (cs.set j (hexC m)).drop j by rw [HE.out, HST.out, drop_set cs j _ hjl]; rfl)
      have hdg : ∀ hh, ((((⟨#[48, 49, 50, 51, 52, 53, 54, 55, 56, 57, 97, 98, 99, 100, 101, 102, 103, 104, 105, 106, 107, 108, 109, 110, 111, 112, 113, 114, 115, 116, 117, 118, 119, 120, 121, 122]⟩ : ByteArray)[m]'hh).toNat : Nat) : Int) = ((hexC m).toNat : Int) := fun hh => hexC_digit' m h16' hh
      have hcv : (convert 109 9 (.slice (some ⟨w.heap.size, j, none⟩) (65 - j) (65 - j))).run Tryz.prog (wr.setCell ⟨w.heap.size, j, none⟩ (.int .u8 ((hexC m).toNat : Int))) = .ok (.string ⟨(hexD n).toArray⟩) (wr.setCell ⟨w.heap.size, j, none⟩ (.int .u8 ((hexC m).toNat : Int))) := by
        have hlen : ((cs.set j (hexC m)).drop j).length = 65 - j := by rw [List.length_drop, HB2.out.2]
        have := run_convert_bytes_back (P := Tryz.prog) (wr.setCell ⟨w.heap.size, j, none⟩ (.int .u8 ((hexC m).toNat : Int))) 109 9 5 ⟨w.heap.size, j, none⟩ (65 - j) ((cs.set j (hexC m)).drop j) Tryz.underlying109 Tryz.underlying5 Tryz.underlying9 (fun i hi => by
          rw [List.length_drop] at hi
          rw [Addr.add_lit, HB2.out.cell (i := j + i) (by omega), List.getElem_drop])
        rw [hlen] at this
        rw [this, HE2.out]
      have hsl : ∀ W, (Instr.sliceAt 176 (.pointer (some ⟨w.heap.size, 0, none⟩)) (some (.int .i64 (j : Int))) none none).run Tryz.prog W = .ok (.slice (some ⟨w.heap.size, j, none⟩) (65 - j) (65 - j)) W := fun W => by
        rw [run_sliceAt_array_l W 176 ⟨w.heap.size, 0, none⟩ (by simp [Program.arrayLen, Program.elem, Tryz.underlying176]) .i64 (j : Int) (by omega) (by rw [show Tryz.prog.arrayLen 176 = 65 by kernel_rfl]; omega)]
        rw [show Tryz.prog.arrayLen 176 = 65 by kernel_rfl, show Tryz.prog.elem 176 = 5 by kernel_rfl]
        rw [Tryz.sizeOf5]
        simp [slicedAt, Result.andThen, Addr.add_lit]
        omega
      go_wp2
      go_ret2
      exact ⟨_, rfl, tl_mk _, HN.out.setCell (Nat.le_refl _) _⟩
theorem fmt16_in (n : Nat) (hn : n ≤ 65535) (w : World) (h : w.cell? ⟨2, 15, none⟩ = some (.int .u8 4)) :
    Calls Tryz.prog 119 #[.int .i64 n, .int .i64 16] w fun e w' => ∃ r : ByteArray, e = .returned (.string r) ∧ tl r = hexD n ∧ Nx w w' := by
  go_enter Tryz.func119, Tryz.ntmps119
  go_wp2_with (go_at_call 161; refine (fbits_any n hn _ h).mono ?_; rintro e w1 ⟨r, rfl, hr, hn1⟩; have HR := hide hr; have HN := hide hn1; clear hr hn1)
  go_ret
  exact ⟨_, rfl, HR.out, HN.out⟩
theorem fmt16_any (n : Nat) (hn : n ≤ 65535) (w : World) (h : w.cell? ⟨2, 15, none⟩ = some (.int .u8 4)) :
    Calls Tryz.prog 254 #[.int .i64 n, .int .i64 16] w fun e w' => ∃ r : ByteArray, e = .returned (.string r) ∧ tl r = hexD n ∧ Nx w w' := by
  go_enter Tryz.func254, Tryz.ntmps254
  go_wp2_with (go_at_call 119; refine (fmt16_in n hn _ h).mono ?_; rintro e w1 ⟨r, rfl, hr, hn1⟩; have HR := hide hr; have HN := hide hn1; clear hr hn1)
  go_ret
  exact ⟨_, rfl, HR.out, HN.out⟩
end Go.Proofs.YtchkhibgbnhjpaaGreatDoor
