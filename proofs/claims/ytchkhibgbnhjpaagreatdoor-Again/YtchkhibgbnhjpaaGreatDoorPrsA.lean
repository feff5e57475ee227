import Derived.Test.YtchkhibgbnhjpaaGreatDoorPgB
import Derived.Laws.OwnMore
import Derived.Deep.Cut
import Derived.Test.YtchkhibgbnhjpaaGreatDoorPth2
namespace Go.Proofs.YtchkhibgbnhjpaaGreatDoor
open Go.RowKit

/-- pairs.withBlanks -/
def plusB (c : UInt8) : UInt8 := if c.toNat = 43 then 32 else c
def plusL (l : List UInt8) : List UInt8 := l.map plusB
theorem plusL_snoc (l : List UInt8) (c : UInt8) : plusL (l ++ [c]) = plusL l ++ [plusB c] := by simp [plusL]
theorem plusL_len (l : List UInt8) : (plusL l).length = l.length := by simp [plusL]
set_option maxHeartbeats 400000 in
theorem plusL_any (s : ByteArray) (w : World) (hs : s.size ≤ 1000000) :
    Calls Tryz.prog 201 #[.string s] w fun e w' => ∃ r : ByteArray, e = .returned (.string r) ∧ tl r = plusL (tl s) ∧ Nx w w' := by
  go_enter Tryz.func201, Tryz.ntmps201
  go_wp2
  go_loopw [3, 4] (fun o i wr => ∃ k : Nat, k ≤ s.size ∧ i = .int .i64 k ∧ OwnB wr w.heap.size o (plusL ((tl s).take k)) ∧ Nx w wr) (fun _ i _ => s.size - (intOf i).toNat)
  case atStart => exact ⟨0, Nat.zero_le _, rfl, own_start w, Nx.rfl.alloc _⟩
  case round =>
    obtain ⟨k, hk, rfl, hown, hnx⟩ := hrel
    by_cases hlt : k < s.size
    · have hb := bb s[k]
      have HTK := hide ((congrArg plusL (tl_take_succ s k hlt)).trans (plusL_snoc _ _))
      have hz := hnx.size
      have hsz : (plusL ((tl s).take k)).length < 1099511627776 := by simp only [plusL_len, List.length_take]; omega
      have HO := hide hown
      have HN := hide hnx
      clear hown hnx
      cases hit : ((s[k].toNat : Int) == 43)
      · have HT := hide (show plusB s[k] = s[k] by unfold plusB; rw [if_neg (fun h => by rw [h] at hit; cases hit)])
        have HT2 := hide (toB_byte s[k])
        go_wp2_with (at_builtin; go_must (refine app_byte1 wr (s[k].toNat : Int) rfl _ _ rfl w.heap.size _ _ rfl HO.out rfl (by omega) (by omega) hsz hz ?_; intro v' w1 ho1 hb1 hk1; have HO1 := hide ho1; clear ho1))
        go_roundw
        case rel => exact ⟨k + 1, by omega, by go_num, by rw [HTK.out, HT.out]; have h := HO1.out; rw [HT2.out] at h; exact h, HN.out.trans hb1⟩
        case measure => simp [intOf]; omega
      · have HT := hide (show plusB s[k] = toB 32 by unfold plusB; rw [if_pos (by simp only [beq_iff_eq] at hit; omega)]; rfl)
        go_wp2_with (at_builtin; go_must (refine app_byte1 wr (32 : Int) rfl _ _ rfl w.heap.size _ _ rfl HO.out rfl (by omega) (by omega) hsz hz ?_; intro v' w1 ho1 hb1 hk1; have HO1 := hide ho1; clear ho1))
        go_roundw
        case rel => exact ⟨k + 1, by omega, by go_num, by rw [HTK.out, HT.out]; exact HO1.out, HN.out.trans hb1⟩
        case measure => simp [intOf]; omega
    · rw [tl_take_all s k (by omega)] at hown
      have hcv := conv_own hown
      clear hown
      go_wp2
      go_ret
      exact ⟨_, rfl, tl_mk _, hnx⟩

/-- pairs.readText -/
def readTx (l : List UInt8) : List UInt8 := clean (bdecode (plusL l))
theorem bdecode_le (n : Nat) : ∀ l : List UInt8, l.length ≤ n → (bdecode l).length ≤ l.length := by
  induction n with
  | zero => intro l hl; have : l = [] := List.eq_nil_of_length_eq_zero (by omega); subst this; rw [bdecode_nil]; simp
  | succ n ih =>
    intro l hl
    cases l with
    | nil => rw [bdecode_nil]; simp
    | cons c r =>
      rw [bdecode_cons]
      simp only [List.length_cons] at hl
      split
      · have h := ih (r.drop 2) (by rw [List.length_drop]; omega)
        rw [List.length_drop] at h
        simp only [List.length_cons]
        omega
      · have h := ih r (by omega)
        simp only [List.length_cons]
        omega
theorem readTx_len (l : List UInt8) : (readTx l).length ≤ 3 * l.length := by
  have h1 := clean_len (bdecode (plusL l))
  have h2 := bdecode_le _ (plusL l) (Nat.le_refl _)
  rw [plusL_len] at h2
  unfold readTx
  omega
set_option maxHeartbeats 400000 in
theorem readTx_any (s : ByteArray) (w : World) (hs : s.size ≤ 300000) :
    Calls Tryz.prog 163 #[.string s] w fun e w' => ∃ r : ByteArray, e = .returned (.string r) ∧ tl r = readTx (tl s) ∧ Nx w w' := by
  go_enter Tryz.func163, Tryz.ntmps163
  go_wp2_with fail
  refine (plusL_any s _ (by omega)).mono ?_
  rintro e w1 ⟨a, rfl, ha, hn1⟩
  have hal : a.size ≤ 300000 := by rw [← tl_length, ha, plusL_len, tl_length]; exact hs
  go_wp2_with fail
  refine (decode_any a _ (by omega)).mono ?_
  rintro e w2 ⟨b, rfl, hb, hn2⟩
  have hbl : b.size ≤ 300000 := by rw [← tl_length, hb]; exact Nat.le_trans (bdecode_le _ _ (Nat.le_refl _)) (by rw [tl_length]; exact hal)
  go_wp2_with fail
  refine (clean_any b _ (by omega)).mono ?_
  rintro e w3 ⟨c, rfl, hc, hn3⟩
  have HC := hide (show tl c = readTx (tl s) by rw [hc, hb, ha]; rfl)
  have HN := hide ((hn1.then hn2).then hn3)
  clear ha hb hc hn1 hn2 hn3
  go_wp2
  go_ret
  exact ⟨c, rfl, HC.out, HN.out⟩

/-- A pair's own block. -/
def PB (w : World) (b : Nat) (x y : Value) : Prop := w.heap[b]? = some (Obj.cells #[x, y] 76 (0, 0))
theorem PB.on {w w' : World} {b : Nat} {x y : Value} (h : PB w b x y) (hb : Nx w w') : PB w' b x y := (hb.block b (Array.getElem?_eq_some_iff.1 h).1).trans h
theorem PB.facts {w : World} {b : Nat} {x y : Value} (h : PB w b x y) : w.cell? ⟨b, 0, none⟩ = some x ∧ w.cell? ⟨b, 1, none⟩ = some y ∧ w.frozen? ⟨b, 0, none⟩ = false ∧ w.frozen? ⟨b, 1, none⟩ = false ∧ b < w.heap.size := by
  have hl := (Array.getElem?_eq_some_iff.1 h).1
  unfold PB at h
  refine ⟨?_, ?_, ?_, ?_, hl⟩ <;> simp [World.cell?, World.frozen?, h]
theorem PB.s0 {w : World} {b : Nat} {x y : Value} (h : PB w b x y) (u : Value) : PB (w.setCell ⟨b, 0, none⟩ u) b u y := by
  unfold PB at *
  simp only [World.setCell, Array.getElem?_modify, if_pos, h]
  rfl
theorem PB.s1 {w : World} {b : Nat} {x y : Value} (h : PB w b x y) (u : Value) : PB (w.setCell ⟨b, 1, none⟩ u) b x u := by
  unfold PB at *
  simp only [World.setCell, Array.getElem?_modify, if_pos, h]
  rfl
theorem PB.far {w : World} {b q : Nat} {x y : Value} (h : PB w b x y) (hq : q ≠ b) (i : Nat) (u : Value) : PB (w.setCell ⟨q, i, none⟩ u) b x y := by
  unfold PB at *
  simp only [World.setCell, Array.getElem?_modify, if_neg hq, h]
/-- The end of a function that answers a pair. -/
theorem ret2 {fn : Func} {R : Ending → World → Prop} {a : Act} {W : World} {c : Tmp} {rb : Nat} {x y : Value} (hres : fn.results = #[.cell c 76]) (hc : a.tmps[c]?.getD undef = .pointer (some ⟨rb, 0, none⟩))
    (hC : PB W rb x y) (hd : a.defers = []) (hR : R (.returned (.agg #[x, y])) W) : bodyPost Tryz.prog fn R .ret a W := by
  obtain ⟨y0, y1, -, -, -⟩ := hC.facts
  exact bodyPost_ret (v := .agg #[x, y]) (by simp [results, hres, hc, go_sem, y0, y1]) hd hR
/-- pairs.readPair -/
def readPr (l : List UInt8) : List UInt8 × List UInt8 := (readTx (bcut (isB 61) l).1, readTx (bcut (isB 61) l).2.1)
theorem readPr_len (l : List UInt8) : (readPr l).1.length ≤ 3 * l.length ∧ (readPr l).2.length ≤ 3 * l.length := by
  have h := (bcut_len (isB 61) l).1
  have h1 := readTx_len (bcut (isB 61) l).1
  have h2 := readTx_len (bcut (isB 61) l).2.1
  unfold readPr
  simp only
  omega
set_option maxHeartbeats 2000000 in
theorem readPr_any (s : ByteArray) (w : World) (hs : s.size ≤ 300000) :
    Calls Tryz.prog 121 #[.string s] w fun e w' => ∃ n v : ByteArray, e = .returned (.agg #[.string n, .string v]) ∧ (tl n, tl v) = readPr (tl s) ∧ Nx w w' := by
  go_enter Tryz.func121, Tryz.ntmps121
  go_wp2_with fail
  refine (acut_any s 61 _ (small_len (by omega))).mono ?_
  rintro e w1 ⟨⟨a, b, rfl, ha, hb⟩, hn1⟩
  have hlen := (bcut_len (isB 61) (tl s)).1
  rw [← ha, ← hb, tl_length, tl_length, tl_length] at hlen
  have HR1 := hide (PB.on (show PB (w.alloc (.cells #[.string ⟨#[]⟩, .string ⟨#[]⟩] 76)) w.heap.size _ _ from heap_alloc_new w _) hn1)
  have HN1 := hide (show Nx w w1 from (Nx.rfl.alloc _).then hn1)
  have hw1 := HN1.out.size
  have hrb := HR1.out.facts.2.2.2.2
  have HA := hide ha
  have HB := hide hb
  clear ha hb hn1
  go_upto_region 3 with fail
  have HP2 := hide (show PB (w1.alloc (Obj.cells #[Value.string ⟨#[]⟩, Value.string ⟨#[]⟩] 76)) w1.heap.size _ _ from heap_alloc_new w1 _)
  have HR2 := hide (HR1.out.on (Nx.rfl.alloc (Obj.cells #[Value.string ⟨#[]⟩, Value.string ⟨#[]⟩] 76)))
  have HN2 := hide (show Nx w (w1.alloc (Obj.cells #[Value.string ⟨#[]⟩, Value.string ⟨#[]⟩] 76)) from HN1.out.alloc _)
  obtain ⟨pb, hpb⟩ : ∃ pb, pb = w1.heap.size := ⟨_, rfl⟩
  have hrp : w.heap.size < pb := by rw [hpb]; exact hrb
  rw [← hpb] at HP2 ⊢
  clear hw1 hrb
  generalize (w1.alloc (Obj.cells #[Value.string ⟨#[]⟩, Value.string ⟨#[]⟩] 76)) = w2 at *
  clear hpb HR1 HN1
  go_wp2_with fail
  refine (readTx_any a _ (by omega)).mono ?_
  rintro e w3 ⟨n, rfl, hn, hn3⟩
  have HP3 := hide (HP2.out.on hn3)
  have HR3 := hide (HR2.out.on hn3)
  have HN3 := hide (HN2.out.then hn3)
  have HNM := hide (hn.trans (congrArg readTx HA.out))
  clear hn hn3 HP2 HR2 HN2 HA
  obtain ⟨c0, c1, f0, f1, hl⟩ := HP3.out.facts
  go_upto_region 4 with fail
  have HP4 := hide (HP3.out.s0 (.string n))
  have HR4 := hide (HR3.out.far (show pb ≠ w.heap.size by omega) 0 (.string n))
  have HN4 := hide (show Nx w (w3.setCell ⟨pb, 0, none⟩ (.string n)) from Below.setCell HN3.out (by show w.heap.size ≤ pb; omega) _)
  clear c0 c1 f0 f1 hl
  generalize w3.setCell ⟨pb, 0, none⟩ (.string n) = w4 at *
  clear HP3 HR3 HN3
  go_wp2_with fail
  refine (readTx_any b _ (by omega)).mono ?_
  rintro e w5 ⟨v, rfl, hv, hn5⟩
  have HP5 := hide (HP4.out.on hn5)
  have HR5 := hide (HR4.out.on hn5)
  have HN5 := hide (HN4.out.then hn5)
  have HVM := hide (hv.trans (congrArg readTx HB.out))
  clear hv hn5 HP4 HR4 HN4 HB
  obtain ⟨c0, c1, f0, f1, hl⟩ := HP5.out.facts
  go_upto_region 5 with fail
  have HP6 := hide (HP5.out.s1 (.string v))
  have HR6 := hide (HR5.out.far (show pb ≠ w.heap.size by omega) 1 (.string v))
  have HN6 := hide (show Nx w (w5.setCell ⟨pb, 1, none⟩ (.string v)) from Below.setCell HN5.out (by show w.heap.size ≤ pb; omega) _)
  clear c0 c1 f0 f1 hl
  generalize w5.setCell ⟨pb, 1, none⟩ (.string v) = w6 at *
  clear HP5 HR5 HN5
  obtain ⟨c0, c1, f0, f1, hl⟩ := HP6.out.facts
  obtain ⟨d0, d1, g0, g1, hl2⟩ := HR6.out.facts
  go_wp2
  exact ret2 (rb := w.heap.size) Tryz.results121 rfl ((HR6.out.s0 _).s1 _) rfl ⟨n, v, rfl, by unfold readPr; rw [HNM.out, HVM.out], Below.setCell (Below.setCell HN6.out (Nat.le_refl _) _) (Nat.le_refl _) _⟩
end Go.Proofs.YtchkhibgbnhjpaaGreatDoor

namespace Go.Proofs.YtchkhibgbnhjpaaGreatDoor
open Go.RowKit

theorem bsplit_mem (n : Int) : ∀ (l p : List UInt8), p ∈ bsplit n l → p.length ≤ l.length := by
  intro l
  induction l with
  | nil => intro p hp; simp only [bsplit, List.mem_singleton] at hp; subst hp; simp
  | cons c r ih =>
    intro p hp
    rw [bsplit] at hp
    split at hp
    · rcases List.mem_cons.1 hp with rfl | hp
      · simp
      · have := ih p hp; simp only [List.length_cons]; omega
    · split at hp
      · rw [List.mem_singleton] at hp; subst hp; simp
      · next a q he =>
        rcases List.mem_cons.1 hp with rfl | hp
        · have := ih a (by rw [he]; simp); simp only [List.length_cons]; omega
        · have := ih p (by rw [he]; simp [hp]); simp only [List.length_cons]; omega
theorem bsplit_count (n : Int) : ∀ l : List UInt8, (bsplit n l).length ≤ l.length + 1 := by
  intro l
  induction l with
  | nil => simp [bsplit]
  | cons c r ih =>
    rw [bsplit]
    split
    · simp only [List.length_cons]; omega
    · split
      · simp
      · next a q he => rw [he] at ih; simp only [List.length_cons] at ih ⊢; omega
/-- pairs.filled -/
def fillL (ps : List (List UInt8)) : List (List UInt8) := ps.filter fun p => !p.isEmpty
def filledL (l : List UInt8) : List (List UInt8) := fillL (bsplit 38 l)
theorem fillL_snoc (ps : List (List UInt8)) (p : List UInt8) : fillL (ps ++ [p]) = fillL ps ++ (if p.isEmpty then [] else [p]) := by
  simp only [fillL, List.filter_append]
  cases h : p.isEmpty <;> simp [List.filter, h]
theorem filled_mem {l p : List UInt8} (h : p ∈ filledL l) : p.length ≤ l.length := bsplit_mem 38 l p (List.mem_filter.1 h).1
theorem filled_count (l : List UInt8) : (filledL l).length ≤ l.length + 1 := Nat.le_trans (List.length_filter_le _ _) (bsplit_count 38 l)
theorem take_map_succ (cs : List ByteArray) (k : Nat) (h : k < cs.length) : (cs.map tl).take (k + 1) = (cs.map tl).take k ++ [tl cs[k]] := by
  rw [← List.map_take, ← List.map_take, List.take_succ_eq_append_getElem h, List.map_append]; rfl
set_option maxHeartbeats 2000000 in
theorem filled_any (s : ByteArray) (w : World) (hs : s.size ≤ 300000) :
    Calls Tryz.prog 120 #[.string s] w fun e w' => ∃ v bs, e = .returned v ∧ StrsAt w' v bs ∧ bs.map tl = filledL (tl s) ∧ Nx w w' := by
  go_enter Tryz.func120, Tryz.ntmps120
  go_wp2_with fail
  refine (split_any s 38 _ (by omega)).mono ?_
  rintro e w1 ⟨v, cs, rfl, hv, hcs, hn1⟩
  have hcl : cs.length ≤ 300001 := by have h := bsplit_count 38 (tl s); rw [← hcs, List.length_map, tl_length] at h; omega
  have HN1 := hide hn1
  have HCS := hide hcs
  clear hn1 hcs
  obtain ⟨ao, cap, rfl, hlc, hcap, hnone, hsome⟩ := hv
  unfold maxLen at hcap
  go_wp2
  go_loopw [4, 5] (fun o i wr => ∃ (k : Nat) (bs : List ByteArray), k ≤ cs.length ∧ i = .int .i64 k ∧ OwnS wr w1.heap.size o bs ∧ bs.map tl = fillL ((cs.map tl).take k) ∧ bs.length ≤ k ∧ Nx w1 wr) (fun _ i _ => cs.length - (intOf i).toNat)
  case atStart => exact ⟨0, [], Nat.zero_le _, rfl, ownS_start w1, rfl, by simp, Nx.rfl.alloc _⟩
  case round =>
    obtain ⟨k, bs, hk, rfl, hown, hE, hbl, hnx⟩ := hrel
    by_cases hlt : k < cs.length
    · obtain ⟨a, ha⟩ := sl_some hlt hnone
      subst ha
      obtain ⟨b, off, rfl, hr⟩ := hsome a rfl
      have hck := (hr.on hnx).cell hlt
      have HSN := hide ((congrArg fillL (take_map_succ cs k hlt)).trans (fillL_snoc _ _))
      have HO := hide hown
      have HN := hide hnx
      have HE := hide hE
      have hz := hnx.size
      have hbl2 : bs.length < 1099511627776 := by omega
      clear hnone hsome hr hown hnx hE
      by_cases h0 : cs[k].size = 0
      · have h0' := str_empty h0
        have HT := hide (show (tl cs[k]).isEmpty = true by rw [tl_empty h0]; rfl)
        clear h0
        go_wp2
        go_roundw
        case rel => exact ⟨k + 1, bs, by omega, by go_num, HO.out, by rw [HSN.out, HT.out, if_pos rfl, List.append_nil]; exact HE.out, by omega, HN.out⟩
        case measure => simp [intOf]; omega
      · have h0' := str_nonempty h0
        have HT := hide (show (tl cs[k]).isEmpty = false by have h := tl_ne h0; cases he : tl cs[k] <;> simp_all)
        clear h0
        go_wp2_with (at_builtin; go_must (refine app_s1 wr cs[k] rfl _ _ rfl w1.heap.size _ bs rfl HO.out rfl hbl2 hz ?_; intro v' w2 ho2 hb2 _; have HO2 := hide ho2; clear ho2))
        go_roundw
        case rel => exact ⟨k + 1, bs ++ [cs[k]], by omega, by go_num, HO2.out, by rw [HSN.out, HT.out, if_neg (by decide), List.map_append, HE.out]; rfl, by simp; omega, HN.out.trans hb2⟩
        case measure => simp [intOf]; omega
    · rw [List.take_of_length_le (by rw [List.length_map]; omega)] at hE
      have HE := hide (show bs.map tl = filledL (tl s) by rw [hE, HCS.out]; rfl)
      have HO := hide hown
      have HN := hide hnx
      clear hE hown hnx hnone hsome
      go_wp2
      go_ret
      exact ⟨_, _, rfl, own_row HO.out, HE.out, HN1.out.then HN.out⟩

/-- Pairs in a row. -/
abbrev Pq := ByteArray × ByteArray
def cellsP (ps : List Pq) : List Value := ps.flatMap fun p => [Value.string p.1, Value.string p.2]
theorem cellsP_len (ps : List Pq) : (cellsP ps).length = 2 * ps.length := by
  induction ps with
  | nil => rfl
  | cons p q ih => show (_ :: _ :: cellsP q).length = _; simp only [List.length_cons, ih]; omega
theorem cellsP_get (ps : List Pq) : ∀ (k : Nat) (h : k < ps.length), (cellsP ps)[k * 2]? = some (.string ps[k].1) ∧ (cellsP ps)[k * 2 + 1]? = some (.string ps[k].2) := by
  induction ps with
  | nil => intro k h; simp at h
  | cons p q ih =>
    intro k h
    cases k with
    | zero => exact ⟨rfl, rfl⟩
    | succ k =>
      have h' := ih k (by simp only [List.length_cons] at h; omega)
      have e : (k + 1) * 2 = k * 2 + 1 + 1 := by omega
      rw [e]
      show (_ :: _ :: cellsP q)[k * 2 + 1 + 1]? = _ ∧ (_ :: _ :: cellsP q)[k * 2 + 1 + 1 + 1]? = _
      rw [List.getElem?_cons_succ, List.getElem?_cons_succ, List.getElem?_cons_succ, List.getElem?_cons_succ]
      exact h'
theorem cellsP_set (ps : List Pq) : ∀ (k : Nat) (n v : ByteArray), k < ps.length → ((cellsP ps).set (k * 2) (.string n)).set (k * 2 + 1) (.string v) = cellsP (ps.set k (n, v)) := by
  induction ps with
  | nil => intro k n v h; simp at h
  | cons p q ih =>
    intro k n v h
    cases k with
    | zero => rfl
    | succ k =>
      have h' := ih k n v (by simp only [List.length_cons] at h; omega)
      have e : (k + 1) * 2 = k * 2 + 1 + 1 := by omega
      rw [e]
      show ((_ :: _ :: cellsP q).set (k * 2 + 1 + 1) _).set (k * 2 + 1 + 1 + 1) _ = _
      rw [List.set_cons_succ, List.set_cons_succ, List.set_cons_succ, List.set_cons_succ, h']
      rfl
def FullP (w : World) (nb : Nat) (ps : List Pq) : Prop := w.heap[nb]? = some (Obj.cells (cellsP ps).toArray 76 (0, 0))
theorem FullP.on {w w' : World} {nb : Nat} {ps : List Pq} (h : FullP w nb ps) (hb : Nx w w') : FullP w' nb ps := (hb.block nb (Array.getElem?_eq_some_iff.1 h).1).trans h
theorem FullP.lt {w : World} {nb : Nat} {ps : List Pq} (h : FullP w nb ps) : nb < w.heap.size := (Array.getElem?_eq_some_iff.1 h).1
theorem FullP.cell {w : World} {nb : Nat} {ps : List Pq} (h : FullP w nb ps) {k : Nat} (hk : k < ps.length) : w.cell? ⟨nb, k * 2, none⟩ = some (.string ps[k].1) ∧ w.cell? ⟨nb, k * 2 + 1, none⟩ = some (.string ps[k].2) := by
  obtain ⟨h1, h2⟩ := cellsP_get ps k hk
  unfold FullP at h
  constructor <;> simp only [World.cell?, h] <;> simpa using by first | exact h1 | exact h2
theorem FullP.free {w : World} {nb : Nat} {ps : List Pq} (h : FullP w nb ps) (i : Nat) : w.frozen? ⟨nb, i, none⟩ = false := by
  unfold FullP at h
  simp [World.frozen?, h]
theorem FullP.set {w : World} {nb : Nat} {ps : List Pq} (h : FullP w nb ps) {k : Nat} (hk : k < ps.length) (n v : ByteArray) : FullP ((w.setCell ⟨nb, k * 2, none⟩ (.string n)).setCell ⟨nb, k * 2 + 1, none⟩ (.string v)) nb (ps.set k (n, v)) := by
  unfold FullP at *
  have h1 : (w.setCell ⟨nb, k * 2, none⟩ (.string n)).heap[nb]? = some (Obj.cells ((cellsP ps).set (k * 2) (.string n)).toArray 76 (0, 0)) := by
    simp only [World.setCell, Array.getElem?_modify, if_pos, h]
    simp
  rw [← cellsP_set ps k n v hk]
  generalize w.setCell ⟨nb, k * 2, none⟩ (.string n) = w1 at *
  simp only [World.setCell, Array.getElem?_modify, if_pos, h1]
  simp
def nilP : Pq := (ByteArray.empty, ByteArray.empty)
theorem infoPair : (Tryz.prog.info? 76).map (fun i => (i.zero, i.size, i.bytes)) = some (some (.agg #[.string ByteArray.empty, .string ByteArray.empty]), 2, 32) := by kernel_rfl
theorem made_pairs (n : Nat) : madeCells #[Value.string ByteArray.empty, Value.string ByteArray.empty] (n * 2) = (cellsP (List.replicate n nilP)).toArray := by
  apply Array.toList_inj.1
  apply List.ext_getElem?
  intro i
  rw [Array.getElem?_toList]
  by_cases hi : i < n * 2
  · obtain ⟨h1, h2⟩ := cellsP_get (List.replicate n nilP) (i / 2) (by rw [List.length_replicate]; omega)
    have hz : (madeCells #[Value.string ByteArray.empty, Value.string ByteArray.empty] (n * 2))[i]? = some (.string ByteArray.empty) := by
      have hm : i % 2 = 0 ∨ i % 2 = 1 := by omega
      rcases hm with hm | hm <;> simp [madeCells, hi, hm]
    rw [hz]
    have hm : i = i / 2 * 2 ∨ i = i / 2 * 2 + 1 := by omega
    rcases hm with hm | hm
    · rw [hm, h1]; simp [nilP]
    · rw [hm, h2]; simp [nilP]
  · rw [Array.getElem?_eq_none (by rw [size_madeCells]; omega), List.getElem?_eq_none (by rw [List.toList_toArray, cellsP_len, List.length_replicate]; omega)]
theorem make_pairs (n : Nat) (hn : n ≤ 1000000) (w : World) : (Instr.makeSlice 58 (.int .i64 (n : Int)) (.int .i64 (n : Int))).run Tryz.prog w = .ok (.slice (some ⟨w.heap.size, 0, none⟩) n n) (w.alloc (.cells (cellsP (List.replicate n nilP)).toArray 76)) := by
  obtain ⟨i, hi, hzz⟩ := Option.map_eq_some_iff.1 infoPair
  simp only [Prod.mk.injEq] at hzz
  obtain ⟨hz, hs, hb⟩ := hzz
  have hr := run_make (P := Tryz.prog) w 58 76 i _ Tryz.underlying58 hi hz .i64 .i64 n n (by omega) (Int.le_refl _) (by rw [hb]; omega) (by omega)
  rw [hs] at hr
  simp only [Int.toNat_natCast] at hr
  rw [hr, ← made_pairs]
  rfl
/-- pairs.Read -/
def readPrs (l : List UInt8) : List (List UInt8 × List UInt8) := (filledL l).map readPr
def tl2 (p : Pq) : List UInt8 × List UInt8 := (tl p.1, tl p.2)
/-- What a call that hands out pairs answers: nil if there are none, else a row of its own, without spare room. -/
def PrsIs (w : World) (base : Nat) (v : Value) (ps : List Pq) : Prop := (ps = [] ∧ v = .slice none 0 0) ∨ (0 < ps.length ∧ ∃ nb, base ≤ nb ∧ v = .slice (some ⟨nb, 0, none⟩) ps.length ps.length ∧ FullP w nb ps)
theorem fillP_step (ps : List Pq) (n k : Nat) (hk : ps.length = k) (h : k < n) (p : Pq) : (ps ++ List.replicate (n - k) nilP).set k p = (ps ++ [p]) ++ List.replicate (n - (k + 1)) nilP := by
  subst hk
  rw [List.set_append_right _ _ (Nat.le_refl _), Nat.sub_self, show n - ps.length = (n - (ps.length + 1)) + 1 by omega, List.replicate_succ, List.set_cons_zero, List.append_assoc]
  rfl
set_option maxHeartbeats 4000000 in
theorem readPrs_any (s : ByteArray) (w : World) (hs : s.size ≤ 300000) :
    Calls Tryz.prog 90 #[.string s] w fun e w' => ∃ v ps, e = .returned v ∧ PrsIs w' w.heap.size v ps ∧ ps.map tl2 = readPrs (tl s) ∧ Nx w w' := by
  go_enter Tryz.func90, Tryz.ntmps90
  go_wp2_with fail
  refine (filled_any s _ hs).mono ?_
  rintro e w1 ⟨v, cs, rfl, hv, hcs, hn1⟩
  have hcl : cs.length ≤ 300001 := by have h := filled_count (tl s); rw [← hcs, List.length_map, tl_length] at h; omega
  have hcm : ∀ c ∈ cs, c.size ≤ 300000 := fun c hc => by
    have h := filled_mem (l := tl s) (p := tl c) (by rw [← hcs]; exact List.mem_map.2 ⟨c, hc, rfl⟩)
    rw [tl_length, tl_length] at h
    omega
  have HCM := hide hcm
  have HN1 := hide hn1
  have HCS := hide (show readPrs (tl s) = cs.map (fun c => readPr (tl c)) by unfold readPrs; rw [← hcs, List.map_map]; rfl)
  have hw1 := hn1.size
  clear hn1 hcs hcm
  obtain ⟨ao, cap, rfl, hlc, hcap, hnone, hsome⟩ := hv
  unfold maxLen at hcap
  rcases Nat.eq_zero_or_pos cs.length with h0 | hpos
  · have h0' : ((cs.length : Int) == 0) = true := by rw [h0]; rfl
    have HE := hide (show readPrs (tl s) = [] by rw [HCS.out, List.eq_nil_of_length_eq_zero h0]; rfl)
    clear h0 hnone hsome
    go_wp2
    go_ret
    exact ⟨_, [], rfl, Or.inl ⟨rfl, rfl⟩, HE.out.symm, HN1.out⟩
  · have h0' : ((cs.length : Int) == 0) = false := beq_eq_false_iff_ne.2 (by omega)
    have hmk := make_pairs cs.length (by omega)
    go_wp2
    clear hmk
    go_loopw [5] (fun i wr => ∃ (k : Nat) (ps : List Pq), k ≤ cs.length ∧ ps.length = k ∧ i = .int .i64 k ∧ FullP wr w1.heap.size (ps ++ List.replicate (cs.length - k) nilP) ∧ ps.map tl2 = (cs.take k).map (fun c => readPr (tl c)) ∧ Nx w1 wr) (fun i _ => cs.length - (intOf i).toNat)
    case atStart => exact ⟨0, [], Nat.zero_le _, rfl, rfl, heap_alloc_new w1 _, rfl, Nx.rfl.alloc _⟩
    case round =>
      obtain ⟨k, ps, hk, hpl, rfl, hrow, hE, hnx⟩ := hrel
      by_cases hlt : k < cs.length
      · obtain ⟨a, ha⟩ := sl_some hlt hnone
        subst ha
        obtain ⟨b, off, rfl, hr⟩ := hsome a rfl
        have hck := (hr.on hnx).cell hlt
        have hsz := HCM.out cs[k] (List.getElem_mem hlt)
        have HR := hide hrow
        have HN := hide hnx
        have HE := hide hE
        have HPL := hide hpl
        clear hnone hsome hr hrow hnx hE hpl
        go_wp2_with fail
        refine (readPr_any cs[k] _ hsz).mono ?_
        rintro e w2 ⟨n, v, rfl, hnv, hn2⟩
        have HR2 := hide (HR.out.on hn2)
        have HN2 := hide (HN.out.then hn2)
        have HNV := hide hnv
        clear hnv hn2 HR HN
        have hkl : k < (ps ++ List.replicate (cs.length - k) nilP).length := by rw [List.length_append, List.length_replicate, HPL.out]; omega
        obtain ⟨d0, d1⟩ := HR2.out.cell hkl
        have f0 := HR2.out.free (k * 2)
        have f1 := HR2.out.free (k * 2 + 1)
        have hlt2 := HR2.out.lt
        go_wp2
        go_roundw
        case rel =>
          have hf := HR2.out.set hkl n v
          rw [fillP_step ps cs.length k HPL.out hlt (n, v)] at hf
          refine ⟨k + 1, ps ++ [(n, v)], by omega, by simp [HPL.out], by go_num, hf, ?_, Below.setCell (Below.setCell HN2.out (Nat.le_refl _) _) (Nat.le_refl _) _⟩
          rw [List.map_append, HE.out, List.take_succ_eq_append_getElem hlt, List.map_append]
          show _ ++ [(tl n, tl v)] = _
          rw [HNV.out]
          rfl
        case measure => simp [intOf]; omega
      · have hk2 : cs.length = k := by omega
        rw [show cs.length - k = 0 by omega, List.replicate_zero, List.append_nil] at hrow
        rw [List.take_of_length_le (by omega)] at hE
        have HR := hide hrow
        have HN := hide hnx
        have HE := hide (show ps.map tl2 = readPrs (tl s) by rw [hE, HCS.out])
        have HPL := hide (show ps.length = cs.length by omega)
        clear hrow hnx hE hpl hk2 hnone hsome
        go_wp2
        go_ret
        exact ⟨_, ps, rfl, Or.inr ⟨by rw [HPL.out]; exact hpos, w1.heap.size, hw1, by rw [HPL.out]; rfl, HR.out⟩, HE.out, HN1.out.then HN.out⟩
end Go.Proofs.YtchkhibgbnhjpaaGreatDoor

namespace Go.Proofs.YtchkhibgbnhjpaaGreatDoor
open Go.RowKit

/-- Pairs that are read: a slice of them. -/
def RowP (w : World) (b off : Nat) (ps : List Pq) : Prop := ∃ (cs : Array Value) (fz : Nat × Nat), w.heap[b]? = some (Obj.cells cs 76 fz) ∧ ∀ i, (h : i < ps.length) → cs[off + i * 2]? = some (.string ps[i].1) ∧ cs[off + i * 2 + 1]? = some (.string ps[i].2)
def PlAt (w : World) (v : Value) (ps : List Pq) : Prop := ∃ ao cap, v = .slice ao ps.length cap ∧ ps.length ≤ cap ∧ cap ≤ maxLen ∧ (ao = none → ps = [] ∧ cap = 0) ∧ ∀ a, ao = some a → ∃ b off, a = ⟨b, off, none⟩ ∧ RowP w b off ps
theorem RowP.cell {w : World} {b off : Nat} {ps : List Pq} (h : RowP w b off ps) {i : Nat} (hi : i < ps.length) : w.cell? ⟨b, off + i * 2, none⟩ = some (.string ps[i].1) ∧ w.cell? ⟨b, off + i * 2 + 1, none⟩ = some (.string ps[i].2) := by
  obtain ⟨cs, fz, hh, hc⟩ := h
  obtain ⟨h1, h2⟩ := hc i hi
  constructor <;> simp only [World.cell?, hh]
  · exact h1
  · exact h2
theorem RowP.on {w w' : World} {b off : Nat} {ps : List Pq} (h : RowP w b off ps) (hb : Nx w w') : RowP w' b off ps := by
  obtain ⟨cs, fz, hh, hc⟩ := h
  exact ⟨cs, fz, (hb.block b (Array.getElem?_eq_some_iff.1 hh).1).trans hh, hc⟩
theorem FullP.row {w : World} {nb : Nat} {ps : List Pq} (h : FullP w nb ps) : RowP w nb 0 ps := ⟨_, _, h, fun i hi => by rw [Nat.zero_add]; simpa using cellsP_get ps i hi⟩
theorem PlAt.on {w w' : World} {v : Value} {ps : List Pq} (h : PlAt w v ps) (hb : Nx w w') : PlAt w' v ps := by
  obtain ⟨ao, cap, rfl, hlc, hcap, hnone, hsome⟩ := h
  refine ⟨ao, cap, rfl, hlc, hcap, hnone, fun a ha => ?_⟩
  obtain ⟨b, off, rfl, hr⟩ := hsome a ha
  exact ⟨b, off, rfl, hr.on hb⟩
theorem PlAt.nil (w : World) : PlAt w (.slice none 0 0) [] := ⟨none, 0, rfl, by simp, Nat.zero_le _, fun _ => ⟨rfl, rfl⟩, nofun⟩
theorem PrsIs.on {w w' : World} {base : Nat} {v : Value} {ps : List Pq} (h : PrsIs w base v ps) (hb : Nx w w') : PrsIs w' base v ps := by
  rcases h with h | ⟨h0, nb, h1, rfl, h2⟩
  · exact Or.inl h
  · exact Or.inr ⟨h0, nb, h1, rfl, h2.on hb⟩
theorem PrsIs.at {w : World} {base : Nat} {v : Value} {ps : List Pq} (h : PrsIs w base v ps) (hl : ps.length ≤ 1000000) : PlAt w v ps := by
  rcases h with ⟨rfl, rfl⟩ | ⟨h0, nb, h1, rfl, h2⟩
  · exact PlAt.nil w
  · exact ⟨_, _, rfl, Nat.le_refl _, small_len hl, nofun, fun a ha => ⟨nb, 0, (Option.some.inj ha).symm, h2.row⟩⟩
theorem pl_some {ao : Option Addr} {cap k : Nat} {ps : List Pq} (hk : k < ps.length) (hnone : ao = none → ps = [] ∧ cap = 0) : ∃ a, ao = some a := by
  cases ao with
  | none => have := (hnone rfl).1; subst this; simp at hk
  | some a => exact ⟨a, rfl⟩
theorem tlB_inj {a b : ByteArray} (h : tl a = tl b) : a = b := by
  cases a; cases b; simp only [tl] at h; congr 1; exact Array.toList_inj.1 h
theorem tl2_inj {p q : Pq} (h : tl2 p = tl2 q) : p = q := by
  obtain ⟨a, b⟩ := p
  obtain ⟨c, d⟩ := q
  simp only [tl2, Prod.mk.injEq] at h
  rw [tlB_inj h.1, tlB_inj h.2]
theorem map2_inj {ps qs : List Pq} (h : ps.map tl2 = qs.map tl2) : ps = qs := by
  induction ps generalizing qs with
  | nil => cases qs with
    | nil => rfl
    | cons q r => cases h
  | cons p r ih => cases qs with
    | nil => cases h
    | cons q t =>
      simp only [List.map_cons, List.cons.injEq] at h
      rw [tl2_inj h.1, ih h.2]
/- urlskeep.samePairs -/
theorem take_eq_step {ps qs : List Pq} {k : Nat} (h : ps.take k = qs.take k) (h1 : k < ps.length) (h2 : k < qs.length) (e : ps[k] = qs[k]) : ps.take (k + 1) = qs.take (k + 1) := by
  rw [List.take_succ_eq_append_getElem h1, List.take_succ_eq_append_getElem h2, h, e]
theorem toList_ne {a b : ByteArray} (h : ¬ a = b) : ¬ a.toList = b.toList := fun e => h (tl_inj (by rw [ByteArray.toList_eq, ByteArray.toList_eq] at e; exact e))
set_option maxHeartbeats 4000000 in
theorem samePairs_any (a b : Value) (ps qs : List Pq) (w : World) (ha : PlAt w a ps) (hb : PlAt w b qs) :
    Calls Tryz.prog 47 #[a, b] w fun e w' => e = .returned (.bool (decide (ps = qs))) ∧ Nx w w' := by
  obtain ⟨ao, cap, rfl, hlc, hcap, hnone, hsome⟩ := ha
  obtain ⟨bo, cap2, rfl, hlc2, hcap2, hnone2, hsome2⟩ := hb
  unfold maxLen at hcap hcap2
  by_cases hl : ps.length = qs.length
  · have hl' : ((ps.length : Int) != (qs.length : Int)) = false := by rw [hl]; simp
    have hl'' : ((ps.length : Int) == (qs.length : Int)) = true := by rw [hl]; simp
    have HL := hide hl
    clear hl
    go_enter Tryz.func47, Tryz.ntmps47
    go_wp2
    go_loopw [5] (fun i wr => ∃ k : Nat, k ≤ ps.length ∧ i = .int .i64 k ∧ ps.take k = qs.take k ∧ Nx w wr) (fun i _ => ps.length - (intOf i).toNat)
    case atStart => exact ⟨0, Nat.zero_le _, rfl, rfl, Nx.rfl⟩
    case round =>
      obtain ⟨k, hk, rfl, hE, hnx⟩ := hrel
      have HE := hide hE
      have HN := hide hnx
      clear hE hnx
      by_cases hlt : k < ps.length
      · have hlt2 : k < qs.length := by rw [← HL.out]; exact hlt
        obtain ⟨a, ha⟩ := pl_some hlt hnone
        subst ha
        obtain ⟨b, off, rfl, hr⟩ := hsome a rfl
        obtain ⟨c0, c1⟩ := (hr.on HN.out).cell hlt
        obtain ⟨a2, ha2⟩ := pl_some hlt2 hnone2
        subst ha2
        obtain ⟨b2, off2, rfl, hr2⟩ := hsome2 a2 rfl
        obtain ⟨d0, d1⟩ := (hr2.on HN.out).cell hlt2
        clear hnone hsome hnone2 hsome2 hr hr2
        by_cases h1 : ps[k].1 = qs[k].1
        · have h1' : ps[k].1.toList = qs[k].1.toList := congrArg ByteArray.toList h1
          by_cases h2 : ps[k].2 = qs[k].2
          · have h2' : ps[k].2.toList = qs[k].2.toList := congrArg ByteArray.toList h2
            have HQ := hide (take_eq_step HE.out hlt hlt2 (Prod.ext h1 h2))
            clear h1 h2
            go_wp2
            go_region
            all_goals go_wp2
            all_goals go_roundw
            all_goals first | exact ⟨k + 1, by omega, by go_num, HQ.out, HN.out.drew⟩ | (simp [intOf]; omega)
          · have h2' := toList_ne h2
            have HQ := hide (show decide (ps = qs) = false from decide_eq_false fun e => h2 (by subst e; rfl))
            clear h1 h2
            go_wp2
            go_region
            all_goals go_wp2
            all_goals go_ret
            all_goals exact ⟨by rw [HQ.out]; rfl, HN.out.drew⟩
        · have h1' := toList_ne h1
          have HQ := hide (show decide (ps = qs) = false from decide_eq_false fun e => h1 (by subst e; rfl))
          clear h1
          go_wp2
          go_region
          all_goals go_wp2
          all_goals go_ret
          all_goals exact ⟨by rw [HQ.out]; rfl, HN.out.drew⟩
      · have HQ := hide (show decide (ps = qs) = true from decide_eq_true (by have h := HE.out; rw [List.take_of_length_le (by omega), List.take_of_length_le (by have := HL.out; omega)] at h; exact h))
        clear hnone hsome hnone2 hsome2
        go_wp2
        go_ret
        exact ⟨by rw [HQ.out]; rfl, HN.out⟩
  · have hl' : ((ps.length : Int) != (qs.length : Int)) = true := by simp only [bne_iff_ne]; omega
    have hl'' : ((ps.length : Int) == (qs.length : Int)) = false := beq_eq_false_iff_ne.2 (by omega)
    have HQ := hide (show decide (ps = qs) = false from decide_eq_false fun e => hl (by rw [e]))
    clear hl hnone hsome hnone2 hsome2
    go_enter Tryz.func47, Tryz.ntmps47
    go_wp2
    go_ret
    exact ⟨by rw [HQ.out]; rfl, Nx.rfl⟩
end Go.Proofs.YtchkhibgbnhjpaaGreatDoor
