import Derived.Test.YtchkhibgbnhjpaaGreatDoorRd2
namespace Go.Proofs.YtchkhibgbnhjpaaGreatDoor
open Go.RowKit

/-- The empty record. -/
def rz : Rc := ⟨⟨#[]⟩, ⟨#[]⟩, ⟨#[]⟩, false, ⟨#[]⟩, false, 0, false, ⟨#[]⟩, none, 0, 0, false, ⟨#[]⟩, false, ⟨#[]⟩⟩
def zeroU : U := ⟨[], [], [], false, [], false, 0, false, [], [], false, [], false, []⟩
theorem rz_is (w : World) : RcIs w rz zeroU [] := ⟨rfl, SlAt.nil w, by decide, by decide, by decide, by decide, by decide, by decide, by decide, (fun b hb => by cases hb), by decide, by decide⟩
theorem rzB_new (w : World) : RecB (w.alloc (Obj.cells #[.string ⟨#[]⟩, .string ⟨#[]⟩, .string ⟨#[]⟩, .bool false, .string ⟨#[]⟩, .bool false, .int .i64 0, .bool false, .string ⟨#[]⟩, .slice none 0 0, .bool false, .string ⟨#[]⟩, .bool false, .string ⟨#[]⟩] 54)) w.heap.size rz := heap_alloc_new w _
/-- Fourteen cells of a parts.URL. -/
def C14 (w : World) (b : Nat) (v0 v1 v2 v3 v4 v5 v6 v7 v8 v9 v10 v11 v12 v13 : Value) : Prop := w.heap[b]? = some (Obj.cells #[v0, v1, v2, v3, v4, v5, v6, v7, v8, v9, v10, v11, v12, v13] 54 (0, 0))
theorem C14.on {w w' : World} {b : Nat} {v0 v1 v2 v3 v4 v5 v6 v7 v8 v9 v10 v11 v12 v13 : Value} (h : C14 w b v0 v1 v2 v3 v4 v5 v6 v7 v8 v9 v10 v11 v12 v13) (hb : Nx w w') : C14 w' b v0 v1 v2 v3 v4 v5 v6 v7 v8 v9 v10 v11 v12 v13 := (hb.block b (Array.getElem?_eq_some_iff.1 h).1).trans h
theorem RecB.put {w : World} {b : Nat} {r : Rc} (h : RecB w b r) (v0 v1 v2 v3 v4 v5 v6 v7 v8 v9 v10 v11 v12 v13 : Value) : C14 ((((((((((((((w.setCell ⟨b, 0, none⟩ v0).setCell ⟨b, 1, none⟩ v1).setCell ⟨b, 2, none⟩ v2).setCell ⟨b, 3, none⟩ v3).setCell ⟨b, 4, none⟩ v4).setCell ⟨b, 5, none⟩ v5).setCell ⟨b, 6, none⟩ v6).setCell ⟨b, 7, none⟩ v7).setCell ⟨b, 8, none⟩ v8).setCell ⟨b, 9, none⟩ v9).setCell ⟨b, 10, none⟩ v10).setCell ⟨b, 11, none⟩ v11).setCell ⟨b, 12, none⟩ v12).setCell ⟨b, 13, none⟩ v13) b v0 v1 v2 v3 v4 v5 v6 v7 v8 v9 v10 v11 v12 v13 := by
  unfold RecB at h
  unfold C14
  simp [World.setCell, Array.getElem?_modify, h]
theorem C14.cells {w : World} {b : Nat} {v0 v1 v2 v3 v4 v5 v6 v7 v8 v9 v10 v11 v12 v13 : Value} (h : C14 w b v0 v1 v2 v3 v4 v5 v6 v7 v8 v9 v10 v11 v12 v13) : w.cell? ⟨b, 0, none⟩ = some v0 ∧ w.cell? ⟨b, 1, none⟩ = some v1 ∧ w.cell? ⟨b, 2, none⟩ = some v2 ∧ w.cell? ⟨b, 3, none⟩ = some v3 ∧ w.cell? ⟨b, 4, none⟩ = some v4 ∧ w.cell? ⟨b, 5, none⟩ = some v5 ∧ w.cell? ⟨b, 6, none⟩ = some v6 ∧ w.cell? ⟨b, 7, none⟩ = some v7 ∧ w.cell? ⟨b, 8, none⟩ = some v8 ∧ w.cell? ⟨b, 9, none⟩ = some v9 ∧ w.cell? ⟨b, 10, none⟩ = some v10 ∧ w.cell? ⟨b, 11, none⟩ = some v11 ∧ w.cell? ⟨b, 12, none⟩ = some v12 ∧ w.cell? ⟨b, 13, none⟩ = some v13 := by
  unfold C14 at h
  refine ⟨?_, ?_, ?_, ?_, ?_, ?_, ?_, ?_, ?_, ?_, ?_, ?_, ?_, ?_⟩ <;> simp [World.cell?, h]
theorem RecB.far {w : World} {b q : Nat} {r : Rc} (h : RecB w b r) (hq : q ≠ b) (i : Nat) (u : Value) : RecB (w.setCell ⟨q, i, none⟩ u) b r := by
  unfold RecB at *
  simp only [World.setCell, Array.getElem?_modify, if_neg hq]
  exact h
theorem put14_below {B : Nat} {a w : World} {b : Nat} (h : Below B a w) (hb : B ≤ b) (v0 v1 v2 v3 v4 v5 v6 v7 v8 v9 v10 v11 v12 v13 : Value) : Below B a ((((((((((((((w.setCell ⟨b, 0, none⟩ v0).setCell ⟨b, 1, none⟩ v1).setCell ⟨b, 2, none⟩ v2).setCell ⟨b, 3, none⟩ v3).setCell ⟨b, 4, none⟩ v4).setCell ⟨b, 5, none⟩ v5).setCell ⟨b, 6, none⟩ v6).setCell ⟨b, 7, none⟩ v7).setCell ⟨b, 8, none⟩ v8).setCell ⟨b, 9, none⟩ v9).setCell ⟨b, 10, none⟩ v10).setCell ⟨b, 11, none⟩ v11).setCell ⟨b, 12, none⟩ v12).setCell ⟨b, 13, none⟩ v13) :=
  ((((((((((((((h.setCell hb _).setCell hb _).setCell hb _).setCell hb _).setCell hb _).setCell hb _).setCell hb _).setCell hb _).setCell hb _).setCell hb _).setCell hb _).setCell hb _).setCell hb _).setCell hb _)
/-- Rows of strings stand. -/
def Ks (w w' : World) : Prop := ∀ (k : Nat) (cs : Array Value) (fz : Nat × Nat), w.heap[k]? = some (Obj.cells cs 9 fz) → w'.heap[k]? = some (Obj.cells cs 9 fz)
theorem Ks.rfl {w : World} : Ks w w := fun _ _ _ h => h
theorem Ks.then {a b c : World} (h : Ks a b) (k : Ks b c) : Ks a c := fun i cs fz hi => k i cs fz (h i cs fz hi)
theorem Nx.ks {w w' : World} (h : Nx w w') : Ks w w' := fun k _ _ hk => (h.block k (Array.getElem?_eq_some_iff.1 hk).1).trans hk
theorem ks_set {w : World} {pb : Nat} {t : TypeId} (h : TyB w pb t) (ht : t ≠ 9) (i : Nat) (u : Value) : Ks w (w.setCell ⟨pb, i, none⟩ u) := by
  intro k cs fz hk
  obtain ⟨cs', fz', h⟩ := h
  have hne : pb ≠ k := by
    intro e
    subst e
    rw [h] at hk
    simp only [Option.some.injEq, Obj.cells.injEq] at hk
    exact ht hk.2.1
  simp only [World.setCell, Array.getElem?_modify, if_neg hne]
  exact hk
theorem RecB.ty {w : World} {b : Nat} {r : Rc} (h : RecB w b r) : TyB w b 54 := ⟨_, _, h⟩
theorem put14_ks {w : World} {b : Nat} {t : TypeId} (h : TyB w b t) (ht : t ≠ 9) (v0 v1 v2 v3 v4 v5 v6 v7 v8 v9 v10 v11 v12 v13 : Value) : Ks w ((((((((((((((w.setCell ⟨b, 0, none⟩ v0).setCell ⟨b, 1, none⟩ v1).setCell ⟨b, 2, none⟩ v2).setCell ⟨b, 3, none⟩ v3).setCell ⟨b, 4, none⟩ v4).setCell ⟨b, 5, none⟩ v5).setCell ⟨b, 6, none⟩ v6).setCell ⟨b, 7, none⟩ v7).setCell ⟨b, 8, none⟩ v8).setCell ⟨b, 9, none⟩ v9).setCell ⟨b, 10, none⟩ v10).setCell ⟨b, 11, none⟩ v11).setCell ⟨b, 12, none⟩ v12).setCell ⟨b, 13, none⟩ v13) := by
  have h1 := h.set b 0 v0
  have h2 := h1.set b 1 v1
  have h3 := h2.set b 2 v2
  have h4 := h3.set b 3 v3
  have h5 := h4.set b 4 v4
  have h6 := h5.set b 5 v5
  have h7 := h6.set b 6 v6
  have h8 := h7.set b 7 v7
  have h9 := h8.set b 8 v8
  have h10 := h9.set b 9 v9
  have h11 := h10.set b 10 v10
  have h12 := h11.set b 11 v11
  have h13 := h12.set b 12 v12
  exact ((((((((((((((ks_set h ht 0 v0).then (ks_set h1 ht 1 v1)).then (ks_set h2 ht 2 v2)).then (ks_set h3 ht 3 v3)).then (ks_set h4 ht 4 v4)).then (ks_set h5 ht 5 v5)).then (ks_set h6 ht 6 v6)).then (ks_set h7 ht 7 v7)).then (ks_set h8 ht 8 v8)).then (ks_set h9 ht 9 v9)).then (ks_set h10 ht 10 v10)).then (ks_set h11 ht 11 v11)).then (ks_set h12 ht 12 v12)).then (ks_set h13 ht 13 v13))
theorem SlAt.ks {w w' : World} {v : Value} {l : List ByteArray} (h : StrsAt w v l) (hk : Ks w w') : StrsAt w' v l := by
  obtain ⟨ao, cap, rfl, hlc, hcap, hnone, hsome⟩ := h
  refine ⟨ao, cap, rfl, hlc, hcap, hnone, fun a ha => ?_⟩
  obtain ⟨b, off, rfl, cs, fz, hh, hc⟩ := hsome a ha
  exact ⟨b, off, rfl, cs, fz, hk b cs fz hh, hc⟩
theorem RcIs.ks {w w' : World} {r : Rc} {u : U} {bs : List ByteArray} (h : RcIs w r u bs) (hk : Ks w w') : RcIs w' r u bs := { h with seg := h.seg.ks hk }
/-- The end of a function that answers a record and a number. -/
theorem ret14 {fn : Func} {R : Ending → World → Prop} {a : Act} {W : World} {c t : Tmp} {rb : Nat} {v0 v1 v2 v3 v4 v5 v6 v7 v8 v9 v10 v11 v12 v13 : Value} {err : Int} (hres : fn.results = #[.cell c 54, .tmp t]) (hc : a.tmps[c]?.getD undef = .pointer (some ⟨rb, 0, none⟩)) (ht : a.tmps[t]?.getD undef = .int .i64 err)
    (hC : C14 W rb v0 v1 v2 v3 v4 v5 v6 v7 v8 v9 v10 v11 v12 v13) (hd : a.defers = []) (hR : R (.returned (.tuple #[.agg #[v0, v1, v2, v3, v4, v5, v6, v7, v8, v9, v10, v11, v12, v13], .int .i64 err])) W) : bodyPost Tryz.prog fn R .ret a W := by
  obtain ⟨y0, y1, y2, y3, y4, y5, y6, y7, y8, y9, y10, y11, y12, y13⟩ := hC.cells
  exact bodyPost_ret (v := .tuple #[.agg #[v0, v1, v2, v3, v4, v5, v6, v7, v8, v9, v10, v11, v12, v13], .int .i64 err]) (by simp [results, hres, hc, ht, go_sem, y0, y1, y2, y3, y4, y5, y6, y7, y8, y9, y10, y11, y12, y13]) hd hR
theorem ret14o {fn : Func} {R : Ending → World → Prop} {a : Act} {W : World} {c : Tmp} {rb : Nat} {v0 v1 v2 v3 v4 v5 v6 v7 v8 v9 v10 v11 v12 v13 : Value} (hres : fn.results = #[.cell c 54]) (hc : a.tmps[c]?.getD undef = .pointer (some ⟨rb, 0, none⟩))
    (hC : C14 W rb v0 v1 v2 v3 v4 v5 v6 v7 v8 v9 v10 v11 v12 v13) (hd : a.defers = []) (hR : R (.returned (.agg #[v0, v1, v2, v3, v4, v5, v6, v7, v8, v9, v10, v11, v12, v13])) W) : bodyPost Tryz.prog fn R .ret a W := by
  obtain ⟨y0, y1, y2, y3, y4, y5, y6, y7, y8, y9, y10, y11, y12, y13⟩ := hC.cells
  exact bodyPost_ret (v := .agg #[v0, v1, v2, v3, v4, v5, v6, v7, v8, v9, v10, v11, v12, v13]) (by simp [results, hres, hc, go_sem, y0, y1, y2, y3, y4, y5, y6, y7, y8, y9, y10, y11, y12, y13]) hd hR
/-- What a reading function answers. -/
def ResIs (e : Ending) (w' : World) (x : U × Int) (n : Nat) : Prop := ∃ (r : Rc) (bs : List ByteArray), e = .returned (.tuple #[.agg #[.string r.sch, .string r.nam, .string r.pw, .bool r.hh, .string r.host, .bool r.hp, .int .i64 (r.port : Int), .bool r.op, .string r.opath, .slice r.so r.sn r.sc, .bool r.hq, .string r.q, .bool r.hf, .string r.fr], .int .i64 x.2]) ∧ RcIs w' r x.1 bs ∧ bs.length ≤ n

/-- Segments that are short. -/
def Short (ps : List (List UInt8)) : Prop := ∀ p ∈ ps, p.length ≤ 300000
theorem enc_short (set l : List UInt8) (h : l.length ≤ 30000) : (encB set (clean l)).length ≤ 300000 := by
  have h1 := encB_len set (clean l)
  have h2 := clean_len l
  omega
theorem shortL_short {f : Bool} {ps : List (List UInt8)} (h : Short ps) : Short (shortL f ps) := by
  unfold shortL
  split
  · exact h
  · exact fun p hp => h p (List.mem_of_mem_take hp)
theorem joinL_short {f : Bool} {ps : List (List UInt8)} {seg : List UInt8} (h : Short ps) (hs : seg.length ≤ 30000) : Short (joinL f ps seg) := by
  intro p hp
  unfold joinL at hp
  rcases List.mem_append.1 hp with hp | hp
  · exact h p hp
  · rw [List.mem_singleton] at hp
    subst hp
    split
    · rw [List.length_append, List.length_take]; simp; omega
    · exact enc_short _ _ hs
theorem takeL_short {f : Bool} {ps : List (List UInt8)} {seg : List UInt8} {last : Bool} (h : Short ps) (hs : seg.length ≤ 30000) : Short (takeL f ps seg last) := by
  have h2 : Short (if countDots seg = 2 then shortL f ps else ps) := by split; exact shortL_short h; exact h
  unfold takeL
  split
  · exact joinL_short h hs
  · split
    · intro p hp
      rcases List.mem_append.1 hp with hp | hp
      · exact h2 p hp
      · rw [List.mem_singleton] at hp; subst hp; simp
    · exact h2
theorem segsGo_short (f : Bool) (ss : List (List UInt8)) : ∀ ps, Short ps → (∀ s ∈ ss, s.length ≤ 30000) → Short (segsGo f ps ss) := by
  induction ss with
  | nil => intro ps h _; exact h
  | cons x r ih =>
    intro ps h hs
    have hx := hs x (List.mem_cons_self ..)
    cases r with
    | nil => exact takeL_short h hx
    | cons y q => exact ih _ (takeL_short h hx) (fun s hh => hs s (List.mem_cons_of_mem _ hh))
theorem splitP_short (p : UInt8 → Bool) (l : List UInt8) : ∀ s ∈ splitP p l, s.length ≤ l.length := by
  induction l with
  | nil => intro s hs; rw [splitP] at hs; simp at hs; subst hs; simp
  | cons c r ih =>
    intro s hs
    rw [splitP] at hs
    split at hs
    · rcases List.mem_cons.1 hs with rfl | hs
      · simp
      · have := ih s hs; simp; omega
    · obtain ⟨x, q, hx⟩ := splitP_ne p r
      rw [hx] at hs ih
      simp only at hs
      rcases List.mem_cons.1 hs with rfl | hs
      · have := ih x (List.mem_cons_self ..); simp; omega
      · have := ih s (List.mem_cons_of_mem _ hs); simp; omega
theorem followL_short {f sp : Bool} {ps : List (List UInt8)} {t : List UInt8} (h : Short ps) (ht : t.length ≤ 30000) : Short (followL f sp ps t) :=
  segsGo_short f _ ps h (fun s hs => Nat.le_trans (splitP_short _ _ s hs) ht)
theorem readL_short {t sch : List UInt8} (ht : t.length ≤ 30000) : Short (readL t sch) := followL_short (fun p hp => by cases hp) ht
theorem besideL_short {base : List (List UInt8)} {t sch : List UInt8} (h : Short base) (ht : t.length ≤ 30000) : Short (besideL base t sch) := followL_short (shortL_short h) ht
theorem onDriveL_short {base : List (List UInt8)} {t : List UInt8} (h : Short base) (ht : t.length ≤ 30000) : Short (onDriveL base t) := by
  unfold onDriveL
  split
  · exact readL_short ht
  · exact followL_short (fun p hp => h p (List.mem_of_mem_take hp)) ht
theorem short_map {bs : List ByteArray} {ps : List (List UInt8)} (h : bs.map tl = ps) (hs : Short ps) : ∀ b ∈ bs, b.size ≤ 300000 := fun b hb => by
  have := hs (tl b) (by rw [← h]; exact List.mem_map.2 ⟨b, hb, rfl⟩)
  rwa [tl_length] at this
theorem RcIs.short {w : World} {r : Rc} {u : U} {bs : List ByteArray} (h : RcIs w r u bs) : Short u.segs := by
  intro p hp
  have e : u.segs = bs.map tl := by rw [← h.eq]; rfl
  rw [e] at hp
  obtain ⟨b, hb, rfl⟩ := List.mem_map.1 hp
  rw [tl_length]
  exact h.lseg b hb
theorem RcIs.segs {w : World} {r : Rc} {u : U} {bs : List ByteArray} (h : RcIs w r u bs) : bs.map tl = u.segs := by rw [← h.eq]; rfl
theorem RcIs.usch {w : World} {r : Rc} {u : U} {bs : List ByteArray} (h : RcIs w r u bs) : tl r.sch = u.sch := by rw [← h.eq]; rfl
end Go.Proofs.YtchkhibgbnhjpaaGreatDoor
