import Derived.Test.YtchkhibgbnhjpaaGreatDoorHst9
import Derived.Test.YtchkhibgbnhjpaaGreatDoorPth6
import Derived.Deep.RegionWith
namespace Go.Proofs.YtchkhibgbnhjpaaGreatDoor
open Go.RowKit

/-- The cells of a parts.URL. -/
structure Rc where
  sch : ByteArray
  nam : ByteArray
  pw : ByteArray
  hh : Bool
  host : ByteArray
  hp : Bool
  port : Nat
  op : Bool
  opath : ByteArray
  so : Option Addr
  sn : Nat
  sc : Nat
  hq : Bool
  q : ByteArray
  hf : Bool
  fr : ByteArray
/-- What a URL is, in plain lists. -/
structure U where
  sch : List UInt8
  nam : List UInt8
  pw : List UInt8
  hh : Bool
  host : List UInt8
  hp : Bool
  port : Nat
  op : Bool
  opath : List UInt8
  segs : List (List UInt8)
  hq : Bool
  q : List UInt8
  hf : Bool
  fr : List UInt8
  deriving DecidableEq
def Rc.u (r : Rc) (bs : List ByteArray) : U := ⟨tl r.sch, tl r.nam, tl r.pw, r.hh, tl r.host, r.hp, r.port, r.op, tl r.opath, bs.map tl, r.hq, tl r.q, r.hf, tl r.fr⟩
/-- The record r stands for the URL u in the world w: its texts are short, its segments lie in w. -/
structure RcIs (w : World) (r : Rc) (u : U) (bs : List ByteArray) : Prop where
  eq : r.u bs = u
  seg : StrsAt w (.slice r.so r.sn r.sc) bs
  lsch : r.sch.size ≤ 300000
  lnam : r.nam.size ≤ 300000
  lpw : r.pw.size ≤ 300000
  lhost : r.host.size ≤ 300000
  lport : r.port ≤ 65535
  lopath : r.opath.size ≤ 300000
  lsegs : bs.length ≤ 300000
  lseg : ∀ b ∈ bs, b.size ≤ 300000
  lq : r.q.size ≤ 300000
  lfr : r.fr.size ≤ 300000
theorem RcIs.on {w w' : World} {r : Rc} {u : U} {bs : List ByteArray} (h : RcIs w r u bs) (hb : Nx w w') : RcIs w' r u bs := { h with seg := h.seg.on hb }
theorem RcIs.sn {w : World} {r : Rc} {u : U} {bs : List ByteArray} (h : RcIs w r u bs) : r.sn = bs.length := by
  obtain ⟨ao, cap, he, -⟩ := h.seg
  simp only [Value.slice.injEq] at he
  exact he.2.1
/-- A block that holds the record. -/
def RecB (w : World) (b : Nat) (r : Rc) : Prop := w.heap[b]? = some (Obj.cells #[.string r.sch, .string r.nam, .string r.pw, .bool r.hh, .string r.host, .bool r.hp, .int .i64 (r.port : Int), .bool r.op, .string r.opath, .slice r.so r.sn r.sc, .bool r.hq, .string r.q, .bool r.hf, .string r.fr] 54 (0, 0))
theorem RecB.on {w w' : World} {b : Nat} {r : Rc} (h : RecB w b r) (hb : Nx w w') : RecB w' b r := (hb.block b (Array.getElem?_eq_some_iff.1 h).1).trans h
theorem recB_new (w : World) (r : Rc) : RecB (w.alloc (Obj.cells #[.string r.sch, .string r.nam, .string r.pw, .bool r.hh, .string r.host, .bool r.hp, .int .i64 (r.port : Int), .bool r.op, .string r.opath, .slice r.so r.sn r.sc, .bool r.hq, .string r.q, .bool r.hf, .string r.fr] 54)) w.heap.size r := heap_alloc_new w _
theorem RecB.cells {w : World} {b : Nat} {r : Rc} (h : RecB w b r) : w.cell? ⟨b, 0, none⟩ = some (.string r.sch) ∧ w.cell? ⟨b, 1, none⟩ = some (.string r.nam) ∧ w.cell? ⟨b, 2, none⟩ = some (.string r.pw) ∧ w.cell? ⟨b, 3, none⟩ = some (.bool r.hh) ∧ w.cell? ⟨b, 4, none⟩ = some (.string r.host) ∧ w.cell? ⟨b, 5, none⟩ = some (.bool r.hp) ∧ w.cell? ⟨b, 6, none⟩ = some (.int .i64 (r.port : Int)) ∧ w.cell? ⟨b, 7, none⟩ = some (.bool r.op) ∧ w.cell? ⟨b, 8, none⟩ = some (.string r.opath) ∧ w.cell? ⟨b, 9, none⟩ = some (.slice r.so r.sn r.sc) ∧ w.cell? ⟨b, 10, none⟩ = some (.bool r.hq) ∧ w.cell? ⟨b, 11, none⟩ = some (.string r.q) ∧ w.cell? ⟨b, 12, none⟩ = some (.bool r.hf) ∧ w.cell? ⟨b, 13, none⟩ = some (.string r.fr) := by
  unfold RecB at h
  refine ⟨?_, ?_, ?_, ?_, ?_, ?_, ?_, ?_, ?_, ?_, ?_, ?_, ?_, ?_⟩ <;> simp [World.cell?, h]
theorem RecB.free {w : World} {b : Nat} {r : Rc} (h : RecB w b r) (i : Nat) : w.frozen? ⟨b, i, none⟩ = false := by
  unfold RecB at h
  simp [World.frozen?, h]

/-- (parts.URL).Protocol -/
def protocolU (u : U) : List UInt8 := u.sch ++ [58]
set_option maxHeartbeats 1000000 in
theorem protocol_any (r : Rc) (u : U) (bs : List ByteArray) (w : World) (h : RcIs w r u bs) :
    Calls Tryz.prog 40 #[.agg #[.string r.sch, .string r.nam, .string r.pw, .bool r.hh, .string r.host, .bool r.hp, .int .i64 (r.port : Int), .bool r.op, .string r.opath, .slice r.so r.sn r.sc, .bool r.hq, .string r.q, .bool r.hf, .string r.fr]] w fun e w' => ∃ t : ByteArray, e = .returned (.string t) ∧ tl t = protocolU u ∧ Nx w w' := by
  have hs := h.lsch
  have HE := hide (show protocolU u = tl r.sch ++ [58] by rw [← h.eq]; rfl)
  clear h
  go_enter Tryz.func40, Tryz.ntmps40
  go_wp2
  go_ret
  exact ⟨r.sch ++ (⟨#[58]⟩ : ByteArray), rfl, by rw [HE.out, tl_append']; rfl, Nx.rfl.alloc _⟩
/-- parts.marked -/
def markedL (m t : List UInt8) : List UInt8 := if t = [] then [] else m ++ t
set_option maxHeartbeats 1000000 in
theorem marked_any (m t : ByteArray) (w : World) (hm : m.size ≤ 1000000) (ht : t.size ≤ 1000000) :
    Calls Tryz.prog 60 #[.string m, .string t] w fun e w' => ∃ x : ByteArray, e = .returned (.string x) ∧ tl x = markedL (tl m) (tl t) ∧ w = w' := by
  by_cases h0 : t.size = 0
  · have HE := hide (show markedL (tl m) (tl t) = [] from if_pos (tl_empty h0))
    have h0' := str_empty h0
    clear h0
    go_enter Tryz.func60, Tryz.ntmps60
    go_wp2
    go_ret
    exact ⟨⟨#[]⟩, rfl, HE.out.symm, rfl⟩
  · have HE := hide (show markedL (tl m) (tl t) = tl m ++ tl t from if_neg (tl_ne h0))
    have h0' := str_nonempty h0
    clear h0
    go_enter Tryz.func60, Tryz.ntmps60
    go_wp2
    go_ret
    exact ⟨m ++ t, rfl, by rw [HE.out, tl_append'], rfl⟩
def searchU (u : U) : List UInt8 := markedL [63] u.q
def hashU (u : U) : List UInt8 := markedL [35] u.fr
set_option maxHeartbeats 1000000 in
theorem search_any (r : Rc) (u : U) (bs : List ByteArray) (w : World) (h : RcIs w r u bs) :
    Calls Tryz.prog 44 #[.agg #[.string r.sch, .string r.nam, .string r.pw, .bool r.hh, .string r.host, .bool r.hp, .int .i64 (r.port : Int), .bool r.op, .string r.opath, .slice r.so r.sn r.sc, .bool r.hq, .string r.q, .bool r.hf, .string r.fr]] w fun e w' => ∃ t : ByteArray, e = .returned (.string t) ∧ tl t = searchU u ∧ Nx w w' := by
  have hs := h.lq
  have HE := hide (show searchU u = markedL [63] (tl r.q) by rw [← h.eq]; rfl)
  clear h
  go_enter Tryz.func44, Tryz.ntmps44
  go_wp2_with (go_at_call 60; refine (marked_any _ _ _ (by decide) (by omega)).mono ?_; rintro e w' ⟨x, rfl, hx, rfl⟩; have HX := hide hx; clear hx)
  go_ret
  exact ⟨x, rfl, by rw [HE.out]; exact HX.out, Nx.rfl.alloc _⟩
set_option maxHeartbeats 1000000 in
theorem hash_any (r : Rc) (u : U) (bs : List ByteArray) (w : World) (h : RcIs w r u bs) :
    Calls Tryz.prog 45 #[.agg #[.string r.sch, .string r.nam, .string r.pw, .bool r.hh, .string r.host, .bool r.hp, .int .i64 (r.port : Int), .bool r.op, .string r.opath, .slice r.so r.sn r.sc, .bool r.hq, .string r.q, .bool r.hf, .string r.fr]] w fun e w' => ∃ t : ByteArray, e = .returned (.string t) ∧ tl t = hashU u ∧ Nx w w' := by
  have hs := h.lfr
  have HE := hide (show hashU u = markedL [35] (tl r.fr) by rw [← h.eq]; rfl)
  clear h
  go_enter Tryz.func45, Tryz.ntmps45
  go_wp2_with (go_at_call 60; refine (marked_any _ _ _ (by decide) (by omega)).mono ?_; rintro e w' ⟨x, rfl, hx, rfl⟩; have HX := hide hx; clear hx)
  go_ret
  exact ⟨x, rfl, by rw [HE.out]; exact HX.out, Nx.rfl.alloc _⟩
/-- (parts.URL).PortText -/
def portTextU (u : U) : List UInt8 := if u.hp = true then decD u.port else []
set_option maxHeartbeats 1000000 in
theorem portText_any (r : Rc) (u : U) (bs : List ByteArray) (w : World) (h : RcIs w r u bs) (ht : Tb w) :
    Calls Tryz.prog 42 #[.agg #[.string r.sch, .string r.nam, .string r.pw, .bool r.hh, .string r.host, .bool r.hp, .int .i64 (r.port : Int), .bool r.op, .string r.opath, .slice r.so r.sn r.sc, .bool r.hq, .string r.q, .bool r.hf, .string r.fr]] w fun e w' => ∃ t : ByteArray, e = .returned (.string t) ∧ tl t = portTextU u ∧ t.size ≤ 5 ∧ Nx w w' := by
  have hs := h.lport
  have HD := hide (show portTextU u = if r.hp = true then decD r.port else [] by rw [← h.eq]; rfl)
  have HTB := hide ht
  clear h ht
  cases hhp : r.hp
  · have HE := hide (HD.out.trans (if_neg (by rw [hhp]; decide)))
    clear HD
    go_enter Tryz.func42, Tryz.ntmps42
    go_wp2
    go_ret
    exact ⟨⟨#[]⟩, rfl, HE.out.symm, by decide, Nx.rfl.alloc _⟩
  · have HE := hide (HD.out.trans (if_pos hhp))
    clear HD
    go_enter Tryz.func42, Tryz.ntmps42
    go_wp2_with (go_at_call 59; refine (itoaD_any r.port hs _ (HTB.out.on (Nx.rfl.alloc _))).mono ?_; rintro e w1 ⟨x, rfl, hx, hn⟩; have HX := hide hx; have HN := hide (show Nx w w1 from (Nx.rfl.alloc _).then hn); clear hx hn)
    go_ret
    exact ⟨x, rfl, by rw [HE.out]; exact HX.out, by have := congrArg List.length HX.out; rw [tl_length] at this; have := decD_len r.port; omega, HN.out⟩
/-- (parts.URL).user -/
def userU (u : U) : List UInt8 := if u.nam = [] ∧ u.pw = [] then [] else if u.pw = [] then u.nam ++ [64] else u.nam ++ ([58] ++ u.pw) ++ [64]
set_option maxHeartbeats 2000000 in
theorem user_any (r : Rc) (u : U) (bs : List ByteArray) (w : World) (h : RcIs w r u bs) :
    Calls Tryz.prog 88 #[.agg #[.string r.sch, .string r.nam, .string r.pw, .bool r.hh, .string r.host, .bool r.hp, .int .i64 (r.port : Int), .bool r.op, .string r.opath, .slice r.so r.sn r.sc, .bool r.hq, .string r.q, .bool r.hf, .string r.fr]] w fun e w' => ∃ t : ByteArray, e = .returned (.string t) ∧ tl t = userU u ∧ t.size ≤ 900000 ∧ Nx w w' := by
  have hs1 := h.lnam
  have hs2 := h.lpw
  have HD := hide (show userU u = if tl r.nam = [] ∧ tl r.pw = [] then [] else if tl r.pw = [] then tl r.nam ++ [64] else tl r.nam ++ ([58] ++ tl r.pw) ++ [64] by rw [← h.eq]; rfl)
  clear h
  by_cases hp0 : r.pw.size = 0
  · by_cases hn0 : r.nam.size = 0
    · have HE := hide (HD.out.trans (if_pos ⟨tl_empty hn0, tl_empty hp0⟩))
      have hp0' := str_empty hp0
      have hn0' := str_empty hn0
      clear HD hp0 hn0
      go_enter Tryz.func88, Tryz.ntmps88
      go_wp2
      go_ret
      exact ⟨⟨#[]⟩, rfl, HE.out.symm, by decide, Nx.rfl.alloc _⟩
    · have HE := hide ((HD.out.trans (if_neg (fun h => tl_ne hn0 h.1))).trans (if_pos (tl_empty hp0)))
      have hp0' := str_empty hp0
      have hn0' := str_nonempty hn0
      clear HD hp0 hn0
      go_enter Tryz.func88, Tryz.ntmps88
      go_wp2
      go_ret
      exact ⟨r.nam ++ (⟨#[64]⟩ : ByteArray), rfl, by rw [HE.out, tl_append']; rfl, by rw [size_append']; show r.nam.size + 1 ≤ _; omega, Nx.rfl.alloc _⟩
  · have HE := hide ((HD.out.trans (if_neg (fun h => tl_ne hp0 h.2))).trans (if_neg (tl_ne hp0)))
    have hp0' := str_nonempty hp0
    clear HD hp0
    by_cases hn0 : r.nam.size = 0
    · have hn0' := str_empty hn0
      have hz : r.nam.size ≤ 0 := by omega
      clear hn0
      go_enter Tryz.func88, Tryz.ntmps88
      go_wp2
      go_ret
      exact ⟨r.nam ++ ((⟨#[58]⟩ : ByteArray) ++ r.pw) ++ (⟨#[64]⟩ : ByteArray), rfl, by rw [HE.out, tl_append', tl_append', tl_append']; rfl, by rw [size_append', size_append', size_append']; show r.nam.size + (1 + r.pw.size) + 1 ≤ _; omega, Nx.rfl.alloc _⟩
    · have hn0' := str_nonempty hn0
      clear hn0
      go_enter Tryz.func88, Tryz.ntmps88
      go_wp2
      go_ret
      exact ⟨r.nam ++ ((⟨#[58]⟩ : ByteArray) ++ r.pw) ++ (⟨#[64]⟩ : ByteArray), rfl, by rw [HE.out, tl_append', tl_append', tl_append']; rfl, by rw [size_append', size_append', size_append']; show r.nam.size + (1 + r.pw.size) + 1 ≤ _; omega, Nx.rfl.alloc _⟩
end Go.Proofs.YtchkhibgbnhjpaaGreatDoor
