import Derived.Test.YtchkhibgbnhjpaaGreatDoorK30
import Derived.Laws.OwnMore
import Derived.Deep.Cut
namespace Go.Proofs.YtchkhibgbnhjpaaGreatDoor
open Go.RowKit
def ZcC (l:List UInt8) (based:Bool):U × Int:=if based=false then (zeroU,0) else if (ZbA l).2=2 then (zeroU,4) else ZbA l
set_option maxHeartbeats 8000000 in
theorem Zq9 (s:ByteArray) (based:Bool) (w:World) (hl:based=true→s.size≤9000) (ht:Tb w):
  Calls Tryz.prog 54 #[.string s,.bool based] w fun e w'=>ZgW e w' (ZcC (tl s) based) 30002∧Nx w w':=by
 have HTB:=Za ht
 clear ht
 cases based
 ·have HE:=Za (show ZcC (tl s) false=(zeroU,0) from if_pos rfl)
  clear hl
  go_enter Tryz.func54,Tryz.ntmps54
  go_wp2
  exact Zag (rb:=w.heap.size) Tryz.results54 rfl rfl (Zfj w) rfl ⟨⟨rz,[],(by rw [HE.out];first | done | rfl),(by rw [HE.out];exact Zd3 _),by simp⟩,Nx.rfl.alloc _⟩
 ·have HD:=Za (show ZcC (tl s) true=if (ZbA (tl s)).2=2 then (zeroU,4) else ZbA (tl s) from if_neg (by decide))
  have hs:=hl rfl
  clear hl
  go_enter Tryz.func54,Tryz.ntmps54
  go_wp2_with fail
  refine (ZkC s _ hs (HTB.out.on (Nx.rfl.alloc _))).mono ?_
  rintro e w1 ⟨⟨r,ds,rfl,hr,hdl⟩,hn⟩
  have HR:=Za hr
  have HZ:=Za ((Zfj w).on hn)
  have HN:=Za (show Nx w w1 from (Nx.rfl.alloc _).then hn)
  clear hr hn
  have hlz:w.heap.size < w1.heap.size:=(Array.getElem?_eq_some_iff.1 HZ.out).1
  obtain ⟨z0,z1,z2,z3,z4,z5,z6,z7,z8,z9,z10,z11,z12,z13⟩:=HZ.out.cells
  have zf0:=HZ.out.free 0
  have zf1:=HZ.out.free 1
  have zf2:=HZ.out.free 2
  have zf3:=HZ.out.free 3
  have zf4:=HZ.out.free 4
  have zf5:=HZ.out.free 5
  have zf6:=HZ.out.free 6
  have zf7:=HZ.out.free 7
  have zf8:=HZ.out.free 8
  have zf9:=HZ.out.free 9
  have zf10:=HZ.out.free 10
  have zf11:=HZ.out.free 11
  have zf12:=HZ.out.free 12
  have zf13:=HZ.out.free 13
  generalize ZbA (tl s)=q at *
  obtain ⟨qu,err⟩:=q
  simp only at HR HD
  by_cases he:err=2
  ·have HE:=Za (HD.out.trans (if_pos he))
   have he':(err == 2)=true:=by rw [he];rfl
   clear HD he
   go_wp2
   exact Zag (rb:=w.heap.size) Tryz.results54 rfl rfl ((RecB.put HZ.out _ _ _ _ _ _ _ _ _ _ _ _ _ _).on (Nx.rfl.alloc _)) rfl ⟨⟨rz,[],(by rw [HE.out];first | done | rfl),(by rw [HE.out];exact Zd3 _),by simp⟩,Nx.alloc (Zf HN.out (Nat.le_refl _) _ _ _ _ _ _ _ _ _ _ _ _ _ _) _⟩
  ·have HE:=Za (HD.out.trans (if_neg he))
   have he':(err == 2)=false:=beq_eq_false_iff_ne.2 he
   clear HD he
   go_wp2
   exact Zag (rb:=w.heap.size) Tryz.results54 rfl rfl ((RecB.put HZ.out _ _ _ _ _ _ _ _ _ _ _ _ _ _).on (Nx.rfl.alloc _)) rfl ⟨⟨r,ds,(by rw [HE.out];first | done | rfl),(by rw [HE.out];exact HR.out.ks (Ks.then (Zq HZ.out.ty (by decide) _ _ _ _ _ _ _ _ _ _ _ _ _ _) (Nx.ks (Nx.rfl.alloc _)))),hdl⟩,Nx.alloc (Zf HN.out (Nat.le_refl _) _ _ _ _ _ _ _ _ _ _ _ _ _ _) _⟩
def UrlB (w:World) (b:Nat) (r:Rc):Prop:=w.heap[b]?=some (Obj.cells #[.string r.sch,.string r.nam,.string r.pw,.bool r.hh,.string r.host,.bool r.hp,.int .i64 (r.port:Int),.bool r.op,.string r.opath,.slice r.so r.sn r.sc,.bool r.hq,.string r.q,.bool r.hf,.string r.fr] 56 (0,0))
theorem UrlB.on {w w':World} {b:Nat} {r:Rc} (h:UrlB w b r) (hb:Nx w w'):UrlB w' b r:=(hb.block b (Array.getElem?_eq_some_iff.1 h).1).trans h
theorem ZnN (w:World) (r:Rc):UrlB (w.alloc (Obj.cells #[.string r.sch,.string r.nam,.string r.pw,.bool r.hh,.string r.host,.bool r.hp,.int .i64 (r.port:Int),.bool r.op,.string r.opath,.slice r.so r.sn r.sc,.bool r.hq,.string r.q,.bool r.hf,.string r.fr] 56)) w.heap.size r:=heap_alloc_new w _
theorem UrlB.cells {w:World} {b:Nat} {r:Rc} (h:UrlB w b r):w.cell? ⟨b,0,none⟩=some (.string r.sch)∧w.cell? ⟨b,1,none⟩=some (.string r.nam)∧w.cell? ⟨b,2,none⟩=some (.string r.pw)∧w.cell? ⟨b,3,none⟩=some (.bool r.hh)∧w.cell? ⟨b,4,none⟩=some (.string r.host)∧w.cell? ⟨b,5,none⟩=some (.bool r.hp)∧w.cell? ⟨b,6,none⟩=some (.int .i64 (r.port:Int))∧w.cell? ⟨b,7,none⟩=some (.bool r.op)∧w.cell? ⟨b,8,none⟩=some (.string r.opath)∧w.cell? ⟨b,9,none⟩=some (.slice r.so r.sn r.sc)∧w.cell? ⟨b,10,none⟩=some (.bool r.hq)∧w.cell? ⟨b,11,none⟩=some (.string r.q)∧w.cell? ⟨b,12,none⟩=some (.bool r.hf)∧w.cell? ⟨b,13,none⟩=some (.string r.fr):=by
 unfold UrlB at h
 refine ⟨?_,?_,?_,?_,?_,?_,?_,?_,?_,?_,?_,?_,?_,?_⟩ <;> simp [World.cell?,h]
def Zcp (l base:List UInt8) (based:Bool):U × Int:=
 if 160 < l.length∨(based=true∧160 < base.length) then (zeroU,1)
 else if (ZcC base based).2≠0 then (zeroU,(ZcC base based).2) else Z8 l (ZcC base based).1
set_option maxHeartbeats 8000000 in
theorem Zmq (pb:Nat) (r:Rc) (u:U) (bs:List ByteArray) (w:World) (h0:UrlB w pb r) (h:RcIs w r u bs) (ht:Tb w):
  Calls Tryz.prog 31 #[.pointer (some ⟨pb,0,none⟩)] w fun e w'=>∃ t:ByteArray,e=.returned (.string t)∧tl t=Zl1 u∧Nx w w':=by
 have HRC:=Za h
 have HTB:=Za ht
 obtain ⟨a0,a1,a2,a3,a4,a5,a6,a7,a8,a9,a10,a11,a12,a13⟩:=h0.cells
 clear h ht h0
 go_enter Tryz.func31,Tryz.ntmps31
 go_wp2_with fail
 refine (Zng r u bs _ HRC.out HTB.out).mono ?_
 rintro e w1 ⟨t,rfl,ht,hn⟩
 have HT:=Za ht
 have HN:=Za hn
 clear ht hn a0 a1 a2 a3 a4 a5 a6 a7 a8 a9 a10 a11 a12 a13
 go_wp2
 go_ret
 exact ⟨t,rfl,HT.out,HN.out⟩
def Zrt (c:UInt8):UInt8:=if c.toNat=43 then 32 else c
def Zu0 (l:List UInt8):List UInt8:=l.map Zrt
def ZnX (l:List UInt8):List UInt8:=clean (Zw (Zu0 l))
def ZnY (l:List UInt8):List UInt8 × List UInt8:=(ZnX (bcut (isB 61) l).1,ZnX (bcut (isB 61) l).2.1)
def ZvC (ps:List (List UInt8)):List (List UInt8):=ps.filter fun p=>!p.isEmpty
def Zru (l:List UInt8):List (List UInt8):=ZvC (bsplit 38 l)
abbrev Pq:=ByteArray × ByteArray
def ZfV (ps:List Pq):List Value:=ps.flatMap fun p=>[Value.string p.1,Value.string p.2]
theorem Zo6 (ps:List Pq):∀ (k:Nat) (h:k < ps.length),(ZfV ps)[k * 2]?=some (.string ps[k].1)∧(ZfV ps)[k * 2 + 1]?=some (.string ps[k].2):=by
 induction ps with
 | nil=>intro k h;simp at h
 | cons p q ih=>
  intro k h
  cases k with
  | zero=>exact ⟨rfl,rfl⟩
  | succ k=>
   have h':=ih k (by simp only [List.length_cons] at h;omega)
   have e:(k + 1) * 2=k * 2 + 1 + 1:=by omega
   rw [e]
   show (_ :: _ :: ZfV q)[k * 2 + 1 + 1]?=_∧(_ :: _ :: ZfV q)[k * 2 + 1 + 1 + 1]?=_
   rw [List.getElem?_cons_succ,List.getElem?_cons_succ,List.getElem?_cons_succ,List.getElem?_cons_succ]
   exact h'
theorem Ztq:(Tryz.prog.info? 76).map (fun i=>(i.zero,i.size,i.bytes))=some (some (.agg #[.string ByteArray.empty,.string ByteArray.empty]),2,32):=by kernel_rfl
def ZjX (l:List UInt8):List (List UInt8 × List UInt8):=(Zru l).map ZnY
def tl2 (p:Pq):List UInt8 × List UInt8:=(tl p.1,tl p.2)
def Z5 (u:U):List UInt8:=u.sch++[58,47,47]++Zbt u
set_option maxHeartbeats 2000000 in
theorem Zax (r:Rc) (u:U) (bs:List ByteArray) (w:World) (h:RcIs w r u bs) (ht:Tb w):
  Calls Tryz.prog 57 #[.agg #[.string r.sch,.string r.nam,.string r.pw,.bool r.hh,.string r.host,.bool r.hp,.int .i64 (r.port:Int),.bool r.op,.string r.opath,.slice r.so r.sn r.sc,.bool r.hq,.string r.q,.bool r.hf,.string r.fr]] w fun e w'=>∃ t:ByteArray,e=.returned (.string t)∧tl t=Z5 u∧t.size≤1000000∧Nx w w':=by
 have hs:=h.lsch
 have HE:=Za (show Z5 u=tl r.sch++[58,47,47]++Zbt u by rw [← h.eq];rfl)
 have HTB:=Za ht
 have HRC:=Za h
 have HB:=Za (Za0 w r)
 have HPT:=Za (fun w1 (hn:Nx w w1)=>Zeg r u bs w1 (HRC.out.on hn) (HTB.out.on hn))
 clear h ht
 go_enter Tryz.func57,Tryz.ntmps57
 go_wp2
 go_region_with (go_at_call 41;refine (HPT.out _ ((Nx.rfl.alloc _).drew)).mono ?_;rintro e w1 ⟨x,rfl,hx,hxs,hn⟩;obtain ⟨hc0,-⟩:=(RecB.on (RecB.on HB.out Nx.rfl.drew) hn).cells;have HX:=Za hx;have HN:=Za (show Nx w w1 from ((Nx.rfl.alloc _).drew).then hn);clear hx hn)
 all_goals go_wp2
 all_goals go_ret
 all_goals exact ⟨r.sch++(⟨#[58,47,47]⟩:ByteArray)++x,rfl,by rw [HE.out,Ze,Ze,HX.out];rfl,by rw [Zh,Zh];show r.sch.size + 3 + x.size≤_;omega,HN.out⟩
def Zo9:List UInt8:=[110,117,108,108]
def ZcZ (u:U):List UInt8:=
 if (ZbA (ZaU u)).2≠0 then Zo9
 else if (ZbA (ZaU u)).1.sch≠[104,116,116,112]∧(ZbA (ZaU u)).1.sch≠[104,116,116,112,115] then Zo9 else Z5 (ZbA (ZaU u)).1
set_option maxHeartbeats 8000000 in
theorem Zip (r:Rc) (u:U) (bs:List ByteArray) (w:World) (h:RcIs w r u bs) (ht:Tb w) (hpl:(ZaU u).length≤9000):
  Calls Tryz.prog 58 #[.agg #[.string r.sch,.string r.nam,.string r.pw,.bool r.hh,.string r.host,.bool r.hp,.int .i64 (r.port:Int),.bool r.op,.string r.opath,.slice r.so r.sn r.sc,.bool r.hq,.string r.q,.bool r.hf,.string r.fr]] w fun e w'=>∃ t:ByteArray,e=.returned (.string t)∧tl t=ZcZ u∧t.size≤1000000∧Nx w w':=by
 have HTB:=Za ht
 have HRC:=Za h
 have HPL:=Za hpl
 have HD:=Za (show ZcZ u=if (ZbA (ZaU u)).2≠0 then Zo9 else if (ZbA (ZaU u)).1.sch≠[104,116,116,112]∧(ZbA (ZaU u)).1.sch≠[104,116,116,112,115] then Zo9 else Z5 (ZbA (ZaU u)).1 from rfl)
 clear h ht hpl
 go_enter Tryz.func58,Tryz.ntmps58
 go_wp2_with fail
 refine (Zeh r u bs _ (HRC.out.on (Nx.rfl.alloc _))).mono ?_
 rintro e w1 ⟨x,rfl,hx,hxs,hn⟩
 have hxl:x.size≤9000:=by rw [← tl_length,hx];exact HPL.out
 have HN:=Za (show Nx w w1 from (Nx.rfl.alloc _).then hn)
 rw [← hx] at HD
 clear hx hn hxs HPL
 go_wp2_with fail
 refine (ZkC x _ hxl (HTB.out.on HN.out)).mono ?_
 rintro e w2 ⟨⟨r2,ds,rfl,hr,hdl⟩,hn⟩
 have HR:=Za hr
 have HN2:=Za (show Nx w w2 from HN.out.then hn)
 clear hr hn HN
 generalize ZbA (tl x)=q at *
 obtain ⟨qu,err⟩:=q
 simp only at HR HD
 by_cases he:err=0
 ·subst he
  have HD2:=Za (HD.out.trans (if_neg (by decide)))
  clear HD
  have HS:=Za (show tl r2.sch=qu.sch from by rw [HR.out.usch])
  by_cases h1:tl r2.sch=[104,116,116,112]
  ·have HE:=Za (HD2.out.trans (if_neg (fun k=>k.1 (HS.out.symm.trans h1))))
   have h1':=eqB h1
   clear HD2 h1
   go_wp2_with fail
   refine (Zax r2 qu ds _ (HR.out.on (Nx.rfl.alloc _)) (HTB.out.on (HN2.out.alloc _))).mono ?_
   rintro e w3 ⟨t,rfl,ht,hts,hn⟩
   have HT:=Za ht
   have HN3:=Za (show Nx w w3 from (HN2.out.alloc _).then hn)
   clear ht hn
   go_wp2
   go_ret
   exact ⟨t,rfl,by rw [HE.out,HT.out],hts,HN3.out⟩
  ·have h1':=neB h1
   by_cases h2:tl r2.sch=[104,116,116,112,115]
   ·have HE:=Za (HD2.out.trans (if_neg (fun k=>k.2 (HS.out.symm.trans h2))))
    have h2':=eqB h2
    clear HD2 h1 h2
    go_wp2_with fail
    refine (Zax r2 qu ds _ (HR.out.on (Nx.rfl.alloc _)) (HTB.out.on (HN2.out.alloc _))).mono ?_
    rintro e w3 ⟨t,rfl,ht,hts,hn⟩
    have HT:=Za ht
    have HN3:=Za (show Nx w w3 from (HN2.out.alloc _).then hn)
    clear ht hn
    go_wp2
    go_ret
    exact ⟨t,rfl,by rw [HE.out,HT.out],hts,HN3.out⟩
   ·have HE:=Za (HD2.out.trans (if_pos ⟨fun k=>h1 (HS.out.trans k),fun k=>h2 (HS.out.trans k)⟩))
    have h2':=neB h2
    clear HD2 h1 h2
    go_wp2
    go_ret
    exact ⟨⟨#[110,117,108,108]⟩,rfl,HE.out.symm,by decide,HN2.out.alloc _⟩
 ·have HE:=Za (HD.out.trans (if_pos he))
  have he':(err != 0)=true:=Zg3 (beq_eq_false_iff_ne.2 he)
  clear HD he
  go_wp2
  go_ret
  exact ⟨⟨#[110,117,108,108]⟩,rfl,HE.out.symm,by decide,HN2.out.alloc _⟩
def Zc0 (s:List UInt8):Bool:=s == [104,116,116,112] || s == [104,116,116,112,115] || s == [119,115] || s == [119,115,115] || s == [102,116,112]
def Zb5 (u:U):List UInt8:=if Zc0 u.sch=true then Z5 u else if u.sch=[98,108,111,98] then ZcZ u else Zo9
set_option maxHeartbeats 8000000 in
theorem Zi4 (r:Rc) (u:U) (bs:List ByteArray) (w:World) (h:RcIs w r u bs) (ht:Tb w) (hpl:u.sch=[98,108,111,98]→(ZaU u).length≤9000):
  Calls Tryz.prog 39 #[.agg #[.string r.sch,.string r.nam,.string r.pw,.bool r.hh,.string r.host,.bool r.hp,.int .i64 (r.port:Int),.bool r.op,.string r.opath,.slice r.so r.sn r.sc,.bool r.hq,.string r.q,.bool r.hf,.string r.fr]] w fun e w'=>∃ t:ByteArray,e=.returned (.string t)∧tl t=Zb5 u∧t.size≤1000000∧Nx w w':=by
 have HTB:=Za ht
 have HRC:=Za h
 have HS:=Za (show tl r.sch=u.sch from by rw [h.usch])
 have HPL:=Za hpl
 clear h ht hpl
 by_cases h0:tl r.sch=[104,116,116,112]
 ·have HE:=Za (show Zb5 u=Z5 u from if_pos (by unfold Zc0;rw [← HS.out,h0];decide))
  have h0':=eqB h0
  clear HPL HS h0
  go_enter Tryz.func39,Tryz.ntmps39
  go_wp2_with fail
  refine (Zax r u bs _ (HRC.out.on (Nx.rfl.alloc _)) (HTB.out.on (Nx.rfl.alloc _))).mono ?_
  rintro e w1 ⟨t,rfl,ht,hts,hn⟩
  have HT:=Za ht
  have HN:=Za (show Nx w w1 from (Nx.rfl.alloc _).then hn)
  clear ht hn
  go_wp2
  go_ret
  exact ⟨t,rfl,by rw [HE.out,HT.out],hts,HN.out⟩
 have h0':=neB h0
 by_cases h1:tl r.sch=[104,116,116,112,115]
 ·have HE:=Za (show Zb5 u=Z5 u from if_pos (by unfold Zc0;rw [← HS.out,h1];decide))
  have h1':=eqB h1
  clear HPL HS h0 h1
  go_enter Tryz.func39,Tryz.ntmps39
  go_wp2_with fail
  refine (Zax r u bs _ (HRC.out.on (Nx.rfl.alloc _)) (HTB.out.on (Nx.rfl.alloc _))).mono ?_
  rintro e w1 ⟨t,rfl,ht,hts,hn⟩
  have HT:=Za ht
  have HN:=Za (show Nx w w1 from (Nx.rfl.alloc _).then hn)
  clear ht hn
  go_wp2
  go_ret
  exact ⟨t,rfl,by rw [HE.out,HT.out],hts,HN.out⟩
 have h1':=neB h1
 by_cases h2:tl r.sch=[119,115]
 ·have HE:=Za (show Zb5 u=Z5 u from if_pos (by unfold Zc0;rw [← HS.out,h2];decide))
  have h2':=eqB h2
  clear HPL HS h0 h1 h2
  go_enter Tryz.func39,Tryz.ntmps39
  go_wp2_with fail
  refine (Zax r u bs _ (HRC.out.on (Nx.rfl.alloc _)) (HTB.out.on (Nx.rfl.alloc _))).mono ?_
  rintro e w1 ⟨t,rfl,ht,hts,hn⟩
  have HT:=Za ht
  have HN:=Za (show Nx w w1 from (Nx.rfl.alloc _).then hn)
  clear ht hn
  go_wp2
  go_ret
  exact ⟨t,rfl,by rw [HE.out,HT.out],hts,HN.out⟩
 have h2':=neB h2
 by_cases h3:tl r.sch=[119,115,115]
 ·have HE:=Za (show Zb5 u=Z5 u from if_pos (by unfold Zc0;rw [← HS.out,h3];decide))
  have h3':=eqB h3
  clear HPL HS h0 h1 h2 h3
  go_enter Tryz.func39,Tryz.ntmps39
  go_wp2_with fail
  refine (Zax r u bs _ (HRC.out.on (Nx.rfl.alloc _)) (HTB.out.on (Nx.rfl.alloc _))).mono ?_
  rintro e w1 ⟨t,rfl,ht,hts,hn⟩
  have HT:=Za ht
  have HN:=Za (show Nx w w1 from (Nx.rfl.alloc _).then hn)
  clear ht hn
  go_wp2
  go_ret
  exact ⟨t,rfl,by rw [HE.out,HT.out],hts,HN.out⟩
 have h3':=neB h3
 by_cases h4:tl r.sch=[102,116,112]
 ·have HE:=Za (show Zb5 u=Z5 u from if_pos (by unfold Zc0;rw [← HS.out,h4];decide))
  have h4':=eqB h4
  clear HPL HS h0 h1 h2 h3 h4
  go_enter Tryz.func39,Tryz.ntmps39
  go_wp2_with fail
  refine (Zax r u bs _ (HRC.out.on (Nx.rfl.alloc _)) (HTB.out.on (Nx.rfl.alloc _))).mono ?_
  rintro e w1 ⟨t,rfl,ht,hts,hn⟩
  have HT:=Za ht
  have HN:=Za (show Nx w w1 from (Nx.rfl.alloc _).then hn)
  clear ht hn
  go_wp2
  go_ret
  exact ⟨t,rfl,by rw [HE.out,HT.out],hts,HN.out⟩
 have h4':=neB h4
 have HNP:=Za (show ¬ Zc0 u.sch=true by unfold Zc0;rw [← HS.out];simp [h0,h1,h2,h3,h4])
 clear h0 h1 h2 h3 h4
 by_cases h5:tl r.sch=[98,108,111,98]
 ·have HE:=Za (show Zb5 u=ZcZ u from (if_neg HNP.out).trans (if_pos (HS.out.symm.trans h5)))
  have HL:=Za (HPL.out (HS.out.symm.trans h5))
  have h5':=eqB h5
  clear HPL HS HNP h5
  go_enter Tryz.func39,Tryz.ntmps39
  go_wp2_with fail
  refine (Zip r u bs _ (HRC.out.on (Nx.rfl.alloc _)) (HTB.out.on (Nx.rfl.alloc _)) HL.out).mono ?_
  rintro e w1 ⟨t,rfl,ht,hts,hn⟩
  have HT:=Za ht
  have HN:=Za (show Nx w w1 from (Nx.rfl.alloc _).then hn)
  clear ht hn
  go_wp2
  go_ret
  exact ⟨t,rfl,by rw [HE.out,HT.out],hts,HN.out⟩
 have HE:=Za (show Zb5 u=Zo9 from (if_neg HNP.out).trans (if_neg (fun k=>h5 (HS.out.trans k))))
 have h5':=neB h5
 clear HPL HS HNP h5
 go_enter Tryz.func39,Tryz.ntmps39
 go_wp2
 go_ret
 exact ⟨⟨#[110,117,108,108]⟩,rfl,HE.out.symm,by decide,Nx.rfl.alloc _⟩
def RowP (w:World) (b off:Nat) (ps:List Pq):Prop:=∃ (cs:Array Value) (fz:Nat × Nat),w.heap[b]?=some (Obj.cells cs 76 fz)∧∀ i,(h:i < ps.length)→cs[off + i * 2]?=some (.string ps[i].1)∧cs[off + i * 2 + 1]?=some (.string ps[i].2)
def PlAt (w:World) (v:Value) (ps:List Pq):Prop:=∃ ao cap,v=.slice ao ps.length cap∧ps.length≤cap∧cap≤maxLen∧(ao=none→ps=[]∧cap=0)∧∀ a,ao=some a→∃ b off,a=⟨b,off,none⟩∧RowP w b off ps
theorem RowP.on {w w':World} {b off:Nat} {ps:List Pq} (h:RowP w b off ps) (hb:Nx w w'):RowP w' b off ps:=by
 obtain ⟨cs,fz,hh,hc⟩:=h
 exact ⟨cs,fz,(hb.block b (Array.getElem?_eq_some_iff.1 hh).1).trans hh,hc⟩
theorem PlAt.on {w w':World} {v:Value} {ps:List Pq} (h:PlAt w v ps) (hb:Nx w w'):PlAt w' v ps:=by
 obtain ⟨ao,cap,rfl,hlc,hcap,hnone,hsome⟩:=h
 refine ⟨ao,cap,rfl,hlc,hcap,hnone,fun a ha=>?_⟩
 obtain ⟨b,off,rfl,hr⟩:=hsome a ha
 exact ⟨b,off,rfl,hr.on hb⟩
theorem PlAt.nil (w:World):PlAt w (.slice none 0 0) []:=⟨none,0,rfl,by simp,Nat.zero_le _,fun _=>⟨rfl,rfl⟩,nofun⟩
theorem Zpl {a:ByteArray} (h:a.size=0):tl a=[]:=ZB h
end Go.Proofs.YtchkhibgbnhjpaaGreatDoor
