import Derived.Test.YtchkhibgbnhjpaaGreatDoorK35
namespace Go.Proofs.YtchkhibgbnhjpaaGreatDoor
open Go.RowKit
structure Hm (u:U) (a:Nat):Prop where
 host:u.host.length≤300000
 q:u.q.length≤a
theorem ZbT (a:Nat):Hm zeroU a:=⟨Nat.zero_le _,Nat.zero_le _⟩
theorem Zn2 (sch q:List UInt8) (b:Bool) {a:Nat} (h:9 * q.length≤a):Hm (Zci sch b q) a:=⟨Nat.zero_le _,Nat.le_trans (ZvV _ _) h⟩
theorem Zll {u base:U} {a:Nat} (l:List UInt8) (h:Hm u a) (hb:Hm base a):Hm (Z7 u l base) a:=by
 unfold Z7
 split
 ·refine ⟨h.host,?_⟩
  show (if u.hq=true then u.q else base.q).length≤a
  split
  ·exact h.q
  ·exact hb.q
 ·exact ⟨h.host,h.q⟩
theorem ZmE {u:U} {a:Nat} (t:List UInt8) (ht:t.length≤30000) (h:Hm u a):Hm (Z2 u t).1 a:=by
 have hc:=(Zar (slB true) t).1
 unfold Z2
 split
 ·exact ⟨h.host,h.q⟩
 split
 ·exact ZbT _
 ·exact ⟨ZfJ (by omega),h.q⟩
theorem ZrJ {u base:U} {a:Nat} (l:List UInt8) (hl:l.length≤30000) (h:Hm u a) (hb:Hm base a):Hm (Zdk u l base).1 a:=by
 unfold Zdk
 split
 ·have:=Zcw l 2
  exact ZmE (u:={ u with hh:=true }) (l.drop 2) (by omega) ⟨h.host,h.q⟩
 split
 ·exact ⟨h.host,h.q⟩
 split
 ·exact ⟨hb.host,h.q⟩
 split
 ·exact ⟨hb.host,h.q⟩
 ·exact Zll (u:={ u with hh:=true,host:=base.host }) l ⟨hb.host,h.q⟩ hb
theorem Zu5 {u:U} {a:Nat} (p:List UInt8) (h:Hm u a):Hm (ZfK u p).1 a:=by
 unfold ZfK
 split
 ·exact ZbT _
 show Hm (Zba u _) a
 unfold Zba
 split
 ·exact ⟨h.host,h.q⟩
 ·exact ⟨h.host,h.q⟩
theorem ZtC {u:U} {a:Nat} (p:List UInt8) (hp:p.length≤30000) (h:Hm u a):Hm (ZZ u p).1 a:=by
 have hc:=ZhH p
 unfold ZZ
 split
 ·exact ZbT _
 split
 ·exact ZbT _
 have h2:Hm { u with hh:=true,host:=(ZR (Zz p).1 (Zc u.sch)).1 } a:=⟨ZhF (by omega),h.q⟩
 split
 ·exact h2
 ·exact Zu5 _ h2
theorem Zey {u:U} {a:Nat} (t:List UInt8) (ht:t.length≤30000) (h:Hm u a):Hm (Zv u t).1 a:=by
 have hc:=(Zar (slB (Zc u.sch)) t).1
 have hl:=ZgF 64 (bcut (slB (Zc u.sch)) t).1
 unfold Zv
 split
 ·exact ZbT _
 unfold ZcT
 have h2:=ZtC (u:={ u with nam:=Zfs (bcut (isB 58) (bcutLast 64 (bcut (slB (Zc u.sch)) t).1).1).1,pw:=Zfs (bcut (isB 58) (bcutLast 64 (bcut (slB (Zc u.sch)) t).1).1).2.1 }) (a:=a) (bcutLast 64 (bcut (slB (Zc u.sch)) t).1).2.1 (by omega) ⟨h.host,h.q⟩
 split
 ·exact ZbT _
 split
 ·exact ⟨h2.host,h2.q⟩
 ·exact h2
theorem Zi7 {u base:U} {a:Nat} (l:List UInt8) (hl:l.length≤30000) (h:Hm u a) (hb:Hm base a):Hm (ZT u l base).1 a:=by
 unfold ZT
 split
 ·exact ZrJ l hl h hb
 split
 ·have:=Zcw l (if Zc u.sch=true then countSl (Zc u.sch) l else 2)
  exact Zey _ (by omega) h
 split
 ·exact ⟨hb.host,h.q⟩
 ·exact Zll l (u:=kept u base) ⟨hb.host,h.q⟩ hb
theorem Zpg {u base:U} {a:Nat} (l:List UInt8) (hl:l.length≤30000) (h:Hm u a) (hb:Hm base a):Hm (ZU u l base).1 a:=by
 unfold ZU
 split
 ·exact ZrJ l hl h hb
 split
 ·unfold ZaQ
  split
  ·exact Zi7 l hl h hb
  ·have:=Zcw l (countSl true l)
   exact Zey _ (by omega) h
 split
 ·exact ⟨h.host,h.q⟩
 split
 ·exact ⟨h.host,h.q⟩
 ·have:=Zcw l 2
  exact Zey _ (by omega) h
theorem ZrK (sch rest:List UInt8) (f:Bool) {base:U} {a:Nat} (hr:rest.length≤30000) (ha:9 * rest.length≤a) (hb:Hm base a):Hm (Zcy sch rest f base).1 a:=by
 have hc:=(Zar (isB 63) rest).1
 have hc2:=(Zar (isB 63) rest).2
 unfold Zcy
 split
 ·exact ZbT _
 split
 ·exact Zpg _ (by omega) (Zn2 _ _ _ (by omega)) hb
 ·exact Zi7 _ (by omega) (Zn2 _ _ _ (by omega)) hb
theorem ZtD (l:List UInt8) (hf:Bool) {base:U} {a:Nat} (hl:l.length≤30000) (ha:9 * l.length≤a) (hb:Hm base a):Hm (Zbv l hf base).1 a:=by
 have hc:=(Zga l).2
 unfold Zbv
 split
 ·exact ZrK _ _ _ (by omega) (by omega) hb
 split
 ·unfold Zcu
  split
  ·exact hb
  ·exact ZbT _
 ·exact ZrK _ _ _ (by omega) (by omega) hb
theorem Zi8 (l:List UInt8) {base:U} {a:Nat} (hl:l.length≤10000) (ha:27 * l.length≤a) (hb:Hm base a):Hm (Z8 l base).1 a:=by
 have h1:=ZgT l
 have h2:=(Zar (isB 35) (wholeText l)).1
 unfold Z8 Zgb
 have h3:=ZtD (bcut (isB 35) (wholeText l)).1 (bcut (isB 35) (wholeText l)).2.2 (a:=a) (by omega) (by omega) hb
 split
 ·exact ZbT _
 ·exact ⟨h3.host,h3.q⟩
theorem ZrL (l:List UInt8) (hl:l.length≤10000):Hm (ZbA l).1 (27 * l.length):=Zi8 l hl (Nat.le_refl _) (ZbT _)
theorem ZtE (l base:List UInt8) (b:Bool):Hm (Zcp l base b).1 4320:=by
 unfold Zcp
 split
 ·exact ZbT _
 ·next h0=>
  split
  ·exact ZbT _
  ·refine Zi8 l (by omega) (by omega) ?_
   unfold ZcC
   split
   ·exact ZbT _
   ·next h1=>
    have hb:base.length≤160:=by
     cases b
     ·exact absurd rfl h1
     ·rcases Nat.lt_or_ge 160 base.length with g | g
      ·exact absurd (Or.inr ⟨rfl,g⟩) h0
      ·exact g
    split
    ·exact ZbT _
    ·have h2:=ZrL base (by omega)
     exact ⟨h2.host,Nat.le_trans h2.q (by omega)⟩
end Go.Proofs.YtchkhibgbnhjpaaGreatDoor
