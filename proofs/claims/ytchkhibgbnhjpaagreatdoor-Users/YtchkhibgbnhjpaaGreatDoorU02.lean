import Derived.Test.YtchkhibgbnhjpaaGreatDoorU01
namespace Go.Proofs.YtchkhibgbnhjpaaGreatDoor
open Go.RowKit
theorem Zwk (l:List UInt8):clean l=Zb (Zl l):=(ZaZ l).symm
theorem ZwN (u:U):Zwj (toR u)↔Zwf u=false:=by
 unfold Zwj Zwf
 rw [← Bool.not_eq_true,Bool.and_eq_true,Bool.not_eq_true',← Bool.not_eq_true,List.isEmpty_iff,bne_iff_ne]
 show (u.host=[]∨u.sch=Zs)↔_
 constructor
 ·rintro (h | h) ⟨h1,h2⟩
  ·exact h1 h
  ·exact h2 h
 ·intro h
  by_cases g:u.host=[]
  ·exact Or.inl g
  ·right
   exact Classical.byContradiction fun g2=>h ⟨g,g2⟩
theorem Zw1 (u:U) (l:List UInt8):(if Zwj (toR u) then toR u else { toR u with user:=encoded (Zl l) ZgZ })=toR (Zwe u 2 (clean l)):=by
 unfold Zwe
 have hb:=ZwN u
 by_cases h:Zwf u=false
 ·rw [if_pos (hb.2 h),if_pos h]
 ·rw [if_neg (fun g=>h (hb.1 g)),if_neg h,if_pos rfl,Zwk l,ZnO _ (Zdv l)]
  rfl
theorem Zw2 (u:U) (l:List UInt8):(if Zwj (toR u) then toR u else { toR u with pass:=encoded (Zl l) ZgZ })=toR (Zwe u 3 (clean l)):=by
 unfold Zwe
 have hb:=ZwN u
 by_cases h:Zwf u=false
 ·rw [if_pos (hb.2 h),if_pos h]
 ·rw [if_neg (fun g=>h (hb.1 g)),if_neg h,if_neg (by decide),Zwk l,ZnO _ (Zdv l)]
  rfl
theorem Zw3 {u:U} (h:Wk u) (k:Int) (l:List UInt8):Wk (Zwe u k l):=by
 unfold Zwe
 split
 ·exact h
 ·split
  ·exact ⟨h.port,h.opq,h.zop,h.nq,h.pq,h.sp,h.path,h.lq⟩
  ·exact ⟨h.port,h.opq,h.zop,h.nq,h.pq,h.sp,h.path,h.lq⟩
structure Zxr (u:U) (l:List UInt8) (x:U × Int) (y:RU × Int) (ls:List (List UInt8 × List UInt8)):Prop where
 err:x.2=y.2
 ok:x.2=0→y.1=toR x.1∧Wk x.1∧ls=ZjX x.1.q
 no:x.2≠0→y.1=toR u∧ls=ZjX u.q
theorem Zwp {u v:U} {l:List UInt8} {m:RU} {ls:List (List UInt8 × List UInt8)} (h:m=toR v) (hw:Wk v) (hl:ls=ZjX v.q):Zxr u l (v,0) (m,0) ls:=
 ⟨rfl,fun _=>⟨h,hw,hl⟩,fun g=>absurd rfl g⟩
theorem Zxg (u:U) (k:Int) (l:List UInt8):(Zwe u k l).q=u.q:=by
 unfold Zwe
 split
 ·rfl
 ·split <;> rfl
theorem Zxv {u:U} (h:Wk u) (l:List UInt8):Zxr u l (Zw0 u 2 l) (ZwK (toR u) 3 l) (Zwh (toR u) 3 l (ZjX u.q)):=
 Zwp (Zw1 u l) (Zw3 h _ _) (show ZjX u.q=ZjX (Zwe u 2 (clean l)).q by rw [Zxg])
theorem Zxw {u:U} (h:Wk u) (l:List UInt8):Zxr u l (Zw0 u 3 l) (ZwK (toR u) 4 l) (Zwh (toR u) 4 l (ZjX u.q)):=
 Zwp (Zw2 u l) (Zw3 h _ _) (show ZjX u.q=ZjX (Zwe u 3 (clean l)).q by rw [Zxg])
end Go.Proofs.YtchkhibgbnhjpaaGreatDoor
