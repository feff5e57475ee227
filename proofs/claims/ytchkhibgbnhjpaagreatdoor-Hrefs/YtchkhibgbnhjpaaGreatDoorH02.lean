import Derived.Test.YtchkhibgbnhjpaaGreatDoorH01
namespace Go.Proofs.YtchkhibgbnhjpaaGreatDoor
open Go.RowKit
theorem Zwn (l:List UInt8):clean l=Zb (Zl l):=(ZaZ l).symm
theorem Zwr (l:List UInt8):clean (clean l)=clean l:=by rw [Zwn l,Zjm _ (Zdv l)]
theorem Zws (l:List UInt8):wholeText (clean l)=wholeText l:=by unfold wholeText;rw [Zwr]
theorem ZwG (l:List UInt8):ZbA (clean l)=ZbA l:=by unfold ZbA Z8;rw [Zws]
theorem Zxc {l:List UInt8} (hl:l.length≤160) (h0:(ZbA l).2=0):Wk (ZbA l).1:=by
 have h1:=Zgt l (base:=zeroU) (B:=0) (ZbS 0)
 have h2:=(ZrL l (by omega)).q
 refine St'.wk (ZmB h0).st ?_ (by omega)
 have h3:=Pm.path h1
 show (ZaU (ZbA l).1).length≤9000
 have e:(Z8 l zeroU).1=(ZbA l).1:=rfl
 rw [e] at h3
 omega
structure Zxn (u:U) (l:List UInt8) (x:U × Int) (y:RU × Int) (ls:List (List UInt8 × List UInt8)):Prop where
 err:x.2=y.2
 ok:x.2=0→y.1=toR x.1∧Wk x.1∧ls=ZjX x.1.q
 no:x.2≠0→y.1=toR u∧ls=ZjX u.q
theorem Zxi {u:U} (_h:Wk u) (l:List UInt8) (hl:l.length≤160):Zxn u l (Zw3 u 0 l) (Zxf (toR u) 1 l) (Zwg (toR u) 1 l (ZjX u.q)):=by
 have e1:Zw3 u 0 l=ZbA l:=ZwG l
 have e2:Zxf (toR u) 1 l=if (parseR l none).2≠0 then (toR u,(parseR l none).2) else ((parseR l none).1,0):=rfl
 have e3:Zwg (toR u) 1 l (ZjX u.q)=if (parseR l none).2≠0 then ZjX u.q else ZjY (parseR l none).1:=rfl
 rw [e1,e2,e3]
 obtain ⟨s1,s2⟩:=ZeV l
 by_cases h0:(ZbA l).2=0
 ·have h1:¬ (parseR l none).2≠0:=fun g=>g (by rw [← s1];exact h0)
  rw [if_neg h1,if_neg h1]
  have hw:=Zxc hl h0
  exact ⟨h0,fun _=>⟨s2 h0,hw,by rw [s2 h0];exact ZrC hw⟩,fun g=>absurd h0 g⟩
 ·have h1:(parseR l none).2≠0:=fun g=>h0 (by rw [s1];exact g)
  rw [if_pos h1,if_pos h1]
  exact ⟨s1,fun g=>absurd g h0,fun _=>⟨rfl,rfl⟩⟩
end Go.Proofs.YtchkhibgbnhjpaaGreatDoor
