import Derived.Test.YtchkhibgbnhjpabGreatDoorW04
namespace Go.Proofs.YtchkhibgbnhjpabGreatDoor
open Go.RowKit
variable [Fl]
set_option linter.all false
structure Q3 (u:U):Prop where
 opq:u.op=true->u.segs=[]/\u.hh=false
 zop:u.op=false->u.opath=[]
 sp:Zc u.sch=true->u.hh=true
structure Sl (u:U):Prop where
 sd:Sd u
 wf:Wf u
 q3:Q3 u
structure Zf (u:U):Prop where
 op:u.op=false
 opath:u.opath=[]
 segs:u.segs=[]
 hh:u.hh=false
theorem Zo7(s:LB)(b:Bool)(q:LB):Zf (Zcw s b q):=⟨rfl,rfl,rfl,rfl⟩
structure Tf (u:U):Prop where
 op:u.op=false
 opath:u.opath=[]
 hh:u.hh=true
theorem Tf.q3{u:U}(h:Tf u):Q3 u:=⟨(fun g=>by rw[h.op]at g;cases g),fun _=>h.opath,fun _=>h.hh⟩
theorem ZsP{u base:U}{l:LB}(h:Zf u)(h0:(ZdU u l base).2=0):Tf (ZdU u l base).1:=by
 unfold ZdU at h0 ⊢
 split
 .next h1=>
  rw[ifP h1]at h0;unfold Zao at h0 ⊢
  split
  .exact⟨h.op,h.opath,rfl⟩
  next h2=>
   rw[ifN h2]at h0
   split
   .next h3=>rw[ifP h3]at h0;exact absurd h0 h3
   .exact⟨h.op,h.opath,rfl⟩
 split
 rotate_left
 focus
  split
  rotate_left
  focus
   split
   rotate_left
   focus
    show Tf (Zak _ _ _)
    unfold Zak
    split
    rotate_left
 all_goals
  exact⟨h.op,h.opath,rfl⟩
theorem Zvq{u:U}{p:LB}(h1:u.op=false)(h2:u.opath=[])(h0:(Zbx u p).2=0):Tf (Zbx u p).1:=by
 unfold Zbx at h0 ⊢
 split
 .next g=>rw[ifP g]at h0;cases h0
 next g=>
  rw[ifN g]at h0
  split
  .next g2=>rw[ifP g2]at h0;exact absurd h0 g2
  next g2=>
   rw[ifN g2]at h0
   split
   .exact⟨h1,h2,rfl⟩
   next g3=>
    rw[ifN g3]at h0;unfold ZgJ at h0 ⊢
    split
    .next g4=>rw[ifP g4]at h0;cases h0
    .simp only
     unfold Zby
     split
     .exact⟨h1,h2,rfl⟩
     .exact⟨h1,h2,rfl⟩
theorem Znu{u:U}{t:LB}(h:Zf u)(h0:(Zx u t).2=0):Tf (Zx u t).1:=by
 unfold Zx at h0 ⊢
 split at h0
 .cases h0
 next h1=>
  rw[ifN h1];unfold ZdJ at h0 ⊢
  split at h0
  .next h2=>exact absurd h0 h2
  next h2=>
   rw[ifN h2]
   have hk:=Zvq (u:={ u with nam:=ZfY (bcut (isB 58) (bcutLast 64 (bcut (slB (Zc u.sch)) t).1).1).1,pw:=ZfY (bcut (isB 58) (bcutLast 64 (bcut (slB (Zc u.sch)) t).1).1).2.1 }) h.op h.opath (Classical.not_not.1 h2)
   split
   .exact⟨hk.op,hk.opath,hk.hh⟩
   .exact⟨hk.op,hk.opath,hk.hh⟩
theorem ZlJ{u base:U}{l:LB}(h:Zf u)(hb:Q3 base)(hs:base.sch=u.sch)(h0:(ZV u l base).2=0):Q3 (ZV u l base).1:=by
 unfold ZV at h0 ⊢
 split
 .next h1=>rw[ifP h1]at h0;exact(ZsP h h0).q3
 next h1=>
  rw[ifN h1]at h0
  split
  .next h2=>rw[ifP h2]at h0;exact(Znu h h0).q3
  next h2=>
   have hk:∀(v:U),v.op=u.op->v.opath=u.opath->v.hh=base.hh->v.sch=u.sch->Q3 v:=fun v e1 e2 e3 e4=>⟨(fun g=>by rw[e1,h.op]at g;cases g),(fun _=>by rw[e2,h.opath]),(fun g=>by rw[e3];exact hb.sp (by rw[hs,<-e4];exact g))⟩
   split
   .exact hk _ rfl rfl rfl rfl
   .show Q3 (Zak _ _ _)
    unfold Zak
    split
    .exact hk _ rfl rfl rfl rfl
    .exact hk _ rfl rfl rfl rfl
theorem ZsQ{u base:U}{l:LB}(h:Zf u)(hb:base.sch=u.sch->Q3 base)(h0:(Zar u l base).2=0):Q3 (Zar u l base).1:=by
 unfold Zar at h0 ⊢
 split
 .next h1=>rw[ifP h1]at h0;exact(ZsP h h0).q3
 next h1=>
  rw[ifN h1]at h0
  split
  .next h2=>
   rw[ifP h2]at h0;unfold Za5 at h0 ⊢
   split
   .next h3=>rw[ifP h3]at h0;exact ZlJ h (hb h3.1) h3.1 h0
   .next h3=>rw[ifN h3]at h0;exact(Znu h h0).q3
  next h2=>
   rw[ifN h2]at h0
   split
   .exact⟨fun _=>⟨h.segs,h.hh⟩,(fun g=>by cases g),fun g=>absurd g h2⟩
   next h3=>
    rw[ifN h3]at h0
    split
    .exact⟨(fun g=>by rw[show u.op=false from h.op]at g;cases g),fun _=>h.opath,fun g=>absurd g h2⟩
    .next h4=>rw[ifN h4]at h0;exact(Znu h h0).q3
theorem Zw1{sch rest:LB}{found:Bool}{base:U}(hb:base.sch≠[]->Q3 base)(hn:found=false->base.sch=sch)(h0:(ZdK sch rest found base).2=0):Q3 (ZdK sch rest found base).1:=by
 unfold ZdK at h0 ⊢
 split
 .next h1=>rw[ifP h1]at h0;cases h0
 next h1=>
  rw[ifN h1]at h0
  split
  .next h2=>
   rw[ifP h2]at h0
   exact ZsQ (Zo7 _ _ _) (fun e=>hb (by rw[e];exact h1)) h0
  .next h2=>
   rw[ifN h2]at h0
   have e:=hn (by simpa using h2)
   exact ZlJ (Zo7 _ _ _) (hb (by rw[e];exact h1)) e h0
theorem Zxx{l:LB}{hf:Bool}{base:U}(hb:base=zeroU∨Q3 base)(h0:(Zcd l hf base).2=0):Q3 (Zcd l hf base).1:=by
 have hb':base.sch≠[]->Q3 base:=fun hn=>hb.elim (fun e=>absurd (by rw[e];rfl) hn) id
 unfold Zcd at h0 ⊢
 split
 .next h1=>rw[ifP h1]at h0;exact Zw1 hb' (fun e=>by cases e) h0
 next h1=>
  rw[ifN h1]at h0
  split
  .next h2=>
   rw[ifP h2]at h0
   have hs:Q3 base:=hb.elim (fun e=>by rw[e]at h2;cases h2) id
   unfold ZcK at h0 ⊢
   split
   .exact hs
   .next h3=>rw[ifN h3]at h0;cases h0
  .next h2=>rw[ifN h2]at h0;exact Zw1 hb' (fun _=>rfl) h0
theorem ZgM(l:LB){base:U}(hb:base=zeroU∨Sl base)(h0:(Zaa l base).2=0):Sl (Zaa l base).1:=by
 have hwf:=Zqy l (base:=base) (hb.elim (fun e=>by rw[e];exact ZdL) (fun h=>h.wf))
 have hsd:=ZqE l (base:=base) (hb.elim Or.inl (fun h=>Or.inr h.sd)) h0
 unfold Zaa ZgL at h0 hwf hsd ⊢
 split
 .next h1=>rw[ifP h1]at h0;exact absurd h0 h1
 .next h1=>
  rw[ifN h1]at hwf hsd
  have h:=Zxx (hb.elim Or.inl (fun g=>Or.inr g.q3)) (Classical.not_not.1 h1)
  exact⟨hsd,hwf,⟨h.opq,h.zop,h.sp⟩⟩
theorem ZqF{base:LB}{b:Bool}(h3:(ZcO base b).2=0):(ZcO base b).1=zeroU∨Sl (ZcO base b).1:=by
 unfold ZcO at h3 ⊢
 split
 .exact Or.inl rfl
 next h4=>
  rw[ifN h4]at h3
  split
  .exact Or.inl rfl
  next h5=>
   rw[ifN h5]at h3;exact Or.inr (ZgM base (Or.inl rfl) h3)
theorem Zvr(l base:LB)(b:Bool)(h0:(ZcN l base b).2=0):Sl (ZcN l base b).1:=by
 unfold ZcN at h0 ⊢
 split
 .next h1=>rw[ifP h1]at h0;cases h0
 next h1=>
  rw[ifN h1]at h0
  split
  .next h2=>rw[ifP h2]at h0;exact absurd h0 h2
  next h2=>
   rw[ifN h2]at h0;exact ZgM l (ZqF (Classical.not_not.1 h2)) h0
end Go.Proofs.YtchkhibgbnhjpabGreatDoor
