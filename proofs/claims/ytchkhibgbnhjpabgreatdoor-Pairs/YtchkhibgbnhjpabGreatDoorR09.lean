import Derived.Test.YtchkhibgbnhjpabGreatDoorR08
open Bool renaming and_eq_true→Xa,eq_iff_iff→Xc,or_eq_true→Xi,false_eq_true→Xj,or_false→Xm
open List renaming length_nil→Xb,foldl_nil→Xd,mem_cons_of_mem→Xe,length_cons→Xf,foldl_cons→Xg,mem_cons_self→Xh,length_drop→Xk,any_cons→Xl,any_nil→Xn
namespace Go.Proofs.YtchkhibgbnhjpabGreatDoor
theorem Zbx(c:UInt8)(r:LB)(size v0:Int)(hw:ZbD (c.toNat:Int)=(size,v0))(h2:128≤(c.toNat:Int))(hl:(r.length:Int)+1≤size)(hc:r.all Zcs=true):
  whole (c::r)=(Zah v0 r,wok size (Zah v0 r*64^(size-((r.length:Int)+1)).toNat) (Zah v0 r*64^(size-((r.length:Int)+1)).toNat+64^(size-((r.length:Int)+1)).toNat-1)&&((r.length:Int)+1==size),
   wok size (Zah v0 r*64^(size-((r.length:Int)+1)).toNat) (Zah v0 r*64^(size-((r.length:Int)+1)).toNat+64^(size-((r.length:Int)+1)).toNat-1)&&decide ((r.length:Int)+1<size)):=by
 rw[whole,if_neg (by omega),hw,if_neg (by simp only;omega),if_neg (by simp[hc])]
theorem Zcu(c:UInt8)(r:LB)(h2:128≤(c.toNat:Int))(h:(ZbD (c.toNat:Int)).1<(r.length:Int)+1∨r.all Zcs=false):whole (c::r)=(0,false,false):=by
 rw[whole,if_neg (by omega)]
 by_cases h1:(ZbD (c.toNat:Int)).1<(r.length:Int)+1
 ·rw[if_pos h1]
 ·rw[if_neg h1,if_pos (h.resolve_left h1)]
theorem ZU(b:UInt8):Zcs b=true↔128≤(b.toNat:Int)∧(b.toNat:Int)≤191:=by simp[Zcs]
theorem ZzM(v:Int)(j:Nat):wok 2 (v*64^j) (v*64^j+64^j-1)=true↔v*64^j≤2047∧128≤v*64^j+64^j-1:=by simp[wok,wtest,room]
theorem ZzA(v:Int)(j:Nat):wok 3 (v*64^j) (v*64^j+64^j-1)=true↔(v*64^j≤55295∧2048≤v*64^j+64^j-1)∨(v*64^j≤65535∧57344≤v*64^j+64^j-1):=by simp[wok,wtest,room]
theorem Zzt(v:Int)(j:Nat):wok 4 (v*64^j) (v*64^j+64^j-1)=true↔v*64^j≤1114111∧65536≤v*64^j+64^j-1:=by simp[wok,wtest,room]
def w2(c:Int):Bool:=decide (194≤c)
def w3(c x:Int):Bool:=decide ((c=224→160≤x)∧(c=237→x≤159))
def w4(c x:Int):Bool:=decide (c≤244∧(c=240→144≤x)∧(c=244→x≤143))
theorem ws2{c:Int}(h0:192≤c)(h1:c<224):ZbD c=(2,c-192):=by unfold ZbD;rw[if_pos ⟨h0,h1⟩]
theorem ws3{c:Int}(h0:224≤c)(h1:c<240):ZbD c=(3,c-224):=by unfold ZbD;rw[if_neg (by omega),if_pos ⟨h0,h1⟩]
theorem ws4{c:Int}(h0:240≤c)(h1:c<248):ZbD c=(4,c-240):=by unfold ZbD;rw[if_neg (by omega),if_neg (by omega),if_pos ⟨h0,h1⟩]
theorem ws0{c:Int}(h:c<192∨248≤c):ZbD c=(0,0):=by unfold ZbD;rw[if_neg (by omega),if_neg (by omega),if_neg (by omega)]
theorem Zsw(c:UInt8)(h0:192≤(c.toNat:Int))(h1:(c.toNat:Int)<224):whole [c]=((c.toNat:Int)-192,false,w2 c.toNat):=by
 rw[Zbx c [] 2 _ (ws2 h0 h1) (by omega) (by simp) rfl]
 simp only[Zah,Xd,Xb,Int.natCast_zero,Int.zero_add,Int.reduceSub,Int.toNat_one,Prod.mk.injEq,true_and]
 refine⟨by simp,?_⟩
 rw[Xc,Xa,ZzM]
 simp[w2]
 omega
theorem Zvx(c x:UInt8)(h0:192≤(c.toNat:Int))(h1:(c.toNat:Int)<224)(hx:Zcs x=true):whole [c,x]=(64*((c.toNat:Int)-192)+(x.toNat:Int)-128,w2 c.toNat,false):=by
 rw[Zbx c [x] 2 _ (ws2 h0 h1) (by omega) (by simp) (by simp[hx])]
 have hx':=(ZU x).1 hx;simp only[Zah,Xg,Xd,Xf,Xb];simp only[Prod.mk.injEq,true_and]
 refine⟨?_,by simp⟩
 rw[Xc,Xa,ZzM]
 simp[w2]
 omega
theorem ZxW(c:UInt8)(h0:224≤(c.toNat:Int))(h1:(c.toNat:Int)<240):whole [c]=((c.toNat:Int)-224,false,true):=by
 rw[Zbx c [] 3 _ (ws3 h0 h1) (by omega) (by simp) rfl]
 simp only[Zah,Xd,Xb,Prod.mk.injEq,true_and]
 refine⟨by simp,?_⟩
 rw[Xa,ZzA]
 simp
 omega
theorem Zpe(c x:UInt8)(h0:224≤(c.toNat:Int))(h1:(c.toNat:Int)<240)(hx:Zcs x=true):whole [c,x]=(64*((c.toNat:Int)-224)+(x.toNat:Int)-128,false,w3 c.toNat x.toNat):=by
 rw[Zbx c [x] 3 _ (ws3 h0 h1) (by omega) (by simp) (by simp[hx])]
 have hx':=(ZU x).1 hx;simp only[Zah,Xg,Xd,Xf,Xb,Prod.mk.injEq,true_and]
 refine⟨by simp,?_⟩
 rw[Xc,Xa,ZzA]
 simp[w3]
 omega
theorem Zsx(c x y:UInt8)(h0:224≤(c.toNat:Int))(h1:(c.toNat:Int)<240)(hx:Zcs x=true)(hy:Zcs y=true):whole [c,x,y]=(64*(64*((c.toNat:Int)-224)+(x.toNat:Int)-128)+(y.toNat:Int)-128,w3 c.toNat x.toNat,false):=by
 rw[Zbx c [x,y] 3 _ (ws3 h0 h1) (by omega) (by simp) (by simp[hx,hy])]
 have hx':=(ZU x).1 hx;have hy':=(ZU y).1 hy;simp only[Zah,Xg,Xd,Xf,Xb,Prod.mk.injEq,true_and]
 refine⟨?_,by simp⟩
 rw[Xc,Xa,ZzA]
 simp[w3]
 omega
theorem Zsy(c:UInt8)(h0:240≤(c.toNat:Int))(h1:(c.toNat:Int)<248):whole [c]=((c.toNat:Int)-240,false,decide ((c.toNat:Int)≤244)):=by
 rw[Zbx c [] 4 _ (ws4 h0 h1) (by omega) (by simp) rfl]
 simp only[Zah,Xd,Xb,Prod.mk.injEq,true_and]
 refine⟨by simp,?_⟩
 rw[Xc,Xa,Zzt]
 simp
 omega
theorem Zpf(c x:UInt8)(h0:240≤(c.toNat:Int))(h1:(c.toNat:Int)<248)(hx:Zcs x=true):whole [c,x]=(64*((c.toNat:Int)-240)+(x.toNat:Int)-128,false,w4 c.toNat x.toNat):=by
 rw[Zbx c [x] 4 _ (ws4 h0 h1) (by omega) (by simp) (by simp[hx])]
 have hx':=(ZU x).1 hx;simp only[Zah,Xg,Xd,Xf,Xb,Prod.mk.injEq,true_and]
 refine⟨by simp,?_⟩
 rw[Xc,Xa,Zzt]
 simp[w4]
 omega
theorem Zsz(c x y:UInt8)(h0:240≤(c.toNat:Int))(h1:(c.toNat:Int)<248)(hx:Zcs x=true)(hy:Zcs y=true):whole [c,x,y]=(64*(64*((c.toNat:Int)-240)+(x.toNat:Int)-128)+(y.toNat:Int)-128,false,w4 c.toNat x.toNat):=by
 rw[Zbx c [x,y] 4 _ (ws4 h0 h1) (by omega) (by simp) (by simp[hx,hy])]
 have hx':=(ZU x).1 hx;have hy':=(ZU y).1 hy;simp only[Zah,Xg,Xd,Xf,Xb,Prod.mk.injEq,true_and]
 refine⟨by simp,?_⟩
 rw[Xc,Xa,Zzt]
 simp[w4]
 omega
theorem Zqz(c x y z:UInt8)(h0:240≤(c.toNat:Int))(h1:(c.toNat:Int)<248)(hx:Zcs x=true)(hy:Zcs y=true)(hz:Zcs z=true):whole [c,x,y,z]=(64*(64*(64*((c.toNat:Int)-240)+(x.toNat:Int)-128)+(y.toNat:Int)-128)+(z.toNat:Int)-128,w4 c.toNat x.toNat,false):=by
 rw[Zbx c [x,y,z] 4 _ (ws4 h0 h1) (by omega) (by simp) (by simp[hx,hy,hz])]
 have hx':=(ZU x).1 hx;have hy':=(ZU y).1 hy;have hz':=(ZU z).1 hz;simp only[Zah,Xg,Xd,Xf,Xb,Prod.mk.injEq,true_and]
 refine⟨?_,by simp⟩
 rw[Xc,Xa,Zzt]
 simp[w4]
 omega
theorem ZaU{want lo hi:Int}{size:Nat}{l:LB}(h:¬(size:Int)<want):Zai want lo hi size l=size:=by
 cases l with
 | nil=>rfl
 | cons c r=>rw[Zai,if_neg (fun q=>h q.1)]
theorem ZdQ{want lo hi:Int}{size:Nat}{c:UInt8}{r:LB}(h:¬(lo≤(c.toNat:Int)∧(c.toNat:Int)≤hi)):Zai want lo hi size (c::r)=size:=by rw[Zai,if_neg (fun q=>h q.2)]
theorem Zaq{want lo hi:Int}{size:Nat}{c:UInt8}{r:LB}(h:(size:Int)<want)(h1:lo≤(c.toNat:Int))(h2:(c.toNat:Int)≤hi):Zai want lo hi size (c::r)=Zai want 128 191 (size+1) r:=by rw[Zai,if_pos ⟨h,h1,h2⟩]
theorem ZJ(c:UInt8)(r:LB)(want lo hi:Int)(n:Nat)(hf:follow (c.toNat:Int)=(want,lo,hi))(hn:Zai want lo hi 1 r=n):measure (c::r)=(n,(n:Int)==want):=by rw[measure,hf];simp only[hn]
def ZjK(l:List UInt8):Prop:=∃(m:Nat) (v:Int) (good:Bool),measure l=(m,good)∧grow l 1 (whole (l.take 1))=(m,v,good)∧(good=true→(utf v).map toB=l.take m)
theorem Zfd(c:UInt8)(r:LB)(v:Int)(lo hi:Int)(hf:follow (c.toNat:Int)=(0,lo,hi))(hw:whole [c]=(v,false,false)):ZjK (c::r):=by
 refine⟨1,v,false,?_,?_,nofun⟩
 ·rw[ZJ c r 0 lo hi 1 hf (ZaU (by decide))];rfl
 ·show grow (c::r) 1 (whole [c])=_
  rw[hw,ZaN (by simp)]
theorem ZdB(b:UInt8)(n:Int)(h:n=(b.toNat:Int)):toB n=b:=by subst h;exact Ze8 b
theorem Zpg{v:Int}(h:v<128):utf v=[v]:=by unfold utf;rw[if_pos h]
theorem ZzN{v:Int}(h0:128≤v)(h:v<2048):utf v=[192+v/64,128+v%64]:=by unfold utf;rw[if_neg (by omega),if_pos h]
theorem ZzO{v:Int}(h0:2048≤v)(h:v<65536):utf v=[224+v/4096,128+v/64%64,128+v%64]:=by unfold utf;rw[if_neg (by omega),if_neg (by omega),if_pos h]
theorem ZzP{v:Int}(h0:65536≤v):utf v=[240+v/262144,128+v/4096%64,128+v/64%64,128+v%64]:=by unfold utf;rw[if_neg (by omega),if_neg (by omega),if_neg (by omega)]
theorem ZlL(c:UInt8)(r:LB)(h:(c.toNat:Int)<128):ZjK (c::r):=by
 refine⟨1,(c.toNat:Int),true,?_,?_,fun _=>?_⟩
 ·rw[ZJ c r 1 0 0 1 (if_pos h) (ZaU (by decide))];rfl
 ·show grow (c::r) 1 (whole [c])=_
  rw[whole,if_pos ⟨rfl,h⟩,ZaN (by simp)]
 ·rw[Zpg h]
  show [toB (c.toNat:Int)]=[c]
  rw[ZdB c _ rfl]
theorem ZqA(c:UInt8)(r:LB)(h0:194≤(c.toNat:Int))(h1:(c.toNat:Int)<224):ZjK (c::r):=by
 have hf:follow (c.toNat:Int)=(2,128,191):=by unfold follow;rw[if_neg (by omega),if_neg (by omega),if_pos h1]
 have hw:whole [c]=((c.toNat:Int)-192,false,true):=by rw[Zsw c (by omega) h1];simp[w2,h0]
 cases r with
 | nil=>
  refine⟨1,(c.toNat:Int)-192,false,?_,?_,nofun⟩
  ·rw[ZJ c [] 2 128 191 1 hf rfl];rfl
  ·show grow [c] 1 (whole [c])=_
   rw[hw,ZaN (by simp)]
 | cons x r=>
  cases hx:Zcs x
  ·have hx':¬(128≤(x.toNat:Int)∧(x.toNat:Int)≤191):=fun q=>by rw[(ZU x).2 q]at hx;cases hx
   have hb:whole [c,x]=(0,false,false):=Zcu c [x] (by omega) (Or.inr (by simp[hx]))
   refine⟨1,(c.toNat:Int)-192,false,?_,?_,nofun⟩
   ·rw[ZJ c (x::r) 2 128 191 1 hf (ZdQ hx')];rfl
   ·show grow (c::x::r) 1 (whole [c])=_
    rw[hw,Zcd rfl (by simp) (by show(whole [c,x]).2.1=false;rw[hb]) (by show(whole [c,x]).2.2=false;rw[hb])]
  ·have hx':=(ZU x).1 hx
   have hb:whole [c,x]=(64*((c.toNat:Int)-192)+(x.toNat:Int)-128,true,false):=by rw[Zvx c x (by omega) h1 hx];simp[w2,h0]
   refine⟨2,64*((c.toNat:Int)-192)+(x.toNat:Int)-128,true,?_,?_,fun _=>?_⟩
   ·rw[ZJ c (x::r) 2 128 191 2 hf ((Zaq (by decide) hx'.1 hx'.2).trans (ZaU (by decide)))];rfl
   ·show grow (c::x::r) 1 (whole [c])=_
    rw[hw,ZfK rfl (by simp) (by show ¬((whole [c,x]).2.1=false∧_);rw[hb];simp)]
    show grow (c::x::r) 2 (whole [c,x])=_
    rw[hb,ZaN (by simp)]
   ·rw[ZzN (by omega) (by omega)]
    show [toB _,toB _]=[c,x]
    rw[ZdB c _ (by omega),ZdB x _ (by omega)]
theorem ZlM(c:UInt8)(r:LB)(h0:224≤(c.toNat:Int))(h1:(c.toNat:Int)<240):ZjK (c::r):=by
 obtain⟨lo,hi,hf,hlh⟩:∃lo hi,follow (c.toNat:Int)=(3,lo,hi)∧∀x:UInt8,(lo≤(x.toNat:Int)∧(x.toNat:Int)≤hi)↔(Zcs x=true∧w3 c.toNat x.toNat=true):=by
  unfold follow
  rw[if_neg (by omega),if_neg (by omega),if_neg (by omega)]
  by_cases e1:(c.toNat:Int)=224
  ·rw[if_pos e1];exact⟨160,191,rfl,fun x=>by rw[ZU];simp[w3];omega⟩
  rw[if_neg e1]
  by_cases e2:(c.toNat:Int)=237
  ·rw[if_pos e2];exact⟨128,159,rfl,fun x=>by rw[ZU];simp[w3];omega⟩
  rw[if_neg e2,if_pos h1]
  exact⟨128,191,rfl,fun x=>by rw[ZU];simp[w3];omega⟩
 have hw:=ZxW c h0 h1
 cases r with
 | nil=>
  refine⟨1,(c.toNat:Int)-224,false,?_,?_,nofun⟩
  ·rw[ZJ c [] 3 lo hi 1 hf rfl];rfl
  ·show grow [c] 1 (whole [c])=_
   rw[hw,ZaN (by simp)]
 | cons x r=>
  by_cases hx:Zcs x=true∧w3 c.toNat x.toNat=true
  ·have hx':=(ZU x).1 hx.1
   have hx2:=(hlh x).2 hx
   have hb:whole [c,x]=(64*((c.toNat:Int)-224)+(x.toNat:Int)-128,false,true):=by rw[Zpe c x h0 h1 hx.1,hx.2]
   have hg:grow (c::x::r) 1 (whole [c])=grow (c::x::r) 2 (64*((c.toNat:Int)-224)+(x.toNat:Int)-128,false,true):=by
    rw[hw,ZfK rfl (by simp) (by show ¬(_∧(whole [c,x]).2.2=false);rw[hb];simp)]
    show grow (c::x::r) 2 (whole [c,x])=_
    rw[hb]
   cases r with
   | nil=>
    refine⟨2,64*((c.toNat:Int)-224)+(x.toNat:Int)-128,false,?_,?_,nofun⟩
    ·rw[ZJ c [x] 3 lo hi 2 hf (Zaq (by decide) hx2.1 hx2.2)];rfl
    ·exact hg.trans (ZaN (by simp))
   | cons y r=>
    cases hy:Zcs y
    ·have hy':¬(128≤(y.toNat:Int)∧(y.toNat:Int)≤191):=fun q=>by rw[(ZU y).2 q]at hy;cases hy
     have hb3:whole [c,x,y]=(0,false,false):=Zcu c [x,y] (by omega) (Or.inr (by simp[hy]))
     refine⟨2,64*((c.toNat:Int)-224)+(x.toNat:Int)-128,false,?_,?_,nofun⟩
     ·rw[ZJ c (x::y::r) 3 lo hi 2 hf ((Zaq (by decide) hx2.1 hx2.2).trans (ZdQ hy'))];rfl
     ·exact hg.trans (Zcd rfl (by simp) (by show(whole [c,x,y]).2.1=false;rw[hb3]) (by show(whole [c,x,y]).2.2=false;rw[hb3]))
    ·have hy':=(ZU y).1 hy
     have hb3:=Zsx c x y h0 h1 hx.1 hy;rw[hx.2]at hb3
     refine⟨3,64*(64*((c.toNat:Int)-224)+(x.toNat:Int)-128)+(y.toNat:Int)-128,true,?_,?_,fun _=>?_⟩
     ·rw[ZJ c (x::y::r) 3 lo hi 3 hf ((Zaq (by decide) hx2.1 hx2.2).trans ((Zaq (by decide) hy'.1 hy'.2).trans (ZaU (by decide))))];rfl
     ·refine hg.trans ((ZfK rfl (by simp) (by show ¬((whole [c,x,y]).2.1=false∧_);rw[hb3];simp)).trans ?_)
      show grow (c::x::y::r) 3 (whole [c,x,y])=_
      rw[hb3,ZaN (by simp)]
     ·have h3:=hx.2
      simp only[w3,decide_eq_true_eq]at h3
      rw[ZzO (by omega) (by omega)]
      show [toB _,toB _,toB _]=[c,x,y]
      rw[ZdB c _ (by omega),ZdB x _ (by omega),ZdB y _ (by omega)]
  ·have hxm:¬(lo≤(x.toNat:Int)∧(x.toNat:Int)≤hi):=fun q=>hx ((hlh x).1 q)
   have hb:(whole [c,x]).2.1=false∧(whole [c,x]).2.2=false:=by
    cases hc:Zcs x
    ·rw[Zcu c [x] (by omega) (Or.inr (by simp[hc]))];exact⟨rfl,rfl⟩
    ·rw[Zpe c x h0 h1 hc]
     refine⟨rfl,?_⟩
     cases hq:w3 (c.toNat:Int) (x.toNat:Int)
     ·rfl
     ·exact absurd ⟨hc,hq⟩ hx
   refine⟨1,(c.toNat:Int)-224,false,?_,?_,nofun⟩
   ·rw[ZJ c (x::r) 3 lo hi 1 hf (ZdQ hxm)];rfl
   ·show grow (c::x::r) 1 (whole [c])=_
    rw[hw]
    exact Zcd (x:=((c.toNat:Int)-224,false,true)) (m:=1) (l:=c::x::r) rfl (by simp) hb.1 hb.2
theorem Znw(c:UInt8)(r:LB)(h0:240≤(c.toNat:Int))(h1:(c.toNat:Int)≤244):ZjK (c::r):=by
 obtain⟨lo,hi,hf,hlh⟩:∃lo hi,follow (c.toNat:Int)=(4,lo,hi)∧∀x:UInt8,(lo≤(x.toNat:Int)∧(x.toNat:Int)≤hi)↔(Zcs x=true∧w4 c.toNat x.toNat=true):=by
  unfold follow
  rw[if_neg (by omega),if_neg (by omega),if_neg (by omega),if_neg (by omega),if_neg (by omega),if_neg (by omega)]
  by_cases e1:(c.toNat:Int)=240
  ·rw[if_pos e1];exact⟨144,191,rfl,fun x=>by rw[ZU];simp[w4];omega⟩
  rw[if_neg e1]
  by_cases e2:(c.toNat:Int)=244
  ·rw[if_neg (by omega),if_pos e2];exact⟨128,143,rfl,fun x=>by rw[ZU];simp[w4];omega⟩
  rw[if_pos (by omega)]
  exact⟨128,191,rfl,fun x=>by rw[ZU];simp[w4];omega⟩
 have hw:whole [c]=((c.toNat:Int)-240,false,true):=by rw[Zsy c h0 (by omega),decide_eq_true h1]
 have h2:(c.toNat:Int)<248:=by omega
 cases r with
 | nil=>
  refine⟨1,(c.toNat:Int)-240,false,?_,?_,nofun⟩
  ·rw[ZJ c [] 4 lo hi 1 hf rfl];rfl
  ·show grow [c] 1 (whole [c])=_
   rw[hw,ZaN (by simp)]
 | cons x r=>
  by_cases hx:Zcs x=true∧w4 c.toNat x.toNat=true
  ·have hx':=(ZU x).1 hx.1
   have hx2:=(hlh x).2 hx
   have hb:whole [c,x]=(64*((c.toNat:Int)-240)+(x.toNat:Int)-128,false,true):=by rw[Zpf c x h0 h2 hx.1,hx.2]
   have hg:grow (c::x::r) 1 (whole [c])=grow (c::x::r) 2 (64*((c.toNat:Int)-240)+(x.toNat:Int)-128,false,true):=by
    rw[hw,ZfK rfl (by simp) (by show ¬(_∧(whole [c,x]).2.2=false);rw[hb];simp)]
    show grow (c::x::r) 2 (whole [c,x])=_
    rw[hb]
   have hmx:∀q,Zai 4 lo hi 1 (x::q)=Zai 4 128 191 2 q:=fun q=>Zaq (by decide) hx2.1 hx2.2
   cases r with
   | nil=>
    refine⟨2,64*((c.toNat:Int)-240)+(x.toNat:Int)-128,false,?_,?_,nofun⟩
    ·rw[ZJ c [x] 4 lo hi 2 hf (hmx [])];rfl
    ·exact hg.trans (ZaN (by simp))
   | cons y r=>
    cases hy:Zcs y
    ·have hy':¬(128≤(y.toNat:Int)∧(y.toNat:Int)≤191):=fun q=>by rw[(ZU y).2 q]at hy;cases hy
     have hb3:whole [c,x,y]=(0,false,false):=Zcu c [x,y] (by omega) (Or.inr (by simp[hy]))
     refine⟨2,64*((c.toNat:Int)-240)+(x.toNat:Int)-128,false,?_,?_,nofun⟩
     ·rw[ZJ c (x::y::r) 4 lo hi 2 hf ((hmx _).trans (ZdQ hy'))];rfl
     ·exact hg.trans (Zcd rfl (by simp) (by show(whole [c,x,y]).2.1=false;rw[hb3]) (by show(whole [c,x,y]).2.2=false;rw[hb3]))
    ·have hy':=(ZU y).1 hy
     have hb3:=Zsz c x y h0 h2 hx.1 hy;rw[hx.2]at hb3
     have hg3:grow (c::x::y::r) 1 (whole [c])=grow (c::x::y::r) 3 (64*(64*((c.toNat:Int)-240)+(x.toNat:Int)-128)+(y.toNat:Int)-128,false,true):=by
      refine hg.trans ((ZfK rfl (by simp) (by show ¬(_∧(whole [c,x,y]).2.2=false);rw[hb3];simp)).trans ?_)
      show grow (c::x::y::r) 3 (whole [c,x,y])=_
      rw[hb3]
     have hmy:∀q,Zai 4 lo hi 1 (x::y::q)=Zai 4 128 191 3 q:=fun q=>(hmx _).trans (Zaq (by decide) hy'.1 hy'.2)
     cases r with
     | nil=>
      refine⟨3,64*(64*((c.toNat:Int)-240)+(x.toNat:Int)-128)+(y.toNat:Int)-128,false,?_,?_,nofun⟩
      ·rw[ZJ c [x,y] 4 lo hi 3 hf (hmy [])];rfl
      ·exact hg3.trans (ZaN (by simp))
     | cons z r=>
      cases hz:Zcs z
      ·have hz':¬(128≤(z.toNat:Int)∧(z.toNat:Int)≤191):=fun q=>by rw[(ZU z).2 q]at hz;cases hz
       have hb4:whole [c,x,y,z]=(0,false,false):=Zcu c [x,y,z] (by omega) (Or.inr (by simp[hz]))
       refine⟨3,64*(64*((c.toNat:Int)-240)+(x.toNat:Int)-128)+(y.toNat:Int)-128,false,?_,?_,nofun⟩
       ·rw[ZJ c (x::y::z::r) 4 lo hi 3 hf ((hmy _).trans (ZdQ hz'))];rfl
       ·exact hg3.trans (Zcd rfl (by simp) (by show(whole [c,x,y,z]).2.1=false;rw[hb4]) (by show(whole [c,x,y,z]).2.2=false;rw[hb4]))
      ·have hz':=(ZU z).1 hz
       have hb4:=Zqz c x y z h0 h2 hx.1 hy hz;rw[hx.2]at hb4
       refine⟨4,64*(64*(64*((c.toNat:Int)-240)+(x.toNat:Int)-128)+(y.toNat:Int)-128)+(z.toNat:Int)-128,true,?_,?_,fun _=>?_⟩
       ·rw[ZJ c (x::y::z::r) 4 lo hi 4 hf ((hmy _).trans ((Zaq (by decide) hz'.1 hz'.2).trans (ZaU (by decide))))];rfl
       ·refine hg3.trans ((ZfK rfl (by simp) (by show ¬((whole [c,x,y,z]).2.1=false∧_);rw[hb4];simp)).trans ?_)
        show grow (c::x::y::z::r) 4 (whole [c,x,y,z])=_
        rw[hb4,ZaN (by simp)]
       ·have h3:=hx.2
        simp only[w4,decide_eq_true_eq]at h3
        rw[ZzP (by omega)]
        show [toB _,toB _,toB _,toB _]=[c,x,y,z]
        rw[ZdB c _ (by omega),ZdB x _ (by omega),ZdB y _ (by omega),ZdB z _ (by omega)]
  ·have hxm:¬(lo≤(x.toNat:Int)∧(x.toNat:Int)≤hi):=fun q=>hx ((hlh x).1 q)
   have hb:(whole [c,x]).2.1=false∧(whole [c,x]).2.2=false:=by
    cases hc:Zcs x
    ·rw[Zcu c [x] (by omega) (Or.inr (by simp[hc]))];exact⟨rfl,rfl⟩
    ·rw[Zpf c x h0 h2 hc]
     refine⟨rfl,?_⟩
     cases hq:w4 (c.toNat:Int) (x.toNat:Int)
     ·rfl
     ·exact absurd ⟨hc,hq⟩ hx
   refine⟨1,(c.toNat:Int)-240,false,?_,?_,nofun⟩
   ·rw[ZJ c (x::r) 4 lo hi 1 hf (ZdQ hxm)];rfl
   ·show grow (c::x::r) 1 (whole [c])=_
    rw[hw]
    exact Zcd (x:=((c.toNat:Int)-240,false,true)) (m:=1) (l:=c::x::r) rfl (by simp) hb.1 hb.2
theorem ZyZ(c:UInt8)(r:LB):ZjK (c::r):=by
 have hb:=bb c
 by_cases a1:(c.toNat:Int)<128
 ·exact ZlL c r a1
 by_cases a2:(c.toNat:Int)<192
 ·exact Zfd c r 0 0 0 (by unfold follow;rw[if_neg a1,if_pos (by omega)]) (Zcu c [] (by omega) (Or.inl (by rw[ws0 (Or.inl a2)];simp)))
 by_cases a3:(c.toNat:Int)<194
 ·exact Zfd c r ((c.toNat:Int)-192) 0 0 (by unfold follow;rw[if_neg a1,if_pos a3]) (by rw[Zsw c (by omega) (by omega)];simp[w2];omega)
 by_cases a4:(c.toNat:Int)<224
 ·exact ZqA c r (by omega) a4
 by_cases a5:(c.toNat:Int)<240
 ·exact ZlM c r (by omega) a5
 by_cases a6:(c.toNat:Int)≤244
 ·exact Znw c r (by omega) a6
 have hf:follow (c.toNat:Int)=(0,0,0):=by
  unfold follow
  rw[if_neg a1,if_neg (by omega),if_neg a4,if_neg (by omega),if_neg (by omega),if_neg a5,if_neg (by omega),if_neg (by omega),if_neg (by omega)]
 by_cases a7:(c.toNat:Int)<248
 ·exact Zfd c r ((c.toNat:Int)-240) 0 0 hf (by rw[Zsy c (by omega) a7,decide_eq_false a6])
 ·exact Zfd c r 0 0 0 hf (Zcu c [] (by omega) (Or.inl (by rw[ws0 (Or.inr (by omega))];simp)))
theorem ZaK(l:LB):Zb (Zk l)=clean l:=by
 generalize hn:l.length=n
 induction n using Nat.strongRecOn generalizing l with
 | ind n ih=>
  cases l with
  | nil=>rw[clean_nil];simp[Zk,Zb]
  | cons c r=>
   obtain⟨m,v,good,hm,hg,hu⟩:=ZyZ c r
   have hml:=Zgw (l:=c::r) (by simp)
   rw[hm]at hml
   rw[Zd8 (c::r) m v good (by simp) hg,ZdL (c::r) (by simp),hm]
   have hi:=ih ((c::r).drop m).length (by rw[Xk];simp only at hml;omega) _ rfl
   show(utf (if good=true then v else 65533)).map toB++Zb (Zk ((c::r).drop m))=_
   rw[hi]
   congr 1
   cases good
   ·rfl
   ·exact hu rfl
theorem Zbk{n:Int}(h0:0≤n)(h1:n≤255):((toB n).toNat:Int)=n:=Zf5 h0 h1
def Sc(c:Int):Prop:=0≤c∧c≤1114111∧¬(55296≤c∧c≤57343)
theorem Sc.pt{c:Int}(h:Sc c):Pt c:=⟨h.1,h.2.1⟩
theorem ZkQ{c x:Int}(h0:128≤c)(h1:c≤1114111)(hx:x∈utf c):128≤x∧x≤255:=by
 unfold utf at hx
 rw[if_neg (by omega)]at hx
 split at hx
 ·simp at hx;omega
 ·split at hx<;>(simp at hx;omega)
theorem Zhb(n:Int)(_h0:0≤n):ZL n 16=if 0≤digit n then(digit n,true)else(0,false):=by
 unfold ZL digit;simp only
 by_cases a1:48≤n∧n≤57
 ·rw[if_pos a1,if_pos a1,if_neg (by omega),if_pos (by omega)]
 rw[if_neg a1,if_neg a1]
 by_cases a2:97≤n∧n≤102
 ·rw[if_pos a2,if_pos a2,if_neg (by omega),if_pos (by omega)]
  congr 1;omega
 rw[if_neg a2,if_neg a2]
 by_cases a3:65≤n∧n≤70
 ·rw[if_pos a3,if_pos a3,if_neg (by omega),if_pos (by omega)]
  congr 1;omega
 rw[if_neg a3,if_neg a3,if_pos (by omega),if_neg (by omega)]
theorem Znx(c x y:UInt8)(r:LB):ZbZ (c::x::y::r)=if c=37∧0≤digit (x.toNat:Int)∧0≤digit (y.toNat:Int)then(16*digit (x.toNat:Int)+digit (y.toNat:Int),true)else(0,false):=by
 unfold ZbZ;simp only
 rw[Zhb _ (by omega),Zhb _ (by omega)]
 by_cases hx:0≤digit (x.toNat:Int)
 ·by_cases hy:0≤digit (y.toNat:Int)
  ·rw[if_pos hx,if_pos hy]
   by_cases hc:c=37
   ·rw[if_pos ⟨hc,rfl,rfl⟩,if_pos ⟨hc,hx,hy⟩]
    congr 1;omega
   ·rw[if_neg (fun h=>hc h.1),if_neg (fun h=>hc h.1)]
  ·rw[if_neg (by rw[if_neg hy];simp),if_neg (fun h=>hy h.2.2)]
 ·rw[if_neg (by rw[if_neg hx];simp),if_neg (fun h=>hx h.2.1)]
theorem bdecode_decoded(l:LB):Zp l=decoded l:=by
 generalize hn:l.length=n
 induction n using Nat.strongRecOn generalizing l with
 | ind n ih=>
  cases l with
  | nil=>rw[ZbM];simp[decoded]
  | cons c r=>
   rw[Zbj]
   match r with
   | []=>rw[Zd5 [c] (by simp)];simp[decoded,ZbM]
   | [x]=>
    rw[Zd5 [c,x] (by simp)]
    simp only[Xj,if_false]
    rw[ih [x].length (by simp at hn ⊢;omega) [x] rfl,Zey c [x] (fun x' y q e=>by simp at e)]
   | x::y::q=>
    rw[Znx]
    by_cases h:c=37∧0≤digit (x.toNat:Int)∧0≤digit (y.toNat:Int)
    ·rw[if_pos h]
     simp only[if_true];obtain⟨rfl,h1,h2⟩:=h;rw[Zh3 x y q h1 h2]
     show toB _::Zp q=_
     rw[ih q.length (by simp at hn;omega) q rfl]
    ·rw[if_neg h]
     simp only[Xj,if_false]
     rw[ih (x::y::q).length (by simp at hn ⊢;omega) (x::y::q) rfl,Zey c (x::y::q) (fun x' y' q' e=>by
      simp only[List.cons.injEq]at e;obtain⟨rfl,rfl,_⟩:=e
      exact h)]
theorem Zny:∀q:Fin 16,toB (capital (q.val:Int))=ZyW.getD q.val 0:=by decide
theorem Zhc{n:Int}(h0:0≤n)(h1:n<16):toB (capital n)=ZyW.getD n.toNat 0:=by
 have h:=Zny ⟨n.toNat,by omega⟩
 simp only at h
 rwa [Int.toNat_of_nonneg h0]at h
theorem Zil(set:LB)(n:Int)(h0:0≤n)(h1:n≤255)(h:n<32∨126<n∨among n set=true):ZE set (toB n)=pct n:=by
 unfold ZE
 rw[Zbk h0 h1,if_pos h,Zhc (by omega) (by omega),Zhc (by omega) (by omega)]
 rfl
theorem ZlN(set:LB)(n:Int)(h0:0≤n)(h1:n≤255)(h:¬(n<32∨126<n∨among n set=true)):ZE set (toB n)=[toB n]:=by unfold ZE;rw[Zbk h0 h1,if_neg h]
theorem ZqB(set:LB)(c:Int)(hc:Pt c):encB set ((utf c).map toB)=encPt set c:=by
 by_cases h:c<128
 ·rw[Zpg h]
  show ZE set (toB c)++[]=_
  rw[List.append_nil];unfold encPt;rw[Zpg h]
  by_cases hs:among c set=true∨c<32∨126<c
  ·rw[Zil set c hc.1 (by omega) (by rcases hs with h|h|h;exact Or.inr (Or.inr h);exact Or.inl h;exact Or.inr (Or.inl h)),if_pos (by simp only[Xi,decide_eq_true_eq];rcases hs with h|h|h;exact Or.inl (Or.inl h);exact Or.inl (Or.inr h);exact Or.inr h)]
   simp
  ·rw[ZlN set c hc.1 (by omega) (by intro q;apply hs;rcases q with h|h|h;exact Or.inr (Or.inl h);exact Or.inr (Or.inr h);exact Or.inl h),if_neg (by simp only[Xi,decide_eq_true_eq];intro q;apply hs;rcases q with(h|h)|h;exact Or.inl h;exact Or.inr (Or.inl h);exact Or.inr (Or.inr h))]
   rfl
 ·unfold encPt
  rw[if_pos (by simp only[Xi,decide_eq_true_eq];right;omega)]
  have gen:∀q:LI,(∀x∈q,128≤x∧x≤255)→encB set (q.map toB)=q.flatMap pct:=by
   intro q
   induction q with
   | nil=>intro _;rfl
   | cons x q ih=>
    intro hq;have hx:=hq x (Xh ..)
    show ZE set (toB x)++encB set (q.map toB)=_
    rw[Zil set x (by omega) hx.2 (Or.inr (Or.inl (by omega))),ih (fun y hy=>hq y (Xe _ hy))]
    rfl
  exact gen (utf c) (fun x hx=>ZkQ (by omega) hc.2 hx)
theorem ZlO(set:LB)(l:LI)(hl:∀c∈l,Pt c):encB set (Zb l)=encoded l set:=by
 induction l with
 | nil=>rfl
 | cons c r ih=>
  have h1:encB set (Zb (c::r))=encB set ((utf c).map toB)++encB set (Zb r):=by simp[encB,Zb]
  rw[h1,ZqB set c (hl c (Xh ..)),ih (fun x hx=>hl x (Xe _ hx))]
  rfl
theorem Zph{size v k:Int}(h:wtest size (v*64^0) (v*64^0+64^0-1) k=true):Sc v:=by
 unfold wtest at h;simp only[Xa,decide_eq_true_eq,Int.pow_zero,Int.mul_one]at h
 have hr:128≤(room size k).1∧(room size k).2≤1114111∧((room size k).2<55296∨57343<(room size k).1):=by
  unfold room
  split
  ·exact⟨by decide,by decide,by decide⟩
  split
  ·exact⟨by decide,by decide,by decide⟩
  split
  ·exact⟨by decide,by decide,by decide⟩
  ·exact⟨by decide,by decide,by decide⟩
 unfold Sc
 omega
theorem Zpi(t:LB)(h:(whole t).2.1=true):Sc (whole t).1:=by
 cases t with
 | nil=>simp[whole]at h
 | cons b r=>
  rw[whole]at h ⊢
  split at h
  ·rename_i hc
   rw[if_pos hc];unfold Sc;simp only
   omega
  ·rename_i hc
   rw[if_neg hc]
   split at h
   ·cases h
   ·rename_i hc2
    rw[if_neg hc2]
    split at h
    ·cases h
    ·rename_i hc3
     rw[if_neg hc3];simp only[Xa,beq_iff_eq]at h ⊢;obtain⟨h1,h2⟩:=h
     rw[show((ZbD (b.toNat:Int)).1-((r.length:Int)+1)).toNat=0 by omega]at h1
     unfold wok at h1;simp only[Xa,Xi]at h1;rcases h1.2 with h3|h3
     ·exact Zph h3
     ·exact Zph h3
theorem grow_sc(l:LB)(n:Nat)(x:Int×Bool×Bool)(hx:x.2.1=true→Sc x.1)(h:(grow l n x).2.2=true):Sc (grow l n x).2.1:=by
 induction n,x using grow.induct (l:=l)with
 | case1 n x h1 h2=>rw[grow,if_pos h1,if_pos h2]at h ⊢;exact hx h
 | case2 n x h1 h2 ih=>rw[grow,if_pos h1,if_neg h2]at h ⊢;exact ih (Zpi _) h
 | case3 n x h1=>rw[grow,if_neg h1]at h ⊢;exact hx h
theorem Za3(l:LB):∀c∈Zk l,Sc c:=by
 generalize hn:l.length=n
 induction n using Nat.strongRecOn generalizing l with
 | ind n ih=>
  cases l with
  | nil=>simp[Zk]
  | cons c r=>
   rw[Zk];intro x hx;rcases List.mem_cons.1 hx with rfl|hx
   ·split
    ·rename_i h
     exact grow_sc _ _ _ (Zpi _) h
    ·exact⟨by decide,by decide,by decide⟩
   ·exact ih (r.drop ((grow (c::r) 1 (whole [c])).1-1)).length (by rw[Xk];simp at hn;omega) _ rfl x hx
theorem Znz(c:Int)(hc:Sc c)(rest:LB):measure ((utf c).map toB++rest)=((utf c).length,true):=by
 unfold Sc at hc
 by_cases h1:c<128
 ·rw[Zpg h1]
  show measure (toB c::rest)=(1,true)
  have e:=Zbk hc.1 (by omega:c≤255)
  rw[ZJ (toB c) rest 1 0 0 1 (by unfold follow;rw[e,if_pos h1]) (ZaU (by decide))];rfl
 by_cases h2:c<2048
 ·rw[ZzN (by omega) h2]
  show measure (toB _::toB _::rest)=(2,true)
  have e:=Zbk (n:=192+c/64) (by omega) (by omega)
  have e2:=Zbk (n:=128+c%64) (by omega) (by omega)
  rw[ZJ _ (toB (128+c%64)::rest) 2 128 191 2 (by unfold follow;rw[e,if_neg (by omega),if_neg (by omega),if_pos (by omega)]) ((Zaq (by decide) (by rw[e2];omega) (by rw[e2];omega)).trans (ZaU (by decide)))];rfl
 by_cases h3:c<65536
 ·rw[ZzO (by omega) h3]
  show measure (toB _::toB _::toB _::rest)=(3,true)
  have e:=Zbk (n:=224+c/4096) (by omega) (by omega)
  have e2:=Zbk (n:=128+c/64%64) (by omega) (by omega)
  have e3:=Zbk (n:=128+c%64) (by omega) (by omega)
  obtain⟨lo,hi,hf,hl,hh⟩:∃lo hi,follow ((toB (224+c/4096)).toNat:Int)=(3,lo,hi)∧lo≤128+c/64%64∧128+c/64%64≤hi:=by
   rw[e];unfold follow
   rw[if_neg (by omega),if_neg (by omega),if_neg (by omega)]
   by_cases a:224+c/4096=224
   ·rw[if_pos a];exact⟨160,191,rfl,by omega,by omega⟩
   rw[if_neg a]
   by_cases b:224+c/4096=237
   ·rw[if_pos b];exact⟨128,159,rfl,by omega,by omega⟩
   rw[if_neg b,if_pos (by omega)]
   exact⟨128,191,rfl,by omega,by omega⟩
  rw[ZJ _ (toB (128+c/64%64)::toB (128+c%64)::rest) 3 lo hi 3 hf ((Zaq (by decide) (by rw[e2];exact hl) (by rw[e2];exact hh)).trans ((Zaq (by decide) (by rw[e3];omega) (by rw[e3];omega)).trans (ZaU (by decide))))];rfl
 ·rw[ZzP (by omega)]
  show measure (toB _::toB _::toB _::toB _::rest)=(4,true)
  have e:=Zbk (n:=240+c/262144) (by omega) (by omega)
  have e2:=Zbk (n:=128+c/4096%64) (by omega) (by omega)
  have e3:=Zbk (n:=128+c/64%64) (by omega) (by omega)
  have e4:=Zbk (n:=128+c%64) (by omega) (by omega)
  obtain⟨lo,hi,hf,hl,hh⟩:∃lo hi,follow ((toB (240+c/262144)).toNat:Int)=(4,lo,hi)∧lo≤128+c/4096%64∧128+c/4096%64≤hi:=by
   rw[e];unfold follow
   rw[if_neg (by omega),if_neg (by omega),if_neg (by omega),if_neg (by omega),if_neg (by omega),if_neg (by omega)]
   by_cases a:240+c/262144=240
   ·rw[if_pos a];exact⟨144,191,rfl,by omega,by omega⟩
   rw[if_neg a]
   by_cases b:240+c/262144=244
   ·rw[if_neg (by omega),if_pos b];exact⟨128,143,rfl,by omega,by omega⟩
   rw[if_pos (by omega)]
   exact⟨128,191,rfl,by omega,by omega⟩
  rw[ZJ _ (toB (128+c/4096%64)::toB (128+c/64%64)::toB (128+c%64)::rest) 4 lo hi 4 hf ((Zaq (by decide) (by rw[e2];exact hl) (by rw[e2];exact hh)).trans ((Zaq (by decide) (by rw[e3];omega) (by rw[e3];omega)).trans ((Zaq (by decide) (by rw[e4];omega) (by rw[e4];omega)).trans (ZaU (by decide)))))];rfl
theorem Zeb(l:LI)(hl:∀c∈l,Sc c):clean (Zb l)=Zb l:=by
 induction l with
 | nil=>exact clean_nil
 | cons c r ih=>
  have hm:=Znz c (hl c (Xh ..)) (Zb r)
  have hb:Zb (c::r)=(utf c).map toB++Zb r:=by simp[Zb]
  have hne:(utf c).map toB++Zb r≠[]:=by
   have:=ZfF c;intro h;have:=congrArg List.length h;rw[List.length_append,List.length_map,Xb]at this
   omega
  rw[hb,ZdL _ hne,hm]
  have hlen:(utf c).length=((utf c).map toB).length:=by simp
  simp only[if_true]
  rw[hlen,List.take_left,List.drop_left,ih (fun x hx=>hl x (Xe _ hx))]
theorem ZaV(set:LB)(l:LI)(hl:∀c∈l,Sc c):encB set (clean (Zb l))=encoded l set:=by rw[Zeb l hl,ZlO set l (fun c hc=>(hl c hc).pt)]
theorem ZsA(p:UInt8→Bool)(q r:LB)(h:∀b∈q,p b=false):bcut p (q++r)=(q++(bcut p r).1,(bcut p r).2):=by
 induction q with
 | nil=>rfl
 | cons b q ih=>
  rw[List.cons_append,bcut,if_neg (by simp[h b (Xh ..)]),ih (fun x hx=>h x (Xe _ hx))]
  rfl
structure Zve (p:UInt8→Bool) (t:List UInt8):Prop where
 low:∀c:Int,0≤c→c<128→p (toB c)=among c t
 high:∀b:UInt8,128≤b.toNat→p b=false
 none:∀c:Int,128≤c→among c t=false
theorem Zao{p:UInt8→Bool}{t:LB}(h:Zve p t)(l:LI)(hl:∀c∈l,Pt c):bcut p (Zb l)=(Zb (cut l t).1,Zb (cut l t).2.1,(cut l t).2.2):=by
 induction l with
 | nil=>rfl
 | cons c r ih=>
  have hc:=hl c (Xh ..)
  have ih':=ih (fun x hx=>hl x (Xe _ hx))
  have hb:Zb (c::r)=(utf c).map toB++Zb r:=by simp[Zb]
  by_cases h1:c<128
  ·rw[hb,Zpg h1]
   show bcut p (toB c::Zb r)=_
   cases ha:among c t
   ·have hcut:cut (c::r) t=(c::(cut r t).1,(cut r t).2):=by simp[cut,ha]
    rw[bcut,if_neg (by rw[h.low c hc.1 h1,ha];simp),ih',hcut]
    have:Zb (c::(cut r t).1)=toB c::Zb (cut r t).1:=by simp[Zb,Zpg h1]
    rw[this]
   ·have hcut:cut (c::r) t=([],r,true):=by simp[cut,ha]
    rw[bcut,if_pos (by rw[h.low c hc.1 h1,ha]),hcut]
    rfl
  ·have hcut:cut (c::r) t=(c::(cut r t).1,(cut r t).2):=by simp[cut,h.none c (by omega)]
   rw[hb,ZsA p _ _ (fun b hbm=>by
    obtain⟨x,hx,rfl⟩:=List.mem_map.1 hbm
    have hx':=ZkQ (by omega) hc.2 hx
    refine h.high _ ?_
    have:=Zbk (n:=x) (by omega) hx'.2
    omega),ih',hcut]
   have:Zb (c::(cut r t).1)=(utf c).map toB++Zb (cut r t).1:=by simp[Zb]
   rw[this]
theorem Zec(n:Int)(h0:0≤n)(h1:n<128)(t:UInt8)(ht:(t.toNat:Int)=n):Zve (isB n) [t]:=by
 refine⟨fun c c0 c1=>?_,fun b hb=>?_,fun c hc=>?_⟩
 ·unfold isB among
  rw[Zbk c0 (by omega)]
  simp only[Xl,Xn,Xm,ht];rw[Xc];simp only[beq_iff_eq]
  omega
 ·unfold isB
  simp only[beq_eq_false_iff_ne,ne_eq]
  omega
 ·unfold among
  simp only[Xl,Xn,Xm,beq_eq_false_iff_ne,ne_eq]
  omega
theorem Za6{n:Int}{t:UInt8}(h0:0≤n)(h1:n<128)(ht:(t.toNat:Int)=n)(l:LI)(hl:∀c∈l,Pt c):bsplit n (Zb l)=(parts l [t]).map Zb:=by
 generalize hk:l.length=k
 induction k using Nat.strongRecOn generalizing l with
 | ind k ih=>
  rw[ZjB,Zao (Zec n h0 h1 t ht) l hl,Zf7]
  cases hc:(cut l [t]).2.2
  ·simp
  ·simp only[if_true]
   have hlen:=(Zce l [t]).2 hc
   rw[ih _ (by omega) (cut l [t]).2.1 (fun c hm=>hl c (ZR (Or.inr hm))) rfl]
   rfl
end Go.Proofs.YtchkhibgbnhjpabGreatDoor
