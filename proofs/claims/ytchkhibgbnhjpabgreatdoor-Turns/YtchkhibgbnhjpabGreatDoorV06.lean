import Derived.Test.YtchkhibgbnhjpabGreatDoorV05
open Bool renaming and_eq_true→Xa,eq_iff_iff→Xc,or_false→Xk
open List renaming length_nil→Xb,foldl_nil→Xd,length_cons→Xe,foldl_cons→Xf,mem_cons_of_mem→Xg,mem_cons_self→Xh,length_drop→Xi,any_cons→Xj,any_nil→Xl
namespace Go.Proofs.YtchkhibgbnhjpabGreatDoor
theorem Za2(c:UInt8)(r:LB)(size v0:Int)(hw:Zc5 (c.toNat:Int)=(size,v0))(h2:128≤(c.toNat:Int))(hl:(r.length:Int)+1≤size)(hc:r.all Zfa=true):
  whole (c::r)=(ZdZ v0 r,wok size (ZdZ v0 r*64^(size-((r.length:Int)+1)).toNat) (ZdZ v0 r*64^(size-((r.length:Int)+1)).toNat+64^(size-((r.length:Int)+1)).toNat-1)&&((r.length:Int)+1==size),
   wok size (ZdZ v0 r*64^(size-((r.length:Int)+1)).toNat) (ZdZ v0 r*64^(size-((r.length:Int)+1)).toNat+64^(size-((r.length:Int)+1)).toNat-1)&&decide ((r.length:Int)+1<size)):=by
 rw[whole,if_neg (by omega),hw,if_neg (by simp only;omega),if_neg (by simp[hc])]
theorem ZbH(c:UInt8)(r:LB)(h2:128≤(c.toNat:Int))(h:(Zc5 (c.toNat:Int)).1<(r.length:Int)+1∨r.all Zfa=false):whole (c::r)=(0,false,false):=by
 rw[whole,if_neg (by omega)]
 by_cases h1:(Zc5 (c.toNat:Int)).1<(r.length:Int)+1
 ·rw[if_pos h1]
 ·rw[if_neg h1,if_pos (h.resolve_left h1)]
theorem ZO(b:UInt8):Zfa b=true↔128≤(b.toNat:Int)∧(b.toNat:Int)≤191:=by simp[Zfa]
theorem Zuk(v:Int)(j:Nat):wok 2 (v*64^j) (v*64^j+64^j-1)=true↔v*64^j≤2047∧128≤v*64^j+64^j-1:=by simp[wok,wtest,room]
theorem ZtW(v:Int)(j:Nat):wok 3 (v*64^j) (v*64^j+64^j-1)=true↔(v*64^j≤55295∧2048≤v*64^j+64^j-1)∨(v*64^j≤65535∧57344≤v*64^j+64^j-1):=by simp[wok,wtest,room]
theorem ZtK(v:Int)(j:Nat):wok 4 (v*64^j) (v*64^j+64^j-1)=true↔v*64^j≤1114111∧65536≤v*64^j+64^j-1:=by simp[wok,wtest,room]
def w2(c:Int):Bool:=decide (194≤c)
def w3(c x:Int):Bool:=decide ((c=224→160≤x)∧(c=237→x≤159))
def w4(c x:Int):Bool:=decide (c≤244∧(c=240→144≤x)∧(c=244→x≤143))
theorem ws2{c:Int}(h0:192≤c)(h1:c<224):Zc5 c=(2,c-192):=by unfold Zc5;rw[if_pos ⟨h0,h1⟩]
theorem ws3{c:Int}(h0:224≤c)(h1:c<240):Zc5 c=(3,c-224):=by unfold Zc5;rw[if_neg (by omega),if_pos ⟨h0,h1⟩]
theorem ws4{c:Int}(h0:240≤c)(h1:c<248):Zc5 c=(4,c-240):=by unfold Zc5;rw[if_neg (by omega),if_neg (by omega),if_pos ⟨h0,h1⟩]
theorem ws0{c:Int}(h:c<192∨248≤c):Zc5 c=(0,0):=by unfold Zc5;rw[if_neg (by omega),if_neg (by omega),if_neg (by omega)]
theorem Zny(c:UInt8)(h0:192≤(c.toNat:Int))(h1:(c.toNat:Int)<224):whole [c]=((c.toNat:Int)-192,false,w2 c.toNat):=by
 rw[Za2 c [] 2 _ (ws2 h0 h1) (by omega) (by simp) rfl]
 simp only[ZdZ,Xd,Xb,Int.natCast_zero,Int.zero_add,Int.reduceSub,Int.toNat_one,Prod.mk.injEq,true_and]
 refine⟨by simp,?_⟩
 rw[Xc,Xa,Zuk]
 simp[w2]
 omega
theorem ZpL(c x:UInt8)(h0:192≤(c.toNat:Int))(h1:(c.toNat:Int)<224)(hx:Zfa x=true):whole [c,x]=(64*((c.toNat:Int)-192)+(x.toNat:Int)-128,w2 c.toNat,false):=by
 rw[Za2 c [x] 2 _ (ws2 h0 h1) (by omega) (by simp) (by simp[hx])]
 have hx':=(ZO x).1 hx;simp only[ZdZ,Xf,Xd,Xe,Xb];simp only[Prod.mk.injEq,true_and]
 refine⟨?_,by simp⟩
 rw[Xc,Xa,Zuk]
 simp[w2]
 omega
theorem ZrX(c:UInt8)(h0:224≤(c.toNat:Int))(h1:(c.toNat:Int)<240):whole [c]=((c.toNat:Int)-224,false,true):=by
 rw[Za2 c [] 3 _ (ws3 h0 h1) (by omega) (by simp) rfl]
 simp only[ZdZ,Xd,Xb,Prod.mk.injEq,true_and]
 refine⟨by simp,?_⟩
 rw[Xa,ZtW]
 simp
 omega
theorem ZkT(c x:UInt8)(h0:224≤(c.toNat:Int))(h1:(c.toNat:Int)<240)(hx:Zfa x=true):whole [c,x]=(64*((c.toNat:Int)-224)+(x.toNat:Int)-128,false,w3 c.toNat x.toNat):=by
 rw[Za2 c [x] 3 _ (ws3 h0 h1) (by omega) (by simp) (by simp[hx])]
 have hx':=(ZO x).1 hx;simp only[ZdZ,Xf,Xd,Xe,Xb,Prod.mk.injEq,true_and]
 refine⟨by simp,?_⟩
 rw[Xc,Xa,ZtW]
 simp[w3]
 omega
theorem Znz(c x y:UInt8)(h0:224≤(c.toNat:Int))(h1:(c.toNat:Int)<240)(hx:Zfa x=true)(hy:Zfa y=true):whole [c,x,y]=(64*(64*((c.toNat:Int)-224)+(x.toNat:Int)-128)+(y.toNat:Int)-128,w3 c.toNat x.toNat,false):=by
 rw[Za2 c [x,y] 3 _ (ws3 h0 h1) (by omega) (by simp) (by simp[hx,hy])]
 have hx':=(ZO x).1 hx;have hy':=(ZO y).1 hy;simp only[ZdZ,Xf,Xd,Xe,Xb,Prod.mk.injEq,true_and]
 refine⟨?_,by simp⟩
 rw[Xc,Xa,ZtW]
 simp[w3]
 omega
theorem ZnA(c:UInt8)(h0:240≤(c.toNat:Int))(h1:(c.toNat:Int)<248):whole [c]=((c.toNat:Int)-240,false,decide ((c.toNat:Int)≤244)):=by
 rw[Za2 c [] 4 _ (ws4 h0 h1) (by omega) (by simp) rfl]
 simp only[ZdZ,Xd,Xb,Prod.mk.injEq,true_and]
 refine⟨by simp,?_⟩
 rw[Xc,Xa,ZtK]
 simp
 omega
theorem ZkU(c x:UInt8)(h0:240≤(c.toNat:Int))(h1:(c.toNat:Int)<248)(hx:Zfa x=true):whole [c,x]=(64*((c.toNat:Int)-240)+(x.toNat:Int)-128,false,w4 c.toNat x.toNat):=by
 rw[Za2 c [x] 4 _ (ws4 h0 h1) (by omega) (by simp) (by simp[hx])]
 have hx':=(ZO x).1 hx;simp only[ZdZ,Xf,Xd,Xe,Xb,Prod.mk.injEq,true_and]
 refine⟨by simp,?_⟩
 rw[Xc,Xa,ZtK]
 simp[w4]
 omega
theorem ZnB(c x y:UInt8)(h0:240≤(c.toNat:Int))(h1:(c.toNat:Int)<248)(hx:Zfa x=true)(hy:Zfa y=true):whole [c,x,y]=(64*(64*((c.toNat:Int)-240)+(x.toNat:Int)-128)+(y.toNat:Int)-128,false,w4 c.toNat x.toNat):=by
 rw[Za2 c [x,y] 4 _ (ws4 h0 h1) (by omega) (by simp) (by simp[hx,hy])]
 have hx':=(ZO x).1 hx;have hy':=(ZO y).1 hy;simp only[ZdZ,Xf,Xd,Xe,Xb,Prod.mk.injEq,true_and]
 refine⟨by simp,?_⟩
 rw[Xc,Xa,ZtK]
 simp[w4]
 omega
theorem ZlR(c x y z:UInt8)(h0:240≤(c.toNat:Int))(h1:(c.toNat:Int)<248)(hx:Zfa x=true)(hy:Zfa y=true)(hz:Zfa z=true):whole [c,x,y,z]=(64*(64*(64*((c.toNat:Int)-240)+(x.toNat:Int)-128)+(y.toNat:Int)-128)+(z.toNat:Int)-128,w4 c.toNat x.toNat,false):=by
 rw[Za2 c [x,y,z] 4 _ (ws4 h0 h1) (by omega) (by simp) (by simp[hx,hy,hz])]
 have hx':=(ZO x).1 hx;have hy':=(ZO y).1 hy;have hz':=(ZO z).1 hz;simp only[ZdZ,Xf,Xd,Xe,Xb,Prod.mk.injEq,true_and]
 refine⟨?_,by simp⟩
 rw[Xc,Xa,ZtK]
 simp[w4]
 omega
theorem ZaJ{want lo hi:Int}{size:Nat}{l:LB}(h:¬(size:Int)<want):Z7 want lo hi size l=size:=by
 cases l with
 | nil=>rfl
 | cons c r=>rw[Z7,if_neg (fun q=>h q.1)]
theorem ZcE{want lo hi:Int}{size:Nat}{c:UInt8}{r:LB}(h:¬(lo≤(c.toNat:Int)∧(c.toNat:Int)≤hi)):Z7 want lo hi size (c::r)=size:=by rw[Z7,if_neg (fun q=>h q.2)]
theorem Zag{want lo hi:Int}{size:Nat}{c:UInt8}{r:LB}(h:(size:Int)<want)(h1:lo≤(c.toNat:Int))(h2:(c.toNat:Int)≤hi):Z7 want lo hi size (c::r)=Z7 want 128 191 (size+1) r:=by rw[Z7,if_pos ⟨h,h1,h2⟩]
theorem ZA(c:UInt8)(r:LB)(want lo hi:Int)(n:Nat)(hf:follow (c.toNat:Int)=(want,lo,hi))(hn:Z7 want lo hi 1 r=n):measure (c::r)=(n,(n:Int)==want):=by rw[measure,hf];simp only[hn]
def ZgR(l:List UInt8):Prop:=∃(m:Nat) (v:Int) (good:Bool),measure l=(m,good)∧grow l 1 (whole (l.take 1))=(m,v,good)∧(good=true→(utf v).map toB=l.take m)
theorem ZdE(c:UInt8)(r:LB)(v:Int)(lo hi:Int)(hf:follow (c.toNat:Int)=(0,lo,hi))(hw:whole [c]=(v,false,false)):ZgR (c::r):=by
 refine⟨1,v,false,?_,?_,nofun⟩
 ·rw[ZA c r 0 lo hi 1 hf (ZaJ (by decide))];rfl
 ·show grow (c::r) 1 (whole [c])=_
  rw[hw,ZaV (by simp)]
theorem Zcr(b:UInt8)(n:Int)(h:n=(b.toNat:Int)):toB n=b:=by subst h;exact ZdA b
theorem Zs6{v:Int}(h:v<128):utf v=[v]:=by unfold utf;rw[if_pos h]
theorem Zul{v:Int}(h0:128≤v)(h:v<2048):utf v=[192+v/64,128+v%64]:=by unfold utf;rw[if_neg (by omega),if_pos h]
theorem Zum{v:Int}(h0:2048≤v)(h:v<65536):utf v=[224+v/4096,128+v/64%64,128+v%64]:=by unfold utf;rw[if_neg (by omega),if_neg (by omega),if_pos h]
theorem Zun{v:Int}(h0:65536≤v):utf v=[240+v/262144,128+v/4096%64,128+v/64%64,128+v%64]:=by unfold utf;rw[if_neg (by omega),if_neg (by omega),if_neg (by omega)]
theorem Ziq(c:UInt8)(r:LB)(h:(c.toNat:Int)<128):ZgR (c::r):=by
 refine⟨1,(c.toNat:Int),true,?_,?_,fun _=>?_⟩
 ·rw[ZA c r 1 0 0 1 (if_pos h) (ZaJ (by decide))];rfl
 ·show grow (c::r) 1 (whole [c])=_
  rw[whole,if_pos ⟨rfl,h⟩,ZaV (by simp)]
 ·rw[Zs6 h]
  show [toB (c.toNat:Int)]=[c]
  rw[Zcr c _ rfl]
theorem ZlS(c:UInt8)(r:LB)(h0:194≤(c.toNat:Int))(h1:(c.toNat:Int)<224):ZgR (c::r):=by
 have hf:follow (c.toNat:Int)=(2,128,191):=by unfold follow;rw[if_neg (by omega),if_neg (by omega),if_pos h1]
 have hw:whole [c]=((c.toNat:Int)-192,false,true):=by rw[Zny c (by omega) h1];simp[w2,h0]
 cases r with
 | nil=>
  refine⟨1,(c.toNat:Int)-192,false,?_,?_,nofun⟩
  ·rw[ZA c [] 2 128 191 1 hf rfl];rfl
  ·show grow [c] 1 (whole [c])=_
   rw[hw,ZaV (by simp)]
 | cons x r=>
  cases hx:Zfa x
  ·have hx':¬(128≤(x.toNat:Int)∧(x.toNat:Int)≤191):=fun q=>by rw[(ZO x).2 q]at hx;cases hx
   have hb:whole [c,x]=(0,false,false):=ZbH c [x] (by omega) (Or.inr (by simp[hx]))
   refine⟨1,(c.toNat:Int)-192,false,?_,?_,nofun⟩
   ·rw[ZA c (x::r) 2 128 191 1 hf (ZcE hx')];rfl
   ·show grow (c::x::r) 1 (whole [c])=_
    rw[hw,Zb2 rfl (by simp) (by show(whole [c,x]).2.1=false;rw[hb]) (by show(whole [c,x]).2.2=false;rw[hb])]
  ·have hx':=(ZO x).1 hx
   have hb:whole [c,x]=(64*((c.toNat:Int)-192)+(x.toNat:Int)-128,true,false):=by rw[ZpL c x (by omega) h1 hx];simp[w2,h0]
   refine⟨2,64*((c.toNat:Int)-192)+(x.toNat:Int)-128,true,?_,?_,fun _=>?_⟩
   ·rw[ZA c (x::r) 2 128 191 2 hf ((Zag (by decide) hx'.1 hx'.2).trans (ZaJ (by decide)))];rfl
   ·show grow (c::x::r) 1 (whole [c])=_
    rw[hw,Zew rfl (by simp) (by show ¬((whole [c,x]).2.1=false∧_);rw[hb];simp)]
    show grow (c::x::r) 2 (whole [c,x])=_
    rw[hb,ZaV (by simp)]
   ·rw[Zul (by omega) (by omega)]
    show [toB _,toB _]=[c,x]
    rw[Zcr c _ (by omega),Zcr x _ (by omega)]
theorem Zir(c:UInt8)(r:LB)(h0:224≤(c.toNat:Int))(h1:(c.toNat:Int)<240):ZgR (c::r):=by
 obtain⟨lo,hi,hf,hlh⟩:∃lo hi,follow (c.toNat:Int)=(3,lo,hi)∧∀x:UInt8,(lo≤(x.toNat:Int)∧(x.toNat:Int)≤hi)↔(Zfa x=true∧w3 c.toNat x.toNat=true):=by
  unfold follow
  rw[if_neg (by omega),if_neg (by omega),if_neg (by omega)]
  by_cases e1:(c.toNat:Int)=224
  ·rw[if_pos e1];exact⟨160,191,rfl,fun x=>by rw[ZO];simp[w3];omega⟩
  rw[if_neg e1]
  by_cases e2:(c.toNat:Int)=237
  ·rw[if_pos e2];exact⟨128,159,rfl,fun x=>by rw[ZO];simp[w3];omega⟩
  rw[if_neg e2,if_pos h1]
  exact⟨128,191,rfl,fun x=>by rw[ZO];simp[w3];omega⟩
 have hw:=ZrX c h0 h1
 cases r with
 | nil=>
  refine⟨1,(c.toNat:Int)-224,false,?_,?_,nofun⟩
  ·rw[ZA c [] 3 lo hi 1 hf rfl];rfl
  ·show grow [c] 1 (whole [c])=_
   rw[hw,ZaV (by simp)]
 | cons x r=>
  by_cases hx:Zfa x=true∧w3 c.toNat x.toNat=true
  ·have hx':=(ZO x).1 hx.1
   have hx2:=(hlh x).2 hx
   have hb:whole [c,x]=(64*((c.toNat:Int)-224)+(x.toNat:Int)-128,false,true):=by rw[ZkT c x h0 h1 hx.1,hx.2]
   have hg:grow (c::x::r) 1 (whole [c])=grow (c::x::r) 2 (64*((c.toNat:Int)-224)+(x.toNat:Int)-128,false,true):=by
    rw[hw,Zew rfl (by simp) (by show ¬(_∧(whole [c,x]).2.2=false);rw[hb];simp)]
    show grow (c::x::r) 2 (whole [c,x])=_
    rw[hb]
   cases r with
   | nil=>
    refine⟨2,64*((c.toNat:Int)-224)+(x.toNat:Int)-128,false,?_,?_,nofun⟩
    ·rw[ZA c [x] 3 lo hi 2 hf (Zag (by decide) hx2.1 hx2.2)];rfl
    ·exact hg.trans (ZaV (by simp))
   | cons y r=>
    cases hy:Zfa y
    ·have hy':¬(128≤(y.toNat:Int)∧(y.toNat:Int)≤191):=fun q=>by rw[(ZO y).2 q]at hy;cases hy
     have hb3:whole [c,x,y]=(0,false,false):=ZbH c [x,y] (by omega) (Or.inr (by simp[hy]))
     refine⟨2,64*((c.toNat:Int)-224)+(x.toNat:Int)-128,false,?_,?_,nofun⟩
     ·rw[ZA c (x::y::r) 3 lo hi 2 hf ((Zag (by decide) hx2.1 hx2.2).trans (ZcE hy'))];rfl
     ·exact hg.trans (Zb2 rfl (by simp) (by show(whole [c,x,y]).2.1=false;rw[hb3]) (by show(whole [c,x,y]).2.2=false;rw[hb3]))
    ·have hy':=(ZO y).1 hy
     have hb3:=Znz c x y h0 h1 hx.1 hy;rw[hx.2]at hb3
     refine⟨3,64*(64*((c.toNat:Int)-224)+(x.toNat:Int)-128)+(y.toNat:Int)-128,true,?_,?_,fun _=>?_⟩
     ·rw[ZA c (x::y::r) 3 lo hi 3 hf ((Zag (by decide) hx2.1 hx2.2).trans ((Zag (by decide) hy'.1 hy'.2).trans (ZaJ (by decide))))];rfl
     ·refine hg.trans ((Zew rfl (by simp) (by show ¬((whole [c,x,y]).2.1=false∧_);rw[hb3];simp)).trans ?_)
      show grow (c::x::y::r) 3 (whole [c,x,y])=_
      rw[hb3,ZaV (by simp)]
     ·have h3:=hx.2
      simp only[w3,decide_eq_true_eq]at h3
      rw[Zum (by omega) (by omega)]
      show [toB _,toB _,toB _]=[c,x,y]
      rw[Zcr c _ (by omega),Zcr x _ (by omega),Zcr y _ (by omega)]
  ·have hxm:¬(lo≤(x.toNat:Int)∧(x.toNat:Int)≤hi):=fun q=>hx ((hlh x).1 q)
   have hb:(whole [c,x]).2.1=false∧(whole [c,x]).2.2=false:=by
    cases hc:Zfa x
    ·rw[ZbH c [x] (by omega) (Or.inr (by simp[hc]))];exact⟨rfl,rfl⟩
    ·rw[ZkT c x h0 h1 hc]
     refine⟨rfl,?_⟩
     cases hq:w3 (c.toNat:Int) (x.toNat:Int)
     ·rfl
     ·exact absurd ⟨hc,hq⟩ hx
   refine⟨1,(c.toNat:Int)-224,false,?_,?_,nofun⟩
   ·rw[ZA c (x::r) 3 lo hi 1 hf (ZcE hxm)];rfl
   ·show grow (c::x::r) 1 (whole [c])=_
    rw[hw]
    exact Zb2 (x:=((c.toNat:Int)-224,false,true)) (m:=1) (l:=c::x::r) rfl (by simp) hb.1 hb.2
theorem ZjK(c:UInt8)(r:LB)(h0:240≤(c.toNat:Int))(h1:(c.toNat:Int)≤244):ZgR (c::r):=by
 obtain⟨lo,hi,hf,hlh⟩:∃lo hi,follow (c.toNat:Int)=(4,lo,hi)∧∀x:UInt8,(lo≤(x.toNat:Int)∧(x.toNat:Int)≤hi)↔(Zfa x=true∧w4 c.toNat x.toNat=true):=by
  unfold follow
  rw[if_neg (by omega),if_neg (by omega),if_neg (by omega),if_neg (by omega),if_neg (by omega),if_neg (by omega)]
  by_cases e1:(c.toNat:Int)=240
  ·rw[if_pos e1];exact⟨144,191,rfl,fun x=>by rw[ZO];simp[w4];omega⟩
  rw[if_neg e1]
  by_cases e2:(c.toNat:Int)=244
  ·rw[if_neg (by omega),if_pos e2];exact⟨128,143,rfl,fun x=>by rw[ZO];simp[w4];omega⟩
  rw[if_pos (by omega)]
  exact⟨128,191,rfl,fun x=>by rw[ZO];simp[w4];omega⟩
 have hw:whole [c]=((c.toNat:Int)-240,false,true):=by rw[ZnA c h0 (by omega),decide_eq_true h1]
 have h2:(c.toNat:Int)<248:=by omega
 cases r with
 | nil=>
  refine⟨1,(c.toNat:Int)-240,false,?_,?_,nofun⟩
  ·rw[ZA c [] 4 lo hi 1 hf rfl];rfl
  ·show grow [c] 1 (whole [c])=_
   rw[hw,ZaV (by simp)]
 | cons x r=>
  by_cases hx:Zfa x=true∧w4 c.toNat x.toNat=true
  ·have hx':=(ZO x).1 hx.1
   have hx2:=(hlh x).2 hx
   have hb:whole [c,x]=(64*((c.toNat:Int)-240)+(x.toNat:Int)-128,false,true):=by rw[ZkU c x h0 h2 hx.1,hx.2]
   have hg:grow (c::x::r) 1 (whole [c])=grow (c::x::r) 2 (64*((c.toNat:Int)-240)+(x.toNat:Int)-128,false,true):=by
    rw[hw,Zew rfl (by simp) (by show ¬(_∧(whole [c,x]).2.2=false);rw[hb];simp)]
    show grow (c::x::r) 2 (whole [c,x])=_
    rw[hb]
   have hmx:∀q,Z7 4 lo hi 1 (x::q)=Z7 4 128 191 2 q:=fun q=>Zag (by decide) hx2.1 hx2.2
   cases r with
   | nil=>
    refine⟨2,64*((c.toNat:Int)-240)+(x.toNat:Int)-128,false,?_,?_,nofun⟩
    ·rw[ZA c [x] 4 lo hi 2 hf (hmx [])];rfl
    ·exact hg.trans (ZaV (by simp))
   | cons y r=>
    cases hy:Zfa y
    ·have hy':¬(128≤(y.toNat:Int)∧(y.toNat:Int)≤191):=fun q=>by rw[(ZO y).2 q]at hy;cases hy
     have hb3:whole [c,x,y]=(0,false,false):=ZbH c [x,y] (by omega) (Or.inr (by simp[hy]))
     refine⟨2,64*((c.toNat:Int)-240)+(x.toNat:Int)-128,false,?_,?_,nofun⟩
     ·rw[ZA c (x::y::r) 4 lo hi 2 hf ((hmx _).trans (ZcE hy'))];rfl
     ·exact hg.trans (Zb2 rfl (by simp) (by show(whole [c,x,y]).2.1=false;rw[hb3]) (by show(whole [c,x,y]).2.2=false;rw[hb3]))
    ·have hy':=(ZO y).1 hy
     have hb3:=ZnB c x y h0 h2 hx.1 hy;rw[hx.2]at hb3
     have hg3:grow (c::x::y::r) 1 (whole [c])=grow (c::x::y::r) 3 (64*(64*((c.toNat:Int)-240)+(x.toNat:Int)-128)+(y.toNat:Int)-128,false,true):=by
      refine hg.trans ((Zew rfl (by simp) (by show ¬(_∧(whole [c,x,y]).2.2=false);rw[hb3];simp)).trans ?_)
      show grow (c::x::y::r) 3 (whole [c,x,y])=_
      rw[hb3]
     have hmy:∀q,Z7 4 lo hi 1 (x::y::q)=Z7 4 128 191 3 q:=fun q=>(hmx _).trans (Zag (by decide) hy'.1 hy'.2)
     cases r with
     | nil=>
      refine⟨3,64*(64*((c.toNat:Int)-240)+(x.toNat:Int)-128)+(y.toNat:Int)-128,false,?_,?_,nofun⟩
      ·rw[ZA c [x,y] 4 lo hi 3 hf (hmy [])];rfl
      ·exact hg3.trans (ZaV (by simp))
     | cons z r=>
      cases hz:Zfa z
      ·have hz':¬(128≤(z.toNat:Int)∧(z.toNat:Int)≤191):=fun q=>by rw[(ZO z).2 q]at hz;cases hz
       have hb4:whole [c,x,y,z]=(0,false,false):=ZbH c [x,y,z] (by omega) (Or.inr (by simp[hz]))
       refine⟨3,64*(64*((c.toNat:Int)-240)+(x.toNat:Int)-128)+(y.toNat:Int)-128,false,?_,?_,nofun⟩
       ·rw[ZA c (x::y::z::r) 4 lo hi 3 hf ((hmy _).trans (ZcE hz'))];rfl
       ·exact hg3.trans (Zb2 rfl (by simp) (by show(whole [c,x,y,z]).2.1=false;rw[hb4]) (by show(whole [c,x,y,z]).2.2=false;rw[hb4]))
      ·have hz':=(ZO z).1 hz
       have hb4:=ZlR c x y z h0 h2 hx.1 hy hz;rw[hx.2]at hb4
       refine⟨4,64*(64*(64*((c.toNat:Int)-240)+(x.toNat:Int)-128)+(y.toNat:Int)-128)+(z.toNat:Int)-128,true,?_,?_,fun _=>?_⟩
       ·rw[ZA c (x::y::z::r) 4 lo hi 4 hf ((hmy _).trans ((Zag (by decide) hz'.1 hz'.2).trans (ZaJ (by decide))))];rfl
       ·refine hg3.trans ((Zew rfl (by simp) (by show ¬((whole [c,x,y,z]).2.1=false∧_);rw[hb4];simp)).trans ?_)
        show grow (c::x::y::z::r) 4 (whole [c,x,y,z])=_
        rw[hb4,ZaV (by simp)]
       ·have h3:=hx.2
        simp only[w4,decide_eq_true_eq]at h3
        rw[Zun (by omega)]
        show [toB _,toB _,toB _,toB _]=[c,x,y,z]
        rw[Zcr c _ (by omega),Zcr x _ (by omega),Zcr y _ (by omega),Zcr z _ (by omega)]
  ·have hxm:¬(lo≤(x.toNat:Int)∧(x.toNat:Int)≤hi):=fun q=>hx ((hlh x).1 q)
   have hb:(whole [c,x]).2.1=false∧(whole [c,x]).2.2=false:=by
    cases hc:Zfa x
    ·rw[ZbH c [x] (by omega) (Or.inr (by simp[hc]))];exact⟨rfl,rfl⟩
    ·rw[ZkU c x h0 h2 hc]
     refine⟨rfl,?_⟩
     cases hq:w4 (c.toNat:Int) (x.toNat:Int)
     ·rfl
     ·exact absurd ⟨hc,hq⟩ hx
   refine⟨1,(c.toNat:Int)-240,false,?_,?_,nofun⟩
   ·rw[ZA c (x::r) 4 lo hi 1 hf (ZcE hxm)];rfl
   ·show grow (c::x::r) 1 (whole [c])=_
    rw[hw]
    exact Zb2 (x:=((c.toNat:Int)-240,false,true)) (m:=1) (l:=c::x::r) rfl (by simp) hb.1 hb.2
theorem Zs7(c:UInt8)(r:LB):ZgR (c::r):=by
 have hb:=bb c
 by_cases a1:(c.toNat:Int)<128
 ·exact Ziq c r a1
 by_cases a2:(c.toNat:Int)<192
 ·exact ZdE c r 0 0 0 (by unfold follow;rw[if_neg a1,if_pos (by omega)]) (ZbH c [] (by omega) (Or.inl (by rw[ws0 (Or.inl a2)];simp)))
 by_cases a3:(c.toNat:Int)<194
 ·exact ZdE c r ((c.toNat:Int)-192) 0 0 (by unfold follow;rw[if_neg a1,if_pos a3]) (by rw[Zny c (by omega) (by omega)];simp[w2];omega)
 by_cases a4:(c.toNat:Int)<224
 ·exact ZlS c r (by omega) a4
 by_cases a5:(c.toNat:Int)<240
 ·exact Zir c r (by omega) a5
 by_cases a6:(c.toNat:Int)≤244
 ·exact ZjK c r (by omega) a6
 have hf:follow (c.toNat:Int)=(0,0,0):=by
  unfold follow
  rw[if_neg a1,if_neg (by omega),if_neg a4,if_neg (by omega),if_neg (by omega),if_neg a5,if_neg (by omega),if_neg (by omega),if_neg (by omega)]
 by_cases a7:(c.toNat:Int)<248
 ·exact ZdE c r ((c.toNat:Int)-240) 0 0 hf (by rw[ZnA c (by omega) a7,decide_eq_false a6])
 ·exact ZdE c r 0 0 0 hf (ZbH c [] (by omega) (Or.inl (by rw[ws0 (Or.inr (by omega))];simp)))
theorem Zgp(l:LB):Zn (Z1 l)=clean l:=by
 generalize hn:l.length=n
 induction n using Nat.strongRecOn generalizing l with
 | ind n ih=>
  cases l with
  | nil=>rw[clean_nil];simp[Z1,Zn]
  | cons c r=>
   obtain⟨m,v,good,hm,hg,hu⟩:=Zs7 c r
   have hml:=Zeu (l:=c::r) (by simp)
   rw[hm]at hml
   rw[ZjJ (c::r) m v good (by simp) hg,ZdB (c::r) (by simp),hm]
   have hi:=ih ((c::r).drop m).length (by rw[Xi];simp only at hml;omega) _ rfl
   show(utf (if good=true then v else 65533)).map toB++Zn (Z1 ((c::r).drop m))=_
   rw[hi]
   congr 1
   cases good
   ·rfl
   ·exact hu rfl
theorem Zbx{n:Int}(h0:0≤n)(h1:n≤255):((toB n).toNat:Int)=n:=Zfu h0 h1
def Sc(c:Int):Prop:=0≤c∧c≤1114111∧¬(55296≤c∧c≤57343)
theorem Sc.pt{c:Int}(h:Sc c):Pt c:=⟨h.1,h.2.1⟩
theorem ZkV{c x:Int}(h0:128≤c)(h1:c≤1114111)(hx:x∈utf c):128≤x∧x≤255:=by
 unfold utf at hx
 rw[if_neg (by omega)]at hx
 split at hx
 ·simp at hx;omega
 ·split at hx<;>(simp at hx;omega)
theorem ZkW{size v k:Int}(h:wtest size (v*64^0) (v*64^0+64^0-1) k=true):Sc v:=by
 unfold wtest at h;simp only[Xa,decide_eq_true_eq,Int.pow_zero,Int.mul_one]at h
 have hr:128≤(room size k).1∧(room size k).2≤1114111∧((room size k).2<55296∨57343<(room size k).1):=by
  unfold room
  split
  ·exact⟨by decide,by decide,by decide⟩
  split
  ·exact⟨by decide,by decide,by decide⟩
  split
  ·exact⟨by decide,by decide,by decide⟩
  ·exact⟨by decide,by decide,by decide⟩
 unfold Sc
 omega
theorem ZkX(t:LB)(h:(whole t).2.1=true):Sc (whole t).1:=by
 cases t with
 | nil=>simp[whole]at h
 | cons b r=>
  rw[whole]at h ⊢
  split at h
  ·rename_i hc
   rw[if_pos hc];unfold Sc;simp only
   omega
  ·rename_i hc
   rw[if_neg hc]
   split at h
   ·cases h
   ·rename_i hc2
    rw[if_neg hc2]
    split at h
    ·cases h
    ·rename_i hc3
     rw[if_neg hc3];simp only[Xa,beq_iff_eq]at h ⊢;obtain⟨h1,h2⟩:=h
     rw[show((Zc5 (b.toNat:Int)).1-((r.length:Int)+1)).toNat=0 by omega]at h1
     unfold wok at h1;simp only[Xa,Bool.or_eq_true]at h1;rcases h1.2 with h3|h3
     ·exact ZkW h3
     ·exact ZkW h3
theorem grow_sc(l:LB)(n:Nat)(x:Int×Bool×Bool)(hx:x.2.1=true→Sc x.1)(h:(grow l n x).2.2=true):Sc (grow l n x).2.1:=by
 induction n,x using grow.induct (l:=l)with
 | case1 n x h1 h2=>rw[grow,if_pos h1,if_pos h2]at h ⊢;exact hx h
 | case2 n x h1 h2 ih=>rw[grow,if_pos h1,if_neg h2]at h ⊢;exact ih (ZkX _) h
 | case3 n x h1=>rw[grow,if_neg h1]at h ⊢;exact hx h
theorem ZnC(l:LB):∀c∈Z1 l,Sc c:=by
 generalize hn:l.length=n
 induction n using Nat.strongRecOn generalizing l with
 | ind n ih=>
  cases l with
  | nil=>simp[Z1]
  | cons c r=>
   rw[Z1];intro x hx;rcases List.mem_cons.1 hx with rfl|hx
   ·split
    ·rename_i h
     exact grow_sc _ _ _ (ZkX _) h
    ·exact⟨by decide,by decide,by decide⟩
   ·exact ih (r.drop ((grow (c::r) 1 (whole [c])).1-1)).length (by rw[Xi];simp at hn;omega) _ rfl x hx
theorem ZjL(c:Int)(hc:Sc c)(rest:LB):measure ((utf c).map toB++rest)=((utf c).length,true):=by
 unfold Sc at hc
 by_cases h1:c<128
 ·rw[Zs6 h1]
  show measure (toB c::rest)=(1,true)
  have e:=Zbx hc.1 (by omega:c≤255)
  rw[ZA (toB c) rest 1 0 0 1 (by unfold follow;rw[e,if_pos h1]) (ZaJ (by decide))];rfl
 by_cases h2:c<2048
 ·rw[Zul (by omega) h2]
  show measure (toB _::toB _::rest)=(2,true)
  have e:=Zbx (n:=192+c/64) (by omega) (by omega)
  have e2:=Zbx (n:=128+c%64) (by omega) (by omega)
  rw[ZA _ (toB (128+c%64)::rest) 2 128 191 2 (by unfold follow;rw[e,if_neg (by omega),if_neg (by omega),if_pos (by omega)]) ((Zag (by decide) (by rw[e2];omega) (by rw[e2];omega)).trans (ZaJ (by decide)))];rfl
 by_cases h3:c<65536
 ·rw[Zum (by omega) h3]
  show measure (toB _::toB _::toB _::rest)=(3,true)
  have e:=Zbx (n:=224+c/4096) (by omega) (by omega)
  have e2:=Zbx (n:=128+c/64%64) (by omega) (by omega)
  have e3:=Zbx (n:=128+c%64) (by omega) (by omega)
  obtain⟨lo,hi,hf,hl,hh⟩:∃lo hi,follow ((toB (224+c/4096)).toNat:Int)=(3,lo,hi)∧lo≤128+c/64%64∧128+c/64%64≤hi:=by
   rw[e];unfold follow
   rw[if_neg (by omega),if_neg (by omega),if_neg (by omega)]
   by_cases a:224+c/4096=224
   ·rw[if_pos a];exact⟨160,191,rfl,by omega,by omega⟩
   rw[if_neg a]
   by_cases b:224+c/4096=237
   ·rw[if_pos b];exact⟨128,159,rfl,by omega,by omega⟩
   rw[if_neg b,if_pos (by omega)]
   exact⟨128,191,rfl,by omega,by omega⟩
  rw[ZA _ (toB (128+c/64%64)::toB (128+c%64)::rest) 3 lo hi 3 hf ((Zag (by decide) (by rw[e2];exact hl) (by rw[e2];exact hh)).trans ((Zag (by decide) (by rw[e3];omega) (by rw[e3];omega)).trans (ZaJ (by decide))))];rfl
 ·rw[Zun (by omega)]
  show measure (toB _::toB _::toB _::toB _::rest)=(4,true)
  have e:=Zbx (n:=240+c/262144) (by omega) (by omega)
  have e2:=Zbx (n:=128+c/4096%64) (by omega) (by omega)
  have e3:=Zbx (n:=128+c/64%64) (by omega) (by omega)
  have e4:=Zbx (n:=128+c%64) (by omega) (by omega)
  obtain⟨lo,hi,hf,hl,hh⟩:∃lo hi,follow ((toB (240+c/262144)).toNat:Int)=(4,lo,hi)∧lo≤128+c/4096%64∧128+c/4096%64≤hi:=by
   rw[e];unfold follow
   rw[if_neg (by omega),if_neg (by omega),if_neg (by omega),if_neg (by omega),if_neg (by omega),if_neg (by omega)]
   by_cases a:240+c/262144=240
   ·rw[if_pos a];exact⟨144,191,rfl,by omega,by omega⟩
   rw[if_neg a]
   by_cases b:240+c/262144=244
   ·rw[if_neg (by omega),if_pos b];exact⟨128,143,rfl,by omega,by omega⟩
   rw[if_pos (by omega)]
   exact⟨128,191,rfl,by omega,by omega⟩
  rw[ZA _ (toB (128+c/4096%64)::toB (128+c/64%64)::toB (128+c%64)::rest) 4 lo hi 4 hf ((Zag (by decide) (by rw[e2];exact hl) (by rw[e2];exact hh)).trans ((Zag (by decide) (by rw[e3];omega) (by rw[e3];omega)).trans ((Zag (by decide) (by rw[e4];omega) (by rw[e4];omega)).trans (ZaJ (by decide)))))];rfl
theorem Zee(l:LI)(hl:∀c∈l,Sc c):clean (Zn l)=Zn l:=by
 induction l with
 | nil=>exact clean_nil
 | cons c r ih=>
  have hm:=ZjL c (hl c (Xh ..)) (Zn r)
  have hb:Zn (c::r)=(utf c).map toB++Zn r:=by simp[Zn]
  have hne:(utf c).map toB++Zn r≠[]:=by
   have:=ZrL c;intro h;have:=congrArg List.length h;rw[List.length_append,List.length_map,Xb]at this
   omega
  rw[hb,ZdB _ hne,hm]
  have hlen:(utf c).length=((utf c).map toB).length:=by simp
  simp only[if_true]
  rw[hlen,List.take_left,List.drop_left,ih (fun x hx=>hl x (Xg _ hx))]
theorem ZnD(p:UInt8→Bool)(q r:LB)(h:∀b∈q,p b=false):bcut p (q++r)=(q++(bcut p r).1,(bcut p r).2):=by
 induction q with
 | nil=>rfl
 | cons b q ih=>
  rw[List.cons_append,bcut,if_neg (by simp[h b (Xh ..)]),ih (fun x hx=>h x (Xg _ hx))]
  rfl
structure Zuo (p:UInt8→Bool) (t:List UInt8):Prop where
 low:∀c:Int,0≤c→c<128→p (toB c)=Zx c t
 high:∀b:UInt8,128≤b.toNat→p b=false
 none:∀c:Int,128≤c→Zx c t=false
theorem Zis{p:UInt8→Bool}{t:LB}(h:Zuo p t)(l:LI)(hl:∀c∈l,Pt c):bcut p (Zn l)=(Zn (cut l t).1,Zn (cut l t).2.1,(cut l t).2.2):=by
 induction l with
 | nil=>rfl
 | cons c r ih=>
  have hc:=hl c (Xh ..)
  have ih':=ih (fun x hx=>hl x (Xg _ hx))
  have hb:Zn (c::r)=(utf c).map toB++Zn r:=by simp[Zn]
  by_cases h1:c<128
  ·rw[hb,Zs6 h1]
   show bcut p (toB c::Zn r)=_
   cases ha:Zx c t
   ·have hcut:cut (c::r) t=(c::(cut r t).1,(cut r t).2):=by simp[cut,ha]
    rw[bcut,if_neg (by rw[h.low c hc.1 h1,ha];simp),ih',hcut]
    have:Zn (c::(cut r t).1)=toB c::Zn (cut r t).1:=by simp[Zn,Zs6 h1]
    rw[this]
   ·have hcut:cut (c::r) t=([],r,true):=by simp[cut,ha]
    rw[bcut,if_pos (by rw[h.low c hc.1 h1,ha]),hcut]
    rfl
  ·have hcut:cut (c::r) t=(c::(cut r t).1,(cut r t).2):=by simp[cut,h.none c (by omega)]
   rw[hb,ZnD p _ _ (fun b hbm=>by
    obtain⟨x,hx,rfl⟩:=List.mem_map.1 hbm
    have hx':=ZkV (by omega) hc.2 hx
    refine h.high _ ?_
    have:=Zbx (n:=x) (by omega) hx'.2
    omega),ih',hcut]
   have:Zn (c::(cut r t).1)=(utf c).map toB++Zn (cut r t).1:=by simp[Zn]
   rw[this]
theorem ZpM(n:Int)(h0:0≤n)(h1:n<128)(t:UInt8)(ht:(t.toNat:Int)=n):Zuo (isB n) [t]:=by
 refine⟨fun c c0 c1=>?_,fun b hb=>?_,fun c hc=>?_⟩
 ·unfold isB Zx
  rw[Zbx c0 (by omega)]
  simp only[Xj,Xl,Xk,ht];rw[Xc];simp only[beq_iff_eq]
  omega
 ·unfold isB
  simp only[beq_eq_false_iff_ne,ne_eq]
  omega
 ·unfold Zx
  simp only[Xj,Xl,Xk,beq_eq_false_iff_ne,ne_eq]
  omega
theorem Zgq{n:Int}{t:UInt8}(h0:0≤n)(h1:n<128)(ht:(t.toNat:Int)=n)(l:LI)(hl:∀c∈l,Pt c):bsplit n (Zn l)=(parts l [t]).map Zn:=by
 generalize hk:l.length=k
 induction k using Nat.strongRecOn generalizing l with
 | ind k ih=>
  rw[ZgI,Zis (ZpM n h0 h1 t ht) l hl,Znu]
  cases hc:(cut l [t]).2.2
  ·simp
  ·simp only[if_true]
   have hlen:=(ZrU l [t]).2 hc
   rw[ih _ (by omega) (cut l [t]).2.1 (fun c hm=>hl c (ZrV (Or.inr hm))) rfl]
   rfl
end Go.Proofs.YtchkhibgbnhjpabGreatDoor
