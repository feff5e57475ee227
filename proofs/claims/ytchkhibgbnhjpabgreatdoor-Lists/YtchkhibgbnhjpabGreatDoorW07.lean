import Derived.Test.YtchkhibgbnhjpabGreatDoorW06
open Bool renaming and_eq_true→Xa,eq_iff_iff→Xc,or_eq_true→Xk,false_eq_true→Xl,or_false→Xo
open List renaming length_nil→Xb,foldl_nil→Xd,mem_cons_of_mem→Xf,length_cons→Xg,foldl_cons→Xh,mem_cons_self→Xi,length_drop→Xm,any_cons→Xn,any_nil→Xp
open Or renaming inr→Xe,inl→Xj
namespace Go.Proofs.YtchkhibgbnhjpabGreatDoor
variable [Fl]
set_option linter.all false
theorem Zbs(c:UInt8)(r:LB)(size v0:Int)(hw:ZbH (c.toNat:Int)=(size,v0))(h2:128<=(c.toNat:Int))(hl:(r.length:Int)+1<=size)(hc:r.all Zcx=true):
  whole (c::r)=(Z4 v0 r,wok size (Z4 v0 r*64^(size-((r.length:Int)+1)).toNat) (Z4 v0 r*64^(size-((r.length:Int)+1)).toNat+64^(size-((r.length:Int)+1)).toNat-1)&&((r.length:Int)+1==size),
   wok size (Z4 v0 r*64^(size-((r.length:Int)+1)).toNat) (Z4 v0 r*64^(size-((r.length:Int)+1)).toNat+64^(size-((r.length:Int)+1)).toNat-1)&&decide ((r.length:Int)+1<size)):=by
 rw[whole,ifN (by omega),hw,ifN (by simp only;omega),ifN (by simp[hc])]
theorem Zcz(c:UInt8)(r:LB)(h2:128<=(c.toNat:Int))(h:(ZbH (c.toNat:Int)).1<(r.length:Int)+1∨r.all Zcx=false):whole (c::r)=(0,false,false):=by
 rw[whole,ifN (by omega)]
 by_cases h1:(ZbH (c.toNat:Int)).1<(r.length:Int)+1
 .rw[ifP h1]
 .rw[ifN h1,ifP (h.resolve_left h1)]
theorem ZN(b:UInt8):Zcx b=true↔128<=(b.toNat:Int)/\(b.toNat:Int)<=191:=by simp[Zcx]
theorem Zze(v:Int)(j:Nat):wok 2 (v*64^j) (v*64^j+64^j-1)=true↔v*64^j<=2047/\128<=v*64^j+64^j-1:=by simp[wok,wtest,room]
theorem Zy3(v:Int)(j:Nat):wok 3 (v*64^j) (v*64^j+64^j-1)=true↔(v*64^j<=55295/\2048<=v*64^j+64^j-1)∨(v*64^j<=65535/\57344<=v*64^j+64^j-1):=by simp[wok,wtest,room]
theorem ZyR(v:Int)(j:Nat):wok 4 (v*64^j) (v*64^j+64^j-1)=true↔v*64^j<=1114111/\65536<=v*64^j+64^j-1:=by simp[wok,wtest,room]
def w2(c:Int):Bool:=decide (194<=c)
def w3(c x:Int):Bool:=decide ((c=224->160<=x)/\(c=237->x<=159))
def w4(c x:Int):Bool:=decide (c<=244/\(c=240->144<=x)/\(c=244->x<=143))
theorem ws2{c:Int}(h0:192<=c)(h1:c<224):ZbH c=(2,c-192):=by unfold ZbH;rw[ifP ⟨h0,h1⟩]
theorem ws3{c:Int}(h0:224<=c)(h1:c<240):ZbH c=(3,c-224):=by unfold ZbH;rw[ifN (by omega),ifP ⟨h0,h1⟩]
theorem ws4{c:Int}(h0:240<=c)(h1:c<248):ZbH c=(4,c-240):=by unfold ZbH;rw[ifN (by omega),ifN (by omega),ifP ⟨h0,h1⟩]
theorem ws0{c:Int}(h:c<192∨248<=c):ZbH c=(0,0):=by unfold ZbH;rw[ifN (by omega),ifN (by omega),ifN (by omega)]
theorem Zs1(c:UInt8)(h0:192<=(c.toNat:Int))(h1:(c.toNat:Int)<224):whole [c]=((c.toNat:Int)-192,false,w2 c.toNat):=by
 rw[Zbs c [] 2 _ (ws2 h0 h1) (by omega) (by simp) rfl]
 simp only[Z4,Xd,Xb,Int.natCast_zero,Int.zero_add,Int.reduceSub,Int.toNat_one,Prod.mk.injEq,true_and]
 refine⟨by simp,?_⟩
 rw[Xc,Xa,Zze]
 simp[w2]
 omega
theorem Zvx(c x:UInt8)(h0:192<=(c.toNat:Int))(h1:(c.toNat:Int)<224)(hx:Zcx x=true):whole [c,x]=(64*((c.toNat:Int)-192)+(x.toNat:Int)-128,w2 c.toNat,false):=by
 rw[Zbs c [x] 2 _ (ws2 h0 h1) (by omega) (by simp) (by simp[hx])]
 have hx':=(ZN x).1 hx;simp only[Z4,Xh,Xd,Xg,Xb];simp only[Prod.mk.injEq,true_and]
 refine⟨?_,by simp⟩
 rw[Xc,Xa,Zze]
 simp[w2]
 omega
theorem Zxz(c:UInt8)(h0:224<=(c.toNat:Int))(h1:(c.toNat:Int)<240):whole [c]=((c.toNat:Int)-224,false,true):=by
 rw[Zbs c [] 3 _ (ws3 h0 h1) (by omega) (by simp) rfl]
 simp only[Z4,Xd,Xb,Prod.mk.injEq,true_and]
 refine⟨by simp,?_⟩
 rw[Xa,Zy3]
 simp
 omega
theorem Zph(c x:UInt8)(h0:224<=(c.toNat:Int))(h1:(c.toNat:Int)<240)(hx:Zcx x=true):whole [c,x]=(64*((c.toNat:Int)-224)+(x.toNat:Int)-128,false,w3 c.toNat x.toNat):=by
 rw[Zbs c [x] 3 _ (ws3 h0 h1) (by omega) (by simp) (by simp[hx])]
 have hx':=(ZN x).1 hx;simp only[Z4,Xh,Xd,Xg,Xb,Prod.mk.injEq,true_and]
 refine⟨by simp,?_⟩
 rw[Xc,Xa,Zy3]
 simp[w3]
 omega
theorem Zs2(c x y:UInt8)(h0:224<=(c.toNat:Int))(h1:(c.toNat:Int)<240)(hx:Zcx x=true)(hy:Zcx y=true):whole [c,x,y]=(64*(64*((c.toNat:Int)-224)+(x.toNat:Int)-128)+(y.toNat:Int)-128,w3 c.toNat x.toNat,false):=by
 rw[Zbs c [x,y] 3 _ (ws3 h0 h1) (by omega) (by simp) (by simp[hx,hy])]
 have hx':=(ZN x).1 hx;have hy':=(ZN y).1 hy;simp only[Z4,Xh,Xd,Xg,Xb,Prod.mk.injEq,true_and]
 refine⟨?_,by simp⟩
 rw[Xc,Xa,Zy3]
 simp[w3]
 omega
theorem Zs3(c:UInt8)(h0:240<=(c.toNat:Int))(h1:(c.toNat:Int)<248):whole [c]=((c.toNat:Int)-240,false,decide ((c.toNat:Int)<=244)):=by
 rw[Zbs c [] 4 _ (ws4 h0 h1) (by omega) (by simp) rfl]
 simp only[Z4,Xd,Xb,Prod.mk.injEq,true_and]
 refine⟨by simp,?_⟩
 rw[Xc,Xa,ZyR]
 simp
 omega
theorem Zpi(c x:UInt8)(h0:240<=(c.toNat:Int))(h1:(c.toNat:Int)<248)(hx:Zcx x=true):whole [c,x]=(64*((c.toNat:Int)-240)+(x.toNat:Int)-128,false,w4 c.toNat x.toNat):=by
 rw[Zbs c [x] 4 _ (ws4 h0 h1) (by omega) (by simp) (by simp[hx])]
 have hx':=(ZN x).1 hx;simp only[Z4,Xh,Xd,Xg,Xb,Prod.mk.injEq,true_and]
 refine⟨by simp,?_⟩
 rw[Xc,Xa,ZyR]
 simp[w4]
 omega
theorem Zs4(c x y:UInt8)(h0:240<=(c.toNat:Int))(h1:(c.toNat:Int)<248)(hx:Zcx x=true)(hy:Zcx y=true):whole [c,x,y]=(64*(64*((c.toNat:Int)-240)+(x.toNat:Int)-128)+(y.toNat:Int)-128,false,w4 c.toNat x.toNat):=by
 rw[Zbs c [x,y] 4 _ (ws4 h0 h1) (by omega) (by simp) (by simp[hx,hy])]
 have hx':=(ZN x).1 hx;have hy':=(ZN y).1 hy;simp only[Z4,Xh,Xd,Xg,Xb,Prod.mk.injEq,true_and]
 refine⟨by simp,?_⟩
 rw[Xc,Xa,ZyR]
 simp[w4]
 omega
theorem ZqI(c x y z:UInt8)(h0:240<=(c.toNat:Int))(h1:(c.toNat:Int)<248)(hx:Zcx x=true)(hy:Zcx y=true)(hz:Zcx z=true):whole [c,x,y,z]=(64*(64*(64*((c.toNat:Int)-240)+(x.toNat:Int)-128)+(y.toNat:Int)-128)+(z.toNat:Int)-128,w4 c.toNat x.toNat,false):=by
 rw[Zbs c [x,y,z] 4 _ (ws4 h0 h1) (by omega) (by simp) (by simp[hx,hy,hz])]
 have hx':=(ZN x).1 hx;have hy':=(ZN y).1 hy;have hz':=(ZN z).1 hz;simp only[Z4,Xh,Xd,Xg,Xb,Prod.mk.injEq,true_and]
 refine⟨?_,by simp⟩
 rw[Xc,Xa,ZyR]
 simp[w4]
 omega
theorem ZaV{want lo hi:Int}{size:Nat}{l:LB}(h:¬(size:Int)<want):Z8 want lo hi size l=size:=by
 cases l with
 | nil=>rfl
 | cons c r=>rw[Z8,ifN (fun q=>h q.1)]
theorem ZdW{want lo hi:Int}{size:Nat}{c:UInt8}{r:LB}(h:¬(lo<=(c.toNat:Int)/\(c.toNat:Int)<=hi)):Z8 want lo hi size (c::r)=size:=by rw[Z8,ifN (fun q=>h q.2)]
theorem Zag{want lo hi:Int}{size:Nat}{c:UInt8}{r:LB}(h:(size:Int)<want)(h1:lo<=(c.toNat:Int))(h2:(c.toNat:Int)<=hi):Z8 want lo hi size (c::r)=Z8 want 128 191 (size+1) r:=by rw[Z8,ifP ⟨h,h1,h2⟩]
theorem ZF(c:UInt8)(r:LB)(want lo hi:Int)(n:Nat)(hf:follow (c.toNat:Int)=(want,lo,hi))(hn:Z8 want lo hi 1 r=n):measure (c::r)=(n,(n:Int)==want):=by rw[measure,hf];simp only[hn]
def ZjK(l:List UInt8):Prop:=∃(m:Nat) (v:Int) (good:Bool),measure l=(m,good)/\grow l 1 (whole (l.take 1))=(m,v,good)/\(good=true->(utf v).map toB=l.take m)
theorem Zfd(c:UInt8)(r:LB)(v:Int)(lo hi:Int)(hf:follow (c.toNat:Int)=(0,lo,hi))(hw:whole [c]=(v,false,false)):ZjK (c::r):=by
 refine⟨1,v,false,?_,?_,nofun⟩
 .rw[ZF c r 0 lo hi 1 hf (ZaV (by decide))];rfl
 .show grow (c::r) 1 (whole [c])=_
  rw[hw,ZaM (by simp)]
theorem ZdN(b:UInt8)(n:Int)(h:n=(b.toNat:Int)):toB n=b:=by subst h;exact Ze6 b
theorem Zpj{v:Int}(h:v<128):utf v=[v]:=by unfold utf;rw[ifP h]
theorem Zzf{v:Int}(h0:128<=v)(h:v<2048):utf v=[192+v/64,128+v%64]:=by unfold utf;rw[ifN (by omega),ifP h]
theorem Zzg{v:Int}(h0:2048<=v)(h:v<65536):utf v=[224+v/4096,128+v/64%64,128+v%64]:=by unfold utf;rw[ifN (by omega),ifN (by omega),ifP h]
theorem Zzh{v:Int}(h0:65536<=v):utf v=[240+v/262144,128+v/4096%64,128+v/64%64,128+v%64]:=by unfold utf;rw[ifN (by omega),ifN (by omega),ifN (by omega)]
theorem ZlS(c:UInt8)(r:LB)(h:(c.toNat:Int)<128):ZjK (c::r):=by
 refine⟨1,(c.toNat:Int),true,?_,?_,fun _=>?_⟩
 .rw[ZF c r 1 0 0 1 (ifP h) (ZaV (by decide))];rfl
 .show grow (c::r) 1 (whole [c])=_
  rw[whole,ifP ⟨rfl,h⟩,ZaM (by simp)]
 .rw[Zpj h]
  show [toB (c.toNat:Int)]=[c]
  rw[ZdN c _ rfl]
theorem ZqJ(c:UInt8)(r:LB)(h0:194<=(c.toNat:Int))(h1:(c.toNat:Int)<224):ZjK (c::r):=by
 have hf:follow (c.toNat:Int)=(2,128,191):=by unfold follow;rw[ifN (by omega),ifN (by omega),ifP h1]
 have hw:whole [c]=((c.toNat:Int)-192,false,true):=by rw[Zs1 c (by omega) h1];simp[w2,h0]
 cases r with
 | nil=>
  refine⟨1,(c.toNat:Int)-192,false,?_,?_,nofun⟩
  .rw[ZF c [] 2 128 191 1 hf rfl];rfl
  .show grow [c] 1 (whole [c])=_
   rw[hw,ZaM (by simp)]
 | cons x r=>
  cases hx:Zcx x
  .have hx':¬(128<=(x.toNat:Int)/\(x.toNat:Int)<=191):=fun q=>by rw[(ZN x).2 q]at hx;cases hx
   have hb:whole [c,x]=(0,false,false):=Zcz c [x] (by omega) (Xe (by simp[hx]))
   refine⟨1,(c.toNat:Int)-192,false,?_,?_,nofun⟩
   .rw[ZF c (x::r) 2 128 191 1 hf (ZdW hx')];rfl
   .show grow (c::x::r) 1 (whole [c])=_
    rw[hw,Zcj rfl (by simp) (by show(whole [c,x]).2.1=false;rw[hb]) (by show(whole [c,x]).2.2=false;rw[hb])]
  .have hx':=(ZN x).1 hx
   have hb:whole [c,x]=(64*((c.toNat:Int)-192)+(x.toNat:Int)-128,true,false):=by rw[Zvx c x (by omega) h1 hx];simp[w2,h0]
   refine⟨2,64*((c.toNat:Int)-192)+(x.toNat:Int)-128,true,?_,?_,fun _=>?_⟩
   .rw[ZF c (x::r) 2 128 191 2 hf ((Zag (by decide) hx'.1 hx'.2).trans (ZaV (by decide)))];rfl
   .show grow (c::x::r) 1 (whole [c])=_
    rw[hw,ZfO rfl (by simp) (by show ¬((whole [c,x]).2.1=false/\_);rw[hb];simp)]
    show grow (c::x::r) 2 (whole [c,x])=_
    rw[hb,ZaM (by simp)]
   .rw[Zzf (by omega) (by omega)]
    show [toB _,toB _]=[c,x]
    rw[ZdN c _ (by omega),ZdN x _ (by omega)]
theorem ZlT(c:UInt8)(r:LB)(h0:224<=(c.toNat:Int))(h1:(c.toNat:Int)<240):ZjK (c::r):=by
 obtain⟨lo,hi,hf,hlh⟩:∃lo hi,follow (c.toNat:Int)=(3,lo,hi)/\∀x:UInt8,(lo<=(x.toNat:Int)/\(x.toNat:Int)<=hi)↔(Zcx x=true/\w3 c.toNat x.toNat=true):=by
  unfold follow
  rw[ifN (by omega),ifN (by omega),ifN (by omega)]
  by_cases e1:(c.toNat:Int)=224
  .rw[ifP e1];exact⟨160,191,rfl,fun x=>by rw[ZN];simp[w3];omega⟩
  rw[ifN e1]
  by_cases e2:(c.toNat:Int)=237
  .rw[ifP e2];exact⟨128,159,rfl,fun x=>by rw[ZN];simp[w3];omega⟩
  rw[ifN e2,ifP h1]
  exact⟨128,191,rfl,fun x=>by rw[ZN];simp[w3];omega⟩
 have hw:=Zxz c h0 h1
 cases r with
 | nil=>
  refine⟨1,(c.toNat:Int)-224,false,?_,?_,nofun⟩
  .rw[ZF c [] 3 lo hi 1 hf rfl];rfl
  .show grow [c] 1 (whole [c])=_
   rw[hw,ZaM (by simp)]
 | cons x r=>
  by_cases hx:Zcx x=true/\w3 c.toNat x.toNat=true
  .have hx':=(ZN x).1 hx.1
   have hx2:=(hlh x).2 hx
   have hb:whole [c,x]=(64*((c.toNat:Int)-224)+(x.toNat:Int)-128,false,true):=by rw[Zph c x h0 h1 hx.1,hx.2]
   have hg:grow (c::x::r) 1 (whole [c])=grow (c::x::r) 2 (64*((c.toNat:Int)-224)+(x.toNat:Int)-128,false,true):=by
    rw[hw,ZfO rfl (by simp) (by show ¬(_/\(whole [c,x]).2.2=false);rw[hb];simp)]
    show grow (c::x::r) 2 (whole [c,x])=_
    rw[hb]
   cases r with
   | nil=>
    refine⟨2,64*((c.toNat:Int)-224)+(x.toNat:Int)-128,false,?_,?_,nofun⟩
    .rw[ZF c [x] 3 lo hi 2 hf (Zag (by decide) hx2.1 hx2.2)];rfl
    .exact hg.trans (ZaM (by simp))
   | cons y r=>
    cases hy:Zcx y
    .have hy':¬(128<=(y.toNat:Int)/\(y.toNat:Int)<=191):=fun q=>by rw[(ZN y).2 q]at hy;cases hy
     have hb3:whole [c,x,y]=(0,false,false):=Zcz c [x,y] (by omega) (Xe (by simp[hy]))
     refine⟨2,64*((c.toNat:Int)-224)+(x.toNat:Int)-128,false,?_,?_,nofun⟩
     .rw[ZF c (x::y::r) 3 lo hi 2 hf ((Zag (by decide) hx2.1 hx2.2).trans (ZdW hy'))];rfl
     .exact hg.trans (Zcj rfl (by simp) (by show(whole [c,x,y]).2.1=false;rw[hb3]) (by show(whole [c,x,y]).2.2=false;rw[hb3]))
    .have hy':=(ZN y).1 hy
     have hb3:=Zs2 c x y h0 h1 hx.1 hy;rw[hx.2]at hb3
     refine⟨3,64*(64*((c.toNat:Int)-224)+(x.toNat:Int)-128)+(y.toNat:Int)-128,true,?_,?_,fun _=>?_⟩
     .rw[ZF c (x::y::r) 3 lo hi 3 hf ((Zag (by decide) hx2.1 hx2.2).trans ((Zag (by decide) hy'.1 hy'.2).trans (ZaV (by decide))))];rfl
     .refine hg.trans ((ZfO rfl (by simp) (by show ¬((whole [c,x,y]).2.1=false/\_);rw[hb3];simp)).trans ?_)
      show grow (c::x::y::r) 3 (whole [c,x,y])=_
      rw[hb3,ZaM (by simp)]
     .have h3:=hx.2
      simp only[w3,decide_eq_true_eq]at h3
      rw[Zzg (by omega) (by omega)]
      show [toB _,toB _,toB _]=[c,x,y]
      rw[ZdN c _ (by omega),ZdN x _ (by omega),ZdN y _ (by omega)]
  .have hxm:¬(lo<=(x.toNat:Int)/\(x.toNat:Int)<=hi):=fun q=>hx ((hlh x).1 q)
   have hb:(whole [c,x]).2.1=false/\(whole [c,x]).2.2=false:=by
    cases hc:Zcx x
    .rw[Zcz c [x] (by omega) (Xe (by simp[hc]))];exact⟨rfl,rfl⟩
    .rw[Zph c x h0 h1 hc]
     refine⟨rfl,?_⟩
     cases hq:w3 (c.toNat:Int) (x.toNat:Int)
     .rfl
     .exact absurd ⟨hc,hq⟩ hx
   refine⟨1,(c.toNat:Int)-224,false,?_,?_,nofun⟩
   .rw[ZF c (x::r) 3 lo hi 1 hf (ZdW hxm)];rfl
   .show grow (c::x::r) 1 (whole [c])=_
    rw[hw]
    exact Zcj (x:=((c.toNat:Int)-224,false,true)) (m:=1) (l:=c::x::r) rfl (by simp) hb.1 hb.2
theorem ZnD(c:UInt8)(r:LB)(h0:240<=(c.toNat:Int))(h1:(c.toNat:Int)<=244):ZjK (c::r):=by
 obtain⟨lo,hi,hf,hlh⟩:∃lo hi,follow (c.toNat:Int)=(4,lo,hi)/\∀x:UInt8,(lo<=(x.toNat:Int)/\(x.toNat:Int)<=hi)↔(Zcx x=true/\w4 c.toNat x.toNat=true):=by
  unfold follow
  rw[ifN (by omega),ifN (by omega),ifN (by omega),ifN (by omega),ifN (by omega),ifN (by omega)]
  by_cases e1:(c.toNat:Int)=240
  .rw[ifP e1];exact⟨144,191,rfl,fun x=>by rw[ZN];simp[w4];omega⟩
  rw[ifN e1]
  by_cases e2:(c.toNat:Int)=244
  .rw[ifN (by omega),ifP e2];exact⟨128,143,rfl,fun x=>by rw[ZN];simp[w4];omega⟩
  rw[ifP (by omega)]
  exact⟨128,191,rfl,fun x=>by rw[ZN];simp[w4];omega⟩
 have hw:whole [c]=((c.toNat:Int)-240,false,true):=by rw[Zs3 c h0 (by omega),decide_eq_true h1]
 have h2:(c.toNat:Int)<248:=by omega
 cases r with
 | nil=>
  refine⟨1,(c.toNat:Int)-240,false,?_,?_,nofun⟩
  .rw[ZF c [] 4 lo hi 1 hf rfl];rfl
  .show grow [c] 1 (whole [c])=_
   rw[hw,ZaM (by simp)]
 | cons x r=>
  by_cases hx:Zcx x=true/\w4 c.toNat x.toNat=true
  .have hx':=(ZN x).1 hx.1
   have hx2:=(hlh x).2 hx
   have hb:whole [c,x]=(64*((c.toNat:Int)-240)+(x.toNat:Int)-128,false,true):=by rw[Zpi c x h0 h2 hx.1,hx.2]
   have hg:grow (c::x::r) 1 (whole [c])=grow (c::x::r) 2 (64*((c.toNat:Int)-240)+(x.toNat:Int)-128,false,true):=by
    rw[hw,ZfO rfl (by simp) (by show ¬(_/\(whole [c,x]).2.2=false);rw[hb];simp)]
    show grow (c::x::r) 2 (whole [c,x])=_
    rw[hb]
   have hmx:∀q,Z8 4 lo hi 1 (x::q)=Z8 4 128 191 2 q:=fun q=>Zag (by decide) hx2.1 hx2.2
   cases r with
   | nil=>
    refine⟨2,64*((c.toNat:Int)-240)+(x.toNat:Int)-128,false,?_,?_,nofun⟩
    .rw[ZF c [x] 4 lo hi 2 hf (hmx [])];rfl
    .exact hg.trans (ZaM (by simp))
   | cons y r=>
    cases hy:Zcx y
    .have hy':¬(128<=(y.toNat:Int)/\(y.toNat:Int)<=191):=fun q=>by rw[(ZN y).2 q]at hy;cases hy
     have hb3:whole [c,x,y]=(0,false,false):=Zcz c [x,y] (by omega) (Xe (by simp[hy]))
     refine⟨2,64*((c.toNat:Int)-240)+(x.toNat:Int)-128,false,?_,?_,nofun⟩
     .rw[ZF c (x::y::r) 4 lo hi 2 hf ((hmx _).trans (ZdW hy'))];rfl
     .exact hg.trans (Zcj rfl (by simp) (by show(whole [c,x,y]).2.1=false;rw[hb3]) (by show(whole [c,x,y]).2.2=false;rw[hb3]))
    .have hy':=(ZN y).1 hy
     have hb3:=Zs4 c x y h0 h2 hx.1 hy;rw[hx.2]at hb3
     have hg3:grow (c::x::y::r) 1 (whole [c])=grow (c::x::y::r) 3 (64*(64*((c.toNat:Int)-240)+(x.toNat:Int)-128)+(y.toNat:Int)-128,false,true):=by
      refine hg.trans ((ZfO rfl (by simp) (by show ¬(_/\(whole [c,x,y]).2.2=false);rw[hb3];simp)).trans ?_)
      show grow (c::x::y::r) 3 (whole [c,x,y])=_
      rw[hb3]
     have hmy:∀q,Z8 4 lo hi 1 (x::y::q)=Z8 4 128 191 3 q:=fun q=>(hmx _).trans (Zag (by decide) hy'.1 hy'.2)
     cases r with
     | nil=>
      refine⟨3,64*(64*((c.toNat:Int)-240)+(x.toNat:Int)-128)+(y.toNat:Int)-128,false,?_,?_,nofun⟩
      .rw[ZF c [x,y] 4 lo hi 3 hf (hmy [])];rfl
      .exact hg3.trans (ZaM (by simp))
     | cons z r=>
      cases hz:Zcx z
      .have hz':¬(128<=(z.toNat:Int)/\(z.toNat:Int)<=191):=fun q=>by rw[(ZN z).2 q]at hz;cases hz
       have hb4:whole [c,x,y,z]=(0,false,false):=Zcz c [x,y,z] (by omega) (Xe (by simp[hz]))
       refine⟨3,64*(64*((c.toNat:Int)-240)+(x.toNat:Int)-128)+(y.toNat:Int)-128,false,?_,?_,nofun⟩
       .rw[ZF c (x::y::z::r) 4 lo hi 3 hf ((hmy _).trans (ZdW hz'))];rfl
       .exact hg3.trans (Zcj rfl (by simp) (by show(whole [c,x,y,z]).2.1=false;rw[hb4]) (by show(whole [c,x,y,z]).2.2=false;rw[hb4]))
      .have hz':=(ZN z).1 hz
       have hb4:=ZqI c x y z h0 h2 hx.1 hy hz;rw[hx.2]at hb4
       refine⟨4,64*(64*(64*((c.toNat:Int)-240)+(x.toNat:Int)-128)+(y.toNat:Int)-128)+(z.toNat:Int)-128,true,?_,?_,fun _=>?_⟩
       .rw[ZF c (x::y::z::r) 4 lo hi 4 hf ((hmy _).trans ((Zag (by decide) hz'.1 hz'.2).trans (ZaV (by decide))))];rfl
       .refine hg3.trans ((ZfO rfl (by simp) (by show ¬((whole [c,x,y,z]).2.1=false/\_);rw[hb4];simp)).trans ?_)
        show grow (c::x::y::z::r) 4 (whole [c,x,y,z])=_
        rw[hb4,ZaM (by simp)]
       .have h3:=hx.2
        simp only[w4,decide_eq_true_eq]at h3
        rw[Zzh (by omega)]
        show [toB _,toB _,toB _,toB _]=[c,x,y,z]
        rw[ZdN c _ (by omega),ZdN x _ (by omega),ZdN y _ (by omega),ZdN z _ (by omega)]
  .have hxm:¬(lo<=(x.toNat:Int)/\(x.toNat:Int)<=hi):=fun q=>hx ((hlh x).1 q)
   have hb:(whole [c,x]).2.1=false/\(whole [c,x]).2.2=false:=by
    cases hc:Zcx x
    .rw[Zcz c [x] (by omega) (Xe (by simp[hc]))];exact⟨rfl,rfl⟩
    .rw[Zpi c x h0 h2 hc]
     refine⟨rfl,?_⟩
     cases hq:w4 (c.toNat:Int) (x.toNat:Int)
     .rfl
     .exact absurd ⟨hc,hq⟩ hx
   refine⟨1,(c.toNat:Int)-240,false,?_,?_,nofun⟩
   .rw[ZF c (x::r) 4 lo hi 1 hf (ZdW hxm)];rfl
   .show grow (c::x::r) 1 (whole [c])=_
    rw[hw]
    exact Zcj (x:=((c.toNat:Int)-240,false,true)) (m:=1) (l:=c::x::r) rfl (by simp) hb.1 hb.2
theorem Zym(c:UInt8)(r:LB):ZjK (c::r):=by
 have hb:=bb c
 by_cases a1:(c.toNat:Int)<128
 .exact ZlS c r a1
 by_cases a2:(c.toNat:Int)<192
 .exact Zfd c r 0 0 0 (by unfold follow;rw[ifN a1,ifP (by omega)]) (Zcz c [] (by omega) (Xj (by rw[ws0 (Xj a2)];simp)))
 by_cases a3:(c.toNat:Int)<194
 .exact Zfd c r ((c.toNat:Int)-192) 0 0 (by unfold follow;rw[ifN a1,ifP a3]) (by rw[Zs1 c (by omega) (by omega)];simp[w2];omega)
 by_cases a4:(c.toNat:Int)<224
 .exact ZqJ c r (by omega) a4
 by_cases a5:(c.toNat:Int)<240
 .exact ZlT c r (by omega) a5
 by_cases a6:(c.toNat:Int)<=244
 .exact ZnD c r (by omega) a6
 have hf:follow (c.toNat:Int)=(0,0,0):=by
  unfold follow
  rw[ifN a1,ifN (by omega),ifN a4,ifN (by omega),ifN (by omega),ifN a5,ifN (by omega),ifN (by omega),ifN (by omega)]
 by_cases a7:(c.toNat:Int)<248
 .exact Zfd c r ((c.toNat:Int)-240) 0 0 hf (by rw[Zs3 c (by omega) a7,decide_eq_false a6])
 .exact Zfd c r 0 0 0 hf (Zcz c [] (by omega) (Xj (by rw[ws0 (Xe (by omega))];simp)))
theorem ZaD(l:LB):Zb (Zl l)=clean l:=by
 generalize hn:l.length=n
 induction n using Nat.strongRecOn generalizing l with
 | ind n ih=>
  cases l with
  | nil=>rw[ZbC];simp[Zl,Zb]
  | cons c r=>
   obtain⟨m,v,good,hm,hg,hu⟩:=Zym c r
   have hml:=Ze8 (l:=c::r) (by simp)
   rw[hm]at hml
   rw[Zin (c::r) m v good (by simp) hg,ZcV (c::r) (by simp),hm]
   have hi:=ih ((c::r).drop m).length (by rw[Xm];simp only at hml;omega) _ rfl
   show(utf (if good=true then v else 65533)).map toB++Zb (Zl ((c::r).drop m))=_
   rw[hi]
   congr 1
   cases good
   .rfl
   .exact hu rfl
theorem Zbe{n:Int}(h0:0<=n)(h1:n<=255):((toB n).toNat:Int)=n:=Zf2 h0 h1
def Sc(c:Int):Prop:=0<=c/\c<=1114111/\¬(55296<=c/\c<=57343)
theorem Sc.pt{c:Int}(h:Sc c):Pt c:=⟨h.1,h.2.1⟩
theorem ZkJ{c x:Int}(h0:128<=c)(h1:c<=1114111)(hx:x∈utf c):128<=x/\x<=255:=by
 unfold utf at hx
 rw[ifN (by omega)]at hx
 split at hx
 .simp at hx;omega
 .split at hx<;>(simp at hx;omega)
theorem Zht(n:Int)(_h0:0<=n):ZK n 16=if 0<=digit n then(digit n,true)else(0,false):=by
 unfold ZK digit;simp only
 by_cases a1:48<=n/\n<=57
 .rw[ifP a1,ifP a1,ifN (by omega),ifP (by omega)]
 rw[ifN a1,ifN a1]
 by_cases a2:97<=n/\n<=102
 .rw[ifP a2,ifP a2,ifN (by omega),ifP (by omega)]
  congr 1;omega
 rw[ifN a2,ifN a2]
 by_cases a3:65<=n/\n<=70
 .rw[ifP a3,ifP a3,ifN (by omega),ifP (by omega)]
  congr 1;omega
 rw[ifN a3,ifN a3,ifP (by omega),ifN (by omega)]
theorem ZnE(c x y:UInt8)(r:LB):Zcg (c::x::y::r)=if c=37/\0<=digit (x.toNat:Int)/\0<=digit (y.toNat:Int)then(16*digit (x.toNat:Int)+digit (y.toNat:Int),true)else(0,false):=by
 unfold Zcg;simp only
 rw[Zht _ (by omega),Zht _ (by omega)]
 by_cases hx:0<=digit (x.toNat:Int)
 .by_cases hy:0<=digit (y.toNat:Int)
  .rw[ifP hx,ifP hy]
   by_cases hc:c=37
   .rw[ifP ⟨hc,rfl,rfl⟩,ifP ⟨hc,hx,hy⟩]
    congr 1;omega
   .rw[ifN (fun h=>hc h.1),ifN (fun h=>hc h.1)]
  .rw[ifN (by rw[ifN hy];simp),ifN (fun h=>hy h.2.2)]
 .rw[ifN (by rw[ifN hx];simp),ifN (fun h=>hx h.2.1)]
theorem bdecode_decoded(l:LB):ZD l=decoded l:=by
 generalize hn:l.length=n
 induction n using Nat.strongRecOn generalizing l with
 | ind n ih=>
  cases l with
  | nil=>rw[Zch];simp[decoded]
  | cons c r=>
   rw[ZbQ]
   match r with
   | []=>rw[Zea [c] (by simp)];simp[decoded,Zch]
   | [x]=>
    rw[Zea [c,x] (by simp)]
    simp only[Xl,if_false]
    rw[ih [x].length (by simp at hn ⊢;omega) [x] rfl,ZeB c [x] (fun x' y q e=>by simp at e)]
   | x::y::q=>
    rw[ZnE]
    by_cases h:c=37/\0<=digit (x.toNat:Int)/\0<=digit (y.toNat:Int)
    .rw[ifP h]
     simp only[if_true];obtain⟨rfl,h1,h2⟩:=h;rw[Zh1 x y q h1 h2]
     show toB _::ZD q=_
     rw[ih q.length (by simp at hn;omega) q rfl]
    .rw[ifN h]
     simp only[Xl,if_false]
     rw[ih (x::y::q).length (by simp at hn ⊢;omega) (x::y::q) rfl,ZeB c (x::y::q) (fun x' y' q' e=>by
      simp only[List.cons.injEq]at e;obtain⟨rfl,rfl,_⟩:=e
      exact h)]
theorem ZnF:∀q:Fin 16,toB (capital (q.val:Int))=Zyj.getD q.val 0:=by decide
theorem Zhu{n:Int}(h0:0<=n)(h1:n<16):toB (capital n)=Zyj.getD n.toNat 0:=by
 have h:=ZnF ⟨n.toNat,by omega⟩
 simp only at h
 rwa [Int.toNat_of_nonneg h0]at h
theorem Zir(set:LB)(n:Int)(h0:0<=n)(h1:n<=255)(h:n<32∨126<n∨among n set=true):ZL set (toB n)=pct n:=by
 unfold ZL
 rw[Zbe h0 h1,ifP h,Zhu (by omega) (by omega),Zhu (by omega) (by omega)]
 rfl
theorem ZlU(set:LB)(n:Int)(h0:0<=n)(h1:n<=255)(h:¬(n<32∨126<n∨among n set=true)):ZL set (toB n)=[toB n]:=by unfold ZL;rw[Zbe h0 h1,ifN h]
theorem ZqK(set:LB)(c:Int)(hc:Pt c):encB set ((utf c).map toB)=encPt set c:=by
 by_cases h:c<128
 .rw[Zpj h]
  show ZL set (toB c)++[]=_
  rw[List.append_nil];unfold encPt;rw[Zpj h]
  by_cases hs:among c set=true∨c<32∨126<c
  .rw[Zir set c hc.1 (by omega) (by rcases hs with h|h|h;exact Xe (Xe h);exact Xj h;exact Xe (Xj h)),ifP (by simp only[Xk,decide_eq_true_eq];rcases hs with h|h|h;exact Xj (Xj h);exact Xj (Xe h);exact Xe h)]
   simp
  .rw[ZlU set c hc.1 (by omega) (by intro q;apply hs;rcases q with h|h|h;exact Xe (Xj h);exact Xe (Xe h);exact Xj h),ifN (by simp only[Xk,decide_eq_true_eq];intro q;apply hs;rcases q with(h|h)|h;exact Xj h;exact Xe (Xj h);exact Xe (Xe h))]
   rfl
 .unfold encPt
  rw[ifP (by simp only[Xk,decide_eq_true_eq];right;omega)]
  have gen:∀q:LI,(∀x∈q,128<=x/\x<=255)->encB set (q.map toB)=q.flatMap pct:=by
   intro q
   induction q with
   | nil=>intro _;rfl
   | cons x q ih=>
    intro hq;have hx:=hq x (Xi ..)
    show ZL set (toB x)++encB set (q.map toB)=_
    rw[Zir set x (by omega) hx.2 (Xe (Xj (by omega))),ih (fun y hy=>hq y (Xf _ hy))]
    rfl
  exact gen (utf c) (fun x hx=>ZkJ (by omega) hc.2 hx)
theorem ZlV(set:LB)(l:LI)(hl:∀c∈l,Pt c):encB set (Zb l)=encoded l set:=by
 induction l with
 | nil=>rfl
 | cons c r ih=>
  have h1:encB set (Zb (c::r))=encB set ((utf c).map toB)++encB set (Zb r):=by simp[encB,Zb]
  rw[h1,ZqK set c (hl c (Xi ..)),ih (fun x hx=>hl x (Xf _ hx))]
  rfl
theorem Zpk{size v k:Int}(h:wtest size (v*64^0) (v*64^0+64^0-1) k=true):Sc v:=by
 unfold wtest at h;simp only[Xa,decide_eq_true_eq,Int.pow_zero,Int.mul_one]at h
 have hr:128<=(room size k).1/\(room size k).2<=1114111/\((room size k).2<55296∨57343<(room size k).1):=by
  unfold room
  split
  rotate_left
  focus
   split
   rotate_left
   focus
    split
    rotate_left
  all_goals
   exact⟨by decide,by decide,by decide⟩
 unfold Sc
 omega
theorem Zpl(t:LB)(h:(whole t).2.1=true):Sc (whole t).1:=by
 cases t with
 | nil=>simp[whole]at h
 | cons b r=>
  rw[whole]at h ⊢
  split at h
  .rename_i hc
   rw[ifP hc];unfold Sc;simp only
   omega
  .rename_i hc
   rw[ifN hc]
   split at h
   .cases h
   .rename_i hc2
    rw[ifN hc2]
    split at h
    .cases h
    .rename_i hc3
     rw[ifN hc3];simp only[Xa,beq_iff_eq]at h ⊢;obtain⟨h1,h2⟩:=h
     rw[show((ZbH (b.toNat:Int)).1-((r.length:Int)+1)).toNat=0 by omega]at h1
     unfold wok at h1;simp only[Xa,Xk]at h1;rcases h1.2 with h3|h3
     .exact Zpk h3
     .exact Zpk h3
theorem grow_sc(l:LB)(n:Nat)(x:Int×Bool×Bool)(hx:x.2.1=true->Sc x.1)(h:(grow l n x).2.2=true):Sc (grow l n x).2.1:=by
 induction n,x using grow.induct (l:=l)with
 | case1 n x h1 h2=>rw[grow,ifP h1,ifP h2]at h ⊢;exact hx h
 | case2 n x h1 h2 ih=>rw[grow,ifP h1,ifN h2]at h ⊢;exact ih (Zpl _) h
 | case3 n x h1=>rw[grow,ifN h1]at h ⊢;exact hx h
theorem Za0(l:LB):∀c∈Zl l,Sc c:=by
 generalize hn:l.length=n
 induction n using Nat.strongRecOn generalizing l with
 | ind n ih=>
  cases l with
  | nil=>simp[Zl]
  | cons c r=>
   rw[Zl];intro x hx;rcases List.mem_cons.1 hx with rfl|hx
   .split
    .rename_i h
     exact grow_sc _ _ _ (Zpl _) h
    .exact⟨by decide,by decide,by decide⟩
   .exact ih (r.drop ((grow (c::r) 1 (whole [c])).1-1)).length (by rw[Xm];simp at hn;omega) _ rfl x hx
theorem ZnG(c:Int)(hc:Sc c)(rest:LB):measure ((utf c).map toB++rest)=((utf c).length,true):=by
 unfold Sc at hc
 by_cases h1:c<128
 .rw[Zpj h1]
  show measure (toB c::rest)=(1,true)
  have e:=Zbe hc.1 (by omega:c<=255)
  rw[ZF (toB c) rest 1 0 0 1 (by unfold follow;rw[e,ifP h1]) (ZaV (by decide))];rfl
 by_cases h2:c<2048
 .rw[Zzf (by omega) h2]
  show measure (toB _::toB _::rest)=(2,true)
  have e:=Zbe (n:=192+c/64) (by omega) (by omega)
  have e2:=Zbe (n:=128+c%64) (by omega) (by omega)
  rw[ZF _ (toB (128+c%64)::rest) 2 128 191 2 (by unfold follow;rw[e,ifN (by omega),ifN (by omega),ifP (by omega)]) ((Zag (by decide) (by rw[e2];omega) (by rw[e2];omega)).trans (ZaV (by decide)))];rfl
 by_cases h3:c<65536
 .rw[Zzg (by omega) h3]
  show measure (toB _::toB _::toB _::rest)=(3,true)
  have e:=Zbe (n:=224+c/4096) (by omega) (by omega)
  have e2:=Zbe (n:=128+c/64%64) (by omega) (by omega)
  have e3:=Zbe (n:=128+c%64) (by omega) (by omega)
  obtain⟨lo,hi,hf,hl,hh⟩:∃lo hi,follow ((toB (224+c/4096)).toNat:Int)=(3,lo,hi)/\lo<=128+c/64%64/\128+c/64%64<=hi:=by
   rw[e];unfold follow
   rw[ifN (by omega),ifN (by omega),ifN (by omega)]
   by_cases a:224+c/4096=224
   .rw[ifP a];exact⟨160,191,rfl,by omega,by omega⟩
   rw[ifN a]
   by_cases b:224+c/4096=237
   .rw[ifP b];exact⟨128,159,rfl,by omega,by omega⟩
   rw[ifN b,ifP (by omega)]
   exact⟨128,191,rfl,by omega,by omega⟩
  rw[ZF _ (toB (128+c/64%64)::toB (128+c%64)::rest) 3 lo hi 3 hf ((Zag (by decide) (by rw[e2];exact hl) (by rw[e2];exact hh)).trans ((Zag (by decide) (by rw[e3];omega) (by rw[e3];omega)).trans (ZaV (by decide))))];rfl
 .rw[Zzh (by omega)]
  show measure (toB _::toB _::toB _::toB _::rest)=(4,true)
  have e:=Zbe (n:=240+c/262144) (by omega) (by omega)
  have e2:=Zbe (n:=128+c/4096%64) (by omega) (by omega)
  have e3:=Zbe (n:=128+c/64%64) (by omega) (by omega)
  have e4:=Zbe (n:=128+c%64) (by omega) (by omega)
  obtain⟨lo,hi,hf,hl,hh⟩:∃lo hi,follow ((toB (240+c/262144)).toNat:Int)=(4,lo,hi)/\lo<=128+c/4096%64/\128+c/4096%64<=hi:=by
   rw[e];unfold follow
   rw[ifN (by omega),ifN (by omega),ifN (by omega),ifN (by omega),ifN (by omega),ifN (by omega)]
   by_cases a:240+c/262144=240
   .rw[ifP a];exact⟨144,191,rfl,by omega,by omega⟩
   rw[ifN a]
   by_cases b:240+c/262144=244
   .rw[ifN (by omega),ifP b];exact⟨128,143,rfl,by omega,by omega⟩
   rw[ifP (by omega)]
   exact⟨128,191,rfl,by omega,by omega⟩
  rw[ZF _ (toB (128+c/4096%64)::toB (128+c/64%64)::toB (128+c%64)::rest) 4 lo hi 4 hf ((Zag (by decide) (by rw[e2];exact hl) (by rw[e2];exact hh)).trans ((Zag (by decide) (by rw[e3];omega) (by rw[e3];omega)).trans ((Zag (by decide) (by rw[e4];omega) (by rw[e4];omega)).trans (ZaV (by decide)))))];rfl
theorem Zeh(l:LI)(hl:∀c∈l,Sc c):clean (Zb l)=Zb l:=by
 induction l with
 | nil=>exact ZbC
 | cons c r ih=>
  have hm:=ZnG c (hl c (Xi ..)) (Zb r)
  have hb:Zb (c::r)=(utf c).map toB++Zb r:=by simp[Zb]
  have hne:(utf c).map toB++Zb r≠[]:=by
   have:=Zh0 c;intro h;have:=congrArg List.length h;rw[List.length_append,List.length_map,Xb]at this
   omega
  rw[hb,ZcV _ hne,hm]
  have hlen:(utf c).length=((utf c).map toB).length:=by simp
  simp only[if_true]
  rw[hlen,List.take_left,List.drop_left,ih (fun x hx=>hl x (Xf _ hx))]
theorem ZaW(set:LB)(l:LI)(hl:∀c∈l,Sc c):encB set (clean (Zb l))=encoded l set:=by rw[Zeh l hl,ZlV set l (fun c hc=>(hl c hc).pt)]
theorem Zs5(p:UInt8->Bool)(q r:LB)(h:∀b∈q,p b=false):bcut p (q++r)=(q++(bcut p r).1,(bcut p r).2):=by
 induction q with
 | nil=>rfl
 | cons b q ih=>
  rw[List.cons_append,bcut,ifN (by simp[h b (Xi ..)]),ih (fun x hx=>h x (Xf _ hx))]
  rfl
structure ZuP (p:UInt8->Bool) (t:List UInt8):Prop where
 low:∀c:Int,0<=c->c<128->p (toB c)=among c t
 high:∀b:UInt8,128<=b.toNat->p b=false
 none:∀c:Int,128<=c->among c t=false
theorem Zab{p:UInt8->Bool}{t:LB}(h:ZuP p t)(l:LI)(hl:∀c∈l,Pt c):bcut p (Zb l)=(Zb (cut l t).1,Zb (cut l t).2.1,(cut l t).2.2):=by
 induction l with
 | nil=>rfl
 | cons c r ih=>
  have hc:=hl c (Xi ..)
  have ih':=ih (fun x hx=>hl x (Xf _ hx))
  have hb:Zb (c::r)=(utf c).map toB++Zb r:=by simp[Zb]
  by_cases h1:c<128
  .rw[hb,Zpj h1]
   show bcut p (toB c::Zb r)=_
   cases ha:among c t
   .have hcut:cut (c::r) t=(c::(cut r t).1,(cut r t).2):=by simp[cut,ha]
    rw[bcut,ifN (by rw[h.low c hc.1 h1,ha];simp),ih',hcut]
    have:Zb (c::(cut r t).1)=toB c::Zb (cut r t).1:=by simp[Zb,Zpj h1]
    rw[this]
   .have hcut:cut (c::r) t=([],r,true):=by simp[cut,ha]
    rw[bcut,ifP (by rw[h.low c hc.1 h1,ha]),hcut]
    rfl
  .have hcut:cut (c::r) t=(c::(cut r t).1,(cut r t).2):=by simp[cut,h.none c (by omega)]
   rw[hb,Zs5 p _ _ (fun b hbm=>by
    obtain⟨x,hx,rfl⟩:=List.mem_map.1 hbm
    have hx':=ZkJ (by omega) hc.2 hx
    refine h.high _ ?_
    have:=Zbe (n:=x) (by omega) hx'.2
    omega),ih',hcut]
   have:Zb (c::(cut r t).1)=(utf c).map toB++Zb (cut r t).1:=by simp[Zb]
   rw[this]
theorem Zei(n:Int)(h0:0<=n)(h1:n<128)(t:UInt8)(ht:(t.toNat:Int)=n):ZuP (isB n) [t]:=by
 refine⟨fun c c0 c1=>?_,fun b hb=>?_,fun c hc=>?_⟩
 .unfold isB among
  rw[Zbe c0 (by omega)]
  simp only[Xn,Xp,Xo,ht];rw[Xc];simp only[beq_iff_eq]
  omega
 .unfold isB
  simp only[beq_eq_false_iff_ne,ne_eq]
  omega
 .unfold among
  simp only[Xn,Xp,Xo,beq_eq_false_iff_ne,ne_eq]
  omega
theorem Za2{n:Int}{t:UInt8}(h0:0<=n)(h1:n<128)(ht:(t.toNat:Int)=n)(l:LI)(hl:∀c∈l,Pt c):bsplit n (Zb l)=(parts l [t]).map Zb:=by
 generalize hk:l.length=k
 induction k using Nat.strongRecOn generalizing l with
 | ind k ih=>
  rw[Zjt,Zab (Zei n h0 h1 t ht) l hl,Zge]
  cases hc:(cut l [t]).2.2
  .simp
  .simp only[if_true]
   have hlen:=(Zbc l [t]).2 hc
   rw[ih _ (by omega) (cut l [t]).2.1 (fun c hm=>hl c (Zy (Xe hm))) rfl]
   rfl
end Go.Proofs.YtchkhibgbnhjpabGreatDoor
