import Derived.Test.YtchkhibgbnhjpabGreatDoorB11
open Array renaming getElem?_modify→Xb
open Int renaming mul_le_mul_of_nonneg_right→Xe,pow_nonneg→Xj,mul_assoc→Xk,le_trans→Xl,pow_succ→Xm,mul_comm→Xn
open List renaming length_cons→Xa,length_append→Xc,length_drop→Xg,length_nil→Xh,map_append→Xi
open Nat renaming le_trans→Xd,le_refl→Xf
namespace Go.Proofs.YtchkhibgbnhjpabGreatDoor
open Go.RowKit
set_option maxHeartbeats 4000000
def GOk(ns:List Int):Prop:=∀x∈ns,0≤x∧x≤65535
theorem GOk.set{ns:LI}(h:GOk ns)(i:Nat){x:Int}(h0:0≤x)(h1:x≤65535):GOk (ns.set i x):=by
 intro y hy;rcases List.mem_or_eq_of_mem_set hy with h2|h2
 ·exact h y h2
 ·subst h2;exact⟨h0,h1⟩
theorem ZmX{g:LI×Nat}(h:GOk g.1){x:Int}(h0:0≤x)(h1:x≤65535):GOk (ZfN g x).1.1:=by
 unfold ZfN
 split
 ·exact h.set _ h0 h1
 ·exact h
theorem Zv9(most:Int)(l:LB):∀n q,0≤n→numGo 16 most n l=some q→0≤q∧q+1≤(n+1)*16^l.length:=by
 induction l with
 | nil=>intro n q h e;rw[numGo]at e;cases e;exact⟨h,by simp⟩
 | cons c r ih=>
  intro n q h e;rw[numGo]at e
  split at e
  ·rename_i hd
   have hr:=Zbu (c.toNat:Int) 16;have h15:=hr.2 hd
   have hn':0≤(if n≤most then n*16+(ZP (c.toNat:Int) 16).1 else n)∧(if n≤most then n*16+(ZP (c.toNat:Int) 16).1 else n)+1≤(n+1)*16:=by split<;>omega
   obtain⟨h1,h2⟩:=ih _ q hn'.1 e
   refine⟨h1,Xl h2 ?_⟩
   rw[Xa,Xm,show(n+1)*((16:Int)^r.length*16)=((n+1)*16)*16^r.length by rw[Xn ((16:Int)^r.length),Xk]]
   exact Xe hn'.2 (Xj (by decide))
  ·cases e
theorem ZiT{l:LB}(h4:l.length≤4):0≤(Zq l 16 65535).1∧(Zq l 16 65535).1≤65535:=by
 unfold Zq
 split
 ·exact⟨by decide,by decide⟩
 ·split
  ·exact⟨by decide,by decide⟩
  ·rename_i n e
   obtain⟨h1,h2⟩:=Zv9 65535 l 0 n (by decide) e
   have h3:(16:Int)^l.length≤65536:=by rcases(show l.length=0∨l.length=1∨l.length=2∨l.length=3∨l.length=4 by omega)with h|h|h|h|h<;>rw[h]<;>decide
   have h5:n≤65535:=by omega
   rw[if_neg (by omega)]
   exact⟨h1,h5⟩
theorem ZrA{g:LI×Nat}(h:GOk g.1)(l:LB):GOk (Zbl g l).1.1:=by
 unfold Zbl
 split
 ·exact h
 ·rename_i hh
  obtain⟨h0,h1⟩:=ZiT (l:=l) (by omega)
  exact ZmX h h0 h1
theorem Zt3(ps:List LB):∀v q,0≤v→d4Go v ps=some q→0≤q∧q+1≤(v+1)*256^ps.length:=by
 induction ps with
 | nil=>intro n q h e;rw[d4Go]at e;cases e;exact⟨h,by simp⟩
 | cons c r ih=>
  intro n q h e;rw[d4Go]at e
  split at e
  ·have hr:=Zle c
   obtain⟨h1,h2⟩:=ih _ q (by omega) e
   refine⟨h1,Xl h2 ?_⟩
   rw[Xa,Xm,show(n+1)*((256:Int)^r.length*256)=((n+1)*256)*256^r.length by rw[Xn ((256:Int)^r.length),Xk]]
   exact Xe (by omega) (Xj (by decide))
  ·cases e
theorem ZrB{g:LI×Nat}(h:GOk g.1)(l:LB):GOk (Zbm g l).1.1:=by
 unfold Zbm
 split
 ·exact h
 ·rename_i h4
  split
  ·exact h
  ·rename_i v e
   obtain⟨h1,h2⟩:=Zt3 _ 0 v (by decide) e
   have h4':(bsplit 46 l).length=4:=by omega
   rw[h4']at h2
   have h3:v≤4294967295:=by have:(256:Int)^4=4294967296:=by decide
                            omega
   have hA:=ZmX h (x:=v/65536) (by omega) (by omega)
   split
   ·exact hA
   ·exact ZmX hA (by omega) (by omega)
theorem grpGo_ok(en:Bool)(ps:List LB):∀g q,GOk g.1→grpGo en g ps=some q→GOk q.1:=by
 induction ps with
 | nil=>intro g q h e;rw[grpGo]at e;cases e;exact h
 | cons p r ih=>
  intro g q h e;rw[grpGo]at e
  split at e
  ·split at e
   ·exact ih _ _ (ZrB h p) e
   ·cases e
  ·split at e
   ·exact ih _ _ (ZrA h p) e
   ·cases e
theorem zero_ok:GOk zeros8:=by intro x hx;simp[zeros8]at hx;omega
theorem ZgC(l:LB)(en:Bool):GOk (ZB l en).1.1:=by
 unfold ZB
 split
 ·exact zero_ok
 ·split
  ·exact zero_ok
  ·rename_i g e
   exact grpGo_ok en _ _ _ zero_ok e
theorem putGo_ok(r:LI):∀ns i,GOk ns→GOk r→GOk (putGo ns i r):=by
 induction r with
 | nil=>intro ns i h _;exact h
 | cons x r ih=>
  intro ns i h hr;rw[putGo];have hx:=hr x (List.mem_cons_self ..)
  exact ih _ _ (h.set i hx.1 hx.2) (fun y hy=>hr y (List.mem_cons_of_mem _ hy))
theorem Zop(l:LB):GOk (ip6 l).1:=by
 unfold ip6 Zg9
 split
 ·split
  ·exact zero_ok
  ·exact ZgC l true
 ·split
  ·exact zero_ok
  ·exact putGo_ok _ _ _ (ZgC _ _) (fun x hx=>ZgC _ _ x (List.mem_of_mem_take hx))
def Zav(l:List UInt8):List UInt8×Int:=
 if l.length<2∨¬((l.getD (l.length-1) 0).toNat:Int)=93 then([],2)
 else if(ip6 ((l.take (l.length-1)).drop 1)).2=true then([91]++Zgc (ip6 ((l.take (l.length-1)).drop 1)).1++[93],0)else([],2)
theorem Zvv(ns:LI)(st ln:Nat):∀f i,(Zh7 ns st ln f i).length≤5*f:=by
 intro f
 induction f with
 | zero=>intro i;simp[Zh7]
 | succ f ih=>
  intro i;rw[Zh7]
  split
  ·simp
  ·split
   ·have:=ih (i+ln)
    simp only[Xc,Xa,Xh]
    omega
   ·have:=ih (i+1)
    have h4:=Zgb (ns.getD i 0).toNat
    have h1:(if 0<i∧i≠st+ln then [(58:UInt8)]else []).length≤1:=by split<;>simp
    simp only[Xc]
    omega
theorem Zli(s:BA)(w:World)(hs:s.size≤1000000)(ht:Tb w):Calls Tryz.prog 298 #[.string s] w fun e w'=>∃r:BA,e=.returned (.tuple #[.string r,.int .i64 (Zav (tl s)).2])∧tl r=(Zav (tl s)).1∧Nx w w':=by
 have HD:=Za (show Zav (tl s)=if s.size<2∨¬(((tl s).getD (s.size-1) 0).toNat:Int)=93 then([],2)
  else if(ip6 (((tl s).take (s.size-1)).drop 1)).2=true then([91]++Zgc (ip6 (((tl s).take (s.size-1)).drop 1)).1++[93],0)else([],2)by rw[←tl_length];rfl)
 have HTB:=Za ht;clear ht
 by_cases h2:s.size<2
 ·have HE:=Za (HD.out.trans (if_pos (Or.inl h2)))
  clear HD
  go_enter Tryz.func298,Tryz.ntmps298
  go_wp2;go_ret2
  exact⟨⟨#[]⟩,by rw[HE.out];rfl,by rw[HE.out];rfl,Nx.rfl⟩
 ·have hz:s.size-1<s.size:=by omega
  have hb:=bb (s[s.size-1]'hz);rw[ZdI s (s.size-1) hz]at HD
  cases h93:(((s[s.size-1]'hz).toNat:Int)==93)
  ·have HE:=Za (HD.out.trans (if_pos (Or.inr (by simpa using h93))))
   have h93':=ZhB h93;clear HD
   go_enter Tryz.func298,Tryz.ntmps298
   go_wp2;go_ret2
   exact⟨⟨#[]⟩,by rw[HE.out];rfl,by rw[HE.out];rfl,Nx.rfl⟩
  ·have HE:=Za (HD.out.trans (if_neg (by rintro(h|h);exact h2 h;exact h (by simpa using h93))))
   have h93':=ZtA h93;rw[←tl_extract s 1 (s.size-1)]at HE;have HOK:=Za (Zop (tl (s.extract 1 (s.size-1))));clear HD
   go_enter Tryz.func298,Tryz.ntmps298
   go_wp2_with fail
   refine(Zv3 (s.extract 1 (s.size-1)) _ (Xd (Zee s _ _) hs)).mono ?_
   rintro e w1 ⟨a0,a1,a2,a3,a4,a5,a6,a7,ok,rfl,hq,hn⟩;rw[hq]at HE HOK;simp only at HE HOK;have HN:=Za hn;have HTB1:=Za (HTB.out.on hn);clear hq hn
   cases ok
   ·have HE2:=Za (HE.out.trans (if_neg (by decide)))
    clear HE;go_wp2;go_ret2
    exact⟨⟨#[]⟩,by rw[HE2.out];rfl,by rw[HE2.out];rfl,HN.out.alloc _⟩
   ·have HE2:=Za (HE.out.trans (if_pos rfl))
    clear HE;go_wp2_with fail
    refine(Zrz a0 a1 a2 a3 a4 a5 a6 a7 _ (HTB1.out.on (Nx.rfl.alloc _)) HOK.out).mono ?_
    rintro e w2 ⟨r,rfl,hr,hn2⟩
    have hrs:r.size≤1000:=by
     have:=Zvv [a0,a1,a2,a3,a4,a5,a6,a7] (Z0 [a0,a1,a2,a3,a4,a5,a6,a7]).1 (Z0 [a0,a1,a2,a3,a4,a5,a6,a7]).2 8 0;rw[←tl_length,hr];unfold Zgc
     omega
    have HR:=Za hr;have HN2:=Za ((HN.out.alloc _).then hn2);clear hr hn2;go_wp2;go_ret2
    exact⟨(⟨#[91]⟩:BA)++r++(⟨#[93]⟩:BA),by rw[HE2.out];rfl,by rw[HE2.out,Zg,Zg,HR.out];rfl,HN2.out⟩
def Zhv(d:Nat):UInt8:=UInt8.ofNat (48+d)
def Zce(n:Nat):List UInt8:=
 if n<10 then [Zhv n]else if n<100 then [Zhv (n/10),Zhv (n%10)]else if n<1000 then [Zhv (n/100),Zhv (n/10%10),Zhv (n%10)]
 else if n<10000 then [Zhv (n/1000),Zhv (n/100%10),Zhv (n/10%10),Zhv (n%10)]else [Zhv (n/10000),Zhv (n/1000%10),Zhv (n/100%10),Zhv (n/10%10),Zhv (n%10)]
theorem ZhG{n:Nat}(h:¬n<10):Lib.decDigits n=Lib.decDigits (n/10)++[Zhv (n%10)]:=by rw[Lib.decDigits,dif_neg h];rfl
theorem Zgd{n:Nat}(h:n<10):Lib.decDigits n=[Zhv n]:=by rw[Lib.decDigits,dif_pos h];rfl
theorem ZrC(n:Nat)(h:n≤99999):Lib.decDigits n=Zce n:=by
 unfold Zce
 by_cases h1:n<10
 ·rw[if_pos h1,Zgd h1]
 rw[if_neg h1,ZhG h1]
 by_cases h2:n<100
 ·rw[if_pos h2,Zgd (by omega)];rfl
 rw[if_neg h2,ZhG (by omega),show n/10/10=n/100 by omega]
 by_cases h3:n<1000
 ·rw[if_pos h3,Zgd (by omega)];rfl
 rw[if_neg h3,ZhG (by omega),show n/100/10=n/1000 by omega]
 by_cases h4:n<10000
 ·rw[if_pos h4,Zgd (by omega)];rfl
 rw[if_neg h4,ZhG (by omega),show n/1000/10=n/10000 by omega,Zgd (by omega)]
 rfl
theorem ZhH(n:Nat):(Zce n).length≤5:=by
 unfold Zce
 split
 ·simp
 ·split
  ·simp
  ·split
   ·simp
   ·split<;>simp
theorem Zoq(n:Nat)(hn:n≤65535)(w:World)(h:Tb w):Calls Tryz.prog 320 #[.int .i64 n,.int .i64 10] w fun e w'=>∃r:BA,e=.returned (.string r)∧tl r=Zce n∧Nx w w':=by
 refine(Zq6 n (by omega) w h).mono ?_
 rintro e w' ⟨r,rfl,hr,hn1⟩
 exact⟨r,rfl,by rw[hr,ZrC n (by omega)],hn1⟩
theorem ZrD(n:Nat)(hn:n≤65535)(w:World)(h:Tb w):Calls Tryz.prog 147 #[.int .i64 n] w fun e w'=>∃r:BA,e=.returned (.string r)∧tl r=Zce n∧Nx w w':=by
 refine(ZtN n (by omega) w h).mono ?_
 rintro e w' ⟨r,rfl,hr,hn1⟩
 exact⟨r,rfl,by rw[hr,ZrC n (by omega)],hn1⟩
def ZmY(v:Nat):Nat→List UInt8
 | 0=>[]
 | k+1=>Zce (v/256^k%256)++(if 0<k then [46]++ZmY v k else ZmY v k)
def Zdg(v:Nat):List UInt8:=ZmY v 4
theorem Zor(v:Nat):∀k,(ZmY v k).length≤6*k:=by
 intro k
 induction k with
 | zero=>simp[ZmY]
 | succ k ih=>
  rw[ZmY,Xc];have:=ZhH (v/256^k%256)
  split
  ·simp only[Xc,Xa,Xh];omega
  ·omega
theorem ZmZ(v:Nat)(hv:v≤1099511627776)(w:World)(ht:Tb w):Calls Tryz.prog 314 #[.int .i64 v] w fun e w'=>∃r:BA,e=.returned (.string r)∧tl r=Zdg v∧Nx w w':=by
 have HTB:=Za ht;clear ht
 go_enter Tryz.func314,Tryz.ntmps314
 go_wp2
 go_loopw [3,4,5] (fun t r i wr=>∃(k:Nat) (txt:BA) (rest:Nat),k≤4∧t=.string txt∧r=.int .i64 rest∧i=.int .i64 k∧rest=v/256^k∧tl txt=ZmY v k∧Nx w wr) (fun _ _ i _=>4-(intOf i).toNat)
 case atStart=>exact⟨0,⟨#[]⟩,v,by omega,rfl,rfl,rfl,by simp,rfl,Nx.rfl⟩
 case round=>
  obtain⟨k,txt,rest,hk,rfl,rfl,rfl,hrest,hE,hnx⟩:=hrel
  have hrl:rest≤1099511627776:=by rw[hrest];exact Xd (Nat.div_le_self _ _) hv
  have hsz:txt.size≤100:=by have:=Zor v k;rw[←hE,tl_length]at this;omega
  have HR:=Za hrest;have HE:=Za hE;have HN:=Za hnx;clear hrest hE hnx
  by_cases hlt:k<4
  ·have HDV:=Za (show Int.tdiv (rest:Int) 256=((rest/256:Nat):Int)by rw[Int.tdiv_eq_ediv_of_nonneg (by omega)];omega)
   have HNR:=Za (show rest/256=v/256^(k+1)by rw[HR.out,Nat.div_div_eq_div_mul,Nat.pow_succ])
   have HS:=Za (show ZmY v (k+1)=Zce (rest%256)++(if 0<k then [46]++ZmY v k else ZmY v k)by rw[ZmY,HR.out])
   by_cases hk0:0<k
   ·have HS2:=Za (HS.out.trans (by rw[if_pos hk0]))
    clear HS;go_wp2_with fail
    refine(Zoq (rest%256) (by omega) _ (HTB.out.on HN.out)).mono ?_
    rintro e w1 ⟨r,rfl,hr,hn1⟩
    have hrs:r.size≤5:=by rw[←tl_length,hr];exact ZhH _
    have HRR:=Za hr;have HN1:=Za (HN.out.then hn1);clear hr hn1;go_wp2
    go_roundw
    case rel=>exact⟨k+1,_,rest/256,by omega,rfl,by simp,by go_num,HNR.out,by rw[HS2.out,Zg,Zg,HRR.out,HE.out];rfl,HN1.out⟩
    case measure=>simp[intOf];omega
   ·have HS2:=Za (HS.out.trans (by rw[if_neg hk0]))
    clear HS;go_wp2_with fail
    refine(Zoq (rest%256) (by omega) _ (HTB.out.on HN.out)).mono ?_
    rintro e w1 ⟨r,rfl,hr,hn1⟩
    have hrs:r.size≤5:=by rw[←tl_length,hr];exact ZhH _
    have HRR:=Za hr;have HN1:=Za (HN.out.then hn1);clear hr hn1;go_wp2
    go_roundw
    case rel=>exact⟨k+1,_,rest/256,by omega,rfl,by simp,by go_num,HNR.out,by rw[HS2.out,Zg,HRR.out,HE.out],HN1.out⟩
    case measure=>simp[intOf];omega
  ·have HE2:=Za (show tl txt=Zdg v by rw[HE.out,show k=4 by omega];rfl)
   go_wp2;go_ret;exact⟨_,rfl,HE2.out,HN.out⟩
theorem Zos(l:LB):(ZA l).length≤l.length:=by
 generalize hn:l.length=n
 induction n using Nat.strongRecOn generalizing l with
 | ind n ih=>
  cases l with
  | nil=>rw[ZA];simp
  | cons c r=>
   rw[Xa]at hn
   have key:ZA (c::r)=if(Zdc (c::r)).2 then toB (Zdc (c::r)).1::ZA (r.drop 2)else c::ZA r:=by rw[ZA]
   rw[key]
   split
   ·have:=ih (r.drop 2).length (by rw[Xg];omega) _ rfl
    rw[Xg]at this;rw[Xa]
    omega
   ·have:=ih r.length (by omega) _ rfl
    rw[Xa]
    omega
theorem Zm0(l:LB):(lower l).length=l.length:=by simp[lower]
def Zcg(l:List UInt8):List UInt8×Int:=if(l.any fun b=>among b.toNat Zej)=true then([],2)else(encB (tl (ZaJ 0)) (clean l),0)
theorem Zlj(s:BA)(w:World)(hs:s.size≤1000000):Calls Tryz.prog 300 #[.string s] w fun e w'=>∃r:BA,e=.returned (.tuple #[.string r,.int .i64 (Zcg (tl s)).2])∧tl r=(Zcg (tl s)).1∧Nx w w':=by
 have HD:=Za (show Zcg (tl s)=if((tl s).any fun b=>among b.toNat Zej)=true then([],2)else(encB (tl (ZaJ 0)) (clean (tl s)),0)from rfl)
 go_enter Tryz.func300,Tryz.ntmps300
 go_wp2
 go_loop [4] (fun i=>∃k:Nat,k≤s.size∧i=.int .i64 k∧(((tl s).take k).any fun b=>among b.toNat Zej)=false) (fun i=>s.size-(intOf i).toNat)
 case atStart=>exact⟨0,Nat.zero_le _,rfl,rfl⟩
 case round=>
  obtain⟨k,hk,rfl,ha⟩:=hrel;have HA:=Za ha;clear ha
  by_cases hlt:k<s.size
  ·have hb:=bb s[k]
   cases hA:among (s[k].toNat:Int) Zej
   ·have HH:=Za (show(((tl s).take (k+1)).any fun b=>among b.toNat Zej)=false by rw[Zz s k hlt,any_snoc,HA.out,hA];rfl)
    have HA2:=Za hA;clear hA
    go_wp2_with (go_at_call 194;refine(ZaB _ _ _ (Zf (by decide))).mono ?_;rintro e w' ⟨rfl,rfl⟩;rw[show among (s[k].toNat:Int) (tl ⟨#[0,9,10,13,32,35,47,58,60,62,63,64,91,92,93,94,124]⟩)=false from HA2.out])
    go_round
    case rel=>exact⟨k+1,by omega,by go_num,HH.out⟩
    case measure=>simp[intOf];omega
   ·have HE:=Za (HD.out.trans (if_pos (Zj8 (fun b=>among b.toNat Zej) s k hlt hA)))
    have HA2:=Za hA;clear hA
    go_wp2_with (go_at_call 194;refine(ZaB _ _ _ (Zf (by decide))).mono ?_;rintro e w' ⟨rfl,rfl⟩;rw[show among (s[k].toNat:Int) (tl ⟨#[0,9,10,13,32,35,47,58,60,62,63,64,91,92,93,94,124]⟩)=true from HA2.out])
    go_ret2
    exact⟨⟨#[]⟩,by rw[HE.out];rfl,by rw[HE.out];rfl,Nx.rfl⟩
  ·have HE:=Za (HD.out.trans (if_neg (by have h:=HA.out;rw[Z3 _ _ (by omega)]at h;rw[h];decide)))
   go_wp2_with fail
   refine(ZaM s 0 _ hs).mono ?_
   rintro e w1 ⟨r,rfl,hr,hn⟩;have HR:=Za hr;have HN:=Za hn;clear hr hn;go_wp2;go_ret2
   exact⟨r,by rw[HE.out];rfl,by rw[HE.out];exact HR.out,HN.out⟩
def Zey(d:List UInt8)(qs:List (List UInt8)):List UInt8×Int:=
 if Zb5 qs=false then(d,0)else if(ip4 qs).2=true then(Zdg (ip4 qs).1.toNat,0)else([],2)
def ZaL(l:List UInt8):List UInt8×Int:=
 if(beyondB (lower (ZA l))||ZtU (bsplit 46 (lower (ZA l))))=true then([],3)
 else if plainDom (lower (ZA l))=false then([],2)
 else Zey (lower (ZA l)) (Zex (bsplit 46 (lower (ZA l))))
theorem ZrE(ps:List LB):∀room value,0≤room→room≤4294967296→0≤value→0≤(ip4Go ps room value).1∧(ip4Go ps room value).1≤value+ps.length*4294967296:=by
 induction ps with
 | nil=>intro room value h0 h1 h2;rw[ip4Go];exact⟨h2,by simp⟩
 | cons p r ih=>
  intro room value h0 h1 h2;rw[ip4Go,Xa]
  split
  ·exact⟨by decide,by show(0:Int)≤_;omega⟩
  ·split
   ·exact⟨by decide,by show(0:Int)≤_;omega⟩
   ·rename_i hb
    have hr:=ZfL p
    have hlt:(ZK p).1<room:=Int.not_le.1 (fun h=>hb (Or.inl h))
    split
    ·rename_i hne
     have h255:¬255<(ZK p).1:=fun h=>hb (Or.inr ⟨hne,h⟩)
     have hd0:0≤room/256:=by omega
     have hd1:room/256≤16777216:=by omega
     have hm0:0≤(ZK p).1*(room/256):=Int.mul_nonneg hr.1 hd0
     have hm1:(ZK p).1*(room/256)≤255*16777216:=Int.mul_le_mul (by omega) hd1 hd0 (by decide)
     have:=ih (room/256) (value+(ZK p).1*(room/256)) hd0 (by omega) (by omega)
     exact⟨this.1,by omega⟩
    ·have:=ih room (value+(ZK p).1) h0 h1 (by omega)
     exact⟨this.1,by omega⟩
theorem Zwa(ps:List LB):0≤(ip4 ps).1∧(ip4 ps).1≤17179869184:=by
 unfold ip4
 split
 ·exact⟨by decide,by decide⟩
 ·have:=ZrE ps 4294967296 0 (by decide) (by decide) (by decide)
  exact⟨this.1,by omega⟩
theorem Zjl(s:BA)(w:World)(hs:s.size≤1000000)(ht:Tb w):Calls Tryz.prog 299 #[.string s] w fun e w'=>∃r:BA,e=.returned (.tuple #[.string r,.int .i64 (ZaL (tl s)).2])∧tl r=(ZaL (tl s)).1∧Nx w w':=by
 have HTB:=Za ht;clear ht
 go_enter Tryz.func299,Tryz.ntmps299
 go_wp2_with fail
 refine(Zpu s _ hs).mono ?_
 rintro e w1 ⟨dec,rfl,hdec,hn1⟩
 have hds:dec.size≤1000000:=by have:=Zos (tl s);rw[←hdec,tl_length,tl_length]at this;omega
 go_wp2_with fail
 refine(Zjd dec _ hds).mono ?_
 rintro e w2 ⟨d,rfl,hd,hn2⟩
 have hdd:d.size≤1000000:=by have:=Zm0 (tl dec);rw[←hd,tl_length,tl_length]at this;omega
 have HD:=Za (show ZaL (tl s)=if(beyondB (tl d)||ZtU (bsplit 46 (tl d)))=true then([],3)else if plainDom (tl d)=false then([],2)else Zey (tl d) (Zex (bsplit 46 (tl d)))by
  unfold ZaL;rw[hd,hdec])
 have HN2:=Za (hn1.then hn2);clear hdec hn1 hd hn2;go_wp2_with fail
 refine(ZhU d 46 _ hdd).mono ?_
 rintro e w3 ⟨v,bs,rfl,hv,hbs,hn3⟩;rw[←hbs]at HD
 have HSZ:=Za (show ∀b∈bs,b.size≤1000000 from fun b hb=>Xd (ZfO hbs b hb) hdd)
 have HN3:=Za (HN2.out.then hn3);have HV:=Za hv;clear hbs hn3 hv HN2
 cases hbe:beyondB (tl d)
 ·cases hpu:ZtU (bs.map tl)
  ·have HD2:=Za (HD.out.trans (if_neg (by rw[hbe,hpu];decide)))
   have HBE:=Za hbe;have HPU:=Za hpu;clear HD hbe hpu
   cases hpl:plainDom (tl d)
   ·have HE:=Za (HD2.out.trans (if_pos hpl))
    have HPL:=Za hpl;clear HD2 hpl
    go_wp2_with (first|(go_at_call 308;refine(Zfg _ _ (Zf hdd)).mono ?_;rintro e w' ⟨rfl,rfl⟩;rw[HBE.out])|(go_at_call 309;refine(ZhE _ bs _ HV.out HSZ.out).mono ?_;rintro e w' ⟨rfl,rfl⟩;rw[HPU.out])|(go_at_call 310;refine(Zg7 _ _ (Zf hdd)).mono ?_;rintro e w' ⟨rfl,rfl⟩;rw[HPL.out]))
    go_ret2
    exact⟨⟨#[]⟩,by rw[HE.out];rfl,by rw[HE.out];rfl,HN3.out⟩
   ·have HE:=Za (HD2.out.trans (if_neg (by rw[hpl];decide)))
    have HPL:=Za hpl;rw[←Zrn]at HE;clear HD2 hpl
    go_wp2_with (first|(go_at_call 308;refine(Zfg _ _ (Zf hdd)).mono ?_;rintro e w' ⟨rfl,rfl⟩;rw[HBE.out])|(go_at_call 309;refine(ZhE _ bs _ HV.out HSZ.out).mono ?_;rintro e w' ⟨rfl,rfl⟩;rw[HPU.out])|(go_at_call 310;refine(Zg7 _ _ (Zf hdd)).mono ?_;rintro e w' ⟨rfl,rfl⟩;rw[HPL.out]))
    refine(Zrp _ bs _ HV.out).mono ?_
    rintro e w' ⟨v2,rfl,hv2,rfl⟩;have HV2:=Za hv2
    have HSZ2:=Za (show ∀b∈Zgz bs,b.size≤1000000 from fun b hb=>HSZ.out b (Zro hb))
    clear hv2;generalize Zgz bs=qs at *
    have HDE:=Za (show Zey (tl d) (qs.map tl)=if Zb5 (qs.map tl)=false then(tl d,0)else if(ip4 (qs.map tl)).2=true then(Zdg (ip4 (qs.map tl)).1.toNat,0)else([],2)from rfl)
    cases hen:Zb5 (qs.map tl)
    ·have HE2:=Za (HE.out.trans (HDE.out.trans (if_pos hen)))
     have HEN:=Za hen;clear hen HE HDE
     go_wp2_with (go_at_call 312;refine(ZfM _ qs _ HV2.out HSZ2.out).mono ?_;rintro e w' ⟨rfl,rfl⟩;rw[HEN.out])
     go_ret2
     exact⟨d,by rw[HE2.out];rfl,by rw[HE2.out],HN3.out⟩
    ·have HE2:=Za (HE.out.trans (HDE.out.trans (if_neg (by rw[hen];decide))))
     have HEN:=Za hen;have hrg:=Zwa (qs.map tl);clear hen HE HDE;generalize hq:ip4 (qs.map tl)=q at *;have HQ:=Za hq;clear hq;obtain⟨val,ok⟩:=q;simp only at HE2 hrg
     obtain⟨vn,rfl⟩:∃vn:Nat,val=(vn:Int):=⟨val.toNat,by omega⟩
     rw[Int.toNat_natCast]at HE2
     have hvn:vn≤1099511627776:=by omega
     clear hrg
     cases ok
     ·have HE3:=Za (HE2.out.trans (if_neg (by decide)))
      clear HE2
      go_wp2_with (first|(go_at_call 312;refine(ZfM _ qs _ HV2.out HSZ2.out).mono ?_;rintro e w' ⟨rfl,rfl⟩;rw[HEN.out])|(go_at_call 313;refine(Zrq _ qs _ HV2.out HSZ2.out).mono ?_;rintro e w' ⟨rfl,rfl⟩;rw[HQ.out]))
      go_ret2
      exact⟨⟨#[]⟩,by rw[HE3.out];rfl,by rw[HE3.out];rfl,HN3.out⟩
     ·have HE3:=Za (HE2.out.trans (if_pos rfl))
      clear HE2
      go_wp2_with (first|(go_at_call 312;refine(ZfM _ qs _ HV2.out HSZ2.out).mono ?_;rintro e w' ⟨rfl,rfl⟩;rw[HEN.out])|(go_at_call 313;refine(Zrq _ qs _ HV2.out HSZ2.out).mono ?_;rintro e w' ⟨rfl,rfl⟩;rw[HQ.out])|(go_at_call 314;refine(ZmZ vn hvn _ (HTB.out.on HN3.out)).mono ?_;rintro e w4 ⟨r,rfl,hr,hn4⟩;have HR:=Za hr;have HN4:=Za (HN3.out.then hn4);clear hr hn4))
      go_ret2
      exact⟨r,by rw[HE3.out];rfl,by rw[HE3.out];exact HR.out,HN4.out⟩
  ·have HE:=Za (HD.out.trans (if_pos (by rw[hpu];simp)))
   have HBE:=Za hbe;have HPU:=Za hpu;clear HD hbe hpu
   go_wp2_with (first|(go_at_call 308;refine(Zfg _ _ (Zf hdd)).mono ?_;rintro e w' ⟨rfl,rfl⟩;rw[HBE.out])|(go_at_call 309;refine(ZhE _ bs _ HV.out HSZ.out).mono ?_;rintro e w' ⟨rfl,rfl⟩;rw[HPU.out]))
   go_ret2
   exact⟨⟨#[]⟩,by rw[HE.out];rfl,by rw[HE.out];rfl,HN3.out⟩
 ·have HE:=Za (HD.out.trans (if_pos (by rw[hbe];simp)))
  have HBE:=Za hbe;clear HD hbe
  go_wp2_with (first|(go_at_call 308;refine(Zfg _ _ (Zf hdd)).mono ?_;rintro e w' ⟨rfl,rfl⟩;rw[HBE.out])|(go_at_call 309;refine(ZhE _ bs _ HV.out HSZ.out).mono ?_;rintro e w' ⟨rfl,rfl⟩))
  go_ret2
  exact⟨⟨#[]⟩,by rw[HE.out];rfl,by rw[HE.out];rfl,HN3.out⟩
def ZT(l:List UInt8)(sp:Bool):List UInt8×Int:=if((l.getD 0 0).toNat:Int)=91 then Zav l else if sp=true then ZaL l else Zcg l
theorem Zlk(s:BA)(sp:Bool)(w:World)(hs:s.size≤1000000)(ht:Tb w):Calls Tryz.prog 277 #[.string s,.bool sp] w fun e w'=>∃r:BA,e=.returned (.tuple #[.string r,.int .i64 (ZT (tl s) sp).2])∧tl r=(ZT (tl s) sp).1∧Nx w w':=by
 have HD:=Za (show ZT (tl s) sp=if(((tl s).getD 0 0).toNat:Int)=91 then Zav (tl s)else if sp=true then ZaL (tl s)else Zcg (tl s)from rfl)
 by_cases h0:s.size=0
 ·have HE:=Za (HD.out.trans (if_neg (by rw[Zw h0];decide)))
  have h0':=Zl h0;clear HD h0
  cases sp
  ·have HE2:Hid (ZT (tl s) false=Zcg (tl s)):=Za (HE.out.trans (if_neg (by decide)))
   clear HE
   go_enter Tryz.func277,Tryz.ntmps277
   go_wp2_with (go_at_call 300;refine(Zlj s _ hs).mono ?_;rintro e w1 ⟨r,rfl,hr,hn⟩;have HR:=Za hr;have HN:=Za hn;clear hr hn)
   go_ret2
   exact⟨r,by rw[HE2.out];rfl,by rw[HE2.out];exact HR.out,HN.out⟩
  ·have HE2:Hid (ZT (tl s) true=ZaL (tl s)):=Za (HE.out.trans (if_pos rfl))
   clear HE
   go_enter Tryz.func277,Tryz.ntmps277
   go_wp2_with (go_at_call 299;refine(Zjl s _ hs ht).mono ?_;rintro e w1 ⟨r,rfl,hr,hn⟩;have HR:=Za hr;have HN:=Za hn;clear hr hn)
   go_ret2
   exact⟨r,by rw[HE2.out];rfl,by rw[HE2.out];exact HR.out,HN.out⟩
 ·have hpos:0<s.size:=by omega
  have h0':=Zh h0;rw[ZdI s 0 hpos]at HD;have hb:=bb (s[0]'hpos);clear h0
  cases h91:(((s[0]'hpos).toNat:Int)==91)
  ·have HE:=Za (HD.out.trans (if_neg (by simpa using h91)))
   clear HD
   cases sp
   ·have HE2:Hid (ZT (tl s) false=Zcg (tl s)):=Za (HE.out.trans (if_neg (by decide)))
    clear HE
    go_enter Tryz.func277,Tryz.ntmps277
    go_wp2_with (go_at_call 300;refine(Zlj s _ hs).mono ?_;rintro e w1 ⟨r,rfl,hr,hn⟩;have HR:=Za hr;have HN:=Za hn;clear hr hn)
    go_ret2
    exact⟨r,by rw[HE2.out];rfl,by rw[HE2.out];exact HR.out,HN.out⟩
   ·have HE2:Hid (ZT (tl s) true=ZaL (tl s)):=Za (HE.out.trans (if_pos rfl))
    clear HE
    go_enter Tryz.func277,Tryz.ntmps277
    go_wp2_with (go_at_call 299;refine(Zjl s _ hs ht).mono ?_;rintro e w1 ⟨r,rfl,hr,hn⟩;have HR:=Za hr;have HN:=Za hn;clear hr hn)
    go_ret2
    exact⟨r,by rw[HE2.out];rfl,by rw[HE2.out];exact HR.out,HN.out⟩
  ·have HE:=Za (HD.out.trans (if_pos (by simpa using h91)))
   clear HD
   go_enter Tryz.func277,Tryz.ntmps277
   go_wp2_with (go_at_call 298;refine(Zli s _ hs ht).mono ?_;rintro e w1 ⟨r,rfl,hr,hn⟩;have HR:=Za hr;have HN:=Za hn;clear hr hn)
   go_ret2
   exact⟨r,by rw[HE.out];rfl,by rw[HE.out];exact HR.out,HN.out⟩
theorem Zkh{w:World}{base base':Nat}{e:TypeId}{size:Nat}{v:Value}{n:Nat}{xs:List Value}(h:w.ownsRow base e size v n xs)(hb:base'≤base):w.ownsRow base' e size v n xs:=by
 obtain⟨h1,h2|⟨g,cap,cur,h2,h3,h4⟩⟩:=h
 ·exact⟨h1,.inl h2⟩
 ·exact⟨h1,.inr ⟨g,cap,cur,h2,Xd hb h3,h4⟩⟩
theorem PthAt.facts6{w:World}{pb:Nat}{f s:Bool}{v:Value}(h:PthAt w pb f s v):w.cell? ⟨pb,0,none⟩=some (.bool f)∧w.cell? ⟨pb,1,none⟩=some (.bool s)∧w.cell? ⟨pb,2,none⟩=some v∧w.frozen? ⟨pb,0,none⟩=false∧w.frozen? ⟨pb,1,none⟩=false∧w.frozen? ⟨pb,2,none⟩=false:=by
 unfold PthAt at h
 refine⟨?_,?_,?_,?_,?_,?_⟩<;>simp[World.cell?,World.frozen?,h]
def TyB(w:World)(pb:Nat)(t:TypeId):Prop:=∃(cs:Array Value) (fz:Nat×Nat),w.heap[pb]?=some (Obj.cells cs t fz)
theorem TyB.set{w:World}{pb:Nat}{t:TypeId}(h:TyB w pb t)(q i:Nat)(u:Value):TyB (w.setCell ⟨q,i,none⟩ u) pb t:=by
 obtain⟨cs,fz,h⟩:=h
 by_cases hq:q=pb
 ·subst hq
  simp only[TyB,World.setCell,Xb,if_pos,h];exact⟨_,_,rfl⟩
 ·simp only[TyB,World.setCell,Xb,if_neg hq]
  exact⟨cs,fz,h⟩
theorem TyB.own{w:World}{pb base:Nat}{t:TypeId}(h:TyB w pb t)(ht:t≠9){v:Value}{bs:LA}(ho:Zds w base v bs)(i:Nat)(u:Value):Zds (w.setCell ⟨pb,i,none⟩ u) base v bs:=by
 obtain⟨cs,fz,h⟩:=h;obtain⟨h1,⟨rfl,h3⟩|⟨g,cap,cur,rfl,h4,h5,h6⟩⟩:=ho
 ·exact⟨h1,.inl ⟨rfl,h3⟩⟩
 ·refine⟨h1,.inr ⟨g,cap,cur,rfl,h4,?_,h6⟩⟩
  have hne:pb≠g:=by intro e;subst e;rw[h]at h5;simp only[Option.some.injEq,Obj.cells.injEq]at h5;exact ht h5.2.1
  simp only[World.setCell,Xb,if_neg hne];exact h5
theorem PthAt.ty{w:World}{pb:Nat}{f s:Bool}{v:Value}(h:PthAt w pb f s v):TyB w pb 223:=⟨_,_,h⟩
theorem PthAt.far{w:World}{pb q:Nat}{f s:Bool}{v:Value}(h:PthAt w pb f s v)(hq:q≠pb)(i:Nat)(u:Value):PthAt (w.setCell ⟨q,i,none⟩ u) pb f s v:=by unfold PthAt at *;simp only[World.setCell,Xb,if_neg hq];exact h
theorem PthAt.all{w:World}{pb:Nat}{f s:Bool}{v:Value}(h:PthAt w pb f s v)(f' s':Bool)(v':Value):PthAt (((w.setCell ⟨pb,0,none⟩ (.bool f')).setCell ⟨pb,1,none⟩ (.bool s')).setCell ⟨pb,2,none⟩ v') pb f' s' v':=by
 unfold PthAt at *
 simp[World.setCell,Xb,h]
def Zv:List UInt8:=[102,105,108,101]
theorem Zh8(v:Value)(bs:LA)(sch:BA)(w:World)(hv:Zcv w v bs)(hl:bs.length≤1000000):Calls Tryz.prog 258 #[v,.string sch] w fun e w'=>∃v',e=.returned (.agg #[.bool (tl sch==Zv),.bool (Zc (tl sch)),v'])∧Zds w' w.heap.size v' bs∧Nx w w':=by
 have HV:=Za hv;clear hv
 go_enter Tryz.func258,Tryz.ntmps258
 have HX:=Za (show(sch.toList == [102,105,108,101])=(tl sch==Zv)by rw[ByteArray.toList_eq];rfl)
 go_wp2_with (go_at_call 189;refine(ZZ _ _).mono ?_;rintro e w' ⟨rfl,rfl⟩)
 rw[HX.out]
 refine(Zon v bs _ ?_ hl).mono ?_
 ·exact HV.out.on ((Nx.rfl.alloc _).alloc _)
 rintro e w2 ⟨v2,rfl,ho,hn⟩
 have HP2:=Za (PthAt.on (show PthAt ((w.alloc (Obj.cells #[Value.bool false,Value.bool false,Value.slice none 0 0] 223)).alloc (Obj.cells #[Value.bool (tl sch==Zv),Value.bool (Zc (tl sch)),Value.slice none 0 0] 223)) (w.heap.size+1) _ _ _ from by unfold PthAt;rw[show w.heap.size+1=(w.alloc (Obj.cells #[Value.bool false,Value.bool false,Value.slice none 0 0] 223)).heap.size by simp];exact heap_alloc_new _ _) hn)
 have HR2:=Za (PthAt.on (show PthAt ((w.alloc (Obj.cells #[Value.bool false,Value.bool false,Value.slice none 0 0] 223)).alloc (Obj.cells #[Value.bool (tl sch==Zv),Value.bool (Zc (tl sch)),Value.slice none 0 0] 223)) w.heap.size _ _ _ from PthAt.on (heap_alloc_new w _) (Nx.rfl.alloc _)) hn);have HN2:=Za (show Nx w w2 from((Nx.rfl.alloc _).alloc _).then hn)
 have HO2:=Za (show Zds w2 w.heap.size v2 bs from Zkh ho (by simp;omega))
 obtain⟨ao,cap,hv2⟩:∃ao cap,v2=.slice ao bs.length cap:=by
  obtain⟨h1,⟨h2,h3⟩|⟨g',cap',cur,h2,h4⟩⟩:=HO2.out
  ·exact⟨none,0,by rw[h2,h3]⟩
  ·exact⟨_,_,h2⟩
 subst hv2;clear ho hn;obtain⟨hc0,hc1,hc2,hf2⟩:=HP2.out.facts;obtain⟨hd0,hd1,hd2,hg0,hg1,hg2⟩:=HR2.out.facts6;have HTP:=Za (HP2.out.ty);have HTR:=Za (HR2.out.ty)
 have HR3:=Za ((HR2.out.far (q:=w.heap.size+1) (by omega) 2 (.slice ao bs.length cap)).all (tl sch==Zv) (Zc (tl sch)) (.slice ao bs.length cap))
 obtain⟨hs0,hs1,hs2,-,-,-⟩:=HR3.out.facts6;go_wp2
 exact bodyPost_ret (v:=.agg #[.bool (tl sch==Zv),.bool (Zc (tl sch)),.slice ao bs.length cap]) (by simp[results,Tryz.results258,go_sem,hs0,hs1,hs2]) rfl ⟨_,rfl,
  ((HTR.out.set _ _ _).set _ _ _ |>.set _ _ _).own (by decide) (((HTR.out.set _ _ _).set _ _ _).own (by decide) ((HTR.out.set _ _ _).own (by decide) (HTP.out.own (by decide) HO2.out _ _) _ _) _ _) _ _,
  (((HN2.out.setCell (by simp) _).setCell (Xf _) _).setCell (Xf _) _).setCell (Xf _) _⟩
def ZdM(f:Bool)(ps:List (List UInt8))(seg:List UInt8)(last:Bool):List (List UInt8):=
 if countDots seg=0 then joinL f ps seg else
 if last then(if countDots seg=2 then ZaK f ps else ps)++[[]]else(if countDots seg=2 then ZaK f ps else ps)
theorem Zct{f:Bool}{bs bs':LA}(h:bs'.map tl=ZaK f (bs.map tl)):bs'.length≤bs.length:=by
 have h1:=congrArg List.length h;have h2:=ZpL f (bs.map tl);rw[List.length_map]at h1 h2
 omega
theorem Zt4(pb base:Nat)(f s:Bool)(v:Value)(bs:LA)(q:BA)(last:Bool)(w:World)(hp:PthAt w pb f s v)(ho:Zds w base v bs)(hb:base≤pb)(hbw:base≤w.heap.size)(hl:bs.length≤1000000)(hq:q.size≤1000000):Calls Tryz.prog 290 #[.pointer (some ⟨pb,0,none⟩),.string q,.bool last] w fun e w'=>∃x v' bs',e=.returned x∧PthAt w' pb f s v'∧Zds w' base v' bs'∧bs'.map tl=ZdM f (bs.map tl) (tl q) last∧bs'.length≤bs.length+1∧Below base w w':=by
 have HP:=Za hp;have HO:=Za ho;have HB:=Za hb;clear hp ho hb
 have HT:=Za (show ZdM f (bs.map tl) (tl q) last=if countDots (tl q)=0 then joinL f (bs.map tl) (tl q)else
  if last then(if countDots (tl q)=2 then ZaK f (bs.map tl)else bs.map tl)++[[]]else(if countDots (tl q)=2 then ZaK f (bs.map tl)else bs.map tl)from rfl)
 have hd2:=Zv4 3 0 (tl q) rfl
 change countDots (tl q)≤2 at hd2
 generalize hd:countDots (tl q)=d at *;have HD:=Za hd;clear hd
 have key:∀(w1 w2:World) (v1 v':Value) (cs:LA),Below base w w1→PthAt w1 pb f s v1→Zds w2 base v' (cs++[(⟨#[]⟩:BA)])→Below base w1 w2→Kp 9 w1 w2→PthAt w2 pb f s v1∧(∀u,PthAt (w2.setCell ⟨pb,2,none⟩ u) pb f s u)∧(∀u,Zds (w2.setCell ⟨pb,2,none⟩ u) base v' (cs++[(⟨#[]⟩:BA)]))∧(∀u,Below base w (w2.setCell ⟨pb,2,none⟩ u)):=by
  intro w1 w2 v1 v' cs h0 hp1 h1 h2 h3;have h4:=hp1.kp h3
  exact⟨h4,fun u=>h4.set u,fun u=>h4.own h1 u,fun u=>(h0.trans h2).setCell HB.out u⟩
 have KEY:=Za key;clear key
 rcases(show d=0∨d=1∨d=2 by omega)with rfl|rfl|rfl
 ·have HE:=Za (HT.out.trans (if_pos rfl))
  clear HT hd2
  go_enter Tryz.func290,Tryz.ntmps290
  go_wp2_with (first|(go_at_call 302;refine(Zb6 _ _ hq).mono ?_;rintro e w' ⟨rfl,rfl⟩;rw[HD.out])|(go_at_call 303;refine(Zt0 pb base f s v bs q _ HP.out HO.out HB.out hbw hl hq).mono ?_;rintro e w1 ⟨x,v1,bs1,rfl,h1,h2,h3,h4,h5⟩;have H1:=Za h1;have H2:=Za h2;have H3:=Za h3;have H4:=Za h4;have H5:=Za h5;clear h1 h2 h3 h4 h5))
  exact bodyPost_end (results_none rfl _ _ _) rfl ⟨_,_,_,rfl,H1.out,H2.out,H3.out.trans HE.out.symm,H4.out,H5.out⟩
 ·have HE:=Za (show ZdM f (bs.map tl) (tl q) last=if last then bs.map tl++[[]]else bs.map tl from by rw[HT.out,if_neg (show ¬(1:Nat)=0 by decide),if_neg (show ¬(1:Nat)=2 by decide)])
  clear HT hd2
  cases last
  ·have HE2:=Za (HE.out.trans (if_neg (by decide)))
   clear HE
   go_enter Tryz.func290,Tryz.ntmps290
   go_wp2_with (go_at_call 302;refine(Zb6 _ _ hq).mono ?_;rintro e w' ⟨rfl,rfl⟩;rw[HD.out])
   exact bodyPost_end (results_none rfl _ _ _) rfl ⟨_,_,_,rfl,HP.out,HO.out,HE2.out.symm,by omega,Below.refl _ _⟩
  ·have HE2:=Za (HE.out.trans (if_pos rfl))
   clear HE;obtain⟨hc0,hc1,hc2,hf2⟩:=HP.out.facts
   have hbl:bs.length<1099511627776:=by omega
   go_enter Tryz.func290,Tryz.ntmps290
   go_wp2_with (first|(go_at_call 302;refine(Zb6 _ _ hq).mono ?_;rintro e w' ⟨rfl,rfl⟩;rw[HD.out])|(at_builtin;go_must (refine Zcx w (⟨#[]⟩:BA) rfl _ _ rfl base v bs rfl HO.out rfl hbl hbw ?_;intro v' w2 ho2 hb2 hk2;obtain⟨g2,n2,c2,rfl⟩:=Zc4 ho2 (by simp);obtain⟨hp4,hps,hos,hbs⟩:=KEY.out w w2 v _ bs (Below.refl _ _) HP.out ho2 hb2 hk2;obtain⟨-,-,hd2,hg2⟩:=hp4.facts;have HPS:=Za hps;have HOS:=Za hos;have HBS:=Za hbs;clear ho2 hb2 hk2 hp4 hps hos hbs)))
   exact bodyPost_end (results_none rfl _ _ _) rfl ⟨_,_,_,rfl,HPS.out _,HOS.out _,by rw[HE2.out,Xi];rfl,by simp,HBS.out _⟩
 ·have HE:=Za (show ZdM f (bs.map tl) (tl q) last=if last then ZaK f (bs.map tl)++[[]]else ZaK f (bs.map tl)from by rw[HT.out,if_neg (show ¬(2:Nat)=0 by decide),if_pos (show(2:Nat)=2 from rfl)])
  clear HT hd2
  cases last
  ·have HE2:=Za (HE.out.trans (if_neg (by decide)))
   clear HE
   go_enter Tryz.func290,Tryz.ntmps290
   go_wp2_with (first|(go_at_call 302;refine(Zb6 _ _ hq).mono ?_;rintro e w' ⟨rfl,rfl⟩;rw[HD.out])|(go_at_call 291;refine(ZfQ pb base f s v bs _ HP.out HO.out HB.out hl).mono ?_;rintro e w1 ⟨x,v1,bs1,rfl,h1,h2,h3,h5⟩;have H1:=Za h1;have H2:=Za h2;have H3:=Za h3;have H5:=Za h5;clear h1 h2 h3 h5))
   exact bodyPost_end (results_none rfl _ _ _) rfl ⟨_,_,_,rfl,H1.out,H2.out,H3.out.trans HE2.out.symm,by have:=Zct H3.out;omega,H5.out⟩
  ·have HE2:=Za (HE.out.trans (if_pos rfl))
   clear HE
   go_enter Tryz.func290,Tryz.ntmps290
   go_wp2_with (first|(go_at_call 302;refine(Zb6 _ _ hq).mono ?_;rintro e w' ⟨rfl,rfl⟩;rw[HD.out])|fail)
   refine(ZfQ pb base f s v bs _ HP.out HO.out HB.out hl).mono ?_
   rintro e w1 ⟨x,v1,bs1,rfl,h1,h2,h3,h5⟩;have H1:=Za h1;have H2:=Za h2;have H3:=Za h3;have H5:=Za h5
   have hbl:bs1.length<1099511627776:=by have:=Zct h3;omega
   have hbl2:=Zct h3;have hz:base≤w1.heap.size:=Xd hbw h5.size;clear h1 h2 h3 h5;obtain⟨hc0,hc1,hc2,hf2⟩:=H1.out.facts
   go_wp2_with (at_builtin;go_must (refine Zcx w1 (⟨#[]⟩:BA) rfl _ _ rfl base v1 bs1 rfl H2.out rfl hbl hz ?_;intro v' w2 ho2 hb2 hk2;obtain⟨g2,n2,c2,rfl⟩:=Zc4 ho2 (by simp);obtain⟨hp4,hps,hos,hbs⟩:=KEY.out w1 w2 v1 _ bs1 H5.out H1.out ho2 hb2 hk2;obtain⟨-,-,hd2,hg2⟩:=hp4.facts;have HPS:=Za hps;have HOS:=Za hos;have HBS:=Za hbs;clear ho2 hb2 hk2 hp4 hps hos hbs))
   exact bodyPost_end (results_none rfl _ _ _) rfl ⟨_,_,_,rfl,HPS.out _,HOS.out _,by rw[HE2.out,Xi,H3.out];rfl,by rw[Xc];simp;omega,HBS.out _⟩
def ZbT(p:UInt8→Bool)(l:List UInt8):List (List UInt8):=
 match l with
 | []=>[[]]
 | c::r=>if p c then []::ZbT p r else
  match ZbT p r with
  | []=>[[c]]
  | x::q=>(c::x)::q
theorem ZgD(p:UInt8→Bool)(l:LB):ZbT p l=if(bcut p l).2.2 then(bcut p l).1::ZbT p (bcut p l).2.1 else [(bcut p l).1]:=by
 induction l with
 | nil=>simp[ZbT,bcut]
 | cons c r ih=>
  cases h:p c
  ·have hc:bcut p (c::r)=(c::(bcut p r).1,(bcut p r).2):=by simp[bcut,h]
   rw[ZbT,if_neg (by simp[h]),hc,ih]
   cases h2:(bcut p r).2.2<;>simp
  ·have hc:bcut p (c::r)=([],r,true):=by simp[bcut,h]
   rw[ZbT,if_pos h,hc]
   simp
theorem ZeO(p:UInt8→Bool)(l:LB):∃x q,ZbT p l=x::q:=by
 rw[ZgD]
 split
 ·exact⟨_,_,rfl⟩
 ·exact⟨_,_,rfl⟩
def Zch(f:Bool):List (List UInt8)→List (List UInt8)→List (List UInt8)
 | ps,[]=>ps
 | ps,[x]=>ZdM f ps x true
 | ps,x::y::r=>Zch f (ZdM f ps x false) (y::r)
def Za4(f sp:Bool)(ps:List (List UInt8))(text:List UInt8):List (List UInt8):=Zch f ps (ZbT (slB sp) text)
theorem Zll(f sp:Bool)(ps:List LB)(text:LB):Za4 f sp ps text=if(bcut (slB sp) text).2.2 then Za4 f sp (ZdM f ps (bcut (slB sp) text).1 false) (bcut (slB sp) text).2.1 else ZdM f ps (bcut (slB sp) text).1 true:=by
 unfold Za4;rw[ZgD]
 cases h:(bcut (slB sp) text).2.2
 ·rfl
 ·simp only[if_true]
  obtain⟨x,q,hx⟩:=ZeO (slB sp) (bcut (slB sp) text).2.1;rw[hx]
  rfl
theorem ZfR(pb base:Nat)(f s:Bool)(v:Value)(bs:LA)(t:BA)(w:World)(hp:PthAt w pb f s v)(ho:Zds w base v bs)(hb:base≤pb)(hbw:base≤w.heap.size)(hl:bs.length≤100000)(ht:t.size≤100000):Calls Tryz.prog 259 #[.pointer (some ⟨pb,0,none⟩),.string t] w fun e w'=>∃x v' bs',e=.returned x∧PthAt w' pb f s v'∧Zds w' base v' bs'∧bs'.map tl=Za4 f s (bs.map tl) (tl t)∧bs'.length≤bs.length+t.size+1∧Below base w w':=by
 have HP:=Za hp;have HO:=Za ho;have HB:=Za hb;clear hp ho hb
 go_enter Tryz.func259,Tryz.ntmps259
 go_wp2
 go_loopw [4,5] (fun x m wr=>∃(q:BA) (more:Bool) (v1:Value) (cs:LA),x=.string q∧m=.bool more∧PthAt wr pb f s v1∧Zds wr base v1 cs∧cs.length+q.size≤bs.length+t.size+1∧(more=true→cs.length+q.size≤bs.length+t.size)∧Za4 f s (bs.map tl) (tl t)=(if more then Za4 f s (cs.map tl) (tl q)else cs.map tl)∧Below base w wr)
  (fun x m _=>if Zn6 m then Zn5 x+1 else 0)
 case atStart=>exact⟨t,true,v,bs,rfl,rfl,HP.out,HO.out,by omega,fun _=>Xf _,rfl,Below.refl _ _⟩
 case round=>
  obtain⟨q,more,v1,cs,rfl,rfl,hp1,ho1,hl1,hm,hE,hbel⟩:=hrel
  cases more
  ·simp only[Bool.false_eq_true,if_false]at hE
   have HE:=Za hE;have HP1:=Za hp1;have HO1:=Za ho1;have HBL:=Za hbel;clear hE hp1 ho1 hbel hm;go_wp2
   exact bodyPost_end (results_none rfl _ _ _) rfl ⟨_,_,_,rfl,HP1.out,HO1.out,HE.out.symm,by omega,HBL.out⟩
  ·have hl2:=hm rfl
   simp only[if_true]at hE;rw[Zll f s (cs.map tl) (tl q)]at hE;have HE:=Za hE;have HP1:=Za hp1;have HO1:=Za ho1;have HBL:=Za hbel;have HL:=Za (Zaz (slB s) (tl q));obtain⟨hc0,hc1,hc2,hf2⟩:=hp1.facts;clear hE hp1 ho1 hbel hm HP HO;go_wp2_with fail
   refine(Zdw q s _ (Zf (by omega))).mono ?_
   rintro e w1 ⟨⟨a,b,rfl,ha,hb⟩,hn1⟩
   have hla:a.size=(bcut (slB s) (tl q)).1.length:=by rw[←ha,tl_length]
   have hlb:b.size=(bcut (slB s) (tl q)).2.1.length:=by rw[←hb,tl_length]
   have HA:=Za ha;have HBB:=Za hb;have HLA:=Za hla;have HLB:=Za hlb
   have hqa:a.size≤1000000:=by have h:=HL.out.1;rw[tl_length]at h;omega
   have hz1:base≤wr.heap.size:=Xd hbw HBL.out.size;have hz:base≤w1.heap.size:=Xd hz1 hn1.size;have HP2:=Za (HP1.out.on hn1);have HO2:=Za (ZbG HO1.out hn1);have HBL2:=Za (show Below base w w1 from HBL.out.trans (hn1.mono hz1));clear ha hb hla hlb hn1 HP1 HO1 HBL;generalize bcut (slB s) (tl q)=c at *;obtain⟨c1,c2,found⟩:=c;simp only at *;go_wp2_with fail
   refine(Zt4 pb base f s v1 cs a (!found) w1 HP2.out HO2.out HB.out hz (by omega) hqa).mono ?_
   rintro e w2 ⟨x,v2,cs2,rfl,h1,h2,h3,h4,h5⟩;have H1:=Za h1;have H2:=Za h2;have H3:=Za h3;have H4:=Za h4;have H5:=Za (HBL2.out.trans h5);clear h1 h2 h3 h4 h5;go_wp2
   go_roundw
   case rel=>
    refine⟨b,found,v2,cs2,rfl,rfl,H1.out,H2.out,?_,?_,?_,H5.out⟩
    ·have h:=HL.out.1;have h1:=HLA.out;have h2:=HLB.out;have h3:=H4.out;rw[tl_length]at h;omega
    ·intro hf;have h:=HL.out.2 hf;have h2:=HLB.out;have h3:=H4.out;rw[tl_length]at h;omega
    ·rw[HE.out,H3.out,HA.out,HBB.out]
     cases found<;>rfl
   case measure=>
    have h:=HL.out;have h2:=HLB.out;rw[tl_length]at h;simp only[Zn6,Zn5]
    cases found
    ·simp
    ·have:=h.2 rfl
     simp only[if_true];omega
end Go.Proofs.YtchkhibgbnhjpabGreatDoor
