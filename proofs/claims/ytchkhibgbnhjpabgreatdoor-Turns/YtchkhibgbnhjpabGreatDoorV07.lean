import Derived.Test.YtchkhibgbnhjpabGreatDoorV06
open Array renaming getElem?_eq_some_iff→Xc
open Int renaming le_refl→Xg,tdiv_eq_ediv_of_nonneg→Xi,mul_nonneg→Xn
open List renaming length_map→Xa,getElem_mem→Xb,getD_eq_getElem?_getD→Xd,drop_of_length_le→Xf,drop_eq_getElem_cons→Xh,map_cons→Xj,length_drop→Xk,drop_zero→Xl,mem_cons→Xo,mem_map→Xp
open Nat renaming zero_le→Xe,le_trans→Xq
namespace Go.Proofs.YtchkhibgbnhjpabGreatDoor
open Go.RowKit
set_option maxHeartbeats 4000000
def beyondB(l:List UInt8):Bool:=l.any fun b=>decide (127<(b.toNat:Int))
theorem ZdF(s:BA)(w:World)(hs:s.size≤maxLen):Calls Tryz.prog 308 #[.string s] w fun e w'=>e=.returned (.bool (beyondB (tl s)))∧w=w':=by
 unfold maxLen at hs
 go_enter Tryz.func308,Tryz.ntmps308
 go_wp2
 go_loop [3] (fun i=>∃k:Nat,k≤s.size∧i=.int .i64 k∧beyondB ((tl s).take k)=false) (fun i=>s.size-(intOf i).toNat)
 case atStart=>exact⟨0,Xe _,rfl,rfl⟩
 case round=>
  obtain⟨k,hk,rfl,ha⟩:=hrel;have HA:=Za ha;clear ha
  by_cases hlt:k<s.size
  ·have hb:=bb s[k]
   by_cases hc:127<(s[k].toNat:Int)
   ·go_wp2
    go_ret
    exact⟨Zi (Zhu (fun b=>decide (127<(b.toNat:Int))) s k hlt (decide_eq_true hc)).symm,rfl⟩
   ·go_wp2
    go_round
    case rel=>exact⟨k+1,by omega,by go_num,by rw[ZG s k hlt];unfold beyondB;rw[any_snoc];rw[show((tl s).take k).any (fun b=>decide (127<(b.toNat:Int)))=false from HA.out,Bool.false_or];exact decide_eq_false hc⟩
    case measure=>simp[intOf];omega
  ·go_wp2
   go_ret
   exact⟨Zi (by rw[←HA.out,Zah _ _ (by omega)]),rfl⟩
def ZbO(l:List UInt8):Bool:=decide (4≤l.length)&&(l.take 4 == [120,110,45,45])
def ZrY(ps:List (List UInt8)):Bool:=ps.any ZbO
theorem Zfi(v:Value)(bs:LA)(w:World)(hv:ZbU w v bs)(hl:∀b∈bs,b.size≤1000000):Calls Tryz.prog 309 #[v] w fun e w'=>e=.returned (.bool (ZrY (bs.map tl)))∧w=w':=by
 obtain⟨ao,cap,rfl,hlc,hcap,hnone,hsome⟩:=hv;have HL:=Za hl;clear hl;unfold maxLen at hcap
 go_enter Tryz.func309,Tryz.ntmps309
 go_wp2
 go_loop [3] (fun i=>∃k:Nat,k≤bs.length∧i=.int .i64 k∧((bs.take k).map tl).any ZbO=false) (fun i=>bs.length-(intOf i).toNat)
 case atStart=>exact⟨0,Xe _,rfl,rfl⟩
 case round=>
  obtain⟨k,hk,rfl,ha⟩:=hrel;have HA:=Za ha;clear ha
  by_cases hlt:k<bs.length
  ·obtain⟨a,ha⟩:=Zbm hlt hnone
   subst ha;obtain⟨b,off,rfl,hr⟩:=hsome a rfl;have hck:=hr.cell hlt;clear hnone hsome hr;have hz:=HL.out bs[k] (Xb hlt)
   have HS:=Za (show((bs.take (k+1)).map tl).any ZbO=ZbO (tl bs[k])by
    rw[List.take_succ_eq_append_getElem hlt,List.map_append,Xj,List.map_nil,any_snoc,HA.out,Bool.false_or])
   have HX:=Za (show ZbO (tl bs[k])=true→ZrY (bs.map tl)=true from fun h=>List.any_eq_true.2 ⟨tl bs[k],Xp.2 ⟨_,Xb hlt,rfl⟩,h⟩)
   generalize bs[k]=p at *
   by_cases h4:4≤p.size
   ·by_cases hx:tl (p.extract 0 4)=[120,110,45,45]
    ·have HH:=Za (HX.out (by unfold ZbO;rw[tl_length,←Zih p 4,hx];simp[h4]))
     have hx':=eqB hx;clear hx;go_wp2;go_ret;exact⟨Zi HH.out.symm,rfl⟩
    ·have HN:=Za (show ZbO (tl p)=false by
      unfold ZbO;rw[←Zih p 4]
      simp[hx])
     have hx':=neB hx;clear hx;go_wp2
     go_round
     case rel=>exact⟨k+1,by omega,by go_num,by rw[HS.out];exact HN.out⟩
     case measure=>simp[intOf];omega
   ·have HN:=Za (show ZbO (tl p)=false by
      unfold ZbO;rw[tl_length]
      simp[h4])
    go_wp2
    go_round
    case rel=>exact⟨k+1,by omega,by go_num,by rw[HS.out];exact HN.out⟩
    case measure=>simp[intOf];omega
  ·go_wp2
   go_ret
   exact⟨Zi (by rw[←HA.out,List.take_of_length_le (by omega)];rfl),rfl⟩
def ZdN:List UInt8:=[0,9,10,13,32,35,47,58,60,62,63,64,91,92,93,94,124]
def Zig(b:UInt8):Bool:=decide ((b.toNat:Int)<32)||(b.toNat:Int)==37||(b.toNat:Int)==127||Zx b.toNat ZdN
def plainDom(l:List UInt8):Bool:=!(l.any Zig) && !l.isEmpty
theorem ZeU(s:BA)(w:World)(hs:s.size≤maxLen):Calls Tryz.prog 310 #[.string s] w fun e w'=>e=.returned (.bool (plainDom (tl s)))∧w=w':=by
 unfold maxLen at hs
 go_enter Tryz.func310,Tryz.ntmps310
 go_wp2
 go_loop [3] (fun i=>∃k:Nat,k≤s.size∧i=.int .i64 k∧((tl s).take k).any Zig=false) (fun i=>s.size-(intOf i).toNat)
 case atStart=>exact⟨0,Xe _,rfl,rfl⟩
 case round=>
  obtain⟨k,hk,rfl,ha⟩:=hrel;have HA:=Za ha;clear ha
  by_cases hlt:k<s.size
  ·have hb:=bb s[k]
   have HY:=Za (show Zig s[k]=true→plainDom (tl s)=false from fun h=>by unfold plainDom;rw[Zhu Zig s k hlt h];rfl)
   have HN:=Za (show Zig s[k]=false→((tl s).take (k+1)).any Zig=false from fun h=>by rw[ZG s k hlt,any_snoc,HA.out,h];rfl)
   have HD:=Za (show Zig s[k]=(decide ((s[k].toNat:Int)<32)||(s[k].toNat:Int)==37||(s[k].toNat:Int)==127||Zx s[k].toNat ZdN)from rfl)
   by_cases h32:(s[k].toNat:Int)<32
   ·have HH:=Za (HY.out (by rw[HD.out];simp[h32]))
    go_wp2;go_ret;exact⟨Zi HH.out.symm,rfl⟩
   cases h37:((s[k].toNat:Int)==37)
   ·cases h127:((s[k].toNat:Int)==127)
    ·cases hA:Zx (s[k].toNat:Int) ZdN
     ·have HH:=Za (HN.out (by rw[HD.out,h37,h127,hA];simp[h32]))
      have HA2:=Za hA;clear hA
      go_wp2_with (go_at_call 194;refine(Zam _ _ _ (Zg (by decide))).mono ?_;rintro e w' ⟨rfl,rfl⟩;rw[show Zx (s[k].toNat:Int) (tl ⟨#[0,9,10,13,32,35,47,58,60,62,63,64,91,92,93,94,124]⟩)=false from HA2.out])
      go_round
      case rel=>exact⟨k+1,by omega,by go_num,HH.out⟩
      case measure=>simp[intOf];omega
     ·have HH:=Za (HY.out (by rw[HD.out,hA];simp))
      have HA2:=Za hA;clear hA
      go_wp2_with (go_at_call 194;refine(Zam _ _ _ (Zg (by decide))).mono ?_;rintro e w' ⟨rfl,rfl⟩;rw[show Zx (s[k].toNat:Int) (tl ⟨#[0,9,10,13,32,35,47,58,60,62,63,64,91,92,93,94,124]⟩)=true from HA2.out])
      go_ret;exact⟨Zi HH.out.symm,rfl⟩
    ·have HH:=Za (HY.out (by rw[HD.out,h127];simp))
     go_wp2;go_ret;exact⟨Zi HH.out.symm,rfl⟩
   ·have HH:=Za (HY.out (by rw[HD.out,h37];simp))
    go_wp2;go_ret;exact⟨Zi HH.out.symm,rfl⟩
  ·have HF:=Za (show plainDom (tl s)=!(tl s).isEmpty by
    have h:=HA.out
    rw[Zah _ _ (by omega)]at h
    unfold plainDom
    rw[h];rfl)
   by_cases h0:s.size=0
   ·have h0':=Zf h0
    have HT:=Za (Zz h0);clear h0;go_wp2;go_ret
    exact⟨Zi (by rw[HF.out,HT.out];rfl),rfl⟩
   ·have h0':=Ze h0
    have HT:=Za (show(tl s).isEmpty=false by rw[←h0',ByteArray.toList_eq];rfl)
    clear h0;go_wp2;go_ret
    exact⟨Zi (by rw[HF.out,HT.out];rfl),rfl⟩
theorem ZnE(base most:Int)(hb:0≤base)(l:LB):∀n q,0≤n→Z3 base most n l=some q→0≤q:=by
 induction l with
 | nil=>intro n q h e;rw[Z3]at e;cases e;exact h
 | cons c r ih=>
  intro n q h e;rw[Z3]at e
  split at e
  ·refine ih _ q ?_ e
   split
   ·have:=Za0 (c.toNat:Int) base
    have h2:=Xn h hb
    omega
   ·exact h
  ·cases e
theorem Zby(l:LB)(base most:Int)(hb:0≤base)(hm:0≤most):0≤(Zv l base most).1∧(Zv l base most).1≤most+1:=by
 unfold Zv
 split
 ·exact⟨Xg _,by show(0:Int)≤_;omega⟩
 ·split
  ·exact⟨Xg _,by show(0:Int)≤_;omega⟩
  ·rename_i n e
   have:=ZnE base most hb l 0 n (Xg _) e
   split
   ·exact⟨by show(0:Int)≤most+1;omega,Xg _⟩
   ·exact⟨this,by show n≤most+1;omega⟩
def ZJ(l:List UInt8):Int×Bool:=
 if l.length<2∨¬((l.getD 0 0).toNat:Int)=48 then Zv l 10 4294967295
 else if ¬((l.getD 1 0).toNat:Int)=120∧¬((l.getD 1 0).toNat:Int)=88 then Zv (l.drop 1) 8 4294967295
 else if l.length=2 then(0,true)else Zv (l.drop 2) 16 4294967295
theorem ZlT(l:LB):ZJ l=if l.length<2∨¬((l.getD 0 0).toNat:Int)=48 then Zv l 10 4294967295
 else if ¬((l.getD 1 0).toNat:Int)=120∧¬((l.getD 1 0).toNat:Int)=88 then Zv (l.drop 1) 8 4294967295
 else if l.length=2 then(0,true)else Zv (l.drop 2) 16 4294967295:=rfl
theorem Zd0(l:LB):0≤(ZJ l).1∧(ZJ l).1≤4294967296:=by
 unfold ZJ
 split
 ·exact Zby _ _ _ (by decide) (by decide)
 ·split
  ·exact Zby _ _ _ (by decide) (by decide)
  ·split
   ·exact⟨by decide,by decide⟩
   ·exact Zby _ _ _ (by decide) (by decide)
theorem Zbf(s:BA)(w:World)(hs:s.size≤1000000):Calls Tryz.prog 321 #[.string s] w fun e w'=>e=.returned (.tuple #[.int .i64 (ZJ (tl s)).1,.bool (ZJ (tl s)).2])∧w=w':=by
 have HD:=Za (ZlT (tl s));rw[tl_length]at HD
 by_cases h2:s.size<2
 ·have HE:=Za (HD.out.trans (if_pos (Or.inl h2)))
  clear HD
  go_enter Tryz.func321,Tryz.ntmps321
  go_wp2_with (go_at_call 301;refine(Z0 _ _ _ hs (by decide) (by decide)).mono ?_;rintro e w' ⟨rfl,rfl⟩)
  go_ret2;exact⟨ZfB HE.out.symm,rfl⟩
 rw[Zcp s 0 (by omega),Zcp s 1 (by omega)]at HD
 have hb0:=bb s[0];have hb1:=bb s[1]
 cases h48:((s[0].toNat:Int)==48)
 ·have h48':=Zd9 h48
  have HE:=Za (HD.out.trans (if_pos (Or.inr (by simpa using h48))))
  clear HD
  go_enter Tryz.func321,Tryz.ntmps321
  go_wp2_with (go_at_call 301;refine(Z0 _ _ _ hs (by decide) (by decide)).mono ?_;rintro e w' ⟨rfl,rfl⟩)
  go_ret2;exact⟨ZfB HE.out.symm,rfl⟩
 have h48':=Zpz h48
 have HD2:=Za (HD.out.trans (if_neg (by rintro(h|h);exact h2 h;exact h (by simpa using h48))))
 clear HD
 by_cases hx:((s[1].toNat:Int)==120)=true∨((s[1].toNat:Int)==88)=true
 ·have HD3:=Za (HD2.out.trans (if_neg (by rintro⟨ha,hb⟩;rcases hx with h|h;exact ha (by simpa using h);exact hb (by simpa using h))))
  clear HD2
  by_cases hl2:s.size=2
  ·have HE:=Za (HD3.out.trans (if_pos hl2))
   clear HD3
   have hl2':((s.size:Int)==2)=true:=by rw[hl2];rfl
   rcases hx with h|h
   ·have HL:=Za hl2
    have h':=Zpz h;clear hl2
    go_enter Tryz.func321,Tryz.ntmps321
    go_wp2;go_ret2;exact⟨ZfB (b:=ZJ (tl s)) (a:=(0,true)) HE.out.symm,rfl⟩
   ·clear hl2
    have hn:((s[1].toNat:Int)==120)=false:=by have:(s[1].toNat:Int)=88:=by simpa using h
                                              rw[this];rfl
    have hn':=Zd9 hn;have h':=Zpz h
    go_enter Tryz.func321,Tryz.ntmps321
    go_wp2;go_ret2;exact⟨ZfB (b:=ZJ (tl s)) (a:=(0,true)) HE.out.symm,rfl⟩
  ·have HE:=Za (HD3.out.trans (if_neg hl2))
   have hl2':((s.size:Int)==2)=false:=by simp;omega
   clear HD3 hl2;rcases hx with h|h
   ·have h':=Zpz h
    go_enter Tryz.func321,Tryz.ntmps321
    go_wp2_with (go_at_call 301;refine(ZbF _ _ _ (by rw[Zac];omega) (by decide) (by decide)).mono ?_;rintro e w' ⟨rfl,rfl⟩)
    go_ret2
    exact⟨ZfB (by rw[ZaE];exact HE.out.symm),rfl⟩
   ·have hn:((s[1].toNat:Int)==120)=false:=by have:(s[1].toNat:Int)=88:=by simpa using h
                                              rw[this];rfl
    have hn':=Zd9 hn;have h':=Zpz h
    go_enter Tryz.func321,Tryz.ntmps321
    go_wp2_with (go_at_call 301;refine(ZbF _ _ _ (by rw[Zac];omega) (by decide) (by decide)).mono ?_;rintro e w' ⟨rfl,rfl⟩)
    go_ret2
    exact⟨ZfB (by rw[ZaE];exact HE.out.symm),rfl⟩
 ·have hx1:((s[1].toNat:Int)==120)=false:=by cases h:((s[1].toNat:Int)==120);rfl;exact absurd (Or.inl h) hx
  have hx2:((s[1].toNat:Int)==88)=false:=by cases h:((s[1].toNat:Int)==88);rfl;exact absurd (Or.inr h) hx
  have HE:=Za (HD2.out.trans (if_pos ⟨by simpa using hx1,by simpa using hx2⟩))
  have hx1':=Zd9 hx1;have hx2':=Zd9 hx2;clear HD2 hx
  go_enter Tryz.func321,Tryz.ntmps321
  go_wp2_with (go_at_call 301;refine(ZjD _ _ _ (by rw[Zac];omega) (by decide) (by decide)).mono ?_;rintro e w' ⟨rfl,rfl⟩)
  go_ret2
  exact⟨ZfB (by rw[ZaE];exact HE.out.symm),rfl⟩
def noEnd(bs:List ByteArray):List ByteArray:=if 1<bs.length∧tl (bs.getD (bs.length-1) ⟨#[]⟩)=[]then bs.take (bs.length-1)else bs
def ZdQ(ps:List (List UInt8)):List (List UInt8):=if 1<ps.length∧ps.getD (ps.length-1) []=[]then ps.take (ps.length-1)else ps
theorem ZhA{bs:LA}{k:Nat}(h:k<bs.length):bs.getD k ⟨#[]⟩=bs[k]:=by rw[Xd,List.getElem?_eq_getElem h];rfl
theorem map_getDk(bs:LA)(k:Nat):(bs.map tl).getD k []=tl (bs.getD k ⟨#[]⟩):=by
 rw[Xd,Xd,List.getElem?_map]
 cases bs[k]? <;> rfl
theorem ZnF(bs:LA):(noEnd bs).map tl=ZdQ (bs.map tl):=by
 unfold noEnd ZdQ;rw[Xa,map_getDk]
 split
 ·rw[List.map_take]
 ·rfl
theorem ZnG{bs:LA}{b:BA}(h:b∈noEnd bs):b∈bs:=by
 unfold noEnd at h
 split at h
 ·exact List.mem_of_mem_take h
 ·exact h
theorem ZnH(v:Value)(bs:LA)(w:World)(hv:ZbU w v bs):Calls Tryz.prog 311 #[v] w fun e w'=>∃v',e=.returned v'∧ZbU w v' (noEnd bs)∧w=w':=by
 have HV:=Za hv;obtain⟨ao,cap,rfl,hlc,hcap,hnone,hsome⟩:=hv;have HCAP:=Za hcap;unfold maxLen at hcap
 by_cases h1:1<bs.length
 ·obtain⟨a,ha⟩:=Zbm (k:=0) (by omega) hnone
  subst ha;obtain⟨b,off,rfl,hr⟩:=hsome a rfl
  have hck:=hr.cell (i:=bs.length-1) (by omega)
  have HT:=Za (Znd hr hlc HCAP.out (bs.length-1) (by omega))
  have hz:bs.length-1<bs.length:=by omega
  clear hnone hsome hr
  by_cases hz0:(bs[bs.length-1]'hz).size=0
  ·have HE:=Za (show noEnd bs=bs.take (bs.length-1)by unfold noEnd;rw[if_pos ⟨h1,by rw[ZhA hz,Zz hz0]⟩])
   have hz':=Zf hz0;clear hz0
   go_enter Tryz.func311,Tryz.ntmps311
   go_wp2;go_ret
   exact⟨_,rfl,by rw[HE.out];exact HT.out,rfl⟩
  ·have HE:=Za (show noEnd bs=bs by unfold noEnd;rw[if_neg (by rintro⟨-,h⟩;rw[ZhA hz]at h;exact ZcC hz0 h)])
   have hz':=Ze hz0;clear hz0
   go_enter Tryz.func311,Tryz.ntmps311
   go_wp2;go_ret
   exact⟨_,rfl,by rw[HE.out];exact HV.out,rfl⟩
 ·have HE:=Za (show noEnd bs=bs by unfold noEnd;rw[if_neg (fun h=>h1 h.1)])
  clear hnone hsome
  go_enter Tryz.func311,Tryz.ntmps311
  go_wp2;go_ret
  exact⟨_,rfl,by rw[HE.out];exact HV.out,rfl⟩
def ZbP(ps:List (List UInt8)):Bool:=if ps.length=0 then false else(Zv (ps.getD (ps.length-1) []) 10 4294967295).2||(ZJ (ps.getD (ps.length-1) [])).2
theorem Zd1(v:Value)(bs:LA)(w:World)(hv:ZbU w v bs)(hl:∀b∈bs,b.size≤1000000):Calls Tryz.prog 312 #[v] w fun e w'=>e=.returned (.bool (ZbP (bs.map tl)))∧w=w':=by
 obtain⟨ao,cap,rfl,hlc,hcap,hnone,hsome⟩:=hv;unfold maxLen at hcap;rcases Nat.eq_zero_or_pos bs.length with h0|hpos
 ·have HE:=Za (show ZbP (bs.map tl)=false by unfold ZbP;rw[Xa,if_pos h0])
  have h0':((bs.length:Int)==0)=true:=by rw[h0];rfl
  clear h0 hnone hsome hl
  go_enter Tryz.func312,Tryz.ntmps312
  go_wp2;go_ret;exact⟨Zi HE.out.symm,rfl⟩
 ·obtain⟨a,ha⟩:=Zbm (k:=0) hpos hnone
  subst ha;obtain⟨b,off,rfl,hr⟩:=hsome a rfl
  have hz:bs.length-1<bs.length:=by omega
  have hck:=hr.cell (i:=bs.length-1) hz;have hsz:=hl _ (Xb hz)
  have HE:=Za (show ZbP (bs.map tl)=((Zv (tl (bs[bs.length-1]'hz)) 10 4294967295).2||(ZJ (tl (bs[bs.length-1]'hz))).2)by
   unfold ZbP;rw[Xa,if_neg (by omega),map_getDk,ZhA hz])
  have h0':((bs.length:Int)==0)=false:=beq_eq_false_iff_ne.2 (by omega)
  clear hnone hsome hr hl;generalize bs[bs.length-1]'hz=p at *
  cases hA:(Zv (tl p) 10 4294967295).2
  ·have HA:=Za hA
   clear hA
   go_enter Tryz.func312,Tryz.ntmps312
   go_wp2_with (first|(go_at_call 301;refine(Z0 _ _ _ hsz (by decide) (by decide)).mono ?_;rintro e w' ⟨rfl,rfl⟩;rw[HA.out])|(go_at_call 321;refine(Zbf _ _ hsz).mono ?_;rintro e w' ⟨rfl,rfl⟩))
   go_ret
   exact⟨Zi (by rw[HE.out,HA.out];rfl),rfl⟩
  ·have HA:=Za hA
   clear hA
   go_enter Tryz.func312,Tryz.ntmps312
   go_wp2_with (first|(go_at_call 301;refine(Z0 _ _ _ hsz (by decide) (by decide)).mono ?_;rintro e w' ⟨rfl,rfl⟩;rw[HA.out])|(go_at_call 321;refine(Zbf _ _ hsz).mono ?_;rintro e w' ⟨rfl,rfl⟩))
   go_ret
   exact⟨Zi (by rw[HE.out,HA.out];rfl),rfl⟩
def Zch:List (List UInt8)→Int→Int→Int×Bool
 | [],_,value=>(value,true)
 | p::r,room,value=>
  if(ZJ p).2=false then(0,false)else
  if room≤(ZJ p).1∨(r≠[]∧255<(ZJ p).1)then(0,false)else
  if r≠[]then Zch r (room/256) (value+(ZJ p).1*(room/256))else Zch r room (value+(ZJ p).1)
def ip4(ps:List (List UInt8)):Int×Bool:=if ps.length=0∨4<ps.length then(0,false)else Zch ps 4294967296 0
theorem ZpN(bs:LA)(k:Nat)(h:k<bs.length)(room value:Int):Zch ((bs.drop k).map tl) room value =
  if(ZJ (tl bs[k])).2=false then(0,false)else
  if room≤(ZJ (tl bs[k])).1∨(k+1<bs.length∧255<(ZJ (tl bs[k])).1)then(0,false)else
  if k+1<bs.length then Zch ((bs.drop (k+1)).map tl) (room/256) (value+(ZJ (tl bs[k])).1*(room/256))else Zch ((bs.drop (k+1)).map tl) room (value+(ZJ (tl bs[k])).1):=by
 rw[Xh h,Xj,Zch]
 have hr:((bs.drop (k+1)).map tl≠[])↔k+1<bs.length:=by
  constructor
  ·intro hn
   rcases Nat.lt_or_ge (k+1) bs.length with h|h
   ·exact h
   ·rw[Xf h]at hn;exact absurd rfl hn
  ·intro hlt hn
   have:=congrArg List.length hn;rw[Xa,Xk]at this
   simp at this
   omega
 simp only[hr]
theorem ZnI(v:Value)(bs:LA)(w:World)(hv:ZbU w v bs)(hl:∀b∈bs,b.size≤1000000):Calls Tryz.prog 313 #[v] w fun e w'=>e=.returned (.tuple #[.int .i64 (ip4 (bs.map tl)).1,.bool (ip4 (bs.map tl)).2])∧w=w':=by
 obtain⟨ao,cap,rfl,hlc,hcap,hnone,hsome⟩:=hv;unfold maxLen at hcap;have HL:=Za hl;clear hl
 by_cases hbad:bs.length=0∨4<bs.length
 ·have HE:=Za (show ip4 (bs.map tl)=(0,false)by unfold ip4;rw[Xa,if_pos hbad])
  clear hnone hsome;rcases hbad with h0|h4
  ·have h0':((bs.length:Int)==0)=true:=by rw[h0];rfl
   clear h0
   go_enter Tryz.func313,Tryz.ntmps313
   go_wp2;go_ret2
   exact⟨by rw[HE.out];rfl,rfl⟩
  ·have h0':((bs.length:Int)==0)=false:=beq_eq_false_iff_ne.2 (by omega)
   go_enter Tryz.func313,Tryz.ntmps313
   go_wp2;go_ret2
   exact⟨by rw[HE.out];rfl,rfl⟩
 ·have hpos:0<bs.length:=by omega
  have h4:bs.length≤4:=by omega
  have HE:=Za (show ip4 (bs.map tl)=Zch ((bs.drop 0).map tl) 4294967296 0 by unfold ip4;rw[Xa,if_neg hbad];rfl)
  clear hbad
  have h0':((bs.length:Int)==0)=false:=beq_eq_false_iff_ne.2 (by omega)
  obtain⟨a,ha⟩:=Zbm (k:=0) hpos hnone;subst ha;obtain⟨b,off,rfl,hr⟩:=hsome a rfl;have HR:=Za hr;clear hnone hsome hr
  go_enter Tryz.func313,Tryz.ntmps313
  go_wp2
  go_loop [4,5,6] (fun x r i=>∃(k:Nat) (value room:Int),k≤bs.length∧i=.int .i64 k∧x=.int .i64 value∧r=.int .i64 room∧0≤value∧value≤k*4294967296∧0≤room∧room≤4294967296∧ip4 (bs.map tl)=Zch ((bs.drop k).map tl) room value) (fun _ _ i=>bs.length-(intOf i).toNat)
  case atStart=>exact⟨0,0,4294967296,Xe _,rfl,rfl,rfl,by omega,by omega,by omega,by omega,HE.out⟩
  case round=>
   obtain⟨k,value,room,hk,rfl,rfl,rfl,hv0,hv1,hr0,hr1,hE⟩:=hrel
   by_cases hlt:k<bs.length
   ·have hck:=HR.out.cell hlt
    have hsz:=HL.out _ (Xb hlt);rw[ZpN bs k hlt]at hE;have hrn:=Zd0 (tl bs[k]);have HE2:=Za hE;clear hE;generalize bs[k]=p at *;generalize hq:ZJ (tl p)=q at *;have HQ:=Za hq;clear hq;obtain⟨n,ok⟩:=q;simp only at HE2 hrn;obtain⟨hn0,hn1⟩:=hrn
    cases ok
    ·have HF:=Za (HE2.out.trans (if_pos rfl))
     clear HE2
     go_wp2_with (go_at_call 321;refine(Zbf _ _ hsz).mono ?_;rintro e w' ⟨rfl,rfl⟩;rw[HQ.out])
     go_ret2
     exact⟨by rw[HF.out];rfl,rfl⟩
    ·have HF:=Za (HE2.out.trans (if_neg (by decide)))
     clear HE2
     by_cases hb:room≤n∨(k+1<bs.length∧255<n)
     ·have HG:=Za (HF.out.trans (if_pos hb))
      clear HF
      by_cases hrn:room≤n
      ·clear hb
       go_wp2_with (go_at_call 321;refine(Zbf _ _ hsz).mono ?_;rintro e w' ⟨rfl,rfl⟩;rw[HQ.out])
       all_goals go_ret2
       all_goals exact⟨by rw[HG.out];rfl,rfl⟩
      ·have hb2:k+1<bs.length∧255<n:=by
        rcases hb with h|h
        ·exact absurd h hrn
        ·exact h
       obtain⟨hb3,hb4⟩:=hb2
       have hlast:((k:Int)==(bs.length:Int)-1)=false:=beq_eq_false_iff_ne.2 (by omega)
       clear hb
       go_wp2_with (go_at_call 321;refine(Zbf _ _ hsz).mono ?_;rintro e w' ⟨rfl,rfl⟩;rw[HQ.out])
       all_goals go_ret2
       all_goals exact⟨by rw[HG.out];rfl,rfl⟩
     ·have HG:=Za (HF.out.trans (if_neg hb))
      clear HF
      have hrn:¬room≤n:=fun h=>hb (Or.inl h)
      by_cases hm:k+1<bs.length
      ·have hn255:¬255<n:=fun h=>hb (Or.inr ⟨hm,h⟩)
       have HH:=Za (HG.out.trans (if_pos hm))
       have hlast:((k:Int)==(bs.length:Int)-1)=false:=beq_eq_false_iff_ne.2 (by omega)
       clear hb HG
       have hd0:0≤room/256:=by omega
       have hd1:room/256≤16777216:=by omega
       have hm0:0≤n*(room/256):=Xn hn0 hd0
       have hm1:n*(room/256)≤255*16777216:=Int.mul_le_mul (by omega) hd1 hd0 (by decide)
       have HDV:=Za (show Int.tdiv room 256=room/256 from Xi hr0)
       go_wp2_with (go_at_call 321;refine(Zbf _ _ hsz).mono ?_;rintro e w' ⟨rfl,rfl⟩;rw[HQ.out])
       go_round
       case rel=>exact⟨k+1,value+n*(room/256),room/256,by omega,by go_num,by go_num,by go_num,by omega,by omega,by omega,by omega,HH.out⟩
       case measure=>simp[intOf];omega
      ·have HH:=Za (HG.out.trans (if_neg hm))
       have hlast:((k:Int)==(bs.length:Int)-1)=true:=by rw[beq_iff_eq];omega
       clear hb HG
       go_wp2_with (go_at_call 321;refine(Zbf _ _ hsz).mono ?_;rintro e w' ⟨rfl,rfl⟩;rw[HQ.out])
       go_round
       case rel=>exact⟨k+1,value+n,room,by omega,by go_num,by go_num,rfl,by omega,by omega,by omega,by omega,HH.out⟩
       case measure=>simp[intOf];omega
   ·have HF:=Za (show ip4 (bs.map tl)=(value,true)by rw[hE,Xf (by omega)];rfl)
    clear hE;go_wp2;go_ret2
    exact⟨by rw[HF.out];rfl,rfl⟩
structure But (gb:Nat) (w w':World):Prop where
 os:w'.os=w.os
 tape:w'.tape=w.tape
 output:w'.output=w.output
 size:w.heap.size≤w'.heap.size
 block:∀k,k<w.heap.size→k≠gb→w'.heap[k]?=w.heap[k]?
theorem But.refl(gb:Nat)(w:World):But gb w w:=⟨rfl,rfl,rfl,Nat.le_refl _,fun _ _ _=>rfl⟩
theorem But.then{gb:Nat}{a b c:World}(h:But gb a b)(k:But gb b c):But gb a c:=
 ⟨k.os.trans h.os,k.tape.trans h.tape,k.output.trans h.output,Xq h.size k.size,fun i hi hn=>(k.block i (Nat.lt_of_lt_of_le hi h.size) hn).trans (h.block i hi hn)⟩
theorem But.nx{gb:Nat}{a b:World}(h:Nx a b):But gb a b:=⟨h.os,h.tape,h.output,h.size,fun k hk _=>h.block k hk⟩
theorem But.set{gb:Nat}{a b:World}(h:But gb a b)(i:Nat)(u:Value):But gb a (b.setCell ⟨gb,i,none⟩ u):=
 h.then ⟨rfl,rfl,rfl,by simp[World.setCell],fun k _ hk=>Below.heap_setCell _ _ _ _ hk⟩
theorem But.drew{gb:Nat}{a w:World}(h:But gb a w):But gb a w.drew:=⟨h.os,h.tape,h.output,h.size,h.block⟩
theorem But.below{gb B:Nat}{a w:World}(h:But gb a w)(h1:B≤gb)(h2:B≤a.heap.size):Below B a w:=⟨h.os,h.tape,h.output,h.size,fun k hk=>h.block k (by omega) (by omega)⟩
theorem RowAt.but{α:Type}{e:TypeId}{f:α→Value}{w w':World}{b off gb:Nat}{l:List α}(h:RowAt e f w b off l)(hb:But gb w w')(hn:b≠gb):RowAt e f w' b off l:=by obtain⟨cs,fz,hh,hc⟩:=h;exact⟨cs,fz,(hb.block b (Xc.1 hh).1 hn).trans hh,hc⟩
def GrpAt(w:World)(gb:Nat)(ns:List Int)(n:Nat):Prop:=w.heap[gb]?=some (Obj.cells (ns.map (Value.int .i64)++[Value.int .i64 (n:Int)]).toArray 265 (0,0))∧ns.length=8
theorem GrpAt.on{w w':World}{gb n:Nat}{ns:LI}(h:GrpAt w gb ns n)(hb:Nx w w'):GrpAt w' gb ns n:=
 ⟨(hb.block gb (Xc.1 h.1).1).trans h.1,h.2⟩
theorem GrpAt.but{w w':World}{gb q n:Nat}{ns:LI}(h:GrpAt w gb ns n)(hb:But q w w')(hn:gb≠q):GrpAt w' gb ns n:=
 ⟨(hb.block gb (Xc.1 h.1).1 hn).trans h.1,h.2⟩
theorem GrpAt.cell{w:World}{gb n:Nat}{ns:LI}(h:GrpAt w gb ns n){i:Nat}(hi:i<ns.length):w.cell? ⟨gb,i,none⟩=some (.int .i64 ns[i]):=by
 have h1:=h.1
 simp[World.cell?,h1,List.getElem?_append,hi]
theorem GrpAt.count{w:World}{gb n:Nat}{ns:LI}(h:GrpAt w gb ns n):w.cell? ⟨gb,8,none⟩=some (.int .i64 (n:Int)):=by
 have h1:=h.1;have h2:=h.2
 simp[World.cell?,h1,h2]
theorem GrpAt.free{w:World}{gb n:Nat}{ns:LI}(h:GrpAt w gb ns n)(i:Nat):w.frozen? ⟨gb,i,none⟩=false:=by
 have h1:=h.1
 simp[World.frozen?,h1]
theorem GrpAt.add{w:World}{gb n:Nat}{ns:LI}(h:GrpAt w gb ns n)(hn:n<8)(x:Int):GrpAt ((w.setCell ⟨gb,n,none⟩ (.int .i64 x)).setCell ⟨gb,8,none⟩ (.int .i64 ((n:Int)+1))) gb (ns.set n x) (n+1):=by
 obtain⟨h1,h2⟩:=h
 refine⟨?_,by rw[List.length_set];exact h2⟩
 simp only[World.setCell,Array.getElem?_modify,if_pos,h1]
 simp[List.map_set,h2,hn]
def Zfj(g:List Int×Nat)(x:Int):(List Int×Nat)×Bool:=if g.2<8 then((g.1.set g.2 x,g.2+1),true)else(g,false)
theorem Zfk(g:LI×Nat)(x:Int):(Zfj g x).1.1.length=g.1.length:=by unfold Zfj;split<;>simp
theorem ZhB(g:LI×Nat)(x:Int)(h:g.2≤8):(Zfj g x).1.2≤8:=by unfold Zfj;split<;>simp<;>omega
theorem ZhC(gb:Nat)(g:LI×Nat)(x:Int)(w:World)(h:GrpAt w gb g.1 g.2):Calls Tryz.prog 325 #[.pointer (some ⟨gb,0,none⟩),.int .i64 x] w fun e w'=>e=.returned (.bool (Zfj g x).2)∧GrpAt w' gb (Zfj g x).1.1 (Zfj g x).1.2∧But gb w w':=by
 obtain⟨ns,n⟩:=g;simp only at *;have hl:=h.2;have hc8:=h.count;have hf8:=h.free 8;have HG:=Za h
 by_cases hn:n<8
 ·have HE:=Za (show Zfj (ns,n) x=((ns.set n x,n+1),true)from if_pos hn)
  have hnl:n<ns.length:=by omega
  have hcn:=h.cell (i:=n) hnl;have hfn:=h.free n;have HA:=Za (h.add hn x);have HB:=Za (((But.refl gb w).set n (.int .i64 x)).set 8 (.int .i64 ((n:Int)+1)))
  have hne:(n:Int)≤7:=by omega
  have HL:=Za hl
  have hz:n≠8:=by omega
  clear h hl
  go_enter Tryz.func325,Tryz.ntmps325
  go_wp2
  go_region
  all_goals go_wp2
  all_goals go_ret
  all_goals rw[HE.out]
  all_goals exact⟨rfl,HA.out,HB.out.drew⟩
 ·have HE:=Za (show Zfj (ns,n) x=((ns,n),false)from if_neg hn)
  have hne:8≤(n:Int):=by omega
  clear h hl
  go_enter Tryz.func325,Tryz.ntmps325
  go_wp2;go_ret;rw[HE.out];exact⟨rfl,HG.out,But.refl _ _⟩
def ZfI(l:List UInt8):Int×Bool:=if(Zv l 10 255).2=false∨255<(Zv l 10 255).1∨(1<l.length∧((l.getD 0 0).toNat:Int)=48)then(0,false)else((Zv l 10 255).1,true)
theorem Zit(l:LB):0≤(ZfI l).1∧(ZfI l).1≤255:=by
 unfold ZfI
 have:=Zby l 10 255 (by decide) (by decide)
 split
 ·exact⟨by decide,by decide⟩
 ·rename_i h
  exact⟨this.1,Int.not_lt.1 (fun hh=>h (Or.inr (Or.inl hh)))⟩
theorem ZpO(l:LB):ZfI l=if(Zv l 10 255).2=false∨255<(Zv l 10 255).1∨(1<l.length∧((l.getD 0 0).toNat:Int)=48)then(0,false)else((Zv l 10 255).1,true):=rfl
theorem Ziu(s:BA)(w:World)(hs:s.size≤1000000):Calls Tryz.prog 324 #[.string s] w fun e w'=>e=.returned (.tuple #[.int .i64 (ZfI (tl s)).1,.bool (ZfI (tl s)).2])∧w=w':=by
 have HD:=Za (ZpO (tl s));rw[tl_length]at HD
 have hrn:=Zby (tl s) 10 255 (by decide) (by decide)
 generalize hq:Zv (tl s) 10 255=q at *;have HQ:=Za hq;clear hq;obtain⟨n,ok⟩:=q;simp only at HD hrn;obtain⟨hn0,hn1⟩:=hrn
 cases ok
 ·have HE:=Za (HD.out.trans (if_pos (Or.inl rfl)))
  clear HD
  go_enter Tryz.func324,Tryz.ntmps324
  go_wp2_with (go_at_call 301;refine(Z0 _ _ _ hs (by decide) (by decide)).mono ?_;rintro e w' ⟨rfl,rfl⟩;rw[HQ.out])
  go_ret2
  exact⟨by rw[HE.out];rfl,rfl⟩
 ·by_cases h255:255<n
  ·have HE:=Za (HD.out.trans (if_pos (Or.inr (Or.inl h255))))
   clear HD
   go_enter Tryz.func324,Tryz.ntmps324
   go_wp2_with (go_at_call 301;refine(Z0 _ _ _ hs (by decide) (by decide)).mono ?_;rintro e w' ⟨rfl,rfl⟩;rw[HQ.out])
   go_ret2
   exact⟨by rw[HE.out];rfl,rfl⟩
  ·by_cases h1:1<s.size
   ·have hb0:=bb s[0]
    rw[Zcp s 0 (by omega)]at HD
    cases h48:((s[0].toNat:Int)==48)
    ·have HE:=Za (HD.out.trans (if_neg (by rintro(h|h|⟨-,h⟩);cases h;exact h255 h;rw[h]at h48;cases h48)))
     clear HD
     go_enter Tryz.func324,Tryz.ntmps324
     go_wp2_with (go_at_call 301;refine(Z0 _ _ _ hs (by decide) (by decide)).mono ?_;rintro e w' ⟨rfl,rfl⟩;rw[HQ.out])
     go_ret2
     exact⟨by rw[HE.out];rfl,rfl⟩
    ·have HE:=Za (HD.out.trans (if_pos (Or.inr (Or.inr ⟨h1,by simpa using h48⟩))))
     clear HD
     go_enter Tryz.func324,Tryz.ntmps324
     go_wp2_with (go_at_call 301;refine(Z0 _ _ _ hs (by decide) (by decide)).mono ?_;rintro e w' ⟨rfl,rfl⟩;rw[HQ.out])
     go_ret2
     exact⟨by rw[HE.out];rfl,rfl⟩
   ·have HE:=Za (HD.out.trans (if_neg (by rintro(h|h|⟨h,-⟩);cases h;exact h255 h;exact h1 h)))
    clear HD
    go_enter Tryz.func324,Tryz.ntmps324
    go_wp2_with (go_at_call 301;refine(Z0 _ _ _ hs (by decide) (by decide)).mono ?_;rintro e w' ⟨rfl,rfl⟩;rw[HQ.out])
    go_ret2
    exact⟨by rw[HE.out];rfl,rfl⟩
def Zbi(g:List Int×Nat)(l:List UInt8):(List Int×Nat)×Bool:=if(Zv l 16 65535).2=false∨4<l.length then(g,false)else Zfj g (Zv l 16 65535).1
theorem Zex(gb:Nat)(g:LI×Nat)(s:BA)(w:World)(h:GrpAt w gb g.1 g.2)(hs:s.size≤1000000):Calls Tryz.prog 323 #[.pointer (some ⟨gb,0,none⟩),.string s] w fun e w'=>e=.returned (.bool (Zbi g (tl s)).2)∧GrpAt w' gb (Zbi g (tl s)).1.1 (Zbi g (tl s)).1.2∧But gb w w':=by
 have HG:=Za h;clear h
 have HD:=Za (show Zbi g (tl s)=if(Zv (tl s) 16 65535).2=false∨4<s.size then(g,false)else Zfj g (Zv (tl s) 16 65535).1 by rw[←tl_length];rfl)
 generalize hq:Zv (tl s) 16 65535=q at *;have HQ:=Za hq;clear hq;obtain⟨n,ok⟩:=q;simp only at HD
 cases ok
 ·have HE:=Za (HD.out.trans (if_pos (Or.inl rfl)))
  clear HD
  go_enter Tryz.func323,Tryz.ntmps323
  go_wp2_with (go_at_call 301;refine(ZbF _ _ _ hs (by decide) (by decide)).mono ?_;rintro e w' ⟨rfl,rfl⟩;rw[HQ.out])
  go_ret;rw[HE.out];exact⟨rfl,HG.out,But.refl _ _⟩
 ·by_cases h4:4<s.size
  ·have HE:=Za (HD.out.trans (if_pos (Or.inr h4)))
   clear HD
   go_enter Tryz.func323,Tryz.ntmps323
   go_wp2_with (go_at_call 301;refine(ZbF _ _ _ hs (by decide) (by decide)).mono ?_;rintro e w' ⟨rfl,rfl⟩;rw[HQ.out])
   go_ret;rw[HE.out];exact⟨rfl,HG.out,But.refl _ _⟩
  ·have HE:=Za (HD.out.trans (if_neg (by rintro(h|h);cases h;exact h4 h)))
   clear HD
   go_enter Tryz.func323,Tryz.ntmps323
   go_wp2_with (first|(go_at_call 301;refine(ZbF _ _ _ hs (by decide) (by decide)).mono ?_;rintro e w' ⟨rfl,rfl⟩;rw[HQ.out])|(go_at_call 325;refine(ZhC gb g _ _ HG.out).mono ?_;rintro e w1 ⟨rfl,h1,h2⟩;have H1:=Za h1;have H2:=Za h2;clear h1 h2))
   go_ret;rw[HE.out];exact⟨rfl,H1.out,H2.out⟩
def Zm9:Int→List (List UInt8)→Option Int
 | v,[]=>some v
 | v,p::r=>if(ZfI p).2=true then Zm9 (v*256+(ZfI p).1) r else none
def Zbj(g:List Int×Nat)(l:List UInt8):(List Int×Nat)×Bool:=
 if(bsplit 46 l).length≠4 then(g,false)else
 match Zm9 0 (bsplit 46 l)with
 | none=>(g,false)
 | some v=>if(Zfj g (v/65536)).2=false then((Zfj g (v/65536)).1,false)else Zfj (Zfj g (v/65536)).1 (v%65536)
theorem ZjM{g:LI×Nat}{l:LB}(h:Zm9 0 (bsplit 46 l)=none):Zbj g l=(g,false):=by unfold Zbj;rw[h];split<;>rfl
theorem ZjN{g:LI×Nat}{l:LB}{v:Int}(h4:(bsplit 46 l).length=4)(h:Zm9 0 (bsplit 46 l)=some v):Zbj g l=if(Zfj g (v/65536)).2=false then((Zfj g (v/65536)).1,false)else Zfj (Zfj g (v/65536)).1 (v%65536):=by unfold Zbj;rw[if_neg (fun hh=>hh h4),h]
theorem ZrZ(bs:LA)(k:Nat)(h:k<bs.length)(v:Int):Zm9 v ((bs.drop k).map tl)=if(ZfI (tl bs[k])).2=true then Zm9 (v*256+(ZfI (tl bs[k])).1) ((bs.drop (k+1)).map tl)else none:=by rw[Xh h,Xj,Zm9]
theorem Zd2{n:Int}{s:BA}{bs:LA}(h:bs.map tl=bsplit n (tl s)):∀b∈bs,b.size≤s.size:=by
 have key:∀l:LB,∀p∈bsplit n l,p.length≤l.length:=by
  intro l
  induction l with
  | nil=>intro p hp;rw[bsplit]at hp;simp at hp;subst hp;simp
  | cons c r ih=>
   intro p hp;rw[bsplit]at hp
   split at hp
   ·rcases Xo.1 hp with rfl|hp
    ·simp
    ·have:=ih p hp;simp;omega
   ·obtain⟨x,q,hx⟩:=Zb7 n r
    rw[hx]at hp ih;simp only at hp;rcases Xo.1 hp with rfl|hp
    ·have:=ih x (List.mem_cons_self ..);simp;omega
    ·have:=ih p (List.mem_cons_of_mem _ hp);simp;omega
 intro b hb
 have h1:=key (tl s) (tl b) (by rw[←h];exact Xp.2 ⟨b,hb,rfl⟩)
 rw[tl_length,tl_length]at h1;exact h1
theorem ZlU(gb:Nat)(g:LI×Nat)(s:BA)(w:World)(h:GrpAt w gb g.1 g.2)(hs:s.size≤1000000):Calls Tryz.prog 322 #[.pointer (some ⟨gb,0,none⟩),.string s] w fun e w'=>e=.returned (.bool (Zbj g (tl s)).2)∧GrpAt w' gb (Zbj g (tl s)).1.1 (Zbj g (tl s)).1.2∧But gb w w':=by
 have HG:=Za h;clear h
 go_enter Tryz.func322,Tryz.ntmps322
 go_wp2_with fail
 refine(Zda s 46 w hs).mono ?_
 rintro e w1 ⟨v,bs,rfl,hv,hbs,hn⟩;have HG1:=Za (HG.out.on hn);have HB1:=Za (show But gb w w1 from But.nx hn);have HBS:=Za hbs
 have HSZ:=Za (show ∀b∈bs,b.size≤1000000 from fun b hb=>Xq (Zd2 hbs b hb) hs)
 have HLEN:=Za (show(bsplit 46 (tl s)).length=bs.length by rw[←hbs,Xa])
 clear hbs hn HG;obtain⟨ao,cap,rfl,hlc,hcap,hnone,hsome⟩:=hv;unfold maxLen at hcap
 by_cases h4:bs.length=4
 ·have hne:((bs.length:Int) != 4)=false:=by rw[h4];rfl
  have hpos:0<bs.length:=by omega
  have hle:bs.length≤4:=by omega
  have H4:=Za h4;obtain⟨a,ha⟩:=Zbm (k:=0) hpos hnone;subst ha;obtain⟨b,off,rfl,hr⟩:=hsome a rfl;have HR:=Za hr;clear hnone hsome hr h4;go_wp2
  go_loop [6,7] (fun x i=>∃(k:Nat) (val:Int),k≤bs.length∧i=.int .i64 k∧x=.int .i64 val∧0≤val∧val≤4294967295∧(k≤3→val≤16777215)∧(k≤2→val≤65535)∧(k≤1→val≤255)∧(k=0→val=0)∧Zm9 0 (bs.map tl)=Zm9 val ((bs.drop k).map tl)) (fun _ i=>bs.length-(intOf i).toNat)
  case atStart=>exact⟨0,0,Xe _,rfl,rfl,by omega,by omega,by omega,by omega,by omega,by omega,rfl⟩
  case round=>
   obtain⟨k,val,hk,rfl,rfl,hv0,hv1,hv2,hv3,hv4,hv5,hE⟩:=hrel;have HV:=Za (And.intro hv2 (And.intro hv3 (And.intro hv4 hv5)));clear hv2 hv3 hv4 hv5
   by_cases hlt:k<bs.length
   ·have hck:=HR.out.cell hlt
    have hsz:=HSZ.out _ (Xb hlt);have hrn:=Zit (tl bs[k]);rw[ZrZ bs k hlt]at hE;have HE2:=Za hE;clear hE
    have hval:val≤16777215:=HV.out.1 (by omega)
    generalize bs[k]=p at *;generalize hq:ZfI (tl p)=q at *;have HQ:=Za hq;clear hq;obtain⟨n,ok⟩:=q;simp only at HE2 hrn;obtain⟨hn0,hn1⟩:=hrn
    cases ok
    ·have HF:=Za (ZjM (g:=g) (l:=tl s) (by rw[←HBS.out];exact HE2.out.trans (if_neg (by decide))))
     clear HE2
     go_wp2_with (go_at_call 324;refine(Ziu _ _ hsz).mono ?_;rintro e w' ⟨rfl,rfl⟩;rw[HQ.out])
     go_ret;rw[HF.out];exact⟨rfl,HG1.out,HB1.out⟩
    ·have HF:=Za (HE2.out.trans (if_pos rfl))
     clear HE2
     go_wp2_with (go_at_call 324;refine(Ziu _ _ hsz).mono ?_;rintro e w' ⟨rfl,rfl⟩;rw[HQ.out])
     go_round
     case rel=>
      obtain⟨g1,g2,g3,g4⟩:=HV.out
      exact⟨k+1,val*256+n,by omega,by go_num,by go_num,by omega,by omega,by intro h;have:=g2 (by omega);omega,by intro h;have:=g3 (by omega);omega,by intro h;have:=g4 (by omega);omega,by omega,HF.out⟩
     case measure=>simp[intOf];omega
   ·have HF:=Za (ZjN (g:=g) (l:=tl s) (v:=val) (by rw[HLEN.out];exact H4.out) (by rw[←HBS.out,hE,Xf (by omega)];rfl))
    clear hE;have HDV:=Za (show Int.tdiv val 65536=val/65536 from Xi hv0);have HMV:=Za (show Int.tmod val 65536=val%65536 from Int.tmod_eq_emod_of_nonneg hv0);go_wp2_with fail
    refine(ZhC gb g _ _ HG1.out).mono ?_
    rintro e w2 ⟨rfl,h1,h2⟩
    try rw[HDV.out]at *
    generalize Zfj g (val/65536)=a1 at *;obtain⟨g1,ok1⟩:=a1;simp only at *;have HG2:=Za h1;have HB2:=Za (HB1.out.then h2);clear h1 h2
    cases ok1
    ·have HH:=Za (HF.out.trans (if_pos rfl))
     clear HF;go_wp2;go_ret;rw[HH.out];exact⟨rfl,HG2.out,HB2.out⟩
    ·have HH:=Za (HF.out.trans (if_neg (by decide)))
     clear HF;go_wp2_with fail
     refine(ZhC gb g1 _ _ HG2.out).mono ?_
     rintro e w3 ⟨rfl,h1,h2⟩
     try rw[HMV.out]at *
     have HG3:=Za h1;have HB3:=Za (HB2.out.then h2);clear h1 h2;go_wp2;go_ret;rw[HH.out];exact⟨rfl,HG3.out,HB3.out⟩
 ·have hne:((bs.length:Int) != 4)=true:=Zd9 (beq_eq_false_iff_ne.2 (by omega))
  have HF:=Za (show Zbj g (tl s)=(g,false)by unfold Zbj;rw[if_pos (by rw[HLEN.out];exact h4)])
  clear hnone hsome;go_wp2;go_ret;rw[HF.out];exact⟨rfl,HG1.out,HB1.out⟩
def cutGap:List UInt8→List UInt8×List UInt8×Bool
 | []=>([],[],false)
 | [_]=>([],[],false)
 | c::d::r=>if c=58∧d=58 then([],r,true)else if(cutGap (d::r)).2.2=true then(c::(cutGap (d::r)).1,(cutGap (d::r)).2.1,true)else([],[],false)
theorem Ziv{l:LB}(h:l.length≤1):cutGap l=([],[],false):=by
 match l,h with
 | [],_=>rfl
 | [_],_=>rfl
def Zgr(l:List UInt8)(k:Nat):Prop:=cutGap l=if(cutGap (l.drop k)).2.2=true then(l.take k++(cutGap (l.drop k)).1,(cutGap (l.drop k)).2.1,true)else([],[],false)
theorem Ziw{l:LB}(h:(cutGap l).2.2=false):cutGap l=([],[],false):=by
 match l,h with
 | [],_=>rfl
 | [_],_=>rfl
 | c::d::r,h=>
  rw[cutGap]at h ⊢
  split at h
  ·cases h
  ·rename_i hc
   rw[if_neg hc]
   split at h
   ·cases h
   ·rename_i hd;rw[if_neg hd]
theorem ZlV(l:LB):Zgr l 0:=by
 unfold Zgr
 cases h:(cutGap l).2.2
 ·rw[Xl,h,if_neg (by decide)];exact Ziw h
 ·rw[Xl,h,if_pos rfl,List.take_zero,List.nil_append];rw[←h]
theorem Zs8(s:BA)(k:Nat)(h:k+1<s.size):(tl s).drop k=s[k]::s[k+1]::(tl s).drop (k+2):=by rw[ZU s k (by omega),ZU s (k+1) h]
theorem ZlW{s:BA}{k:Nat}(hk:k+1<s.size)(h:Zgr (tl s) k)(hn:¬(s[k]=58∧s[k+1]=58)):Zgr (tl s) (k+1):=by
 unfold Zgr at *
 rw[h,Zs8 s k hk,cutGap,if_neg hn,←ZU s (k+1) hk,ZG s k (by omega)]
 cases hq:(cutGap ((tl s).drop (k+1))).2.2
 ·rfl
 ·simp
theorem ZnJ{s:BA}{k:Nat}(hk:k+1<s.size)(h:Zgr (tl s) k)(hn:s[k]=58∧s[k+1]=58):cutGap (tl s)=((tl s).take k,(tl s).drop (k+2),true):=by unfold Zgr at h;rw[h,Zs8 s k hk,cutGap,if_pos hn,if_pos rfl,List.append_nil]
theorem ZnK{s:BA}{k:Nat}(hk:s.size≤k+1)(h:Zgr (tl s) k):cutGap (tl s)=([],[],false):=by
 unfold Zgr at h
 rw[h,Ziv (by rw[Xk,tl_length];omega),if_neg (by decide)]
theorem ZkY(b:UInt8):((b.toNat:Int)==58)=true↔b=58:=by
 rw[beq_iff_eq]
 constructor
 ·intro h;exact UInt8.toNat_inj.1 (by show b.toNat=58;omega)
 ·intro h;rw[h];rfl
theorem ZlX(s:BA)(w:World)(hs:s.size≤1000000):Calls Tryz.prog 316 #[.string s] w fun e w'=>ZlB (cutGap (tl s)) e∧Nx w w':=by
 go_enter Tryz.func316,Tryz.ntmps316
 go_wp2
 go_loop [5] (fun i=>∃k:Nat,k≤s.size∧i=.int .i64 k∧Zgr (tl s) k) (fun i=>s.size-(intOf i).toNat)
 case atStart=>exact⟨0,Xe _,rfl,ZlV _⟩
 case round=>
  obtain⟨k,hk,rfl,ha⟩:=hrel;have HA:=Za ha;clear ha
  by_cases hlt:k+1<s.size
  ·have hb:=bb s[k]
   have hb1:=bb s[k+1]
   have HS:=Za (fun hn=>ZlW hlt HA.out hn)
   have HH:=Za (fun hn=>ZnJ hlt HA.out hn)
   cases h0:((s[k].toNat:Int)==58)
   ·have HN:=Za (HS.out (fun h=>by rw[(ZkY _).2 h.1]at h0;cases h0))
    clear HS HH;go_wp2
    go_round
    case rel=>exact⟨k+1,by omega,by go_num,HN.out⟩
    case measure=>simp[intOf];omega
   ·cases h1:((s[k+1].toNat:Int)==58)
    ·have HN:=Za (HS.out (fun h=>by rw[(ZkY _).2 h.2]at h1;cases h1))
     clear HS HH;go_wp2
     go_round
     case rel=>exact⟨k+1,by omega,by go_num,HN.out⟩
     case measure=>simp[intOf];omega
    ·have HR:=Za (HH.out ⟨(ZkY _).1 h0,(ZkY _).1 h1⟩)
     clear HS HH;go_wp2
     go_region
     all_goals go_wp2
     all_goals go_ret3
     all_goals exact⟨⟨_,_,by rw[HR.out];rfl,by rw[HR.out,Zih],by rw[HR.out,ZaE]⟩,Nx.rfl.drew⟩
  ·have HR:=Za (ZnK (Nat.le_of_not_lt hlt) HA.out)
   go_wp2
   go_ret3
   exact⟨⟨_,_,by rw[HR.out];rfl,by rw[HR.out];rfl,by rw[HR.out];rfl⟩,Nx.rfl⟩
end Go.Proofs.YtchkhibgbnhjpabGreatDoor
