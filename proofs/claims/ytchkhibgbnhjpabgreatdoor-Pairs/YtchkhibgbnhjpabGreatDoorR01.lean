import Derived.Test.YtchkhibgbnhjpabGreatDoorR00
open List renaming length_cons→Xa,length_append→Xb,length_drop→Xc,drop_zero→Xd
open Nat renaming zero_add→Xe,sub_self→Xf,le_refl→Xg
namespace Go.Proofs.YtchkhibgbnhjpabGreatDoor
open Go.RowKit
set_option maxHeartbeats 800000
set_option maxRecDepth 100000
theorem Zf5{y:Int}(h0:0≤y)(h1:y≤255):((toB y).toNat:Int)=y:=by unfold toB;rw[UInt8.toNat_ofNat_of_lt' (by show y.toNat<256;omega)];omega
theorem ZxM(w:World)(y:Int)(h0:0≤y)(h1:y≤255):(convert 160 9 (.slice (some ⟨w.heap.size,0,none⟩) 1 1)).run Tryz.prog (w.alloc (.cells #[.int .u8 y] 5))=.ok (.string ⟨#[toB y]⟩) (w.alloc (.cells #[.int .u8 y] 5)):=by
 refine run_convert_bytes_back (w.alloc (.cells #[.int .u8 y] 5)) _ _ _ ⟨w.heap.size,0,none⟩ 1 [toB y] Tryz.underlying160 Tryz.underlying5 Tryz.underlying9 fun j hj=>?_
 have hj0:j=0:=by simpa using hj
 subst hj0;rw[Addr.add_lit]
 simp[Zf5 h0 h1]
theorem tl_append(a b:BA):tl (a++b)=tl a++tl b:=by unfold tl;rw[ByteArray.data_append,Array.toList_append]
theorem Znf{a b:BA}(h:a=b):Ending.returned (.string a)=.returned (.string b):=by rw[h]
def dec(n:Nat):List UInt8:=if 9<n then dec (n/10)++[UInt8.ofNat (48+n%10)]else [UInt8.ofNat (48+n)]
 termination_by n
 decreasing_by omega
theorem ZbX(n:Nat):(dec n).length≤n+1:=by
 induction n using Nat.strongRecOn with
 | ind n ih=>
  rw[dec]
  split
  ·have:=ih (n/10) (by omega)
   simp only[Xb,Xa,List.length_nil]
   omega
  ·simp
theorem ZbY(N:Nat):∀(n:Int) (w:World),0≤n→n≤N→N≤1000000000000 →
  Calls Tryz.prog 117 #[.int .i64 n] w fun e w'=>∃r:BA,e=.returned (.string r)∧tl r=dec n.toNat∧Nx w w':=by
 induction N using Nat.strongRecOn with
 | ind N ih=>
  intro n w h0 h1 hN
  by_cases h9:9<n
  ·have IH:=Za (ih (N/10) (by omega))
   have HE:=Za (show dec n.toNat=dec (n/10).toNat++[toB (48+n%10)]by
    rw[dec,if_pos (by omega)]
    unfold toB
    rw[show(n/10).toNat=n.toNat/10 by omega,show(48+n%10).toNat=48+n.toNat%10 by omega])
   clear ih
   go_enter Tryz.func117,Tryz.ntmps117
   go_wp2_with fail
   refine(IH.out _ _ (by omega) (by omega) (by omega)).mono ?_
   rintro e w1 ⟨r,rfl,hr,hn1⟩
   have hrs:r.size≤1000000000001:=by have h:=congrArg List.length hr;have h2:=ZbX (n/10).toNat;rw[tl_length]at h;omega
   have HRR:=Za hr;clear hr
   have hcv:=fun wx=>ZxM wx (48+n%10) (by omega) (by omega)
   go_wp2;go_ret
   exact⟨_,rfl,by rw[tl_append,HRR.out,HE.out];rfl,hn1.alloc _⟩
  ·have HE:=Za (show dec n.toNat=[toB (48+n)]by
    rw[dec,if_neg (by omega)]
    unfold toB
    rw[show(48+n).toNat=48+n.toNat by omega])
   clear ih
   have hcv:=fun wx=>ZxM wx (48+n) (by omega) (by omega)
   go_enter Tryz.func117,Tryz.ntmps117
   go_wp2;go_ret
   exact⟨_,rfl,by rw[HE.out];rfl,Nx.rfl.alloc _⟩
def decoded:List UInt8→List UInt8
 | []=>[]
 | c::r=>
  match r with
  | x::y::q=>if c=37∧0≤digit x.toNat∧0≤digit y.toNat then toB (16*digit x.toNat+digit y.toNat)::decoded q else c::decoded (x::y::q)
  | [x]=>c::decoded [x]
  | []=>[c]
 termination_by l=>l.length
 decreasing_by all_goals simp_wf<;>omega
theorem Zey(c:UInt8)(r:LB)(h:∀x y q,r=x::y::q→¬(c=37∧0≤digit x.toNat∧0≤digit y.toNat)):decoded (c::r)=c::decoded r:=by
 match r,h with
 | [],_=>simp[decoded]
 | [x],_=>simp[decoded]
 | x::y::q,h=>rw[decoded,if_neg (h x y q rfl)]
theorem Zh3(x y:UInt8)(q:LB)(hx:0≤digit x.toNat)(hy:0≤digit y.toNat):decoded (37::x::y::q)=toB (16*digit x.toNat+digit y.toNat)::decoded q:=by rw[decoded,if_pos ⟨rfl,hx,hy⟩]
theorem ZA{s:BA}(h:s.size=0):tl s=[]:=List.eq_nil_of_length_eq_zero (by rw[tl_length];exact h)
theorem tl_from(s:BA)(k:Nat):tl (s.extract k s.size)=(tl s).drop k:=by rw[tl_extract,ZY s s.size (Xg _)]
theorem tl_to(s:BA)(k:Nat):tl (s.extract 0 k)=(tl s).take k:=by rw[tl_extract,Xd]
theorem Ze6(s:BA)(h:0<s.size):(tl s).take 1=[s[0]]:=by have:=Zv s 0 h;simpa using this
theorem Zbi(l:LB):(decoded l).length≤l.length:=by
 induction l using decoded.induct with
 | case1=>simp[decoded]
 | case2 c x y q h ih=>rw[decoded,if_pos h];simp only[Xa];omega
 | case3 c x y q h ih=>rw[decoded,if_neg h];simp only[Xa]at *;omega
 | case4 c x ih=>rw[decoded];simp only[Xa]at *;omega
 | case5 c=>simp[decoded]
theorem ZfG(N:Nat):∀(s:BA) (w:World),s.size≤N→N≤1000000 →
  Calls Tryz.prog 248 #[.string s] w fun e w'=>∃r:BA,e=.returned (.string r)∧tl r=decoded (tl s)∧Nx w w':=by
 induction N with
 | zero=>
  intro s w hs _
  have hs0:s.size=0:=by omega
  have HE:=Za (show decoded (tl s)=[]by rw[ZA hs0];simp[decoded])
  go_enter Tryz.func248,Tryz.ntmps248
  go_wp2;go_ret
  exact⟨_,rfl,by rw[HE.out];rfl,Nx.rfl⟩
 | succ N ih=>
  intro s w hs hN
  by_cases h0:s.size=0
  ·have HE:=Za (show decoded (tl s)=[]by rw[ZA h0];simp[decoded])
   clear ih
   go_enter Tryz.func248,Tryz.ntmps248
   go_wp2;go_ret
   exact⟨_,rfl,by rw[HE.out];rfl,Nx.rfl⟩
  have IH:=Za ih;clear ih
  have hpos:0<s.size:=by omega
  have hl0:=ZD s 0 hpos;simp only[Xd,Xe]at hl0
  by_cases hit:∃h3:2<s.size,s[0]=37∧(0:Int)≤digit (s[1].toNat:Int)∧(0:Int)≤digit (s[2].toNat:Int)
  ·obtain⟨h3,hp,hd1,hd2⟩:=hit
   have hp':((s[0].toNat:Int)==37)=true:=by rw[hp];rfl
   obtain⟨hr1,hr1'⟩:=ZdH s[1].toNat;obtain⟨hr2,hr2'⟩:=ZdH s[2].toNat
   have HE:=Za (show decoded (tl s)=toB ((16:Int)*digit (s[1].toNat:Int)+digit (s[2].toNat:Int))::decoded ((tl s).drop 3)by
    rw[hl0,ZD s 1 (by omega),ZD s 2 (by omega),hp,Zh3 _ _ _ hd1 hd2];rfl)
   have hb1:=bb s[1];have hb2:=bb s[2];clear hp hl0
   have hcv:=fun wx=>ZxM wx ((16:Int)*digit (s[1].toNat:Int)+digit (s[2].toNat:Int)) (by omega) (by omega)
   go_enter Tryz.func248,Tryz.ntmps248
   go_wp2_with (first|(go_at_call 286;refine(ZC _ _).mono ?_;rintro e w' ⟨rfl,rfl⟩))
   refine(IH.out _ _ (by simp;omega) (by omega)).mono ?_
   rintro e w1 ⟨r,rfl,hr,hn1⟩
   have hrs:r.size≤1000000:=by have h:=congrArg List.length hr;rw[tl_length]at h;have h2:=Zbi (tl (s.extract 3 s.size));rw[tl_length]at h2;simp at h2;omega
   have HRR:=Za hr;clear hr;go_wp2;go_ret
   exact⟨_,rfl,by rw[tl_append,HRR.out,HE.out,tl_from];rfl,hn1.alloc _⟩
  have HE:=Za (show decoded (tl s)=s[0]::decoded ((tl s).drop 1)by
   rw[hl0]
   refine Zey _ _ fun x y q e hc=>hit ?_
   have hl:=congrArg List.length e;simp only[Xc,tl_length,Xa]at hl
   have h3:2<s.size:=by omega
   rw[ZD s 1 (by omega),ZD s 2 (by omega)]at e
   simp only[List.cons.injEq]at e
   exact⟨h3,hc.1,by rw[e.1];exact hc.2.1,by rw[e.2.1];exact hc.2.2⟩)
  clear hl0
  by_cases h3:2<s.size
  ·have hb1:=bb s[1]
   have hb2:=bb s[2];have hr1:=ZdH s[1].toNat;have hr2:=ZdH s[2].toNat
   by_cases hp:s[0]=37
   ·have hp':((s[0].toNat:Int)==37)=true:=by rw[hp];rfl
    have hno:¬((0:Int)≤digit (s[1].toNat:Int)∧(0:Int)≤digit (s[2].toNat:Int)):=fun h=>hit ⟨h3,hp,h⟩
    clear hp hit
    by_cases hd1:(0:Int)≤digit (s[1].toNat:Int)
    ·have hd2:¬(0:Int)≤digit (s[2].toNat:Int):=fun h=>hno ⟨hd1,h⟩
     clear hno
     go_enter Tryz.func248,Tryz.ntmps248
     go_wp2_with (first|(go_at_call 286;refine(ZC _ _).mono ?_;rintro e w' ⟨rfl,rfl⟩))
     refine(IH.out _ _ (by simp;omega) (by omega)).mono ?_
     rintro e w1 ⟨r,rfl,hr,hn1⟩
     have hrs:r.size≤1000000:=by have h:=congrArg List.length hr;rw[tl_length]at h;have h2:=Zbi (tl (s.extract 1 s.size));rw[tl_length]at h2;simp at h2;omega
     have HRR:=Za hr;clear hr;go_wp2;go_ret
     exact⟨_,rfl,by rw[tl_append,HRR.out,HE.out,tl_from,tl_to,Ze6 s hpos];rfl,hn1⟩
    ·clear hno
     go_enter Tryz.func248,Tryz.ntmps248
     go_wp2_with (first|(go_at_call 286;refine(ZC _ _).mono ?_;rintro e w' ⟨rfl,rfl⟩))
     refine(IH.out _ _ (by simp;omega) (by omega)).mono ?_
     rintro e w1 ⟨r,rfl,hr,hn1⟩
     have hrs:r.size≤1000000:=by have h:=congrArg List.length hr;rw[tl_length]at h;have h2:=Zbi (tl (s.extract 1 s.size));rw[tl_length]at h2;simp at h2;omega
     have HRR:=Za hr;clear hr;go_wp2;go_ret
     exact⟨_,rfl,by rw[tl_append,HRR.out,HE.out,tl_from,tl_to,Ze6 s hpos];rfl,hn1⟩
   ·have hp':((s[0].toNat:Int)==37)=false:=by
     simp only[beq_eq_false_iff_ne,ne_eq];intro h
     exact hp (UInt8.toNat_inj.1 (by show s[0].toNat=37;omega))
    clear hp hit
    go_enter Tryz.func248,Tryz.ntmps248
    go_wp2_with (first|(go_at_call 286;refine(ZC _ _).mono ?_;rintro e w' ⟨rfl,rfl⟩))
    refine(IH.out _ _ (by simp;omega) (by omega)).mono ?_
    rintro e w1 ⟨r,rfl,hr,hn1⟩
    have hrs:r.size≤1000000:=by have h:=congrArg List.length hr;rw[tl_length]at h;have h2:=Zbi (tl (s.extract 1 s.size));rw[tl_length]at h2;simp at h2;omega
    have HRR:=Za hr;clear hr;go_wp2;go_ret
    exact⟨_,rfl,by rw[tl_append,HRR.out,HE.out,tl_from,tl_to,Ze6 s hpos];rfl,hn1⟩
  ·clear hit
   go_enter Tryz.func248,Tryz.ntmps248
   go_wp2_with (first|(go_at_call 286;refine(ZC _ _).mono ?_;rintro e w' ⟨rfl,rfl⟩))
   refine(IH.out _ _ (by simp;omega) (by omega)).mono ?_
   rintro e w1 ⟨r,rfl,hr,hn1⟩
   have hrs:r.size≤1000000:=by have h:=congrArg List.length hr;rw[tl_length]at h;have h2:=Zbi (tl (s.extract 1 s.size));rw[tl_length]at h2;simp at h2;omega
   have HRR:=Za hr;clear hr;go_wp2;go_ret
   exact⟨_,rfl,by rw[tl_append,HRR.out,HE.out,tl_from,tl_to,Ze6 s hpos];rfl,hn1⟩
def Zd2(b:UInt8):UInt8:=if 65≤b.toNat∧b.toNat≤90 then b+32 else b
def lower(l:List UInt8):List UInt8:=l.map Zd2
theorem ZkI{b:UInt8}(h0:65≤b.toNat)(h1:b.toNat≤90):((Zd2 b).toNat:Int)=(b.toNat:Int)+32:=by unfold Zd2;rw[if_pos ⟨h0,h1⟩,UInt8.toNat_add];show(((b.toNat+32)%256:Nat):Int)=_;omega
theorem ZdJ{b:UInt8}(h:¬(65≤b.toNat∧b.toNat≤90)):Zd2 b=b:=by unfold Zd2;rw[if_neg h]
def RowB(w:World)(b:Nat)(l:List UInt8):Prop:=
 ∃(cs:Array Value) (n:Nat),w.heap[b]?=some (Obj.cells cs 5 (n,n+1))∧l.length≤n∧∀i,(h:i<l.length)→cs[i]?=some (.int .u8 (l[i].toNat:Int))
theorem RowB.cell{w:World}{b:Nat}{l:LB}(h:RowB w b l){i:Nat}(hi:i<l.length):w.cell? ⟨b,i,none⟩=some (.int .u8 (l[i].toNat:Int)):=by
 obtain⟨cs,n,hh,_,hc⟩:=h
 simpa [World.cell?,hh]using hc i hi
theorem RowB.free{w:World}{b:Nat}{l:LB}(h:RowB w b l){i:Nat}(hi:i<l.length):w.frozen? ⟨b,i,none⟩=false:=by
 obtain⟨cs,n,hh,hn,hc⟩:=h
 simp[World.frozen?,hh]
 omega
theorem ZxN(s:BA)(k:Nat)(h:k<s.size):∃hl:k<(lower ((tl s).take k)++(tl s).drop k).length,(lower ((tl s).take k)++(tl s).drop k)[k]=s[k]:=by
 have hlen:(lower ((tl s).take k)).length=k:=by simp[lower,tl_length];omega
 refine⟨by rw[Xb,hlen,Xc,tl_length];omega,?_⟩
 rw[List.getElem_append_right (by omega)]
 simp only[hlen,Xf,List.getElem_drop,Nat.add_zero];exact Zep s k h
theorem Zvl(s:BA)(k:Nat)(h:k<s.size):lower ((tl s).take (k+1))++(tl s).drop (k+1)=(lower ((tl s).take k)++(tl s).drop k).set k (Zd2 s[k]):=by
 have hlen:(lower ((tl s).take k)).length=k:=by simp[lower,tl_length];omega
 rw[ZD s k h,Zv s k h,List.set_append,if_neg (by omega),hlen,Xf,List.set_cons_zero]
 simp[lower]
theorem Zvm(s:BA)(k:Nat)(h:k<s.size)(hb:Zd2 s[k]=s[k]):lower ((tl s).take (k+1))++(tl s).drop (k+1)=lower ((tl s).take k)++(tl s).drop k:=by
 rw[ZD s k h,Zv s k h]
 simp[lower,hb]
theorem RowB.conv{w:World}{b cap:Nat}{l:LB}(h:RowB w b l):(convert 160 9 (.slice (some ⟨b,0,none⟩) l.length cap)).run Tryz.prog w=.ok (.string ⟨l.toArray⟩) w:=by
 refine run_convert_bytes_back w _ _ _ ⟨b,0,none⟩ cap l Tryz.underlying160 Tryz.underlying5 Tryz.underlying9 fun j hj=>?_
 rw[Addr.add_lit,Xe];exact h.cell hj
theorem Zqi(w:World)(s:BA)(cap:Nat):RowB (w.alloc (.cells (bytesRow s cap) 5 ((bytesRow s cap).size,(bytesRow s cap).size+1))) w.heap.size (tl s):=by
 refine⟨_,_,heap_alloc_new w _,?_,fun i hi=>?_⟩
 ·rw[tl_length];unfold bytesRow;rw[Array.size_append,Array.size_map];exact Nat.le_add_right _ _
 ·have hi':i<s.data.size:=by rw[tl_length]at hi;exact hi
  unfold bytesRow tl
  rw[Array.getElem?_append_left (by simpa using hi'),Array.getElem?_map,Array.getElem?_eq_getElem hi']
  rfl
theorem RowB.set{w:World}{b:Nat}{l:LB}(h:RowB w b l){i:Nat}(hi:i<l.length)(x:UInt8):RowB (w.setCell ⟨b,i,none⟩ (.int .u8 (x.toNat:Int))) b (l.set i x):=by
 obtain⟨cs,n,hh,hn,hc⟩:=h
 refine⟨cs.setIfInBounds i (.int .u8 (x.toNat:Int)),n,?_,by simpa using hn,fun j hj=>?_⟩
 ·simp only[World.setCell,Array.getElem?_modify,if_pos,hh]
  rfl
 ·have hj':j<l.length:=by simpa using hj
  rw[Array.getElem?_setIfInBounds];have hi':i<cs.size:=(Array.getElem?_eq_some_iff.1 (hc i hi)).1
  by_cases e:i=j
  ·subst e
   simp[hi']
  ·rw[if_neg e,hc j hj',List.getElem_set_ne e]
theorem ZeA(s:BA)(w:World)(hs:s.size≤1000000):Calls Tryz.prog 212 #[.string s] w fun e w'=>∃r:BA,e=.returned (.string r)∧tl r=lower (tl s)∧Nx w w':=by
 have hcv:=fun wx=>run_bytes_of_string (P:=Tryz.prog) wx 9 160 5 s Tryz.underlying9 Tryz.underlying160 Tryz.underlying5
 go_enter Tryz.func212,Tryz.ntmps212
 go_wp2
 go_loopw [4] (fun i wr=>∃k:Nat,k≤s.size∧i=.int .i64 k∧RowB wr w.heap.size (lower ((tl s).take k)++(tl s).drop k)∧Nx w wr) (fun i _=>s.size-(intOf i).toNat)
 case atStart=>exact⟨0,Nat.zero_le _,rfl,Zqi w s _,(Nx.rfl.alloc _).drew⟩
 case round=>
  clear hcv;obtain⟨k,hk,rfl,hrow,hnx⟩:=hrel
  by_cases hlt:k<s.size
  ·obtain⟨hl,hg⟩:=ZxN s k hlt
   have hc:=hrow.cell hl;rw[hg]at hc;have hf:=hrow.free hl;have hb:=bb s[k];have HROW:=Za hrow;have HN:=Za hnx;have HL:=Za hl;clear hrow hnx hg hl
   by_cases hit:65≤s[k].toNat∧s[k].toNat≤90
   ·obtain⟨hi0,hi1⟩:=hit
    have HLB:=Za (ZkI hi0 hi1);have HST:=Za (Zvl s k hlt);go_wp2
    go_roundw
    case rel=>exact⟨k+1,by omega,by go_num,by rw[HST.out,←HLB.out];exact HROW.out.set HL.out _,HN.out.setCell (Xg _) _⟩
    case measure=>simp[intOf];omega
   ·have HST:=Za (Zvm s k hlt (ZdJ hit))
    by_cases hi0:65≤s[k].toNat
    ·have hi1:90<s[k].toNat:=by omega
     clear hit;go_wp2
     go_roundw
     case rel=>exact⟨k+1,by omega,by go_num,by rw[HST.out];exact HROW.out,HN.out⟩
     case measure=>simp[intOf];omega
    ·clear hit
     go_wp2
     go_roundw
     case rel=>exact⟨k+1,by omega,by go_num,by rw[HST.out];exact HROW.out,HN.out⟩
     case measure=>simp[intOf];omega
  ·rw[ZY s k (by omega),Zu s k (by omega),List.append_nil]at hrow
   have hcv:=hrow.conv (cap:=grownCap w s.size 0 5)
   rw[show(lower (tl s)).length=s.size by simp[lower,tl_length]]at hcv
   clear hrow;go_wp2;go_ret;exact⟨_,rfl,tl_mk _,hnx⟩
end Go.Proofs.YtchkhibgbnhjpabGreatDoor
