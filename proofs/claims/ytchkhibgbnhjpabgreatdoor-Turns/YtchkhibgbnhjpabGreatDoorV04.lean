import Derived.Test.YtchkhibgbnhjpabGreatDoorV02
import Derived.Deep.OwnRows
open Array renaming getElem?_modify→Xd,getElem?_eq_some_iff→Xe,toList_inj→Xo
open List renaming take_succ_eq_append_getElem→Xa,take_of_length_le→Xb,length_cons→Xc,length_map→Xf,getElem?_cons_succ→Xg,length_replicate→Xi,length_take→Xj,set_cons_succ→Xk,map_append→Xl,map_take→Xn,eq_nil_of_length_eq_zero→Xp,getElem?_eq_getElem→Xq,set_append_right→Xr,replicate_succ→Xs,set_cons_zero→Xt,length_append→Xu,mem_singleton→Xv,append_assoc→Xw,append_nil→Xy,mem_cons→Xz
open Nat renaming le_refl→Xh,zero_le→Xm,eq_zero_or_pos→Xx
namespace Go.Proofs.YtchkhibgbnhjpabGreatDoor
open Go.RowKit
set_option maxHeartbeats 4000000
def Zaf(l:List UInt8):Bool:=match l with | [a,b]=>Zbv a.toNat&&((b.toNat:Int)==58||(b.toNat:Int)==124)|_=>false
theorem Zev{l:LB}(h:Zaf l=true):l.length=2:=by
 unfold Zaf at h
 split at h
 ·rfl
 ·cases h
theorem Zs2{s:BA}(h:s.size=2):tl s=[s[0],s[1]]:=by
 have h0:=ZU s 0 (by omega)
 have h1:=ZU s 1 (by omega)
 rw[Zy s 2 (by omega)]at h1
 rw[h1]at h0
 simpa using h0
theorem Zb9(s:BA)(w:World):Calls Tryz.prog 288 #[.string s] w fun e w'=>e=.returned (.bool (Zaf (tl s)))∧w=w':=by
 by_cases h2:s.size=2
 ·have hg:1<s.size:=by omega
  have hg0:0<s.size:=by omega
  have HT:Hid (Zaf (tl s)=(Zbv (s[0]'hg0).toNat&&(((s[1]'hg).toNat:Int)==58||((s[1]'hg).toNat:Int)==124))):=Za (by rw[Zs2 h2];rfl)
  have hl:((s.size:Int)==2)=true:=by rw[h2];rfl
  have hb0:=bb (s[0]'hg0);have hb1:=bb (s[1]'hg);clear h2
  cases hA:Zbv (s[0].toNat:Int)
  ·have HA:=Za hA
   clear hA
   go_enter Tryz.func288,Tryz.ntmps288
   go_wp2_with (go_at_call 253;refine(ZaZ _ _).mono ?_;rintro e w' ⟨rfl,rfl⟩;rw[HA.out])
   all_goals go_ret
   all_goals exact⟨Zi (by rw[HT.out,HA.out];rfl),rfl⟩
  ·have HA:=Za hA
   clear hA
   cases h58:((s[1].toNat:Int)==58)
   ·go_enter Tryz.func288,Tryz.ntmps288
    go_wp2_with (go_at_call 253;refine(ZaZ _ _).mono ?_;rintro e w' ⟨rfl,rfl⟩;rw[HA.out])
    all_goals go_ret
    all_goals exact⟨Zi (by rw[HT.out,HA.out,h58];simp),rfl⟩
   ·go_enter Tryz.func288,Tryz.ntmps288
    go_wp2_with (go_at_call 253;refine(ZaZ _ _).mono ?_;rintro e w' ⟨rfl,rfl⟩;rw[HA.out])
    all_goals go_ret
    all_goals exact⟨Zi (by rw[HT.out,HA.out,h58];rfl),rfl⟩
 ·have HT:=Za (show Zaf (tl s)=false by
   cases h:Zaf (tl s)
   ·rfl
   ·have:=Zev h
    rw[tl_length]at this
    exact absurd this h2)
  have hl:((s.size:Int)==2)=false:=by simp;omega
  clear h2
  go_enter Tryz.func288,Tryz.ntmps288
  go_wp2
  all_goals go_ret
  all_goals exact⟨Zi HT.out.symm,rfl⟩
def Za1(l:List UInt8):Bool:=Zaf l&&((l.getD 1 0).toNat:Int)==58
theorem ZbG(s:BA)(w:World):Calls Tryz.prog 289 #[.string s] w fun e w'=>e=.returned (.bool (Za1 (tl s)))∧w=w':=by
 cases hd:Zaf (tl s)
 ·have HE:=Za (show Za1 (tl s)=false by unfold Za1;rw[hd];rfl)
  have HD:=Za hd;clear hd
  go_enter Tryz.func289,Tryz.ntmps289
  go_wp2_with (go_at_call 288;refine(Zb9 _ _).mono ?_;rintro e w' ⟨rfl,rfl⟩;rw[HD.out])
  all_goals go_ret
  all_goals exact⟨Zi HE.out.symm,rfl⟩
 ·have h2:=Zev hd
  rw[tl_length]at h2
  have hg:1<s.size:=by omega
  have hb1:=bb s[1]
  have HE:=Za (show Za1 (tl s)=((s[1].toNat:Int)==58)by unfold Za1;rw[hd,Zcp s 1 hg,Bool.true_and])
  have HD:=Za hd;clear hd h2
  go_enter Tryz.func289,Tryz.ntmps289
  go_wp2_with (go_at_call 288;refine(Zb9 _ _).mono ?_;rintro e w' ⟨rfl,rfl⟩;rw[HD.out])
  all_goals go_ret
  all_goals exact⟨Zi HE.out.symm,rfl⟩
def ZaP(l:List UInt8):Bool:=Zaf (bcut (slB true) l).1
theorem Zcq(s:BA)(w:World)(hs:s.size≤maxLen):Calls Tryz.prog 256 #[.string s] w fun e w'=>e=.returned (.bool (ZaP (tl s)))∧Nx w w':=by
 go_enter Tryz.func256,Tryz.ntmps256
 go_wp2_with fail
 refine(Zci _ _ _ hs).mono ?_
 rintro e w1 ⟨⟨a,b,rfl,ha,hb⟩,hn1⟩
 have HA:=Za (show ZaP (tl s)=Zaf (tl a)by unfold ZaP;rw[ha])
 clear ha hb
 go_wp2_with (go_at_call 288;refine(Zb9 _ _).mono ?_;rintro e w' ⟨rfl,rfl⟩)
 go_ret;exact⟨Zi HA.out.symm,hn1⟩
def dotSize(l:List UInt8):Nat:=
 if((l.getD 0 0).toNat:Int)=46 then 1
 else if 3≤l.length∧((l.getD 0 0).toNat:Int)=37∧((l.getD 1 0).toNat:Int)=50∧(((l.getD 2 0).toNat:Int)=101∨((l.getD 2 0).toNat:Int)=69)then 3 else 0
theorem ZlJ(l:LB):dotSize l=if((l.getD 0 0).toNat:Int)=46 then 1
 else if 3≤l.length∧((l.getD 0 0).toNat:Int)=37∧((l.getD 1 0).toNat:Int)=50∧(((l.getD 2 0).toNat:Int)=101∨((l.getD 2 0).toNat:Int)=69)then 3 else 0:=rfl
theorem ZlK(l:LB):dotSize l≤l.length:=by
 unfold dotSize
 split
 ·rename_i h
  cases l with
  | nil=>simp at h
  | cons=>simp
 ·split
  ·omega
  ·omega
theorem ZfE(s:BA)(w:World)(hs:s.size≤maxLen):Calls Tryz.prog 315 #[.string s] w fun e w'=>e=.returned (.int .i64 (dotSize (tl s):Nat))∧w=w':=by
 unfold maxLen at hs
 by_cases h0:s.size=0
 ·have HE:=Za (show dotSize (tl s)=0 by rw[Zz h0];rfl)
  have h0':=Zf h0
  have h3:s.size<3:=by omega
  clear h0
  go_enter Tryz.func315,Tryz.ntmps315
  go_wp2;go_ret
  exact⟨Zai (by rw[HE.out];rfl),rfl⟩
 have h0':=Ze h0;have hb0:=bb s[0];have HD:=Za (ZlJ (tl s))
 rw[tl_length,Zcp s 0 (by omega)]at HD
 cases h46:((s[0].toNat:Int)==46)
 ·have HD2:=Za (HD.out.trans (if_neg (by simpa using h46)))
  clear HD
  by_cases h3:3≤s.size
  ·rw[Zcp s 1 (by omega),Zcp s 2 (by omega)]at HD2
   have hb1:=bb s[1];have hb2:=bb s[2]
   by_cases hy:(s[0].toNat:Int)=37∧(s[1].toNat:Int)=50∧((s[2].toNat:Int)=101∨(s[2].toNat:Int)=69)
   ·have HE:=Za (HD2.out.trans (if_pos ⟨h3,hy⟩))
    clear HD2;obtain⟨y0,y1,y2⟩:=hy
    have z0:((s[0].toNat:Int)==37)=true:=by simpa using y0
    have z1:((s[1].toNat:Int)==50)=true:=by simpa using y1
    cases z2:((s[2].toNat:Int)==101)
    ·have z3:((s[2].toNat:Int)==69)=true:=by
      rcases y2 with h|h
      ·rw[h]at z2;cases z2
      ·simpa using h
     clear y0 y1 y2
     go_enter Tryz.func315,Tryz.ntmps315
     go_wp2;go_ret
     exact⟨Zai (by rw[HE.out];rfl),rfl⟩
    ·clear y0 y1 y2
     go_enter Tryz.func315,Tryz.ntmps315
     go_wp2;go_ret
     exact⟨Zai (by rw[HE.out];rfl),rfl⟩
   ·have HE:=Za (HD2.out.trans (if_neg (fun h=>hy h.2)))
    clear HD2
    cases z0:((s[0].toNat:Int)==37)
    ·clear hy
     go_enter Tryz.func315,Tryz.ntmps315
     go_wp2;go_ret
     exact⟨Zai (by rw[HE.out];rfl),rfl⟩
    ·cases z1:((s[1].toNat:Int)==50)
     ·clear hy
      go_enter Tryz.func315,Tryz.ntmps315
      go_wp2;go_ret
      exact⟨Zai (by rw[HE.out];rfl),rfl⟩
     ·have z2:((s[2].toNat:Int)==101)=false:=by
       cases h:((s[2].toNat:Int)==101)
       ·rfl
       ·exact absurd ⟨by simpa using z0,by simpa using z1,Or.inl (by simpa using h)⟩ hy
      have z3:((s[2].toNat:Int)==69)=false:=by
       cases h:((s[2].toNat:Int)==69)
       ·rfl
       ·exact absurd ⟨by simpa using z0,by simpa using z1,Or.inr (by simpa using h)⟩ hy
      clear hy
      go_enter Tryz.func315,Tryz.ntmps315
      go_wp2;go_ret
      exact⟨Zai (by rw[HE.out];rfl),rfl⟩
  ·have HE:=Za (HD2.out.trans (if_neg (fun h=>h3 h.1)))
   clear HD2
   have h3':s.size<3:=by omega
   go_enter Tryz.func315,Tryz.ntmps315
   go_wp2;go_ret
   exact⟨Zai (by rw[HE.out];rfl),rfl⟩
 ·have HE:=Za (HD.out.trans (if_pos (by simpa using h46)))
  clear HD
  go_enter Tryz.func315,Tryz.ntmps315
  go_wp2;go_ret
  exact⟨Zai (by rw[HE.out];rfl),rfl⟩
def Zm8:Nat→Nat→List UInt8→Nat
 | 0,_,_=>0
 | m+1,n,l=>if l=[]then n else if dotSize l=0 then 0 else Zm8 m (n+1) (l.drop (dotSize l))
def countDots(l:List UInt8):Nat:=Zm8 3 0 l
theorem ZrT(m:Nat):∀n l,m+n=3→Zm8 m n l≤2:=by
 induction m with
 | zero=>intro n l h;simp[Zm8]
 | succ m ih=>
  intro n l h;rw[Zm8]
  split
  ·omega
  ·split
   ·omega
   ·exact ih _ _ (by omega)
theorem Zbp(s:BA)(w:World)(hs:s.size≤1000000):Calls Tryz.prog 302 #[.string s] w fun e w'=>e=.returned (.int .i64 (countDots (tl s):Nat))∧w=w':=by
 go_enter Tryz.func302,Tryz.ntmps302
 go_wp2
 go_loop [3,4] (fun r i=>∃(m n:Nat) (q:BA),m+n=3∧r=.string q∧i=.int .i64 n∧q.size≤s.size∧countDots (tl s)=Zm8 m n (tl q)) (fun _ i=>3-(intOf i).toNat)
 case atStart=>exact⟨3,0,s,rfl,rfl,rfl,Xh _,rfl⟩
 case round=>
  obtain⟨m,n,q,hmn,rfl,rfl,hq,hE⟩:=hrel
  cases m with
  | zero=>
   have:n=3:=by omega
   subst this;have HE:=Za hE;clear hE hmn;go_wp2;go_ret
   exact⟨Zai (by rw[HE.out];rfl),rfl⟩
  | succ m=>
   rw[Zm8]at hE
   have hn3:n<3:=by omega
   by_cases h0:q.size=0
   ·have HE:=Za (hE.trans (if_pos (Zz h0)))
    have h0':=Zf h0;clear hE h0;have HM:=Za hmn;clear hmn;go_wp2;go_ret
    exact⟨Zai (by rw[HE.out]),rfl⟩
   ·have h0':=Ze h0
    have hE2:=hE.trans (if_neg (ZcC h0));have hle:=ZlK (tl q);rw[tl_length]at hle;have HM:=Za hmn;clear hE hmn;generalize hd:dotSize (tl q)=d at *;have HD:=Za hd;clear hd
    by_cases hd0:d=0
    ·have HE:=Za (hE2.trans (if_pos hd0))
     subst hd0;clear hE2
     go_wp2_with (go_at_call 315;refine(ZfE _ _ (Zg (by omega))).mono ?_;rintro e w' ⟨rfl,rfl⟩;rw[HD.out])
     go_ret
     exact⟨Zai (by rw[HE.out];rfl),rfl⟩
    ·have HE:=Za (hE2.trans (if_neg hd0))
     have hd1:((d:Int)==0)=false:=by simp;omega
     clear hE2
     go_wp2_with (go_at_call 315;refine(ZfE _ _ (Zg (by omega))).mono ?_;rintro e w' ⟨rfl,rfl⟩;rw[HD.out])
     go_round
     case rel=>exact⟨m,n+1,_,by have:=HM.out;omega,rfl,by go_num,by rw[Zac];omega,by rw[HE.out,ZaE]⟩
     case measure=>simp[intOf];omega
def RowS(w:World)(nb:Nat)(ns:List ByteArray):Prop:=w.heap[nb]?=some (Obj.cells (ns.map Value.string).toArray 9 (0,0))
theorem RowS.cell{w:World}{nb:Nat}{ns:LA}(h:RowS w nb ns){i:Nat}(hi:i<ns.length):w.cell? ⟨nb,i,none⟩=some (.string ns[i]):=by
 unfold RowS at h
 simp[World.cell?,h,Xq hi]
theorem RowS.free{w:World}{nb:Nat}{ns:LA}(h:RowS w nb ns)(i:Nat):w.frozen? ⟨nb,i,none⟩=false:=by
 unfold RowS at h
 simp[World.frozen?,h]
theorem RowS.set{w:World}{nb:Nat}{ns:LA}(h:RowS w nb ns)(i:Nat)(x:BA):RowS (w.setCell ⟨nb,i,none⟩ (.string x)) nb (ns.set i x):=by
 unfold RowS at *;simp only[World.setCell,Xd,if_pos,h]
 simp[List.map_set]
theorem ZlL(w:World)(n:Nat):RowS (w.alloc (.cells (madeCells #[Value.string ByteArray.empty] n) 9)) w.heap.size (List.replicate n ByteArray.empty):=by
 unfold RowS;rw[heap_alloc_new]
 congr 2
 apply Xo.1
 rw[toList_madeCells_one]
 simp
theorem RowS.own{w:World}{nb base:Nat}{ns:LA}(h:RowS w nb ns)(hb:base≤nb)(hl:ns.length≤maxLen):ZcM w base (.slice (some ⟨nb,0,none⟩) ns.length ns.length) ns:=
 ⟨by simp,.inr ⟨nb,ns.length,_,rfl,hb,h,Xh _,hl,by simp,by rw[Nat.mul_one];exact Xb (by simp)⟩⟩
theorem Znp(bs:LA)(k:Nat)(h:k<bs.length):(bs.take k++List.replicate (bs.length-k) ByteArray.empty).set k bs[k]=bs.take (k+1)++List.replicate (bs.length-(k+1)) ByteArray.empty:=by
 rw[Xr k _ (by rw[Xj];omega),Xj,show k-min k bs.length=0 by omega,show bs.length-k=(bs.length-(k+1))+1 by omega,Xs,Xt,Xa h,Xw]
 rfl
theorem ZpH(bs:LA)(k:Nat)(h:bs.length≤k):bs.take k++List.replicate (bs.length-k) ByteArray.empty=bs:=by
 rw[Xb h,show bs.length-k=0 by omega]
 simp
theorem ZkR(v:Value)(bs:LA)(w:World)(hv:ZbU w v bs)(hl:bs.length≤1000000):Calls Tryz.prog 264 #[v] w fun e w'=>∃v',e=.returned v'∧ZcM w' w.heap.size v' bs∧Nx w w':=by
 obtain⟨ao,cap,rfl,hlc,hcap,hnone,hsome⟩:=hv;unfold maxLen at hcap
 have hmk:=run_make_row' (P:=Tryz.prog) 78 9 (.string ByteArray.empty) 16 Tryz.underlying78 Znf rfl .i64 .i64 bs.length (by omega) (by omega)
 go_enter Tryz.func264,Tryz.ntmps264
 go_wp2;clear hmk
 go_loopw [4] (fun i wr=>∃k:Nat,k≤bs.length∧i=.int .i64 k∧RowS wr w.heap.size (bs.take k++List.replicate (bs.length-k) ByteArray.empty)∧Nx w wr) (fun i _=>bs.length-(intOf i).toNat)
 case atStart=>exact⟨0,Xm _,rfl,by simpa using ZlL w bs.length,Nx.rfl.alloc _⟩
 case round=>
  obtain⟨k,hk,rfl,hrow,hnx⟩:=hrel
  by_cases hlt:k<bs.length
  ·obtain⟨a,ha⟩:=Zbm hlt hnone
   subst ha;obtain⟨b,off,rfl,hr⟩:=hsome a rfl;have hck:=(hr.on hnx).cell hlt
   have hc2:=hrow.cell (i:=k) (by rw[Xu,Xj,Xi];omega)
   have hf2:=hrow.free k;have HR:=Za (hrow.set k bs[k]);rw[Znp bs k hlt]at HR;have HN:=Za (show Nx w (wr.setCell ⟨w.heap.size,k,none⟩ (.string bs[k]))from Below.setCell hnx (Xh _) _);clear hnone hsome hr hrow hnx;go_wp2
   go_roundw
   case rel=>exact⟨k+1,by omega,by go_num,HR.out,HN.out⟩
   case measure=>simp[intOf];omega
  ·rw[ZpH bs k (by omega)]at hrow
   have HO:=Za (hrow.own (Xh _) (Zg hl));have HN:=Za hnx;clear hrow hnx;go_wp2;go_ret;exact⟨_,rfl,HO.out,HN.out⟩
def PthAt(w:World)(pb:Nat)(f s:Bool)(v:Value):Prop:=w.heap[pb]?=some (Obj.cells #[.bool f,.bool s,v] 223 (0,0))
theorem PthAt.on{w w':World}{pb:Nat}{f s:Bool}{v:Value}(h:PthAt w pb f s v)(hb:Nx w w'):PthAt w' pb f s v:=
 (hb.block pb (Xe.1 h).1).trans h
theorem PthAt.kp{w w':World}{pb:Nat}{f s:Bool}{v:Value}(h:PthAt w pb f s v)(hb:Kp 9 w w'):PthAt w' pb f s v:=hb pb _ _ _ h (by decide)
theorem PthAt.facts{w:World}{pb:Nat}{f s:Bool}{v:Value}(h:PthAt w pb f s v):w.cell? ⟨pb,0,none⟩=some (.bool f)∧w.cell? ⟨pb,1,none⟩=some (.bool s)∧w.cell? ⟨pb,2,none⟩=some v∧w.frozen? ⟨pb,2,none⟩=false:=by
 unfold PthAt at h
 refine⟨?_,?_,?_,?_⟩<;>simp[World.cell?,World.frozen?,h]
theorem PthAt.set{w:World}{pb:Nat}{f s:Bool}{v:Value}(h:PthAt w pb f s v)(u:Value):PthAt (w.setCell ⟨pb,2,none⟩ u) pb f s u:=by
 unfold PthAt at *;simp only[World.setCell,Xd,if_pos,h]
 rfl
theorem PthAt.own{w:World}{pb base:Nat}{f s:Bool}{v x:Value}{bs:LA}(h:PthAt w pb f s v)(ho:ZcM w base x bs)(u:Value):ZcM (w.setCell ⟨pb,2,none⟩ u) base x bs:=by
 obtain⟨h1,⟨rfl,h3⟩|⟨g,cap,cur,rfl,h4,h5,h6⟩⟩:=ho
 ·exact⟨h1,.inl ⟨rfl,h3⟩⟩
 ·refine⟨h1,.inr ⟨g,cap,cur,rfl,h4,?_,h6⟩⟩
  have hne:pb≠g:=by
   intro e;subst e;unfold PthAt at h;rw[h]at h5;simp only[Option.some.injEq,Obj.cells.injEq]at h5
   exact absurd h5.2.1 (by decide)
  simp only[World.setCell,Xd,if_neg hne];exact h5
theorem Znq{w:World}{base g n cap:Nat}{bs:LA}(h:ZcM w base (.slice (some ⟨g,0,none⟩) n cap) bs)(k:Nat)(hk:k≤bs.length):ZcM w base (.slice (some ⟨g,0,none⟩) k cap) (bs.take k):=by
 obtain⟨h1,⟨h2,h3⟩|⟨g',cap',cur,h2,h4,h5,h6,h7,h8,h9⟩⟩:=h
 ·cases h2
 ·simp only[Value.slice.injEq,Option.some.injEq,Addr.mk.injEq]at h2
  obtain⟨⟨rfl,-⟩,rfl,rfl⟩:=h2
  have hl:(bs.take k).length=k:=by rw[Xj];omega
  refine⟨by simp,.inr ⟨g,cap,cur,by rw[hl],h4,h5,by omega,h7,h8,?_⟩⟩
  rw[hl,Xn,←h9,List.take_take]
  congr 1
  omega
theorem ZfF{w:World}{base:Nat}{v:Value}{bs:LA}(h:ZcM w base v bs)(h0:0<bs.length):∃g cap,v=.slice (some ⟨g,0,none⟩) bs.length cap∧bs.length≤cap∧cap≤maxLen:=by
 obtain⟨h1,⟨h2,h3⟩|⟨g',cap',cur,h2,h4,h5,h6,h7,h8,h9⟩⟩:=h
 ·omega
 ·exact⟨g',cap',h2,h6,h7⟩
theorem ZgM{w:World}{base:Nat}{v:Value}(h:ZcM w base v []):∃ao cap,v=.slice ao 0 cap:=by
 obtain⟨h1,⟨h2,h3⟩|⟨g',cap',cur,h2,h4,h5,h6,h7,h8,h9⟩⟩:=h
 ·exact⟨_,_,h2⟩
 ·exact⟨_,_,h2⟩
def ZaC(f:Bool)(ps:List (List UInt8)):List (List UInt8):=if f=true∧ps.length=1∧Za1 (ps.getD 0 [])=true then ps else ps.take (ps.length-1)
theorem ZlM(f:Bool)(ps:List LB):(ZaC f ps).length≤ps.length:=by
 unfold ZaC
 split
 ·omega
 ·rw[Xj];omega
theorem Zhv(bs:LA)(h:0<bs.length):(bs.map tl).getD 0 []=tl bs[0]:=by rw[List.getD_eq_getElem?_getD,List.getElem?_map,Xq h];rfl
theorem ZdX(pb base:Nat)(f s:Bool)(v:Value)(bs:LA)(w:World)(hp:PthAt w pb f s v)(ho:ZcM w base v bs)(hb:base≤pb)(hl:bs.length≤1000000):Calls Tryz.prog 291 #[.pointer (some ⟨pb,0,none⟩)] w fun e w'=>∃x v' bs',e=.returned x∧PthAt w' pb f s v'∧ZcM w' base v' bs'∧bs'.map tl=ZaC f (bs.map tl)∧Below base w w':=by
 obtain⟨hc0,hc1,hc2,hf2⟩:=hp.facts;have HP:=Za hp;have HO:=Za ho;have HB:=Za hb;clear hp ho hb;rcases Xx bs.length with h0|hpos
 ·have e0:bs=[]:=Xp h0
  subst e0;obtain⟨ao,cap,rfl⟩:=ZgM HO.out;clear h0
  go_enter Tryz.func291,Tryz.ntmps291
  go_wp2
  exact bodyPost_ret (v:=.tuple #[]) (by simp[results,Tryz.results291,go_sem]) rfl ⟨_,_,_,rfl,HP.out,HO.out,by cases f<;>rfl,Below.refl _ _⟩
 ·obtain⟨g,cap,rfl,hlc,hcm⟩:=ZfF HO.out hpos
  have hrow:=(Za5 HO.out).open_ (k:=0) hpos;obtain⟨b,off,cap2,he,-,-,hr⟩:=hrow;simp only[Value.slice.injEq,Option.some.injEq,Addr.mk.injEq]at he;obtain⟨⟨rfl,rfl,-⟩,-,rfl⟩:=he;have hck:=hr.cell (i:=0) hpos;rw[Nat.add_zero]at hck
  have hn0:((bs.length:Int)==0)=false:=beq_eq_false_iff_ne.2 (by omega)
  unfold maxLen at hcm
  have HT:=Za (Znq HO.out (bs.length-1) (by omega))
  have HM:=Za (Zhv bs hpos)
  by_cases hstop:f=true∧bs.length=1∧Za1 (tl bs[0])=true
  ·obtain⟨rfl,hl1,hw⟩:=hstop
   have hl1':((bs.length:Int)==1)=true:=by rw[hl1];rfl
   have HE:=Za (show ZaC true (bs.map tl)=bs.map tl by unfold ZaC;rw[if_pos ⟨rfl,by rw[Xf];exact hl1,by rw[HM.out];exact hw⟩])
   have HW:=Za hw;clear hw hl1 hr
   go_enter Tryz.func291,Tryz.ntmps291
   go_wp2_with (go_at_call 289;refine(ZbG _ _).mono ?_;rintro e w' ⟨rfl,rfl⟩;rw[HW.out])
   exact bodyPost_ret (v:=.tuple #[]) (by simp[results,Tryz.results291,go_sem]) rfl ⟨_,_,_,rfl,HP.out,HO.out,HE.out.symm,Below.refl _ _⟩
  ·have HE:=Za (show ZaC f (bs.map tl)=(bs.take (bs.length-1)).map tl by
    unfold ZaC
    rw[if_neg (by rw[Xf,HM.out];exact hstop),Xf,Xn])
   have HR:=Za (show ∀u,PthAt (w.setCell ⟨pb,2,none⟩ u) pb f s u from fun u=>HP.out.set u)
   have HS:=Za (show ∀u,ZcM (w.setCell ⟨pb,2,none⟩ u) base (.slice (some ⟨g,0,none⟩) (bs.length-1) cap) (bs.take (bs.length-1))from fun u=>HP.out.own HT.out u)
   have HX:=Za (show ∀u,Below base w (w.setCell ⟨pb,2,none⟩ u)from fun u=>(Below.refl base w).setCell HB.out u)
   cases f
   ·clear hstop hr
    go_enter Tryz.func291,Tryz.ntmps291
    go_wp2
    exact bodyPost_end (v:=.tuple #[]) (by simp[results,Tryz.results291,go_sem]) rfl ⟨_,_,_,rfl,HR.out _,HS.out _,HE.out.symm,HX.out _⟩
   ·by_cases hl1:bs.length=1
    ·have hw:Za1 (tl bs[0])=false:=by
      cases h:Za1 (tl bs[0])
      ·rfl
      ·exact absurd ⟨rfl,hl1,h⟩ hstop
     have hl1':((bs.length:Int)==1)=true:=by rw[hl1];rfl
     have HW:=Za hw;clear hw hl1 hstop hr
     go_enter Tryz.func291,Tryz.ntmps291
     go_wp2_with (go_at_call 289;refine(ZbG _ _).mono ?_;rintro e w' ⟨rfl,rfl⟩;rw[HW.out])
     exact bodyPost_end (v:=.tuple #[]) (by simp[results,Tryz.results291,go_sem]) rfl ⟨_,_,_,rfl,HR.out _,HS.out _,HE.out.symm,HX.out _⟩
    ·have hl1':((bs.length:Int)==1)=false:=beq_eq_false_iff_ne.2 (by omega)
     clear hstop hl1 hr
     go_enter Tryz.func291,Tryz.ntmps291
     go_wp2
     exact bodyPost_end (v:=.tuple #[]) (by simp[results,Tryz.results291,go_sem]) rfl ⟨_,_,_,rfl,HR.out _,HS.out _,HE.out.symm,HX.out _⟩
theorem ZgN(n:Int):∀(l p:LB),p∈bsplit n l→p.length≤l.length:=by
 intro l
 induction l with
 | nil=>intro p hp;simp only[bsplit,Xv]at hp;subst hp;simp
 | cons c r ih=>
  intro p hp;rw[bsplit]at hp
  split at hp
  ·rcases Xz.1 hp with rfl|hp
   ·simp
   ·have:=ih p hp;simp only[Xc];omega
  ·split at hp
   ·rw[Xv]at hp;subst hp;simp
   ·next a q he=>
    rcases Xz.1 hp with rfl|hp
    ·have:=ih a (by rw[he];simp);simp only[Xc];omega
    ·have:=ih p (by rw[he];simp[hp]);simp only[Xc];omega
theorem Zdb(n:Int):∀l:LB,(bsplit n l).length≤l.length+1:=by
 intro l
 induction l with
 | nil=>simp[bsplit]
 | cons c r ih=>
  rw[bsplit]
  split
  ·simp only[Xc];omega
  ·split
   ·simp
   ·next a q he=>rw[he]at ih;simp only[Xc]at ih ⊢;omega
def Ze9(ps:List (List UInt8)):List (List UInt8):=ps.filter fun p=>!p.isEmpty
def ZdY(l:List UInt8):List (List UInt8):=Ze9 (bsplit 38 l)
theorem ZlN(ps:List LB)(p:LB):Ze9 (ps++[p])=Ze9 ps++(if p.isEmpty then []else [p]):=by
 simp only[Ze9,List.filter_append]
 cases h:p.isEmpty<;>simp[List.filter,h]
theorem ZgO{l p:LB}(h:p∈ZdY l):p.length≤l.length:=ZgN 38 l p (List.mem_filter.1 h).1
theorem ZeT(l:LB):(ZdY l).length≤l.length+1:=Nat.le_trans (List.length_filter_le _ _) (Zdb 38 l)
theorem Zhw(cs:LA)(k:Nat)(h:k<cs.length):(cs.map tl).take (k+1)=(cs.map tl).take k++[tl cs[k]]:=by rw[←Xn,←Xn,Xa h,Xl];rfl
theorem ZlO(s:BA)(w:World)(hs:s.size≤300000):Calls Tryz.prog 153 #[.string s] w fun e w'=>∃v bs,e=.returned v∧ZbU w' v bs∧bs.map tl=ZdY (tl s)∧Nx w w':=by
 go_enter Tryz.func153,Tryz.ntmps153
 go_wp2_with fail
 refine(Zda s 38 _ (by omega)).mono ?_
 rintro e w1 ⟨v,cs,rfl,hv,hcs,hn1⟩
 have hcl:cs.length≤300001:=by have h:=Zdb 38 (tl s);rw[←hcs,Xf,tl_length]at h;omega
 have HN1:=Za hn1;have HCS:=Za hcs;clear hn1 hcs;obtain⟨ao,cap,rfl,hlc,hcap,hnone,hsome⟩:=hv;unfold maxLen at hcap;go_wp2
 go_loopw [4,5] (fun o i wr=>∃(k:Nat) (bs:LA),k≤cs.length∧i=.int .i64 k∧ZcM wr w1.heap.size o bs∧bs.map tl=Ze9 ((cs.map tl).take k)∧bs.length≤k∧Nx w1 wr) (fun _ i _=>cs.length-(intOf i).toNat)
 case atStart=>exact⟨0,[],Xm _,rfl,ZgJ w1,rfl,by simp,Nx.rfl.alloc _⟩
 case round=>
  obtain⟨k,bs,hk,rfl,hown,hE,hbl,hnx⟩:=hrel
  by_cases hlt:k<cs.length
  ·obtain⟨a,ha⟩:=Zbm hlt hnone
   subst ha;obtain⟨b,off,rfl,hr⟩:=hsome a rfl;have hck:=(hr.on hnx).cell hlt;have HSN:=Za ((congrArg Ze9 (Zhw cs k hlt)).trans (ZlN _ _));have HO:=Za hown;have HN:=Za hnx;have HE:=Za hE;have hz:=hnx.size
   have hbl2:bs.length<1099511627776:=by omega
   clear hnone hsome hr hown hnx hE
   by_cases h0:cs[k].size=0
   ·have h0':=Zf h0
    have HT:=Za (show(tl cs[k]).isEmpty=true by rw[Zz h0];rfl)
    clear h0;go_wp2
    go_roundw
    case rel=>exact⟨k+1,bs,by omega,by go_num,HO.out,by rw[HSN.out,HT.out,if_pos rfl,Xy];exact HE.out,by omega,HN.out⟩
    case measure=>simp[intOf];omega
   ·have h0':=Ze h0
    have HT:=Za (show(tl cs[k]).isEmpty=false by have h:=ZcC h0;cases he:tl cs[k]<;>simp_all)
    clear h0
    go_wp2_with (at_builtin;go_must (refine ZeS wr cs[k] rfl _ _ rfl w1.heap.size _ bs rfl HO.out rfl hbl2 hz ?_;intro v' w2 ho2 hb2 _;have HO2:=Za ho2;clear ho2))
    go_roundw
    case rel=>exact⟨k+1,bs++[cs[k]],by omega,by go_num,HO2.out,by rw[HSN.out,HT.out,if_neg (by decide),Xl,HE.out];rfl,by simp;omega,HN.out.trans hb2⟩
    case measure=>simp[intOf];omega
  ·rw[Xb (by rw[Xf];omega)]at hE
   have HE:=Za (show bs.map tl=ZdY (tl s)by rw[hE,HCS.out];rfl)
   have HO:=Za hown;have HN:=Za hnx;clear hE hown hnx hnone hsome;go_wp2;go_ret;exact⟨_,_,rfl,Za5 HO.out,HE.out,HN1.out.then HN.out⟩
abbrev Pq:=ByteArray×ByteArray
def cellsP(ps:List Pq):List Value:=ps.flatMap fun p=>[Value.string p.1,Value.string p.2]
theorem cellsP_len(ps:List Pq):(cellsP ps).length=2*ps.length:=by
 induction ps with
 | nil=>rfl
 | cons p q ih=>show(_::_::cellsP q).length=_;simp only[Xc,ih];omega
theorem ZcD(ps:List Pq):∀(k:Nat) (h:k<ps.length),(cellsP ps)[k*2]?=some (.string ps[k].1)∧(cellsP ps)[k*2+1]?=some (.string ps[k].2):=by
 induction ps with
 | nil=>intro k h;simp at h
 | cons p q ih=>
  intro k h
  cases k with
  | zero=>exact⟨rfl,rfl⟩
  | succ k=>
   have h':=ih k (by simp only[Xc]at h;omega)
   have e:(k+1)*2=k*2+1+1:=by omega
   rw[e]
   show(_::_::cellsP q)[k*2+1+1]?=_∧(_::_::cellsP q)[k*2+1+1+1]?=_
   rw[Xg,Xg,Xg,Xg];exact h'
theorem ZlP(ps:List Pq):∀(k:Nat) (n v:BA),k<ps.length→((cellsP ps).set (k*2) (.string n)).set (k*2+1) (.string v)=cellsP (ps.set k (n,v)):=by
 induction ps with
 | nil=>intro k n v h;simp at h
 | cons p q ih=>
  intro k n v h
  cases k with
  | zero=>rfl
  | succ k=>
   have h':=ih k n v (by simp only[Xc]at h;omega)
   have e:(k+1)*2=k*2+1+1:=by omega
   rw[e]
   show((_::_::cellsP q).set (k*2+1+1) _).set (k*2+1+1+1) _=_
   rw[Xk,Xk,Xk,Xk,h']
   rfl
def FullP(w:World)(nb:Nat)(ps:List Pq):Prop:=w.heap[nb]?=some (Obj.cells (cellsP ps).toArray 113 (0,0))
theorem FullP.on{w w':World}{nb:Nat}{ps:List Pq}(h:FullP w nb ps)(hb:Nx w w'):FullP w' nb ps:=(hb.block nb (Xe.1 h).1).trans h
theorem FullP.lt{w:World}{nb:Nat}{ps:List Pq}(h:FullP w nb ps):nb<w.heap.size:=(Xe.1 h).1
theorem FullP.cell{w:World}{nb:Nat}{ps:List Pq}(h:FullP w nb ps){k:Nat}(hk:k<ps.length):w.cell? ⟨nb,k*2,none⟩=some (.string ps[k].1)∧w.cell? ⟨nb,k*2+1,none⟩=some (.string ps[k].2):=by
 obtain⟨h1,h2⟩:=ZcD ps k hk;unfold FullP at h
 constructor<;>simp only[World.cell?,h]<;>simpa using by first|exact h1|exact h2
theorem FullP.free{w:World}{nb:Nat}{ps:List Pq}(h:FullP w nb ps)(i:Nat):w.frozen? ⟨nb,i,none⟩=false:=by
 unfold FullP at h
 simp[World.frozen?,h]
theorem FullP.set{w:World}{nb:Nat}{ps:List Pq}(h:FullP w nb ps){k:Nat}(hk:k<ps.length)(n v:BA):FullP ((w.setCell ⟨nb,k*2,none⟩ (.string n)).setCell ⟨nb,k*2+1,none⟩ (.string v)) nb (ps.set k (n,v)):=by
 unfold FullP at *
 have h1:(w.setCell ⟨nb,k*2,none⟩ (.string n)).heap[nb]?=some (Obj.cells ((cellsP ps).set (k*2) (.string n)).toArray 113 (0,0)):=by
  simp only[World.setCell,Xd,if_pos,h]
  simp
 rw[←ZlP ps k n v hk];generalize w.setCell ⟨nb,k*2,none⟩ (.string n)=w1 at *;simp only[World.setCell,Xd,if_pos,h1]
 simp
def Znr:Pq:=(ByteArray.empty,ByteArray.empty)
theorem Zhx:(Tryz.prog.info? 113).map (fun i=>(i.zero,i.size,i.bytes))=some (some (.agg #[.string ByteArray.empty,.string ByteArray.empty]),2,32):=by kernel_rfl
theorem ZlQ(n:Nat):madeCells #[Value.string ByteArray.empty,Value.string ByteArray.empty] (n*2)=(cellsP (List.replicate n Znr)).toArray:=by
 apply Xo.1
 apply List.ext_getElem?
 intro i;rw[Array.getElem?_toList]
 by_cases hi:i<n*2
 ·obtain⟨h1,h2⟩:=ZcD (List.replicate n Znr) (i/2) (by rw[Xi];omega)
  have hz:(madeCells #[Value.string ByteArray.empty,Value.string ByteArray.empty] (n*2))[i]?=some (.string ByteArray.empty):=by
   have hm:i%2=0∨i%2=1:=by omega
   rcases hm with hm|hm<;>simp[madeCells,hi,hm]
  rw[hz]
  have hm:i=i/2*2∨i=i/2*2+1:=by omega
  rcases hm with hm|hm
  ·rw[hm,h1];simp[Znr]
  ·rw[hm,h2];simp[Znr]
 ·rw[Array.getElem?_eq_none (by rw[size_madeCells];omega),List.getElem?_eq_none (by rw[List.toList_toArray,cellsP_len,Xi];omega)]
theorem ZgP(n:Nat)(hn:n≤1000000)(w:World):(Instr.makeSlice 68 (.int .i64 (n:Int)) (.int .i64 (n:Int))).run Tryz.prog w=.ok (.slice (some ⟨w.heap.size,0,none⟩) n n) (w.alloc (.cells (cellsP (List.replicate n Znr)).toArray 113)):=by
 obtain⟨i,hi,hzz⟩:=Option.map_eq_some_iff.1 Zhx;simp only[Prod.mk.injEq]at hzz;obtain⟨hz,hs,hb⟩:=hzz
 have hr:=run_make (P:=Tryz.prog) w 68 113 i _ Tryz.underlying68 hi hz .i64 .i64 n n (by omega) (Int.le_refl _) (by rw[hb];omega) (by omega)
 rw[hs]at hr;simp only[Int.toNat_natCast]at hr;rw[hr,←ZlQ]
 rfl
def Zh(l:List UInt8):List (List UInt8×List UInt8):=(ZdY l).map ZbV
def tl2(p:Pq):List UInt8×List UInt8:=(tl p.1,tl p.2)
def PrsIs(w:World)(base:Nat)(v:Value)(ps:List Pq):Prop:=(ps=[]∧v=.slice none 0 0)∨(0<ps.length∧∃nb,base≤nb∧v=.slice (some ⟨nb,0,none⟩) ps.length ps.length∧FullP w nb ps)
theorem ZgQ(ps:List Pq)(n k:Nat)(hk:ps.length=k)(h:k<n)(p:Pq):(ps++List.replicate (n-k) Znr).set k p=(ps++[p])++List.replicate (n-(k+1)) Znr:=by
 subst hk
 rw[Xr _ _ (Xh _),Nat.sub_self,show n-ps.length=(n-(ps.length+1))+1 by omega,Xs,Xt,Xw]
 rfl
theorem ZjI(s:BA)(w:World)(hs:s.size≤300000):Calls Tryz.prog 104 #[.string s] w fun e w'=>∃v ps,e=.returned v∧PrsIs w' w.heap.size v ps∧ps.map tl2=Zh (tl s)∧Nx w w':=by
 go_enter Tryz.func104,Tryz.ntmps104
 go_wp2_with fail
 refine(ZlO s _ hs).mono ?_
 rintro e w1 ⟨v,cs,rfl,hv,hcs,hn1⟩
 have hcl:cs.length≤300001:=by have h:=ZeT (tl s);rw[←hcs,Xf,tl_length]at h;omega
 have hcm:∀c∈cs,c.size≤300000:=fun c hc=>by
  have h:=ZgO (l:=tl s) (p:=tl c) (by rw[←hcs];exact List.mem_map.2 ⟨c,hc,rfl⟩)
  rw[tl_length,tl_length]at h
  omega
 have HCM:=Za hcm;have HN1:=Za hn1
 have HCS:=Za (show Zh (tl s)=cs.map (fun c=>ZbV (tl c))by unfold Zh;rw[←hcs,List.map_map];rfl)
 have hw1:=hn1.size;clear hn1 hcs hcm;obtain⟨ao,cap,rfl,hlc,hcap,hnone,hsome⟩:=hv;unfold maxLen at hcap;rcases Xx cs.length with h0|hpos
 ·have h0':((cs.length:Int)==0)=true:=by rw[h0];rfl
  have HE:=Za (show Zh (tl s)=[]by rw[HCS.out,Xp h0];rfl)
  clear h0 hnone hsome;go_wp2;go_ret;exact⟨_,[],rfl,Or.inl ⟨rfl,rfl⟩,HE.out.symm,HN1.out⟩
 ·have h0':((cs.length:Int)==0)=false:=beq_eq_false_iff_ne.2 (by omega)
  have hmk:=ZgP cs.length (by omega)
  go_wp2;clear hmk
  go_loopw [5] (fun i wr=>∃(k:Nat) (ps:List Pq),k≤cs.length∧ps.length=k∧i=.int .i64 k∧FullP wr w1.heap.size (ps++List.replicate (cs.length-k) Znr)∧ps.map tl2=(cs.take k).map (fun c=>ZbV (tl c))∧Nx w1 wr) (fun i _=>cs.length-(intOf i).toNat)
  case atStart=>exact⟨0,[],Xm _,rfl,rfl,heap_alloc_new w1 _,rfl,Nx.rfl.alloc _⟩
  case round=>
   obtain⟨k,ps,hk,hpl,rfl,hrow,hE,hnx⟩:=hrel
   by_cases hlt:k<cs.length
   ·obtain⟨a,ha⟩:=Zbm hlt hnone
    subst ha;obtain⟨b,off,rfl,hr⟩:=hsome a rfl;have hck:=(hr.on hnx).cell hlt;have hsz:=HCM.out cs[k] (List.getElem_mem hlt);have HR:=Za hrow;have HN:=Za hnx;have HE:=Za hE;have HPL:=Za hpl;clear hnone hsome hr hrow hnx hE hpl;go_wp2_with fail
    refine(ZlI cs[k] _ hsz).mono ?_
    rintro e w2 ⟨n,v,rfl,hnv,hn2⟩;have HR2:=Za (HR.out.on hn2);have HN2:=Za (HN.out.then hn2);have HNV:=Za hnv;clear hnv hn2 HR HN
    have hkl:k<(ps++List.replicate (cs.length-k) Znr).length:=by rw[Xu,Xi,HPL.out];omega
    obtain⟨d0,d1⟩:=HR2.out.cell hkl;have f0:=HR2.out.free (k*2);have f1:=HR2.out.free (k*2+1);have hlt2:=HR2.out.lt;go_wp2
    go_roundw
    case rel=>
     have hf:=HR2.out.set hkl n v;rw[ZgQ ps cs.length k HPL.out hlt (n,v)]at hf
     refine⟨k+1,ps++[(n,v)],by omega,by simp[HPL.out],by go_num,hf,?_,Below.setCell (Below.setCell HN2.out (Xh _) _) (Xh _) _⟩
     rw[Xl,HE.out,Xa hlt,Xl]
     show _++[(tl n,tl v)]=_
     rw[HNV.out]
     rfl
    case measure=>simp[intOf];omega
   ·have hk2:cs.length=k:=by omega
    rw[show cs.length-k=0 by omega,List.replicate_zero,Xy]at hrow
    rw[Xb (by omega)]at hE
    have HR:=Za hrow;have HN:=Za hnx
    have HE:=Za (show ps.map tl2=Zh (tl s)by rw[hE,HCS.out])
    have HPL:=Za (show ps.length=cs.length by omega)
    clear hrow hnx hE hpl hk2 hnone hsome;go_wp2;go_ret
    exact⟨_,ps,rfl,Or.inr ⟨by rw[HPL.out];exact hpos,w1.heap.size,hw1,by rw[HPL.out];rfl,HR.out⟩,HE.out,HN1.out.then HN.out⟩
def RowP(w:World)(b off:Nat)(ps:List Pq):Prop:=∃(cs:Array Value) (fz:Nat×Nat),w.heap[b]?=some (Obj.cells cs 113 fz)∧∀i,(h:i<ps.length)→cs[off+i*2]?=some (.string ps[i].1)∧cs[off+i*2+1]?=some (.string ps[i].2)
def PlAt(w:World)(v:Value)(ps:List Pq):Prop:=∃ao cap,v=.slice ao ps.length cap∧ps.length≤cap∧cap≤maxLen∧(ao=none→ps=[]∧cap=0)∧∀a,ao=some a→∃b off,a=⟨b,off,none⟩∧RowP w b off ps
theorem RowP.cell{w:World}{b off:Nat}{ps:List Pq}(h:RowP w b off ps){i:Nat}(hi:i<ps.length):w.cell? ⟨b,off+i*2,none⟩=some (.string ps[i].1)∧w.cell? ⟨b,off+i*2+1,none⟩=some (.string ps[i].2):=by
 obtain⟨cs,fz,hh,hc⟩:=h;obtain⟨h1,h2⟩:=hc i hi
 constructor<;>simp only[World.cell?,hh]
 ·exact h1
 ·exact h2
theorem RowP.on{w w':World}{b off:Nat}{ps:List Pq}(h:RowP w b off ps)(hb:Nx w w'):RowP w' b off ps:=by obtain⟨cs,fz,hh,hc⟩:=h;exact⟨cs,fz,(hb.block b (Xe.1 hh).1).trans hh,hc⟩
theorem FullP.row{w:World}{nb:Nat}{ps:List Pq}(h:FullP w nb ps):RowP w nb 0 ps:=⟨_,_,h,fun i hi=>by rw[Nat.zero_add];simpa using ZcD ps i hi⟩
theorem PlAt.on{w w':World}{v:Value}{ps:List Pq}(h:PlAt w v ps)(hb:Nx w w'):PlAt w' v ps:=by
 obtain⟨ao,cap,rfl,hlc,hcap,hnone,hsome⟩:=h
 refine⟨ao,cap,rfl,hlc,hcap,hnone,fun a ha=>?_⟩
 obtain⟨b,off,rfl,hr⟩:=hsome a ha;exact⟨b,off,rfl,hr.on hb⟩
theorem PlAt.nil(w:World):PlAt w (.slice none 0 0) []:=⟨none,0,rfl,by simp,Xm _,fun _=>⟨rfl,rfl⟩,nofun⟩
theorem PrsIs.on{w w':World}{base:Nat}{v:Value}{ps:List Pq}(h:PrsIs w base v ps)(hb:Nx w w'):PrsIs w' base v ps:=by
 rcases h with h|⟨h0,nb,h1,rfl,h2⟩
 ·exact Or.inl h
 ·exact Or.inr ⟨h0,nb,h1,rfl,h2.on hb⟩
theorem PrsIs.at{w:World}{base:Nat}{v:Value}{ps:List Pq}(h:PrsIs w base v ps)(hl:ps.length≤1000000):PlAt w v ps:=by
 rcases h with⟨rfl,rfl⟩|⟨h0,nb,h1,rfl,h2⟩
 ·exact PlAt.nil w
 ·exact⟨_,_,rfl,Xh _,Zg hl,nofun,fun a ha=>⟨nb,0,(Option.some.inj ha).symm,h2.row⟩⟩
theorem Za6{ao:Option Addr}{cap k:Nat}{ps:List Pq}(hk:k<ps.length)(hnone:ao=none→ps=[]∧cap=0):∃a,ao=some a:=by
 cases ao with
 | none=>have:=(hnone rfl).1;subst this;simp at hk
 | some a=>exact⟨a,rfl⟩
theorem Zns{a b:BA}(h:tl a=tl b):a=b:=by cases a;cases b;simp only[tl]at h;congr 1;exact Xo.1 h
theorem Znt{p q:Pq}(h:tl2 p=tl2 q):p=q:=by obtain⟨a,b⟩:=p;obtain⟨c,d⟩:=q;simp only[tl2,Prod.mk.injEq]at h;rw[Zns h.1,Zns h.2]
theorem Zed{ps qs:List Pq}(h:ps.map tl2=qs.map tl2):ps=qs:=by
 induction ps generalizing qs with
 | nil=>cases qs with
  | nil=>rfl
  | cons q r=>cases h
 | cons p r ih=>cases qs with
  | nil=>cases h
  | cons q t=>
   simp only[List.map_cons,List.cons.injEq]at h;rw[Znt h.1,ih h.2]
theorem Zio{ps qs:List Pq}{k:Nat}(h:ps.take k=qs.take k)(h1:k<ps.length)(h2:k<qs.length)(e:ps[k]=qs[k]):ps.take (k+1)=qs.take (k+1):=by rw[Xa h1,Xa h2,h,e]
theorem Zip{a b:BA}(h:¬a=b):¬a.toList=b.toList:=fun e=>h (Za4 (by rw[ByteArray.toList_eq,ByteArray.toList_eq]at e;exact e))
theorem ZbW(a b:Value)(ps qs:List Pq)(w:World)(ha:PlAt w a ps)(hb:PlAt w b qs):Calls Tryz.prog 33 #[a,b] w fun e w'=>e=.returned (.bool (decide (ps=qs)))∧Nx w w':=by
 obtain⟨ao,cap,rfl,hlc,hcap,hnone,hsome⟩:=ha;obtain⟨bo,cap2,rfl,hlc2,hcap2,hnone2,hsome2⟩:=hb;unfold maxLen at hcap hcap2
 by_cases hl:ps.length=qs.length
 ·have hl':((ps.length:Int) != (qs.length:Int))=false:=by rw[hl];simp
  have hl'':((ps.length:Int)==(qs.length:Int))=true:=by rw[hl];simp
  have HL:=Za hl;clear hl
  go_enter Tryz.func33,Tryz.ntmps33
  go_wp2
  go_loopw [5] (fun i wr=>∃k:Nat,k≤ps.length∧i=.int .i64 k∧ps.take k=qs.take k∧Nx w wr) (fun i _=>ps.length-(intOf i).toNat)
  case atStart=>exact⟨0,Xm _,rfl,rfl,Nx.rfl⟩
  case round=>
   obtain⟨k,hk,rfl,hE,hnx⟩:=hrel;have HE:=Za hE;have HN:=Za hnx;clear hE hnx
   by_cases hlt:k<ps.length
   ·have hlt2:k<qs.length:=by rw[←HL.out];exact hlt
    obtain⟨a,ha⟩:=Za6 hlt hnone;subst ha;obtain⟨b,off,rfl,hr⟩:=hsome a rfl;obtain⟨c0,c1⟩:=(hr.on HN.out).cell hlt;obtain⟨a2,ha2⟩:=Za6 hlt2 hnone2;subst ha2;obtain⟨b2,off2,rfl,hr2⟩:=hsome2 a2 rfl;obtain⟨d0,d1⟩:=(hr2.on HN.out).cell hlt2;clear hnone hsome hnone2 hsome2 hr hr2
    by_cases h1:ps[k].1=qs[k].1
    ·have h1':ps[k].1.toList=qs[k].1.toList:=congrArg ByteArray.toList h1
     by_cases h2:ps[k].2=qs[k].2
     ·have h2':ps[k].2.toList=qs[k].2.toList:=congrArg ByteArray.toList h2
      have HQ:=Za (Zio HE.out hlt hlt2 (Prod.ext h1 h2));clear h1 h2;go_wp2
      go_region
      all_goals go_wp2
      all_goals go_roundw
      all_goals first|exact⟨k+1,by omega,by go_num,HQ.out,HN.out.drew⟩|(simp[intOf];omega)
     ·have h2':=Zip h2
      have HQ:=Za (show decide (ps=qs)=false from decide_eq_false fun e=>h2 (by subst e;rfl))
      clear h1 h2;go_wp2
      go_region
      all_goals go_wp2
      all_goals go_ret
      all_goals exact⟨by rw[HQ.out];rfl,HN.out.drew⟩
    ·have h1':=Zip h1
     have HQ:=Za (show decide (ps=qs)=false from decide_eq_false fun e=>h1 (by subst e;rfl))
     clear h1;go_wp2
     go_region
     all_goals go_wp2
     all_goals go_ret
     all_goals exact⟨by rw[HQ.out];rfl,HN.out.drew⟩
   ·have HQ:=Za (show decide (ps=qs)=true from decide_eq_true (by have h:=HE.out;rw[Xb (by omega),Xb (by have:=HL.out;omega)]at h;exact h))
    clear hnone hsome hnone2 hsome2;go_wp2;go_ret
    exact⟨by rw[HQ.out];rfl,HN.out⟩
 ·have hl':((ps.length:Int) != (qs.length:Int))=true:=by simp only[bne_iff_ne];omega
  have hl'':((ps.length:Int)==(qs.length:Int))=false:=beq_eq_false_iff_ne.2 (by omega)
  have HQ:=Za (show decide (ps=qs)=false from decide_eq_false fun e=>hl (by rw[e]))
  clear hl hnone hsome hnone2 hsome2
  go_enter Tryz.func33,Tryz.ntmps33
  go_wp2;go_ret
  exact⟨by rw[HQ.out];rfl,Nx.rfl⟩
end Go.Proofs.YtchkhibgbnhjpabGreatDoor
