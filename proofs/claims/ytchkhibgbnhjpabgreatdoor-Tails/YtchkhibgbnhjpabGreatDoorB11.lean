import Derived.Test.YtchkhibgbnhjpabGreatDoorB10
import Derived.Deep.OwnRows
import Derived.Laws.OwnMore
import Derived.Laws.Bits64b
open Array renaming getElem?_modify→Xc
open List renaming append_assoc→Xa,getElem?_eq_getElem→Xb,length_take→Xd,nil_append→Xe,map_nil→Xf,length_map→Xh,map_cons→Xi,eq_nil_of_length_eq_zero→Xj,getD_eq_getElem?_getD→Xk,drop_eq_getElem_cons→Xl,take_of_length_le→Xm,drop_of_length_le→Xn,length_append→Xo,length_drop→Xq,map_append→Xr,length_set→Xs,append_nil→Xt,map_take→Xu,map_set→Xv
open Nat renaming le_refl→Xg,eq_zero_or_pos→Xp,le_trans→Xw
namespace Go.Proofs.YtchkhibgbnhjpabGreatDoor
open Go.RowKit
set_option maxHeartbeats 4000000
set_option maxRecDepth 100000
def ZN(l:List UInt8):Bool:=match l with | [a,b]=>alpha a.toNat&&((b.toNat:Int)==58||(b.toNat:Int)==124)|_=>false
theorem Zfi{l:LB}(h:ZN l=true):l.length=2:=by
 unfold ZN at h
 split at h
 ·rfl
 ·cases h
theorem Zw8{s:BA}(h:s.size=2):tl s=[s[0],s[1]]:=by
 have h0:=ZI s 0 (by omega)
 have h1:=ZI s 1 (by omega)
 rw[ZC s 2 (by omega)]at h1
 rw[h1]at h0
 simpa using h0
theorem Zdf(s:BA)(w:World):Calls Tryz.prog 288 #[.string s] w fun e w'=>e=.returned (.bool (ZN (tl s)))∧w=w':=by
 by_cases h2:s.size=2
 ·have hg:1<s.size:=by omega
  have hg0:0<s.size:=by omega
  have HT:Hid (ZN (tl s)=(alpha (s[0]'hg0).toNat&&(((s[1]'hg).toNat:Int)==58||((s[1]'hg).toNat:Int)==124))):=Za (by rw[Zw8 h2];rfl)
  have hl:((s.size:Int)==2)=true:=by rw[h2];rfl
  have hb0:=bb (s[0]'hg0);have hb1:=bb (s[1]'hg);clear h2
  cases hA:alpha (s[0].toNat:Int)
  ·have HA:=Za hA
   clear hA
   go_enter Tryz.func288,Tryz.ntmps288
   go_wp2_with (go_at_call 253;refine(Zbt _ _).mono ?_;rintro e w' ⟨rfl,rfl⟩;rw[HA.out])
   all_goals go_ret
   all_goals exact⟨Zo (by rw[HT.out,HA.out];rfl),rfl⟩
  ·have HA:=Za hA
   clear hA
   cases h58:((s[1].toNat:Int)==58)
   ·go_enter Tryz.func288,Tryz.ntmps288
    go_wp2_with (go_at_call 253;refine(Zbt _ _).mono ?_;rintro e w' ⟨rfl,rfl⟩;rw[HA.out])
    all_goals go_ret
    all_goals exact⟨Zo (by rw[HT.out,HA.out,h58];simp),rfl⟩
   ·go_enter Tryz.func288,Tryz.ntmps288
    go_wp2_with (go_at_call 253;refine(Zbt _ _).mono ?_;rintro e w' ⟨rfl,rfl⟩;rw[HA.out])
    all_goals go_ret
    all_goals exact⟨Zo (by rw[HT.out,HA.out,h58];rfl),rfl⟩
 ·have HT:=Za (show ZN (tl s)=false by
   cases h:ZN (tl s)
   ·rfl
   ·have:=Zfi h
    rw[tl_length]at this
    exact absurd this h2)
  have hl:((s.size:Int)==2)=false:=by simp;omega
  clear h2
  go_enter Tryz.func288,Tryz.ntmps288
  go_wp2
  all_goals go_ret
  all_goals exact⟨Zo HT.out.symm,rfl⟩
def Zar(l:List UInt8):Bool:=ZN l&&((l.getD 1 0).toNat:Int)==58
theorem ZcB(s:BA)(w:World):Calls Tryz.prog 289 #[.string s] w fun e w'=>e=.returned (.bool (Zar (tl s)))∧w=w':=by
 cases hd:ZN (tl s)
 ·have HE:=Za (show Zar (tl s)=false by unfold Zar;rw[hd];rfl)
  have HD:=Za hd;clear hd
  go_enter Tryz.func289,Tryz.ntmps289
  go_wp2_with (go_at_call 288;refine(Zdf _ _).mono ?_;rintro e w' ⟨rfl,rfl⟩;rw[HD.out])
  all_goals go_ret
  all_goals exact⟨Zo HE.out.symm,rfl⟩
 ·have h2:=Zfi hd
  rw[tl_length]at h2
  have hg:1<s.size:=by omega
  have hb1:=bb s[1]
  have HE:=Za (show Zar (tl s)=((s[1].toNat:Int)==58)by unfold Zar;rw[hd,ZdI s 1 hg,Bool.true_and])
  have HD:=Za hd;clear hd h2
  go_enter Tryz.func289,Tryz.ntmps289
  go_wp2_with (go_at_call 288;refine(Zdf _ _).mono ?_;rintro e w' ⟨rfl,rfl⟩;rw[HD.out])
  all_goals go_ret
  all_goals exact⟨Zo HE.out.symm,rfl⟩
def Zai(l:List UInt8):Bool:=ZN (bcut (slB true) l).1
theorem ZdL(s:BA)(w:World)(hs:s.size≤maxLen):Calls Tryz.prog 256 #[.string s] w fun e w'=>e=.returned (.bool (Zai (tl s)))∧Nx w w':=by
 go_enter Tryz.func256,Tryz.ntmps256
 go_wp2_with fail
 refine(Zdw _ _ _ hs).mono ?_
 rintro e w1 ⟨⟨a,b,rfl,ha,hb⟩,hn1⟩
 have HA:=Za (show Zai (tl s)=ZN (tl a)by unfold Zai;rw[ha])
 clear ha hb
 go_wp2_with (go_at_call 288;refine(Zdf _ _).mono ?_;rintro e w' ⟨rfl,rfl⟩)
 go_ret;exact⟨Zo HA.out.symm,hn1⟩
def dotSize(l:List UInt8):Nat:=
 if((l.getD 0 0).toNat:Int)=46 then 1
 else if 3≤l.length∧((l.getD 0 0).toNat:Int)=37∧((l.getD 1 0).toNat:Int)=50∧(((l.getD 2 0).toNat:Int)=101∨((l.getD 2 0).toNat:Int)=69)then 3 else 0
theorem ZpI(l:LB):dotSize l=if((l.getD 0 0).toNat:Int)=46 then 1
 else if 3≤l.length∧((l.getD 0 0).toNat:Int)=37∧((l.getD 1 0).toNat:Int)=50∧(((l.getD 2 0).toNat:Int)=101∨((l.getD 2 0).toNat:Int)=69)then 3 else 0:=rfl
theorem ZpJ(l:LB):dotSize l≤l.length:=by
 unfold dotSize
 split
 ·rename_i h
  cases l with
  | nil=>simp at h
  | cons=>simp
 ·split
  ·omega
  ·omega
theorem Zh4(s:BA)(w:World)(hs:s.size≤maxLen):Calls Tryz.prog 315 #[.string s] w fun e w'=>e=.returned (.int .i64 (dotSize (tl s):Nat))∧w=w':=by
 unfold maxLen at hs
 by_cases h0:s.size=0
 ·have HE:=Za (show dotSize (tl s)=0 by rw[Zw h0];rfl)
  have h0':=Zl h0
  have h3:s.size<3:=by omega
  clear h0
  go_enter Tryz.func315,Tryz.ntmps315
  go_wp2;go_ret
  exact⟨Zam (by rw[HE.out];rfl),rfl⟩
 have h0':=Zh h0;have hb0:=bb s[0];have HD:=Za (ZpI (tl s))
 rw[tl_length,ZdI s 0 (by omega)]at HD
 cases h46:((s[0].toNat:Int)==46)
 ·have HD2:=Za (HD.out.trans (if_neg (by simpa using h46)))
  clear HD
  by_cases h3:3≤s.size
  ·rw[ZdI s 1 (by omega),ZdI s 2 (by omega)]at HD2
   have hb1:=bb s[1];have hb2:=bb s[2]
   by_cases hy:(s[0].toNat:Int)=37∧(s[1].toNat:Int)=50∧((s[2].toNat:Int)=101∨(s[2].toNat:Int)=69)
   ·have HE:=Za (HD2.out.trans (if_pos ⟨h3,hy⟩))
    clear HD2;obtain⟨y0,y1,y2⟩:=hy
    have z0:((s[0].toNat:Int)==37)=true:=by simpa using y0
    have z1:((s[1].toNat:Int)==50)=true:=by simpa using y1
    cases z2:((s[2].toNat:Int)==101)
    ·have z3:((s[2].toNat:Int)==69)=true:=by
      rcases y2 with h|h
      ·rw[h]at z2;cases z2
      ·simpa using h
     clear y0 y1 y2
     go_enter Tryz.func315,Tryz.ntmps315
     go_wp2;go_ret
     exact⟨Zam (by rw[HE.out];rfl),rfl⟩
    ·clear y0 y1 y2
     go_enter Tryz.func315,Tryz.ntmps315
     go_wp2;go_ret
     exact⟨Zam (by rw[HE.out];rfl),rfl⟩
   ·have HE:=Za (HD2.out.trans (if_neg (fun h=>hy h.2)))
    clear HD2
    cases z0:((s[0].toNat:Int)==37)
    ·clear hy
     go_enter Tryz.func315,Tryz.ntmps315
     go_wp2;go_ret
     exact⟨Zam (by rw[HE.out];rfl),rfl⟩
    ·cases z1:((s[1].toNat:Int)==50)
     ·clear hy
      go_enter Tryz.func315,Tryz.ntmps315
      go_wp2;go_ret
      exact⟨Zam (by rw[HE.out];rfl),rfl⟩
     ·have z2:((s[2].toNat:Int)==101)=false:=by
       cases h:((s[2].toNat:Int)==101)
       ·rfl
       ·exact absurd ⟨by simpa using z0,by simpa using z1,Or.inl (by simpa using h)⟩ hy
      have z3:((s[2].toNat:Int)==69)=false:=by
       cases h:((s[2].toNat:Int)==69)
       ·rfl
       ·exact absurd ⟨by simpa using z0,by simpa using z1,Or.inr (by simpa using h)⟩ hy
      clear hy
      go_enter Tryz.func315,Tryz.ntmps315
      go_wp2;go_ret
      exact⟨Zam (by rw[HE.out];rfl),rfl⟩
  ·have HE:=Za (HD2.out.trans (if_neg (fun h=>h3 h.1)))
   clear HD2
   have h3':s.size<3:=by omega
   go_enter Tryz.func315,Tryz.ntmps315
   go_wp2;go_ret
   exact⟨Zam (by rw[HE.out];rfl),rfl⟩
 ·have HE:=Za (HD.out.trans (if_pos (by simpa using h46)))
  clear HD
  go_enter Tryz.func315,Tryz.ntmps315
  go_wp2;go_ret
  exact⟨Zam (by rw[HE.out];rfl),rfl⟩
def cdGo:Nat→Nat→List UInt8→Nat
 | 0,_,_=>0
 | m+1,n,l=>if l=[]then n else if dotSize l=0 then 0 else cdGo m (n+1) (l.drop (dotSize l))
def countDots(l:List UInt8):Nat:=cdGo 3 0 l
theorem Zv4(m:Nat):∀n l,m+n=3→cdGo m n l≤2:=by
 induction m with
 | zero=>intro n l h;simp[cdGo]
 | succ m ih=>
  intro n l h;rw[cdGo]
  split
  ·omega
  ·split
   ·omega
   ·exact ih _ _ (by omega)
theorem Zb6(s:BA)(w:World)(hs:s.size≤1000000):Calls Tryz.prog 302 #[.string s] w fun e w'=>e=.returned (.int .i64 (countDots (tl s):Nat))∧w=w':=by
 go_enter Tryz.func302,Tryz.ntmps302
 go_wp2
 go_loop [3,4] (fun r i=>∃(m n:Nat) (q:BA),m+n=3∧r=.string q∧i=.int .i64 n∧q.size≤s.size∧countDots (tl s)=cdGo m n (tl q)) (fun _ i=>3-(intOf i).toNat)
 case atStart=>exact⟨3,0,s,rfl,rfl,rfl,Xg _,rfl⟩
 case round=>
  obtain⟨m,n,q,hmn,rfl,rfl,hq,hE⟩:=hrel
  cases m with
  | zero=>
   have:n=3:=by omega
   subst this;have HE:=Za hE;clear hE hmn;go_wp2;go_ret
   exact⟨Zam (by rw[HE.out];rfl),rfl⟩
  | succ m=>
   rw[cdGo]at hE
   have hn3:n<3:=by omega
   by_cases h0:q.size=0
   ·have HE:=Za (hE.trans (if_pos (Zw h0)))
    have h0':=Zl h0;clear hE h0;have HM:=Za hmn;clear hmn;go_wp2;go_ret
    exact⟨Zam (by rw[HE.out]),rfl⟩
   ·have h0':=Zh h0
    have hE2:=hE.trans (if_neg (ZcO h0));have hle:=ZpJ (tl q);rw[tl_length]at hle;have HM:=Za hmn;clear hE hmn;generalize hd:dotSize (tl q)=d at *;have HD:=Za hd;clear hd
    by_cases hd0:d=0
    ·have HE:=Za (hE2.trans (if_pos hd0))
     subst hd0;clear hE2
     go_wp2_with (go_at_call 315;refine(Zh4 _ _ (Zf (by omega))).mono ?_;rintro e w' ⟨rfl,rfl⟩;rw[HD.out])
     go_ret
     exact⟨Zam (by rw[HE.out];rfl),rfl⟩
    ·have HE:=Za (hE2.trans (if_neg hd0))
     have hd1:((d:Int)==0)=false:=by simp;omega
     clear hE2
     go_wp2_with (go_at_call 315;refine(Zh4 _ _ (Zf (by omega))).mono ?_;rintro e w' ⟨rfl,rfl⟩;rw[HD.out])
     go_round
     case rel=>exact⟨m,n+1,_,by have:=HM.out;omega,rfl,by go_num,by rw[ZQ];omega,by rw[HE.out,tl_from]⟩
     case measure=>simp[intOf];omega
def RowS(w:World)(nb:Nat)(ns:List ByteArray):Prop:=w.heap[nb]?=some (Obj.cells (ns.map Value.string).toArray 9 (0,0))
theorem RowS.cell{w:World}{nb:Nat}{ns:LA}(h:RowS w nb ns){i:Nat}(hi:i<ns.length):w.cell? ⟨nb,i,none⟩=some (.string ns[i]):=by
 unfold RowS at h
 simp[World.cell?,h,Xb hi]
theorem RowS.free{w:World}{nb:Nat}{ns:LA}(h:RowS w nb ns)(i:Nat):w.frozen? ⟨nb,i,none⟩=false:=by
 unfold RowS at h
 simp[World.frozen?,h]
theorem RowS.set{w:World}{nb:Nat}{ns:LA}(h:RowS w nb ns)(i:Nat)(x:BA):RowS (w.setCell ⟨nb,i,none⟩ (.string x)) nb (ns.set i x):=by
 unfold RowS at *;simp only[World.setCell,Xc,if_pos,h]
 simp[Xv]
theorem ZpK(w:World)(n:Nat):RowS (w.alloc (.cells (madeCells #[Value.string ByteArray.empty] n) 9)) w.heap.size (List.replicate n ByteArray.empty):=by
 unfold RowS;rw[heap_alloc_new]
 congr 2
 apply Array.toList_inj.1
 rw[toList_madeCells_one]
 simp
theorem RowS.own{w:World}{nb base:Nat}{ns:LA}(h:RowS w nb ns)(hb:base≤nb)(hl:ns.length≤maxLen):Zds w base (.slice (some ⟨nb,0,none⟩) ns.length ns.length) ns:=
 ⟨by simp,.inr ⟨nb,ns.length,_,rfl,hb,h,Xg _,hl,by simp,by rw[Nat.mul_one];exact Xm (by simp)⟩⟩
theorem Zrw(bs:LA)(k:Nat)(h:k<bs.length):(bs.take k++List.replicate (bs.length-k) ByteArray.empty).set k bs[k]=bs.take (k+1)++List.replicate (bs.length-(k+1)) ByteArray.empty:=by
 rw[List.set_append_right k _ (by rw[Xd];omega),Xd,show k-min k bs.length=0 by omega,show bs.length-k=(bs.length-(k+1))+1 by omega,List.replicate_succ,List.set_cons_zero,List.take_succ_eq_append_getElem h,Xa]
 rfl
theorem ZtZ(bs:LA)(k:Nat)(h:bs.length≤k):bs.take k++List.replicate (bs.length-k) ByteArray.empty=bs:=by
 rw[Xm h,show bs.length-k=0 by omega]
 simp
theorem Zon(v:Value)(bs:LA)(w:World)(hv:Zcv w v bs)(hl:bs.length≤1000000):Calls Tryz.prog 264 #[v] w fun e w'=>∃v',e=.returned v'∧Zds w' w.heap.size v' bs∧Nx w w':=by
 obtain⟨ao,cap,rfl,hlc,hcap,hnone,hsome⟩:=hv;unfold maxLen at hcap
 have hmk:=run_make_row' (P:=Tryz.prog) 78 9 (.string ByteArray.empty) 16 Tryz.underlying78 ZfE rfl .i64 .i64 bs.length (by omega) (by omega)
 go_enter Tryz.func264,Tryz.ntmps264
 go_wp2;clear hmk
 go_loopw [4] (fun i wr=>∃k:Nat,k≤bs.length∧i=.int .i64 k∧RowS wr w.heap.size (bs.take k++List.replicate (bs.length-k) ByteArray.empty)∧Nx w wr) (fun i _=>bs.length-(intOf i).toNat)
 case atStart=>exact⟨0,Nat.zero_le _,rfl,by simpa using ZpK w bs.length,Nx.rfl.alloc _⟩
 case round=>
  obtain⟨k,hk,rfl,hrow,hnx⟩:=hrel
  by_cases hlt:k<bs.length
  ·obtain⟨a,ha⟩:=ZR hlt hnone
   subst ha;obtain⟨b,off,rfl,hr⟩:=hsome a rfl;have hck:=(hr.on hnx).cell hlt
   have hc2:=hrow.cell (i:=k) (by rw[Xo,Xd,List.length_replicate];omega)
   have hf2:=hrow.free k;have HR:=Za (hrow.set k bs[k]);rw[Zrw bs k hlt]at HR;have HN:=Za (show Nx w (wr.setCell ⟨w.heap.size,k,none⟩ (.string bs[k]))from Below.setCell hnx (Xg _) _);clear hnone hsome hr hrow hnx;go_wp2
   go_roundw
   case rel=>exact⟨k+1,by omega,by go_num,HR.out,HN.out⟩
   case measure=>simp[intOf];omega
  ·rw[ZtZ bs k (by omega)]at hrow
   have HO:=Za (hrow.own (Xg _) (Zf hl));have HN:=Za hnx;clear hrow hnx;go_wp2;go_ret;exact⟨_,rfl,HO.out,HN.out⟩
def PthAt(w:World)(pb:Nat)(f s:Bool)(v:Value):Prop:=w.heap[pb]?=some (Obj.cells #[.bool f,.bool s,v] 223 (0,0))
theorem PthAt.on{w w':World}{pb:Nat}{f s:Bool}{v:Value}(h:PthAt w pb f s v)(hb:Nx w w'):PthAt w' pb f s v:=
 (hb.block pb (Array.getElem?_eq_some_iff.1 h).1).trans h
theorem PthAt.kp{w w':World}{pb:Nat}{f s:Bool}{v:Value}(h:PthAt w pb f s v)(hb:Kp 9 w w'):PthAt w' pb f s v:=hb pb _ _ _ h (by decide)
theorem PthAt.facts{w:World}{pb:Nat}{f s:Bool}{v:Value}(h:PthAt w pb f s v):w.cell? ⟨pb,0,none⟩=some (.bool f)∧w.cell? ⟨pb,1,none⟩=some (.bool s)∧w.cell? ⟨pb,2,none⟩=some v∧w.frozen? ⟨pb,2,none⟩=false:=by
 unfold PthAt at h
 refine⟨?_,?_,?_,?_⟩<;>simp[World.cell?,World.frozen?,h]
theorem PthAt.set{w:World}{pb:Nat}{f s:Bool}{v:Value}(h:PthAt w pb f s v)(u:Value):PthAt (w.setCell ⟨pb,2,none⟩ u) pb f s u:=by
 unfold PthAt at *;simp only[World.setCell,Xc,if_pos,h]
 rfl
theorem PthAt.own{w:World}{pb base:Nat}{f s:Bool}{v x:Value}{bs:LA}(h:PthAt w pb f s v)(ho:Zds w base x bs)(u:Value):Zds (w.setCell ⟨pb,2,none⟩ u) base x bs:=by
 obtain⟨h1,⟨rfl,h3⟩|⟨g,cap,cur,rfl,h4,h5,h6⟩⟩:=ho
 ·exact⟨h1,.inl ⟨rfl,h3⟩⟩
 ·refine⟨h1,.inr ⟨g,cap,cur,rfl,h4,?_,h6⟩⟩
  have hne:pb≠g:=by
   intro e;subst e;unfold PthAt at h;rw[h]at h5;simp only[Option.some.injEq,Obj.cells.injEq]at h5
   exact absurd h5.2.1 (by decide)
  simp only[World.setCell,Xc,if_neg hne];exact h5
theorem Zrx{w:World}{base g n cap:Nat}{bs:LA}(h:Zds w base (.slice (some ⟨g,0,none⟩) n cap) bs)(k:Nat)(hk:k≤bs.length):Zds w base (.slice (some ⟨g,0,none⟩) k cap) (bs.take k):=by
 obtain⟨h1,⟨h2,h3⟩|⟨g',cap',cur,h2,h4,h5,h6,h7,h8,h9⟩⟩:=h
 ·cases h2
 ·simp only[Value.slice.injEq,Option.some.injEq,Addr.mk.injEq]at h2
  obtain⟨⟨rfl,-⟩,rfl,rfl⟩:=h2
  have hl:(bs.take k).length=k:=by rw[Xd];omega
  refine⟨by simp,.inr ⟨g,cap,cur,by rw[hl],h4,h5,by omega,h7,h8,?_⟩⟩
  rw[hl,Xu,←h9,List.take_take]
  congr 1
  omega
theorem Zh5{w:World}{base:Nat}{v:Value}{bs:LA}(h:Zds w base v bs)(h0:0<bs.length):∃g cap,v=.slice (some ⟨g,0,none⟩) bs.length cap∧bs.length≤cap∧cap≤maxLen:=by
 obtain⟨h1,⟨h2,h3⟩|⟨g',cap',cur,h2,h4,h5,h6,h7,h8,h9⟩⟩:=h
 ·omega
 ·exact⟨g',cap',h2,h6,h7⟩
theorem Zjj{w:World}{base:Nat}{v:Value}(h:Zds w base v []):∃ao cap,v=.slice ao 0 cap:=by
 obtain⟨h1,⟨h2,h3⟩|⟨g',cap',cur,h2,h4,h5,h6,h7,h8,h9⟩⟩:=h
 ·exact⟨_,_,h2⟩
 ·exact⟨_,_,h2⟩
def ZaK(f:Bool)(ps:List (List UInt8)):List (List UInt8):=if f=true∧ps.length=1∧Zar (ps.getD 0 [])=true then ps else ps.take (ps.length-1)
theorem ZpL(f:Bool)(ps:List LB):(ZaK f ps).length≤ps.length:=by
 unfold ZaK
 split
 ·omega
 ·rw[Xd];omega
theorem Zkf(bs:LA)(h:0<bs.length):(bs.map tl).getD 0 []=tl bs[0]:=by rw[Xk,List.getElem?_map,Xb h];rfl
theorem ZfQ(pb base:Nat)(f s:Bool)(v:Value)(bs:LA)(w:World)(hp:PthAt w pb f s v)(ho:Zds w base v bs)(hb:base≤pb)(hl:bs.length≤1000000):Calls Tryz.prog 291 #[.pointer (some ⟨pb,0,none⟩)] w fun e w'=>∃x v' bs',e=.returned x∧PthAt w' pb f s v'∧Zds w' base v' bs'∧bs'.map tl=ZaK f (bs.map tl)∧Below base w w':=by
 obtain⟨hc0,hc1,hc2,hf2⟩:=hp.facts;have HP:=Za hp;have HO:=Za ho;have HB:=Za hb;clear hp ho hb;rcases Xp bs.length with h0|hpos
 ·have e0:bs=[]:=Xj h0
  subst e0;obtain⟨ao,cap,rfl⟩:=Zjj HO.out;clear h0
  go_enter Tryz.func291,Tryz.ntmps291
  go_wp2
  exact bodyPost_ret (v:=.tuple #[]) (by simp[results,Tryz.results291,go_sem]) rfl ⟨_,_,_,rfl,HP.out,HO.out,by cases f<;>rfl,Below.refl _ _⟩
 ·obtain⟨g,cap,rfl,hlc,hcm⟩:=Zh5 HO.out hpos
  have hrow:=(Zp HO.out).open_ (k:=0) hpos;obtain⟨b,off,cap2,he,-,-,hr⟩:=hrow;simp only[Value.slice.injEq,Option.some.injEq,Addr.mk.injEq]at he;obtain⟨⟨rfl,rfl,-⟩,-,rfl⟩:=he;have hck:=hr.cell (i:=0) hpos;rw[Nat.add_zero]at hck
  have hn0:((bs.length:Int)==0)=false:=beq_eq_false_iff_ne.2 (by omega)
  unfold maxLen at hcm
  have HT:=Za (Zrx HO.out (bs.length-1) (by omega))
  have HM:=Za (Zkf bs hpos)
  by_cases hstop:f=true∧bs.length=1∧Zar (tl bs[0])=true
  ·obtain⟨rfl,hl1,hw⟩:=hstop
   have hl1':((bs.length:Int)==1)=true:=by rw[hl1];rfl
   have HE:=Za (show ZaK true (bs.map tl)=bs.map tl by unfold ZaK;rw[if_pos ⟨rfl,by rw[Xh];exact hl1,by rw[HM.out];exact hw⟩])
   have HW:=Za hw;clear hw hl1 hr
   go_enter Tryz.func291,Tryz.ntmps291
   go_wp2_with (go_at_call 289;refine(ZcB _ _).mono ?_;rintro e w' ⟨rfl,rfl⟩;rw[HW.out])
   exact bodyPost_ret (v:=.tuple #[]) (by simp[results,Tryz.results291,go_sem]) rfl ⟨_,_,_,rfl,HP.out,HO.out,HE.out.symm,Below.refl _ _⟩
  ·have HE:=Za (show ZaK f (bs.map tl)=(bs.take (bs.length-1)).map tl by
    unfold ZaK
    rw[if_neg (by rw[Xh,HM.out];exact hstop),Xh,Xu])
   have HR:=Za (show ∀u,PthAt (w.setCell ⟨pb,2,none⟩ u) pb f s u from fun u=>HP.out.set u)
   have HS:=Za (show ∀u,Zds (w.setCell ⟨pb,2,none⟩ u) base (.slice (some ⟨g,0,none⟩) (bs.length-1) cap) (bs.take (bs.length-1))from fun u=>HP.out.own HT.out u)
   have HX:=Za (show ∀u,Below base w (w.setCell ⟨pb,2,none⟩ u)from fun u=>(Below.refl base w).setCell HB.out u)
   cases f
   ·clear hstop hr
    go_enter Tryz.func291,Tryz.ntmps291
    go_wp2
    exact bodyPost_end (v:=.tuple #[]) (by simp[results,Tryz.results291,go_sem]) rfl ⟨_,_,_,rfl,HR.out _,HS.out _,HE.out.symm,HX.out _⟩
   ·by_cases hl1:bs.length=1
    ·have hw:Zar (tl bs[0])=false:=by
      cases h:Zar (tl bs[0])
      ·rfl
      ·exact absurd ⟨rfl,hl1,h⟩ hstop
     have hl1':((bs.length:Int)==1)=true:=by rw[hl1];rfl
     have HW:=Za hw;clear hw hl1 hstop hr
     go_enter Tryz.func291,Tryz.ntmps291
     go_wp2_with (go_at_call 289;refine(ZcB _ _).mono ?_;rintro e w' ⟨rfl,rfl⟩;rw[HW.out])
     exact bodyPost_end (v:=.tuple #[]) (by simp[results,Tryz.results291,go_sem]) rfl ⟨_,_,_,rfl,HR.out _,HS.out _,HE.out.symm,HX.out _⟩
    ·have hl1':((bs.length:Int)==1)=false:=beq_eq_false_iff_ne.2 (by omega)
     clear hstop hl1 hr
     go_enter Tryz.func291,Tryz.ntmps291
     go_wp2
     exact bodyPost_end (v:=.tuple #[]) (by simp[results,Tryz.results291,go_sem]) rfl ⟨_,_,_,rfl,HR.out _,HS.out _,HE.out.symm,HX.out _⟩
theorem Zc4{w:World}{base:Nat}{v:Value}{bs:LA}(h:Zds w base v bs)(h0:0<bs.length):∃g n cap,v=.slice (some ⟨g,0,none⟩) n cap:=by obtain⟨g,cap,h,-,-⟩:=Zh5 h h0;exact⟨g,_,cap,h⟩
theorem Zg(a b:BA):tl (a++b)=tl a++tl b:=by simp[tl]
theorem Zi(a b:BA):(a++b).size=a.size+b.size:=by simp
def joinL(f:Bool)(ps:List (List UInt8))(seg:List UInt8):List (List UInt8):=
 ps++[if f=true∧ps=[]∧ZN seg=true then seg.take 1++[58]else encB (tl (ZaJ 4)) (clean seg)]
theorem ZmU{ps:List LB}{seg:LB}(h:ps=[])(hd:ZN seg=true):joinL true ps seg=ps++[seg.take 1++[58]]:=by unfold joinL;rw[if_pos ⟨rfl,h,hd⟩]
theorem Zkg{f:Bool}{ps:List LB}{seg:LB}(h:¬(f=true∧ps=[]∧ZN seg=true)):joinL f ps seg=ps++[encB (tl (ZaJ 4)) (clean seg)]:=by unfold joinL;rw[if_neg h]
theorem Zt0(pb base:Nat)(f s:Bool)(v:Value)(bs:LA)(q:BA)(w:World)(hp:PthAt w pb f s v)(ho:Zds w base v bs)(hb:base≤pb)(hbw:base≤w.heap.size)(hl:bs.length≤1000000)(hq:q.size≤1000000):Calls Tryz.prog 303 #[.pointer (some ⟨pb,0,none⟩),.string q] w fun e w'=>∃x v' bs',e=.returned x∧PthAt w' pb f s v'∧Zds w' base v' bs'∧bs'.map tl=joinL f (bs.map tl) (tl q)∧bs'.length≤bs.length+1∧Below base w w':=by
 have HP:=Za hp;have HO:=Za ho;have HB:=Za hb;clear hp ho hb
 go_enter Tryz.func303,Tryz.ntmps303
 go_wp2_with fail
 refine(ZaM _ _ _ hq).mono ?_
 rintro e w1 ⟨r1,rfl,hr1,hn1⟩;have HP1:=Za (HP.out.on hn1);have HO1:=Za (ZbG HO.out hn1);have HR1:=Za hr1;have hz:base≤w1.heap.size:=Xw hbw hn1.size;have HN1:=Za (show Below base w w1 from hn1.mono hbw);clear hr1 hn1 HP HO;obtain⟨hc0,hc1,hc2,hf2⟩:=HP1.out.facts
 have hbl:bs.length<1099511627776:=by omega
 have key:∀(y:BA) (w2:World) (v':Value),Zds w2 base v' (bs++[y])→Below base w1 w2→Kp 9 w1 w2→PthAt w2 pb f s v∧(∀u,PthAt (w2.setCell ⟨pb,2,none⟩ u) pb f s u)∧(∀u,Zds (w2.setCell ⟨pb,2,none⟩ u) base v' (bs++[y]))∧(∀u,Below base w (w2.setCell ⟨pb,2,none⟩ u)):=by
  intro y w2 v' h1 h2 h3;have h4:=HP1.out.kp h3
  exact⟨h4,fun u=>h4.set u,fun u=>h4.own h1 u,fun u=>(HN1.out.trans h2).setCell HB.out u⟩
 have KEY:=Za key;clear key
 cases f
 ·have HE:=Za (show joinL false (bs.map tl) (tl q)=(bs++[r1]).map tl by rw[Zkg (by rintro⟨h,-⟩;cases h),Xr,Xi,Xf,HR1.out])
  go_wp2_with (at_builtin;go_must (refine Zcx w1 r1 rfl _ _ rfl base v bs rfl HO1.out rfl hbl hz ?_;intro v' w2 ho2 hb2 hk2;obtain⟨g2,n2,c2,rfl⟩:=Zc4 ho2 (by simp);obtain⟨hp4,hps,hos,hbs⟩:=KEY.out r1 w2 _ ho2 hb2 hk2;obtain⟨-,-,hd2,hg2⟩:=hp4.facts;have HPS:=Za hps;have HOS:=Za hos;have HBS:=Za hbs;clear ho2 hb2 hk2 hp4 hps hos hbs))
  exact bodyPost_end (results_none rfl _ _ _) rfl ⟨_,_,_,rfl,HPS.out _,HOS.out _,HE.out.symm,by simp,HBS.out _⟩
 ·rcases Xp bs.length with h0|hpos
  ·have e0:bs=[]:=Xj h0
   subst e0;obtain⟨ao,cap,rfl⟩:=Zjj HO1.out;clear h0
   cases hd:ZN (tl q)
   ·have HD:=Za hd
    have HE:=Za (show joinL true ([].map tl) (tl q)=([]++[r1]:LA).map tl by rw[Zkg (by rintro⟨-,-,h⟩;rw[hd]at h;cases h),Xe,Xf,Xe,Xi,Xf,HR1.out])
    clear hd
    go_wp2_with (first|(go_at_call 288;refine(Zdf _ _).mono ?_;rintro e w' ⟨rfl,rfl⟩;rw[HD.out])|(at_builtin;go_must (refine Zcx w1 r1 rfl _ _ rfl base _ [] rfl HO1.out rfl hbl hz ?_;intro v' w2 ho2 hb2 hk2;obtain⟨g2,n2,c2,rfl⟩:=Zc4 ho2 (by simp);obtain⟨hp4,hps,hos,hbs⟩:=KEY.out r1 w2 _ ho2 hb2 hk2;obtain⟨-,-,hd2,hg2⟩:=hp4.facts;have HPS:=Za hps;have HOS:=Za hos;have HBS:=Za hbs;clear ho2 hb2 hk2 hp4 hps hos hbs)))
    exact bodyPost_end (results_none rfl _ _ _) rfl ⟨_,_,_,rfl,HPS.out _,HOS.out _,HE.out.symm,by simp,HBS.out _⟩
   ·have hq2:=Zfi hd
    rw[tl_length]at hq2
    have hq1:1≤q.size:=by omega
    have HD:=Za hd
    have HE:=Za (show joinL true ([].map tl) (tl q)=([]++[q.extract 0 1++(⟨#[58]⟩:BA)]:LA).map tl by rw[Xf,ZmU rfl hd,Xe,Xe,Xi,Xf,Zg,tl_to];rfl)
    have hsz:(q.extract 0 1).size≤1000000:=Xw (ZvV q 1) hq;clear hd hq2
    go_wp2_with (first|(go_at_call 288;refine(Zdf _ _).mono ?_;rintro e w' ⟨rfl,rfl⟩;rw[HD.out])|(at_builtin;go_must (refine Zcx w1 (q.extract 0 1++(⟨#[58]⟩:BA)) rfl _ _ rfl base _ [] rfl HO1.out rfl hbl hz ?_;intro v' w2 ho2 hb2 hk2;obtain⟨g2,n2,c2,rfl⟩:=Zc4 ho2 (by simp);obtain⟨hp4,hps,hos,hbs⟩:=KEY.out (q.extract 0 1++(⟨#[58]⟩:BA)) w2 _ ho2 hb2 hk2;obtain⟨-,-,hd2,hg2⟩:=hp4.facts;have HPS:=Za hps;have HOS:=Za hos;have HBS:=Za hbs;clear ho2 hb2 hk2 hp4 hps hos hbs)))
    exact bodyPost_end (results_none rfl _ _ _) rfl ⟨_,_,_,rfl,HPS.out _,HOS.out _,HE.out.symm,by simp,HBS.out _⟩
  ·obtain⟨g,cap,rfl,hlc,hcm⟩:=Zh5 HO1.out hpos
   unfold maxLen at hcm
   have hn0:((bs.length:Int)==0)=false:=beq_eq_false_iff_ne.2 (by omega)
   have HE:=Za (show joinL true (bs.map tl) (tl q)=(bs++[r1]).map tl by
    rw[Zkg (by rintro⟨-,h,-⟩;have:=congrArg List.length h;rw[Xh]at this;simp at this;subst this;simp at hpos),Xr,Xi,Xf,HR1.out])
   go_wp2_with (at_builtin;go_must (refine Zcx w1 r1 rfl _ _ rfl base _ bs rfl HO1.out rfl hbl hz ?_;intro v' w2 ho2 hb2 hk2;obtain⟨g2,n2,c2,rfl⟩:=Zc4 ho2 (by simp);obtain⟨hp4,hps,hos,hbs⟩:=KEY.out r1 w2 _ ho2 hb2 hk2;obtain⟨-,-,hd2,hg2⟩:=hp4.facts;have HPS:=Za hps;have HOS:=Za hos;have HBS:=Za hbs;clear ho2 hb2 hk2 hp4 hps hos hbs))
   exact bodyPost_end (results_none rfl _ _ _) rfl ⟨_,_,_,rfl,HPS.out _,HOS.out _,HE.out.symm,by simp,HBS.out _⟩
theorem Zv5(w:World):Calls Tryz.prog 295 #[.int .i64 16] w fun e w'=>e=.returned (.bool true)∧w=w':=by
 go_enter Tryz.func295,Tryz.ntmps295
 go_wp2;go_ret;exact⟨rfl,rfl⟩
theorem Zv6(w:World)(h:w.cell? ⟨2,15,none⟩=some (.int .u8 4)):Calls Tryz.prog 305 #[.int .u64 16] w fun e w'=>e=.returned (.int .i64 4)∧w=w':=by
 have e1:IntKind.u64.wrap (bits BinOp.and IntKind.u64 16 (IntKind.u64.wrap (-16))*285870213051353865)/288230376151711744=15:=by decide
 go_enter Tryz.func305,Tryz.ntmps305
 go_wp2;go_ret;exact⟨rfl,rfl⟩
theorem ZxL(w:World)(h:w.cell? ⟨2,15,none⟩=some (.int .u8 4)):Calls Tryz.prog 296 #[.int .u64 16] w fun e w'=>e=.returned (.int .i64 4)∧w=w':=by
 go_enter Tryz.func296,Tryz.ntmps296
 go_wp2_with (go_at_call 305;refine(Zv6 _ h).mono ?_;rintro e w' ⟨rfl,rfl⟩)
 go_ret;exact⟨rfl,rfl⟩
def Zdt(d:Nat):UInt8:=if d<10 then UInt8.ofNat (48+d)else UInt8.ofNat (87+d)
def Zfx(n:Nat):List UInt8:=if n<16 then [Zdt n]else if n<256 then [Zdt (n/16),Zdt (n%16)]else if n<4096 then [Zdt (n/256),Zdt (n/16%16),Zdt (n%16)]else [Zdt (n/4096),Zdt (n/256%16),Zdt (n/16%16),Zdt (n%16)]
theorem Zjk{n:Nat}(h:n<16):Zfx n=[Zdt n]:=by unfold Zfx;rw[if_pos h]
theorem Zlh{n:Nat}(h:16≤n)(h2:n≤65535):Zfx n=Zfx (n/16)++[Zdt (n%16)]:=by
 unfold Zfx
 by_cases h1:n<256
 ·rw[if_neg (by omega),if_pos h1,if_pos (by omega)];rfl
 ·by_cases h3:n<4096
  ·rw[if_neg (by omega),if_neg h1,if_pos h3,if_neg (by omega),if_pos (by omega),show n/16/16=n/256 by omega];rfl
  ·rw[if_neg (by omega),if_neg h1,if_neg h3,if_neg (by omega),if_neg (by omega),if_pos (by omega),show n/16/256=n/4096 by omega,show n/16/16=n/256 by omega];rfl
theorem Zgb(n:Nat):1≤(Zfx n).length∧(Zfx n).length≤4:=by
 unfold Zfx
 split
 ·simp
 ·split
  ·simp
  ·split<;>simp
def BufAt(w:World)(ab:Nat)(cs:List UInt8):Prop:=w.heap[ab]?=some (Obj.cells (cs.map fun b=>Value.int .u8 (b.toNat:Int)).toArray 249 (0,0))∧cs.length=65
theorem BufAt.cell{w:World}{ab:Nat}{cs:LB}(h:BufAt w ab cs){i:Nat}(hi:i<cs.length):w.cell? ⟨ab,i,none⟩=some (.int .u8 (cs[i].toNat:Int)):=by
 have h1:=h.1
 simp[World.cell?,h1,Xb hi]
theorem BufAt.free{w:World}{ab:Nat}{cs:LB}(h:BufAt w ab cs)(i:Nat):w.frozen? ⟨ab,i,none⟩=false:=by
 have h1:=h.1
 simp[World.frozen?,h1]
theorem BufAt.set{w:World}{ab:Nat}{cs:LB}(h:BufAt w ab cs)(i:Nat)(x:UInt8)(y:Int)(hy:y=(x.toNat:Int)):BufAt (w.setCell ⟨ab,i,none⟩ (.int .u8 y)) ab (cs.set i x):=by
 subst hy;obtain⟨h1,h2⟩:=h
 refine⟨?_,by rw[Xs];exact h2⟩
 simp only[World.setCell,Xc,if_pos,h1]
 simp[Xv]
theorem Zv7(w:World):BufAt (w.alloc (Obj.cells Tryz.zeroCells249 249)) w.heap.size (List.replicate 65 0):=⟨(heap_alloc_new w _).trans (by kernel_rfl),rfl⟩
def Zfj:ByteArray:=⟨#[48,49,50,51,52,53,54,55,56,57,97,98,99,100,101,102,103,104,105,106,107,108,109,110,111,112,113,114,115,116,117,118,119,120,121,122]⟩
theorem Zoo(d:Nat)(h:d<16)(hh:d<Zfj.size):Zfj[d]'hh=Zdt d:=by
 match d,h with
 | 0,_=>rfl
 | 1,_=>rfl
 | 2,_=>rfl
 | 3,_=>rfl
 | 4,_=>rfl
 | 5,_=>rfl
 | 6,_=>rfl
 | 7,_=>rfl
 | 8,_=>rfl
 | 9,_=>rfl
 | 10,_=>rfl
 | 11,_=>rfl
 | 12,_=>rfl
 | 13,_=>rfl
 | 14,_=>rfl
 | 15,_=>rfl
 | k+16,h=>exact absurd h (by omega)
theorem drop_set(cs:LB)(j:Nat)(d:UInt8)(h:j<cs.length):(cs.set j d).drop j=d::cs.drop (j+1):=by rw[Xl (by rw[Xs];exact h),List.getElem_set_self,List.drop_set_of_lt (by omega)]
theorem ZpM(m:Nat)(hh:m%16<Zfj.size):(((Zfj[m%16]'hh).toNat:Nat):Int)=((Zdt (m%16)).toNat:Int):=by rw[Zoo (m%16) (by omega) hh]
theorem ZmV(m:Nat)(h:m<16)(hh:m<Zfj.size):(((Zfj[m]'hh).toNat:Nat):Int)=((Zdt m).toNat:Int):=by rw[Zoo m h hh]
theorem ZxM(m:Nat)(h:m≤65535):bits BinOp.and IntKind.u64 (m:Int) 15=((m%16:Nat):Int):=by
 have:=bits_and_u64_nat m 15 (by omega) (by decide)
 rw[show((15:Nat):Int)=15 from rfl]at this;rw[this,show(15:Nat)=2^4-1 from rfl,Nat.and_two_pow_sub_one_eq_mod]
theorem Zry(n:Nat)(hn:n≤65535)(w:World)(h:w.cell? ⟨2,15,none⟩=some (.int .u8 4)):Calls Tryz.prog 268 #[.slice none 0 0,.int .u64 n,.int .i64 16,.bool false,.bool false] w fun e w'=>∃r:BA,e=.returned (.tuple #[.slice none 0 0,.string r])∧tl r=Zfx n∧Nx w w':=by
 go_enter Tryz.func268,Tryz.ntmps268
 have h':∀o,(w.alloc o).cell? ⟨2,15,none⟩=some (.int .u8 4):=fun o=>((Nx.rfl.alloc o).cell (World.block_lt_of_cell? w _ h)).trans h
 go_wp2_with (first|(go_at_call 295;refine(Zv5 _).mono ?_;rintro e w' ⟨rfl,rfl⟩)|(go_at_call 296;refine(ZxL _ (h' _)).mono ?_;rintro e w' ⟨rfl,rfl⟩))
 clear h'
 go_loopw [1,13] (fun u i wr=>∃(m j:Nat) (cs:LB),u=.int .u64 m∧i=.int .i64 ((j:Int)+1)∧m≤65535∧j≤64∧BufAt wr w.heap.size cs∧Zfx n=Zfx m++cs.drop (j+1)∧(Zfx m).length+(64-j)≤4∧Nx w wr) (fun u _ _=>(intOf u).toNat)
 case atStart=>exact⟨n,64,_,rfl,rfl,hn,by omega,Zv7 w,by rw[Xn (by simp),Xt],by have:=Zgb n;omega,Nx.rfl.alloc _⟩
 case round=>
  obtain⟨m,j,cs,rfl,rfl,hm,hj,hbuf,hE,hL,hnx⟩:=hrel;have hl:=Zgb m
  have hjl:j<cs.length:=by have:=hbuf.2;omega
  have hcj:=hbuf.cell hjl;have hfj:=hbuf.free j;have hand:=ZxM m hm;have HB:=Za hbuf;have HE:=Za hE;have HL:=Za hL;have HN:=Za hnx;clear hbuf hE hL hnx;generalize cs[j]=old at *
  by_cases h16:16≤m
  ·have hst:=Zlh h16 hm
   have HST:=Za hst;have hl2:=congrArg List.length hst;rw[Xo,List.length_singleton]at hl2;have hl3:=Zgb (m/16);have HL2:=Za hl2
   have hj1:1≤j:=by have:=HL.out;omega
   clear hst hl2;go_wp2
   refine⟨⟨m/16,j-1,cs.set j (Zdt (m%16)),by simp,by rw[show((j-1:Nat):Int)+1=(j:Int)by omega],by omega,by omega,HB.out.set j (Zdt (m%16)) _ (ZpM m _),?_,by have:=HL.out;have:=HL2.out;omega,HN.out.setCell (Xg _) _⟩,by simp[intOf];omega⟩
   rw[HE.out,HST.out,show j-1+1=j by omega,drop_set cs j _ hjl,Xa]
   rfl
  ·have HST:=Za (Zjk (n:=m) (by omega))
   have h16':m<16:=by omega
   have HB2:=Za (HB.out.set j (Zdt m) _ rfl)
   have HE2:=Za (show Zfx n=(cs.set j (Zdt m)).drop j by rw[HE.out,HST.out,drop_set cs j _ hjl];rfl)
   have hdg:∀hh,((((⟨#[48,49,50,51,52,53,54,55,56,57,97,98,99,100,101,102,103,104,105,106,107,108,109,110,111,112,113,114,115,116,117,118,119,120,121,122]⟩:BA)[m]'hh).toNat:Nat):Int)=((Zdt m).toNat:Int):=fun hh=>ZmV m h16' hh
   have hcv:(convert 160 9 (.slice (some ⟨w.heap.size,j,none⟩) (65-j) (65-j))).run Tryz.prog (wr.setCell ⟨w.heap.size,j,none⟩ (.int .u8 ((Zdt m).toNat:Int)))=.ok (.string ⟨(Zfx n).toArray⟩) (wr.setCell ⟨w.heap.size,j,none⟩ (.int .u8 ((Zdt m).toNat:Int))):=by
    have hlen:((cs.set j (Zdt m)).drop j).length=65-j:=by rw[Xq,HB2.out.2]
    have:=run_convert_bytes_back (P:=Tryz.prog) (wr.setCell ⟨w.heap.size,j,none⟩ (.int .u8 ((Zdt m).toNat:Int))) 160 9 5 ⟨w.heap.size,j,none⟩ (65-j) ((cs.set j (Zdt m)).drop j) Tryz.underlying160 Tryz.underlying5 Tryz.underlying9 (fun i hi=>by
     rw[Xq]at hi
     rw[Addr.add_lit,HB2.out.cell (i:=j+i) (by omega),List.getElem_drop])
    rw[hlen]at this;rw[this,HE2.out]
   have hsl:∀W,(Instr.sliceAt 249 (.pointer (some ⟨w.heap.size,0,none⟩)) (some (.int .i64 (j:Int))) none none).run Tryz.prog W=.ok (.slice (some ⟨w.heap.size,j,none⟩) (65-j) (65-j)) W:=fun W=>by
    rw[run_sliceAt_array_l W 249 ⟨w.heap.size,0,none⟩ (by simp[Program.arrayLen,Program.elem,Tryz.underlying249]) .i64 (j:Int) (by omega) (by rw[show Tryz.prog.arrayLen 249=65 by kernel_rfl];omega)]
    rw[show Tryz.prog.arrayLen 249=65 by kernel_rfl,show Tryz.prog.elem 249=5 by kernel_rfl]
    rw[Tryz.sizeOf5]
    simp[slicedAt,Result.andThen,Addr.add_lit]
    omega
   go_wp2;go_ret2;exact⟨_,rfl,tl_mk _,HN.out.setCell (Xg _) _⟩
theorem Zt1(n:Nat)(hn:n≤65535)(w:World)(h:w.cell? ⟨2,15,none⟩=some (.int .u8 4)):Calls Tryz.prog 230 #[.int .i64 n,.int .i64 16] w fun e w'=>∃r:BA,e=.returned (.string r)∧tl r=Zfx n∧Nx w w':=by
 go_enter Tryz.func230,Tryz.ntmps230
 go_wp2_with (go_at_call 268;refine(Zry n hn _ h).mono ?_;rintro e w1 ⟨r,rfl,hr,hn1⟩;have HR:=Za hr;have HN:=Za hn1;clear hr hn1)
 go_ret;exact⟨_,rfl,HR.out,HN.out⟩
theorem Zh6(n:Nat)(hn:n≤65535)(w:World)(h:w.cell? ⟨2,15,none⟩=some (.int .u8 4)):Calls Tryz.prog 320 #[.int .i64 n,.int .i64 16] w fun e w'=>∃r:BA,e=.returned (.string r)∧tl r=Zfx n∧Nx w w':=by
 go_enter Tryz.func320,Tryz.ntmps320
 go_wp2_with (go_at_call 230;refine(Zt1 n hn _ h).mono ?_;rintro e w1 ⟨r,rfl,hr,hn1⟩;have HR:=Za hr;have HN:=Za hn1;clear hr hn1)
 go_ret;exact⟨_,rfl,HR.out,HN.out⟩
def lrGo:Nat→Nat→Nat→Nat→List Int→Nat×Nat
 | _,st,ln,_,[]=>(st,ln)
 | i,st,ln,run,x::r=>
  if ln<(if x=0 then run+1 else 0)then lrGo (i+1) (i+1-(if x=0 then run+1 else 0)) (if x=0 then run+1 else 0) (if x=0 then run+1 else 0) r
  else lrGo (i+1) st ln (if x=0 then run+1 else 0) r
def Z0(ns:List Int):Nat×Nat:=lrGo 0 8 1 0 ns
theorem Zt2(ns:LI):∀i st ln run,st≤8→1≤ln→ln≤8→run≤i→i+ns.length≤8→(lrGo i st ln run ns).1≤8∧1≤(lrGo i st ln run ns).2∧(lrGo i st ln run ns).2≤8:=by
 induction ns with
 | nil=>intro i st ln run h1 h2 h3 h4 h5;rw[lrGo];exact⟨h1,h2,h3⟩
 | cons x r ih=>
  intro i st ln run h1 h2 h3 h4 h5;rw[List.length_cons]at h5
  have hr:(if x=0 then run+1 else 0)≤i+1:=by split<;>omega
  rw[lrGo]
  generalize (if x=0 then run+1 else 0)=run' at *
  split
  ·exact ih _ _ _ _ (by omega) (by omega) (by omega) hr (by omega)
  ·exact ih _ _ _ _ h1 h2 h3 hr (by omega)
theorem Zv8(ns:LI)(k:Nat)(h:k<ns.length)(st ln run:Nat):lrGo k st ln run (ns.drop k) =
  if ln<(if ns[k]=0 then run+1 else 0)then lrGo (k+1) (k+1-(if ns[k]=0 then run+1 else 0)) (if ns[k]=0 then run+1 else 0) (if ns[k]=0 then run+1 else 0) (ns.drop (k+1))
  else lrGo (k+1) st ln (if ns[k]=0 then run+1 else 0) (ns.drop (k+1)):=by
 rw[Xl h,lrGo]
theorem ZmW(a0 a1 a2 a3 a4 a5 a6 a7:Int)(w:World):Calls Tryz.prog 319 #[.agg #[.int .i64 a0,.int .i64 a1,.int .i64 a2,.int .i64 a3,.int .i64 a4,.int .i64 a5,.int .i64 a6,.int .i64 a7]] w fun e w'=>e=.returned (.tuple #[.int .i64 ((Z0 [a0,a1,a2,a3,a4,a5,a6,a7]).1:Nat),.int .i64 ((Z0 [a0,a1,a2,a3,a4,a5,a6,a7]).2:Nat)])∧Nx w w':=by
 have HA:=Za (Zh3 w a0 a1 a2 a3 a4 a5 a6 a7);have HN:=Za (show Nx w (w.alloc (Obj.cells #[.int .i64 a0,.int .i64 a1,.int .i64 a2,.int .i64 a3,.int .i64 a4,.int .i64 a5,.int .i64 a6,.int .i64 a7] 255))from Nx.rfl.alloc _);have HD:=Za (show Z0 [a0,a1,a2,a3,a4,a5,a6,a7]=lrGo 0 8 1 0 ([a0,a1,a2,a3,a4,a5,a6,a7].drop 0)from rfl);have h8:[a0,a1,a2,a3,a4,a5,a6,a7].length=8:=rfl;generalize [a0,a1,a2,a3,a4,a5,a6,a7]=ns at *
 go_enter Tryz.func319,Tryz.ntmps319
 go_wp2;generalize (w.alloc (Obj.cells #[.int .i64 a0,.int .i64 a1,.int .i64 a2,.int .i64 a3,.int .i64 a4,.int .i64 a5,.int .i64 a6,.int .i64 a7] 255))=w1 at *;have H8:=Za h8;clear h8
 go_loop [4,5,6,7] (fun s l r i=>∃(k st ln run:Nat),k≤8∧s=.int .i64 st∧l=.int .i64 ln∧r=.int .i64 run∧i=.int .i64 k∧st≤8∧ln≤8∧run≤k∧Z0 ns=lrGo k st ln run (ns.drop k)) (fun _ _ _ i=>8-(intOf i).toNat)
 case atStart=>exact⟨0,8,1,0,by omega,rfl,rfl,rfl,rfl,by omega,by omega,by omega,HD.out⟩
 case round=>
  obtain⟨k,st,ln,run,hk,rfl,rfl,rfl,rfl,h1,h2,h3,hE⟩:=hrel
  by_cases hlt:k<8
  ·have hkl:k<ns.length:=by have:=H8.out;omega
   have hck:=HA.out.cell hkl;rw[Zv8 ns k hkl]at hE;have HE:=Za hE;clear hE;generalize ns[k]=x at *
   cases hx:(x==0)
   ·have hx0:¬x=0:=by simpa using hx
    rw[if_neg hx0]at HE
    have HE2:=Za (HE.out.trans (if_neg (by omega)))
    clear HE hx0;go_wp2
    go_round
    case rel=>exact⟨k+1,st,ln,0,by omega,rfl,rfl,rfl,by go_num,h1,h2,by omega,HE2.out⟩
    case measure=>simp[intOf];omega
   ·have hx0:x=0:=by simpa using hx
    rw[if_pos hx0]at HE;subst hx0
    by_cases hb:ln<run+1
    ·have HE2:=Za (HE.out.trans (if_pos hb))
     have hbi:(ln:Int)<(run:Int)+1:=by omega
     clear HE;go_wp2
     go_round
     case rel=>exact⟨k+1,k+1-(run+1),run+1,run+1,by omega,by rw[show((k+1-(run+1):Nat):Int)=(k:Int)-((run:Int)+1)+1 by omega],by go_num,by go_num,by go_num,by omega,by omega,by omega,HE2.out⟩
     case measure=>simp[intOf];omega
    ·have HE2:=Za (HE.out.trans (if_neg hb))
     have hbi:(run:Int)+1≤(ln:Int):=by omega
     clear HE;go_wp2
     go_round
     case rel=>exact⟨k+1,st,ln,run+1,by omega,rfl,rfl,by go_num,by go_num,h1,h2,by omega,HE2.out⟩
     case measure=>simp[intOf];omega
  ·have HE2:=Za (show Z0 ns=(st,ln)by rw[hE,Xn (by have:=H8.out;omega),lrGo])
   clear hE;go_wp2;go_ret2
   exact⟨by rw[HE2.out];rfl,HN.out⟩
def Zh7(ns:List Int)(st ln:Nat):Nat→Nat→List UInt8
 | 0,_=>[]
 | f+1,i=>if 8≤i then []else if i=st then [58,58]++Zh7 ns st ln f (i+ln)else(if 0<i∧i≠st+ln then [58]else [])++Zfx (ns.getD i 0).toNat++Zh7 ns st ln f (i+1)
def Zgc(ns:List Int):List UInt8:=Zh7 ns (Z0 ns).1 (Z0 ns).2 8 0
theorem Zw9(ns:LI)(st ln f i:Nat)(h:8≤i):Zh7 ns st ln f i=[]:=by
 cases f with
 | zero=>rfl
 | succ f=>rw[Zh7,if_pos h]
theorem ZxN{ns:LI}{k:Nat}(h:k<ns.length):ns.getD k 0=ns[k]:=by rw[Xk,Xb h];rfl
theorem Zrz(a0 a1 a2 a3 a4 a5 a6 a7:Int)(w:World)(ht:Tb w)(hp:∀x∈[a0,a1,a2,a3,a4,a5,a6,a7],0≤x∧x≤65535):Calls Tryz.prog 307 #[.agg #[.int .i64 a0,.int .i64 a1,.int .i64 a2,.int .i64 a3,.int .i64 a4,.int .i64 a5,.int .i64 a6,.int .i64 a7]] w fun e w'=>∃r:BA,e=.returned (.string r)∧tl r=Zgc [a0,a1,a2,a3,a4,a5,a6,a7]∧Nx w w':=by
 have HA:=Za (Zh3 w a0 a1 a2 a3 a4 a5 a6 a7);have HN:=Za (show Nx w (w.alloc (Obj.cells #[.int .i64 a0,.int .i64 a1,.int .i64 a2,.int .i64 a3,.int .i64 a4,.int .i64 a5,.int .i64 a6,.int .i64 a7] 255))from Nx.rfl.alloc _);have HLR:=Za (ZmW a0 a1 a2 a3 a4 a5 a6 a7);have h8:[a0,a1,a2,a3,a4,a5,a6,a7].length=8:=rfl;have HP:=Za hp;have HTB:=Za ht;clear hp ht;generalize [a0,a1,a2,a3,a4,a5,a6,a7]=ns at *
 have hrg:=Zt2 ns 0 8 1 0 (by omega) (by omega) (by omega) (by omega) (by omega)
 change (Z0 ns).1≤8∧1≤(Z0 ns).2∧(Z0 ns).2≤8 at hrg
 have HD:=Za (show Zgc ns=Zh7 ns (Z0 ns).1 (Z0 ns).2 8 0 from rfl);have H8:=Za h8;clear h8
 go_enter Tryz.func307,Tryz.ntmps307
 go_wp2_with fail
 refine(HLR.out _).mono ?_
 rintro e w2 ⟨rfl,hn2⟩;have HA2:=Za (HA.out.on hn2);have HN2:=Za (HN.out.then hn2);clear hn2 HA HN HLR;generalize Z0 ns=q at *;obtain⟨st,ln⟩:=q;simp only at *;obtain⟨hst,hln1,hln8⟩:=hrg;go_wp2
 go_loopw [5,6] (fun t i wr=>∃(f k:Nat) (txt:BA),t=.string txt∧i=.int .i64 k∧8≤k+f∧k≤16∧f≤8∧txt.size+5*f≤40∧Zgc ns=tl txt++Zh7 ns st ln f k∧Nx w2 wr) (fun _ i _=>8-(intOf i).toNat)
 case atStart=>exact⟨8,0,⟨#[]⟩,rfl,rfl,by omega,by omega,by omega,by decide,by rw[HD.out];rfl,Nx.rfl⟩
 case round=>
  obtain⟨f,k,txt,rfl,rfl,hf,hk,hf8,hsz,hE,hnx⟩:=hrel;have HN3:=Za (HN2.out.then hnx);have HNX:=Za hnx;have HA3:=Za (HA2.out.on hnx);clear hnx
  by_cases hlt:k<8
  ·cases f with
   | zero=>omega
   | succ f=>
    rw[Zh7,if_neg (by omega)]at hE
    by_cases hks:k=st
    ·have HE:=Za (hE.trans (by rw[if_pos hks]))
     have hks':((k:Int)==(st:Int))=true:=by rw[hks];simp
     clear hE hks;go_wp2
     go_roundw
     case rel=>exact⟨f,k+ln,_,rfl,by go_num,by omega,by omega,by omega,by rw[Zi];show txt.size+2+_≤_;omega,by rw[HE.out,Zg,Xa];rfl,HNX.out⟩
     case measure=>simp[intOf];omega
    ·rw[if_neg hks]at hE
     have hks':((k:Int)==(st:Int))=false:=beq_eq_false_iff_ne.2 (by omega)
     have hkl:k<ns.length:=by have:=H8.out;omega
     have hck:=HA3.out.cell hkl;have hrx:=HP.out _ (List.getElem_mem hkl);rw[ZxN hkl]at hE;have HE:=Za hE;clear hE hks;generalize ns[k]=x at *
     obtain⟨xn,rfl⟩:∃xn:Nat,x=(xn:Int):=⟨x.toNat,by omega⟩
     have hxl:xn≤65535:=by omega
     rw[Int.toNat_natCast]at HE;have HTB3:=Za (HTB.out.on HN3.out);have hx4:=Zgb xn
     by_cases hc:0<k∧k≠st+ln
     ·have HE2:=Za (HE.out.trans (by rw[if_pos hc]))
      obtain⟨hc1,hc2⟩:=hc
      have hc2':((k:Int) != (st:Int)+(ln:Int))=true:=ZhB (beq_eq_false_iff_ne.2 (by omega))
      clear HE;go_wp2_with fail
      refine(Zh6 xn hxl _ HTB3.out.2).mono ?_
      rintro e w4 ⟨r,rfl,hr,hn4⟩
      have hrs:r.size≤4:=by rw[←tl_length,hr];omega
      have HR:=Za hr;have HN4:=Za (HNX.out.then hn4);clear hr hn4;go_wp2
      go_roundw
      case rel=>exact⟨f,k+1,_,rfl,by go_num,by omega,by omega,by omega,by rw[Zi,Zi];show txt.size+1+_+_≤_;omega,by rw[HE2.out,Zg,Zg,HR.out,Xa,Xa,Xa];rfl,HN4.out⟩
      case measure=>simp[intOf];omega
     ·have HE2:=Za (HE.out.trans (by rw[if_neg hc,Xe]))
      clear HE
      by_cases hk0:0<k
      ·have hc2:k=st+ln:=by
        rcases Nat.decEq k (st+ln)with h|h
        ·exact absurd ⟨hk0,h⟩ hc
        ·exact h
       have hc2':((k:Int) != (st:Int)+(ln:Int))=false:=ZtA (by rw[beq_iff_eq];omega)
       clear hc hc2;go_wp2_with fail
       refine(Zh6 xn hxl _ HTB3.out.2).mono ?_
       rintro e w4 ⟨r,rfl,hr,hn4⟩
       have hrs:r.size≤4:=by rw[←tl_length,hr];omega
       have HR:=Za hr;have HN4:=Za (HNX.out.then hn4);clear hr hn4;go_wp2
       go_roundw
       case rel=>exact⟨f,k+1,_,rfl,by go_num,by omega,by omega,by omega,by rw[Zi];omega,by rw[HE2.out,Zg,HR.out,Xa],HN4.out⟩
       case measure=>simp[intOf];omega
      ·have hk00:k≤0:=by omega
       clear hc;go_wp2_with fail
       refine(Zh6 xn hxl _ HTB3.out.2).mono ?_
       rintro e w4 ⟨r,rfl,hr,hn4⟩
       have hrs:r.size≤4:=by rw[←tl_length,hr];omega
       have HR:=Za hr;have HN4:=Za (HNX.out.then hn4);clear hr hn4;go_wp2
       go_roundw
       case rel=>exact⟨f,k+1,_,rfl,by go_num,by omega,by omega,by omega,by rw[Zi];omega,by rw[HE2.out,Zg,HR.out,Xa],HN4.out⟩
       case measure=>simp[intOf];omega
  ·have HE:=Za (show tl txt=Zgc ns by rw[hE,Zw9 _ _ _ _ _ (by omega),Xt])
   clear hE;go_wp2;go_ret;exact⟨_,rfl,HE.out,HN3.out⟩
end Go.Proofs.YtchkhibgbnhjpabGreatDoor
