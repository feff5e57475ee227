import Derived.Test.YtchkhibgbnhjpabGreatDoorV08
import Derived.Laws.Bits64b
open Int renaming mul_le_mul_of_nonneg_right→Xe,toNat_natCast→Xj,pow_nonneg→Xn,mul_assoc→Xo,le_trans→Xp,pow_succ→Xq,mul_comm→Xr
open List renaming length_cons→Xa,append_assoc→Xb,length_append→Xc,length_drop→Xd,drop_eq_getElem_cons→Xf,getElem?_eq_getElem→Xg,drop_of_length_le→Xh,length_set→Xk,append_nil→Xl,length_nil→Xm
open Nat renaming le_trans→Xi,le_refl→Xs
namespace Go.Proofs.YtchkhibgbnhjpabGreatDoor
open Go.RowKit
set_option maxHeartbeats 4000000
set_option maxRecDepth 100000
theorem Zr1(w:World):Calls Tryz.prog 295 #[.int .i64 16] w fun e w'=>e=.returned (.bool true)∧w=w':=by
 go_enter Tryz.func295,Tryz.ntmps295
 go_wp2;go_ret;exact⟨rfl,rfl⟩
theorem Zr2(w:World)(h:w.cell? ⟨2,15,none⟩=some (.int .u8 4)):Calls Tryz.prog 305 #[.int .u64 16] w fun e w'=>e=.returned (.int .i64 4)∧w=w':=by
 have e1:IntKind.u64.wrap (bits BinOp.and IntKind.u64 16 (IntKind.u64.wrap (-16))*285870213051353865)/288230376151711744=15:=by decide
 go_enter Tryz.func305,Tryz.ntmps305
 go_wp2;go_ret;exact⟨rfl,rfl⟩
theorem ZtX(w:World)(h:w.cell? ⟨2,15,none⟩=some (.int .u8 4)):Calls Tryz.prog 296 #[.int .u64 16] w fun e w'=>e=.returned (.int .i64 4)∧w=w':=by
 go_enter Tryz.func296,Tryz.ntmps296
 go_wp2_with (go_at_call 305;refine(Zr2 _ h).mono ?_;rintro e w' ⟨rfl,rfl⟩)
 go_ret;exact⟨rfl,rfl⟩
def Zcs(d:Nat):UInt8:=if d<10 then UInt8.ofNat (48+d)else UInt8.ofNat (87+d)
def ZdR(n:Nat):List UInt8:=if n<16 then [Zcs n]else if n<256 then [Zcs (n/16),Zcs (n%16)]else if n<4096 then [Zcs (n/256),Zcs (n/16%16),Zcs (n%16)]else [Zcs (n/4096),Zcs (n/256%16),Zcs (n/16%16),Zcs (n%16)]
theorem Zl0{n:Nat}(h:n<16):ZdR n=[Zcs n]:=by unfold ZdR;rw[if_pos h]
theorem ZnO{n:Nat}(h:16≤n)(h2:n≤65535):ZdR n=ZdR (n/16)++[Zcs (n%16)]:=by
 unfold ZdR
 by_cases h1:n<256
 ·rw[if_neg (by omega),if_pos h1,if_pos (by omega)];rfl
 ·by_cases h3:n<4096
  ·rw[if_neg (by omega),if_neg h1,if_pos h3,if_neg (by omega),if_pos (by omega),show n/16/16=n/256 by omega];rfl
  ·rw[if_neg (by omega),if_neg h1,if_neg h3,if_neg (by omega),if_neg (by omega),if_pos (by omega),show n/16/256=n/4096 by omega,show n/16/16=n/256 by omega];rfl
theorem Zef(n:Nat):1≤(ZdR n).length∧(ZdR n).length≤4:=by
 unfold ZdR
 split
 ·simp
 ·split
  ·simp
  ·split<;>simp
def BufAt(w:World)(ab:Nat)(cs:List UInt8):Prop:=w.heap[ab]?=some (Obj.cells (cs.map fun b=>Value.int .u8 (b.toNat:Int)).toArray 249 (0,0))∧cs.length=65
theorem BufAt.cell{w:World}{ab:Nat}{cs:LB}(h:BufAt w ab cs){i:Nat}(hi:i<cs.length):w.cell? ⟨ab,i,none⟩=some (.int .u8 (cs[i].toNat:Int)):=by
 have h1:=h.1
 simp[World.cell?,h1,Xg hi]
theorem BufAt.free{w:World}{ab:Nat}{cs:LB}(h:BufAt w ab cs)(i:Nat):w.frozen? ⟨ab,i,none⟩=false:=by
 have h1:=h.1
 simp[World.frozen?,h1]
theorem BufAt.set{w:World}{ab:Nat}{cs:LB}(h:BufAt w ab cs)(i:Nat)(x:UInt8)(y:Int)(hy:y=(x.toNat:Int)):BufAt (w.setCell ⟨ab,i,none⟩ (.int .u8 y)) ab (cs.set i x):=by
 subst hy;obtain⟨h1,h2⟩:=h
 refine⟨?_,by rw[Xk];exact h2⟩
 simp only[World.setCell,Array.getElem?_modify,if_pos,h1]
 simp[List.map_set]
theorem Zr3(w:World):BufAt (w.alloc (Obj.cells Tryz.zeroCells249 249)) w.heap.size (List.replicate 65 0):=⟨(heap_alloc_new w _).trans (by kernel_rfl),rfl⟩
def ZdH:ByteArray:=⟨#[48,49,50,51,52,53,54,55,56,57,97,98,99,100,101,102,103,104,105,106,107,108,109,110,111,112,113,114,115,116,117,118,119,120,121,122]⟩
theorem Zk0(d:Nat)(h:d<16)(hh:d<ZdH.size):ZdH[d]'hh=Zcs d:=by
 match d,h with
 | 0,_=>rfl
 | 1,_=>rfl
 | 2,_=>rfl
 | 3,_=>rfl
 | 4,_=>rfl
 | 5,_=>rfl
 | 6,_=>rfl
 | 7,_=>rfl
 | 8,_=>rfl
 | 9,_=>rfl
 | 10,_=>rfl
 | 11,_=>rfl
 | 12,_=>rfl
 | 13,_=>rfl
 | 14,_=>rfl
 | 15,_=>rfl
 | k+16,h=>exact absurd h (by omega)
theorem drop_set(cs:LB)(j:Nat)(d:UInt8)(h:j<cs.length):(cs.set j d).drop j=d::cs.drop (j+1):=by rw[Xf (by rw[Xk];exact h),List.getElem_set_self,List.drop_set_of_lt (by omega)]
theorem Zl1(m:Nat)(hh:m%16<ZdH.size):(((ZdH[m%16]'hh).toNat:Nat):Int)=((Zcs (m%16)).toNat:Int):=by rw[Zk0 (m%16) (by omega) hh]
theorem ZjP(m:Nat)(h:m<16)(hh:m<ZdH.size):(((ZdH[m]'hh).toNat:Nat):Int)=((Zcs m).toNat:Int):=by rw[Zk0 m h hh]
theorem ZtY(m:Nat)(h:m≤65535):bits BinOp.and IntKind.u64 (m:Int) 15=((m%16:Nat):Int):=by
 have:=bits_and_u64_nat m 15 (by omega) (by decide)
 rw[show((15:Nat):Int)=15 from rfl]at this;rw[this,show(15:Nat)=2^4-1 from rfl,Nat.and_two_pow_sub_one_eq_mod]
theorem ZnP(n:Nat)(hn:n≤65535)(w:World)(h:w.cell? ⟨2,15,none⟩=some (.int .u8 4)):Calls Tryz.prog 268 #[.slice none 0 0,.int .u64 n,.int .i64 16,.bool false,.bool false] w fun e w'=>∃r:BA,e=.returned (.tuple #[.slice none 0 0,.string r])∧tl r=ZdR n∧Nx w w':=by
 go_enter Tryz.func268,Tryz.ntmps268
 have h':∀o,(w.alloc o).cell? ⟨2,15,none⟩=some (.int .u8 4):=fun o=>((Nx.rfl.alloc o).cell (World.block_lt_of_cell? w _ h)).trans h
 go_wp2_with (first|(go_at_call 295;refine(Zr1 _).mono ?_;rintro e w' ⟨rfl,rfl⟩)|(go_at_call 296;refine(ZtX _ (h' _)).mono ?_;rintro e w' ⟨rfl,rfl⟩))
 clear h'
 go_loopw [1,13] (fun u i wr=>∃(m j:Nat) (cs:LB),u=.int .u64 m∧i=.int .i64 ((j:Int)+1)∧m≤65535∧j≤64∧BufAt wr w.heap.size cs∧ZdR n=ZdR m++cs.drop (j+1)∧(ZdR m).length+(64-j)≤4∧Nx w wr) (fun u _ _=>(intOf u).toNat)
 case atStart=>exact⟨n,64,_,rfl,rfl,hn,by omega,Zr3 w,by rw[Xh (by simp),Xl],by have:=Zef n;omega,Nx.rfl.alloc _⟩
 case round=>
  obtain⟨m,j,cs,rfl,rfl,hm,hj,hbuf,hE,hL,hnx⟩:=hrel;have hl:=Zef m
  have hjl:j<cs.length:=by have:=hbuf.2;omega
  have hcj:=hbuf.cell hjl;have hfj:=hbuf.free j;have hand:=ZtY m hm;have HB:=Za hbuf;have HE:=Za hE;have HL:=Za hL;have HN:=Za hnx;clear hbuf hE hL hnx;generalize cs[j]=old at *
  by_cases h16:16≤m
  ·have hst:=ZnO h16 hm
   have HST:=Za hst;have hl2:=congrArg List.length hst;rw[Xc,List.length_singleton]at hl2;have hl3:=Zef (m/16);have HL2:=Za hl2
   have hj1:1≤j:=by have:=HL.out;omega
   clear hst hl2;go_wp2
   refine⟨⟨m/16,j-1,cs.set j (Zcs (m%16)),by simp,by rw[show((j-1:Nat):Int)+1=(j:Int)by omega],by omega,by omega,HB.out.set j (Zcs (m%16)) _ (Zl1 m _),?_,by have:=HL.out;have:=HL2.out;omega,HN.out.setCell (Xs _) _⟩,by simp[intOf];omega⟩
   rw[HE.out,HST.out,show j-1+1=j by omega,drop_set cs j _ hjl,Xb]
   rfl
  ·have HST:=Za (Zl0 (n:=m) (by omega))
   have h16':m<16:=by omega
   have HB2:=Za (HB.out.set j (Zcs m) _ rfl)
   have HE2:=Za (show ZdR n=(cs.set j (Zcs m)).drop j by rw[HE.out,HST.out,drop_set cs j _ hjl];rfl)
   have hdg:∀hh,((((⟨#[48,49,50,51,52,53,54,55,56,57,97,98,99,100,101,102,103,104,105,106,107,108,109,110,111,112,113,114,115,116,117,118,119,120,121,122]⟩:BA)[m]'hh).toNat:Nat):Int)=((Zcs m).toNat:Int):=fun hh=>ZjP m h16' hh
   have hcv:(convert 160 9 (.slice (some ⟨w.heap.size,j,none⟩) (65-j) (65-j))).run Tryz.prog (wr.setCell ⟨w.heap.size,j,none⟩ (.int .u8 ((Zcs m).toNat:Int)))=.ok (.string ⟨(ZdR n).toArray⟩) (wr.setCell ⟨w.heap.size,j,none⟩ (.int .u8 ((Zcs m).toNat:Int))):=by
    have hlen:((cs.set j (Zcs m)).drop j).length=65-j:=by rw[Xd,HB2.out.2]
    have:=run_convert_bytes_back (P:=Tryz.prog) (wr.setCell ⟨w.heap.size,j,none⟩ (.int .u8 ((Zcs m).toNat:Int))) 160 9 5 ⟨w.heap.size,j,none⟩ (65-j) ((cs.set j (Zcs m)).drop j) Tryz.underlying160 Tryz.underlying5 Tryz.underlying9 (fun i hi=>by
     rw[Xd]at hi
     rw[Addr.add_lit,HB2.out.cell (i:=j+i) (by omega),List.getElem_drop])
    rw[hlen]at this;rw[this,HE2.out]
   have hsl:∀W,(Instr.sliceAt 249 (.pointer (some ⟨w.heap.size,0,none⟩)) (some (.int .i64 (j:Int))) none none).run Tryz.prog W=.ok (.slice (some ⟨w.heap.size,j,none⟩) (65-j) (65-j)) W:=fun W=>by
    rw[run_sliceAt_array_l W 249 ⟨w.heap.size,0,none⟩ (by simp[Program.arrayLen,Program.elem,Tryz.underlying249]) .i64 (j:Int) (by omega) (by rw[show Tryz.prog.arrayLen 249=65 by kernel_rfl];omega)]
    rw[show Tryz.prog.arrayLen 249=65 by kernel_rfl,show Tryz.prog.elem 249=5 by kernel_rfl]
    rw[Tryz.sizeOf5]
    simp[slicedAt,Result.andThen,Addr.add_lit]
    omega
   go_wp2;go_ret2;exact⟨_,rfl,tl_mk _,HN.out.setCell (Xs _) _⟩
theorem ZpS(n:Nat)(hn:n≤65535)(w:World)(h:w.cell? ⟨2,15,none⟩=some (.int .u8 4)):Calls Tryz.prog 230 #[.int .i64 n,.int .i64 16] w fun e w'=>∃r:BA,e=.returned (.string r)∧tl r=ZdR n∧Nx w w':=by
 go_enter Tryz.func230,Tryz.ntmps230
 go_wp2_with (go_at_call 268;refine(ZnP n hn _ h).mono ?_;rintro e w1 ⟨r,rfl,hr,hn1⟩;have HR:=Za hr;have HN:=Za hn1;clear hr hn1)
 go_ret;exact⟨_,rfl,HR.out,HN.out⟩
theorem ZfM(n:Nat)(hn:n≤65535)(w:World)(h:w.cell? ⟨2,15,none⟩=some (.int .u8 4)):Calls Tryz.prog 320 #[.int .i64 n,.int .i64 16] w fun e w'=>∃r:BA,e=.returned (.string r)∧tl r=ZdR n∧Nx w w':=by
 go_enter Tryz.func320,Tryz.ntmps320
 go_wp2_with (go_at_call 230;refine(ZpS n hn _ h).mono ?_;rintro e w1 ⟨r,rfl,hr,hn1⟩;have HR:=Za hr;have HN:=Za hn1;clear hr hn1)
 go_ret;exact⟨_,rfl,HR.out,HN.out⟩
def ZhE:Nat→Nat→Nat→Nat→List Int→Nat×Nat
 | _,st,ln,_,[]=>(st,ln)
 | i,st,ln,run,x::r=>
  if ln<(if x=0 then run+1 else 0)then ZhE (i+1) (i+1-(if x=0 then run+1 else 0)) (if x=0 then run+1 else 0) (if x=0 then run+1 else 0) r
  else ZhE (i+1) st ln (if x=0 then run+1 else 0) r
def Zaz(ns:List Int):Nat×Nat:=ZhE 0 8 1 0 ns
theorem ZpT(ns:LI):∀i st ln run,st≤8→1≤ln→ln≤8→run≤i→i+ns.length≤8→(ZhE i st ln run ns).1≤8∧1≤(ZhE i st ln run ns).2∧(ZhE i st ln run ns).2≤8:=by
 induction ns with
 | nil=>intro i st ln run h1 h2 h3 h4 h5;rw[ZhE];exact⟨h1,h2,h3⟩
 | cons x r ih=>
  intro i st ln run h1 h2 h3 h4 h5;rw[Xa]at h5
  have hr:(if x=0 then run+1 else 0)≤i+1:=by split<;>omega
  rw[ZhE]
  generalize (if x=0 then run+1 else 0)=run' at *
  split
  ·exact ih _ _ _ _ (by omega) (by omega) (by omega) hr (by omega)
  ·exact ih _ _ _ _ h1 h2 h3 hr (by omega)
theorem Zr4(ns:LI)(k:Nat)(h:k<ns.length)(st ln run:Nat):ZhE k st ln run (ns.drop k) =
  if ln<(if ns[k]=0 then run+1 else 0)then ZhE (k+1) (k+1-(if ns[k]=0 then run+1 else 0)) (if ns[k]=0 then run+1 else 0) (if ns[k]=0 then run+1 else 0) (ns.drop (k+1))
  else ZhE (k+1) st ln (if ns[k]=0 then run+1 else 0) (ns.drop (k+1)):=by
 rw[Xf h,ZhE]
theorem ZjQ(a0 a1 a2 a3 a4 a5 a6 a7:Int)(w:World):Calls Tryz.prog 319 #[.agg #[.int .i64 a0,.int .i64 a1,.int .i64 a2,.int .i64 a3,.int .i64 a4,.int .i64 a5,.int .i64 a6,.int .i64 a7]] w fun e w'=>e=.returned (.tuple #[.int .i64 ((Zaz [a0,a1,a2,a3,a4,a5,a6,a7]).1:Nat),.int .i64 ((Zaz [a0,a1,a2,a3,a4,a5,a6,a7]).2:Nat)])∧Nx w w':=by
 have HA:=Za (ZfK w a0 a1 a2 a3 a4 a5 a6 a7);have HN:=Za (show Nx w (w.alloc (Obj.cells #[.int .i64 a0,.int .i64 a1,.int .i64 a2,.int .i64 a3,.int .i64 a4,.int .i64 a5,.int .i64 a6,.int .i64 a7] 255))from Nx.rfl.alloc _);have HD:=Za (show Zaz [a0,a1,a2,a3,a4,a5,a6,a7]=ZhE 0 8 1 0 ([a0,a1,a2,a3,a4,a5,a6,a7].drop 0)from rfl);have h8:[a0,a1,a2,a3,a4,a5,a6,a7].length=8:=rfl;generalize [a0,a1,a2,a3,a4,a5,a6,a7]=ns at *
 go_enter Tryz.func319,Tryz.ntmps319
 go_wp2;generalize (w.alloc (Obj.cells #[.int .i64 a0,.int .i64 a1,.int .i64 a2,.int .i64 a3,.int .i64 a4,.int .i64 a5,.int .i64 a6,.int .i64 a7] 255))=w1 at *;have H8:=Za h8;clear h8
 go_loop [4,5,6,7] (fun s l r i=>∃(k st ln run:Nat),k≤8∧s=.int .i64 st∧l=.int .i64 ln∧r=.int .i64 run∧i=.int .i64 k∧st≤8∧ln≤8∧run≤k∧Zaz ns=ZhE k st ln run (ns.drop k)) (fun _ _ _ i=>8-(intOf i).toNat)
 case atStart=>exact⟨0,8,1,0,by omega,rfl,rfl,rfl,rfl,by omega,by omega,by omega,HD.out⟩
 case round=>
  obtain⟨k,st,ln,run,hk,rfl,rfl,rfl,rfl,h1,h2,h3,hE⟩:=hrel
  by_cases hlt:k<8
  ·have hkl:k<ns.length:=by have:=H8.out;omega
   have hck:=HA.out.cell hkl;rw[Zr4 ns k hkl]at hE;have HE:=Za hE;clear hE;generalize ns[k]=x at *
   cases hx:(x==0)
   ·have hx0:¬x=0:=by simpa using hx
    rw[if_neg hx0]at HE
    have HE2:=Za (HE.out.trans (if_neg (by omega)))
    clear HE hx0;go_wp2
    go_round
    case rel=>exact⟨k+1,st,ln,0,by omega,rfl,rfl,rfl,by go_num,h1,h2,by omega,HE2.out⟩
    case measure=>simp[intOf];omega
   ·have hx0:x=0:=by simpa using hx
    rw[if_pos hx0]at HE;subst hx0
    by_cases hb:ln<run+1
    ·have HE2:=Za (HE.out.trans (if_pos hb))
     have hbi:(ln:Int)<(run:Int)+1:=by omega
     clear HE;go_wp2
     go_round
     case rel=>exact⟨k+1,k+1-(run+1),run+1,run+1,by omega,by rw[show((k+1-(run+1):Nat):Int)=(k:Int)-((run:Int)+1)+1 by omega],by go_num,by go_num,by go_num,by omega,by omega,by omega,HE2.out⟩
     case measure=>simp[intOf];omega
    ·have HE2:=Za (HE.out.trans (if_neg hb))
     have hbi:(run:Int)+1≤(ln:Int):=by omega
     clear HE;go_wp2
     go_round
     case rel=>exact⟨k+1,st,ln,run+1,by omega,rfl,rfl,by go_num,by go_num,h1,h2,by omega,HE2.out⟩
     case measure=>simp[intOf];omega
  ·have HE2:=Za (show Zaz ns=(st,ln)by rw[hE,Xh (by have:=H8.out;omega),ZhE])
   clear hE;go_wp2;go_ret2
   exact⟨by rw[HE2.out];rfl,HN.out⟩
def ZfN(ns:List Int)(st ln:Nat):Nat→Nat→List UInt8
 | 0,_=>[]
 | f+1,i=>if 8≤i then []else if i=st then [58,58]++ZfN ns st ln f (i+ln)else(if 0<i∧i≠st+ln then [58]else [])++ZdR (ns.getD i 0).toNat++ZfN ns st ln f (i+1)
def Zfb(ns:List Int):List UInt8:=ZfN ns (Zaz ns).1 (Zaz ns).2 8 0
theorem Ztb(ns:LI)(st ln f i:Nat)(h:8≤i):ZfN ns st ln f i=[]:=by
 cases f with
 | zero=>rfl
 | succ f=>rw[ZfN,if_pos h]
theorem ZtZ{ns:LI}{k:Nat}(h:k<ns.length):ns.getD k 0=ns[k]:=by rw[List.getD_eq_getElem?_getD,Xg h];rfl
theorem ZnQ(a0 a1 a2 a3 a4 a5 a6 a7:Int)(w:World)(ht:Tb w)(hp:∀x∈[a0,a1,a2,a3,a4,a5,a6,a7],0≤x∧x≤65535):Calls Tryz.prog 307 #[.agg #[.int .i64 a0,.int .i64 a1,.int .i64 a2,.int .i64 a3,.int .i64 a4,.int .i64 a5,.int .i64 a6,.int .i64 a7]] w fun e w'=>∃r:BA,e=.returned (.string r)∧tl r=Zfb [a0,a1,a2,a3,a4,a5,a6,a7]∧Nx w w':=by
 have HA:=Za (ZfK w a0 a1 a2 a3 a4 a5 a6 a7);have HN:=Za (show Nx w (w.alloc (Obj.cells #[.int .i64 a0,.int .i64 a1,.int .i64 a2,.int .i64 a3,.int .i64 a4,.int .i64 a5,.int .i64 a6,.int .i64 a7] 255))from Nx.rfl.alloc _);have HLR:=Za (ZjQ a0 a1 a2 a3 a4 a5 a6 a7);have h8:[a0,a1,a2,a3,a4,a5,a6,a7].length=8:=rfl;have HP:=Za hp;have HTB:=Za ht;clear hp ht;generalize [a0,a1,a2,a3,a4,a5,a6,a7]=ns at *
 have hrg:=ZpT ns 0 8 1 0 (by omega) (by omega) (by omega) (by omega) (by omega)
 change (Zaz ns).1≤8∧1≤(Zaz ns).2∧(Zaz ns).2≤8 at hrg
 have HD:=Za (show Zfb ns=ZfN ns (Zaz ns).1 (Zaz ns).2 8 0 from rfl);have H8:=Za h8;clear h8
 go_enter Tryz.func307,Tryz.ntmps307
 go_wp2_with fail
 refine(HLR.out _).mono ?_
 rintro e w2 ⟨rfl,hn2⟩;have HA2:=Za (HA.out.on hn2);have HN2:=Za (HN.out.then hn2);clear hn2 HA HN HLR;generalize Zaz ns=q at *;obtain⟨st,ln⟩:=q;simp only at *;obtain⟨hst,hln1,hln8⟩:=hrg;go_wp2
 go_loopw [5,6] (fun t i wr=>∃(f k:Nat) (txt:BA),t=.string txt∧i=.int .i64 k∧8≤k+f∧k≤16∧f≤8∧txt.size+5*f≤40∧Zfb ns=tl txt++ZfN ns st ln f k∧Nx w2 wr) (fun _ i _=>8-(intOf i).toNat)
 case atStart=>exact⟨8,0,⟨#[]⟩,rfl,rfl,by omega,by omega,by omega,by decide,by rw[HD.out];rfl,Nx.rfl⟩
 case round=>
  obtain⟨f,k,txt,rfl,rfl,hf,hk,hf8,hsz,hE,hnx⟩:=hrel;have HN3:=Za (HN2.out.then hnx);have HNX:=Za hnx;have HA3:=Za (HA2.out.on hnx);clear hnx
  by_cases hlt:k<8
  ·cases f with
   | zero=>omega
   | succ f=>
    rw[ZfN,if_neg (by omega)]at hE
    by_cases hks:k=st
    ·have HE:=Za (hE.trans (by rw[if_pos hks]))
     have hks':((k:Int)==(st:Int))=true:=by rw[hks];simp
     clear hE hks;go_wp2
     go_roundw
     case rel=>exact⟨f,k+ln,_,rfl,by go_num,by omega,by omega,by omega,by rw[Zm];show txt.size+2+_≤_;omega,by rw[HE.out,Zc,Xb];rfl,HNX.out⟩
     case measure=>simp[intOf];omega
    ·rw[if_neg hks]at hE
     have hks':((k:Int)==(st:Int))=false:=beq_eq_false_iff_ne.2 (by omega)
     have hkl:k<ns.length:=by have:=H8.out;omega
     have hck:=HA3.out.cell hkl;have hrx:=HP.out _ (List.getElem_mem hkl);rw[ZtZ hkl]at hE;have HE:=Za hE;clear hE hks;generalize ns[k]=x at *
     obtain⟨xn,rfl⟩:∃xn:Nat,x=(xn:Int):=⟨x.toNat,by omega⟩
     have hxl:xn≤65535:=by omega
     rw[Xj]at HE;have HTB3:=Za (HTB.out.on HN3.out);have hx4:=Zef xn
     by_cases hc:0<k∧k≠st+ln
     ·have HE2:=Za (HE.out.trans (by rw[if_pos hc]))
      obtain⟨hc1,hc2⟩:=hc
      have hc2':((k:Int) != (st:Int)+(ln:Int))=true:=Zd9 (beq_eq_false_iff_ne.2 (by omega))
      clear HE;go_wp2_with fail
      refine(ZfM xn hxl _ HTB3.out.2).mono ?_
      rintro e w4 ⟨r,rfl,hr,hn4⟩
      have hrs:r.size≤4:=by rw[←tl_length,hr];omega
      have HR:=Za hr;have HN4:=Za (HNX.out.then hn4);clear hr hn4;go_wp2
      go_roundw
      case rel=>exact⟨f,k+1,_,rfl,by go_num,by omega,by omega,by omega,by rw[Zm,Zm];show txt.size+1+_+_≤_;omega,by rw[HE2.out,Zc,Zc,HR.out,Xb,Xb,Xb];rfl,HN4.out⟩
      case measure=>simp[intOf];omega
     ·have HE2:=Za (HE.out.trans (by rw[if_neg hc,List.nil_append]))
      clear HE
      by_cases hk0:0<k
      ·have hc2:k=st+ln:=by
        rcases Nat.decEq k (st+ln)with h|h
        ·exact absurd ⟨hk0,h⟩ hc
        ·exact h
       have hc2':((k:Int) != (st:Int)+(ln:Int))=false:=Zpz (by rw[beq_iff_eq];omega)
       clear hc hc2;go_wp2_with fail
       refine(ZfM xn hxl _ HTB3.out.2).mono ?_
       rintro e w4 ⟨r,rfl,hr,hn4⟩
       have hrs:r.size≤4:=by rw[←tl_length,hr];omega
       have HR:=Za hr;have HN4:=Za (HNX.out.then hn4);clear hr hn4;go_wp2
       go_roundw
       case rel=>exact⟨f,k+1,_,rfl,by go_num,by omega,by omega,by omega,by rw[Zm];omega,by rw[HE2.out,Zc,HR.out,Xb],HN4.out⟩
       case measure=>simp[intOf];omega
      ·have hk00:k≤0:=by omega
       clear hc;go_wp2_with fail
       refine(ZfM xn hxl _ HTB3.out.2).mono ?_
       rintro e w4 ⟨r,rfl,hr,hn4⟩
       have hrs:r.size≤4:=by rw[←tl_length,hr];omega
       have HR:=Za hr;have HN4:=Za (HNX.out.then hn4);clear hr hn4;go_wp2
       go_roundw
       case rel=>exact⟨f,k+1,_,rfl,by go_num,by omega,by omega,by omega,by rw[Zm];omega,by rw[HE2.out,Zc,HR.out,Xb],HN4.out⟩
       case measure=>simp[intOf];omega
  ·have HE:=Za (show tl txt=Zfb ns by rw[hE,Ztb _ _ _ _ _ (by omega),Xl])
   clear hE;go_wp2;go_ret;exact⟨_,rfl,HE.out,HN3.out⟩
def GOk(ns:List Int):Prop:=∀x∈ns,0≤x∧x≤65535
theorem GOk.set{ns:LI}(h:GOk ns)(i:Nat){x:Int}(h0:0≤x)(h1:x≤65535):GOk (ns.set i x):=by
 intro y hy;rcases List.mem_or_eq_of_mem_set hy with h2|h2
 ·exact h y h2
 ·subst h2;exact⟨h0,h1⟩
theorem ZjR{g:LI×Nat}(h:GOk g.1){x:Int}(h0:0≤x)(h1:x≤65535):GOk (Zfj g x).1.1:=by
 unfold Zfj
 split
 ·exact h.set _ h0 h1
 ·exact h
theorem Zr5(most:Int)(l:LB):∀n q,0≤n→Z3 16 most n l=some q→0≤q∧q+1≤(n+1)*16^l.length:=by
 induction l with
 | nil=>intro n q h e;rw[Z3]at e;cases e;exact⟨h,by simp⟩
 | cons c r ih=>
  intro n q h e;rw[Z3]at e
  split at e
  ·rename_i hd
   have hr:=Za0 (c.toNat:Int) 16;have h15:=hr.2 hd
   have hn':0≤(if n≤most then n*16+(ZL (c.toNat:Int) 16).1 else n)∧(if n≤most then n*16+(ZL (c.toNat:Int) 16).1 else n)+1≤(n+1)*16:=by split<;>omega
   obtain⟨h1,h2⟩:=ih _ q hn'.1 e
   refine⟨h1,Xp h2 ?_⟩
   rw[Xa,Xq,show(n+1)*((16:Int)^r.length*16)=((n+1)*16)*16^r.length by rw[Xr ((16:Int)^r.length),Xo]]
   exact Xe hn'.2 (Xn (by decide))
  ·cases e
theorem Zgs{l:LB}(h4:l.length≤4):0≤(Zv l 16 65535).1∧(Zv l 16 65535).1≤65535:=by
 unfold Zv
 split
 ·exact⟨by decide,by decide⟩
 ·split
  ·exact⟨by decide,by decide⟩
  ·rename_i n e
   obtain⟨h1,h2⟩:=Zr5 65535 l 0 n (by decide) e
   have h3:(16:Int)^l.length≤65536:=by rcases(show l.length=0∨l.length=1∨l.length=2∨l.length=3∨l.length=4 by omega)with h|h|h|h|h<;>rw[h]<;>decide
   have h5:n≤65535:=by omega
   rw[if_neg (by omega)]
   exact⟨h1,h5⟩
theorem ZnR{g:LI×Nat}(h:GOk g.1)(l:LB):GOk (Zbi g l).1.1:=by
 unfold Zbi
 split
 ·exact h
 ·rename_i hh
  obtain⟨h0,h1⟩:=Zgs (l:=l) (by omega)
  exact ZjR h h0 h1
theorem ZpU(ps:List LB):∀v q,0≤v→Zm9 v ps=some q→0≤q∧q+1≤(v+1)*256^ps.length:=by
 induction ps with
 | nil=>intro n q h e;rw[Zm9]at e;cases e;exact⟨h,by simp⟩
 | cons c r ih=>
  intro n q h e;rw[Zm9]at e
  split at e
  ·have hr:=Zit c
   obtain⟨h1,h2⟩:=ih _ q (by omega) e
   refine⟨h1,Xp h2 ?_⟩
   rw[Xa,Xq,show(n+1)*((256:Int)^r.length*256)=((n+1)*256)*256^r.length by rw[Xr ((256:Int)^r.length),Xo]]
   exact Xe (by omega) (Xn (by decide))
  ·cases e
theorem ZnS{g:LI×Nat}(h:GOk g.1)(l:LB):GOk (Zbj g l).1.1:=by
 unfold Zbj
 split
 ·exact h
 ·rename_i h4
  split
  ·exact h
  ·rename_i v e
   obtain⟨h1,h2⟩:=ZpU _ 0 v (by decide) e
   have h4':(bsplit 46 l).length=4:=by omega
   rw[h4']at h2
   have h3:v≤4294967295:=by have:(256:Int)^4=4294967296:=by decide
                            omega
   have hA:=ZjR h (x:=v/65536) (by omega) (by omega)
   split
   ·exact hA
   ·exact ZjR hA (by omega) (by omega)
theorem grpGo_ok(en:Bool)(ps:List LB):∀g q,GOk g.1→grpGo en g ps=some q→GOk q.1:=by
 induction ps with
 | nil=>intro g q h e;rw[grpGo]at e;cases e;exact h
 | cons p r ih=>
  intro g q h e;rw[grpGo]at e
  split at e
  ·split at e
   ·exact ih _ _ (ZnS h p) e
   ·cases e
  ·split at e
   ·exact ih _ _ (ZnR h p) e
   ·cases e
theorem zero_ok:GOk zeros8:=by intro x hx;simp[zeros8]at hx;omega
theorem Zey(l:LB)(en:Bool):GOk (ZB l en).1.1:=by
 unfold ZB
 split
 ·exact zero_ok
 ·split
  ·exact zero_ok
  ·rename_i g e
   exact grpGo_ok en _ _ _ zero_ok e
theorem putGo_ok(r:LI):∀ns i,GOk ns→GOk r→GOk (putGo ns i r):=by
 induction r with
 | nil=>intro ns i h _;exact h
 | cons x r ih=>
  intro ns i h hr;rw[putGo];have hx:=hr x (List.mem_cons_self ..)
  exact ih _ _ (h.set i hx.1 hx.2) (fun y hy=>hr y (List.mem_cons_of_mem _ hy))
theorem Zk1(l:LB):GOk (ip6 l).1:=by
 unfold ip6 ZfL
 split
 ·split
  ·exact zero_ok
  ·exact Zey l true
 ·split
  ·exact zero_ok
  ·exact putGo_ok _ _ _ (Zey _ _) (fun x hx=>Zey _ _ x (List.mem_of_mem_take hx))
def Zak(l:List UInt8):List UInt8×Int:=
 if l.length<2∨¬((l.getD (l.length-1) 0).toNat:Int)=93 then([],2)
 else if(ip6 ((l.take (l.length-1)).drop 1)).2=true then([91]++Zfb (ip6 ((l.take (l.length-1)).drop 1)).1++[93],0)else([],2)
theorem Zro(ns:LI)(st ln:Nat):∀f i,(ZfN ns st ln f i).length≤5*f:=by
 intro f
 induction f with
 | zero=>intro i;simp[ZfN]
 | succ f ih=>
  intro i;rw[ZfN]
  split
  ·simp
  ·split
   ·have:=ih (i+ln)
    simp only[Xc,Xa,Xm]
    omega
   ·have:=ih (i+1)
    have h4:=Zef (ns.getD i 0).toNat
    have h1:(if 0<i∧i≠st+ln then [(58:UInt8)]else []).length≤1:=by split<;>simp
    simp only[Xc]
    omega
theorem Zix(s:BA)(w:World)(hs:s.size≤1000000)(ht:Tb w):Calls Tryz.prog 298 #[.string s] w fun e w'=>∃r:BA,e=.returned (.tuple #[.string r,.int .i64 (Zak (tl s)).2])∧tl r=(Zak (tl s)).1∧Nx w w':=by
 have HD:=Za (show Zak (tl s)=if s.size<2∨¬(((tl s).getD (s.size-1) 0).toNat:Int)=93 then([],2)
  else if(ip6 (((tl s).take (s.size-1)).drop 1)).2=true then([91]++Zfb (ip6 (((tl s).take (s.size-1)).drop 1)).1++[93],0)else([],2)by rw[←tl_length];rfl)
 have HTB:=Za ht;clear ht
 by_cases h2:s.size<2
 ·have HE:=Za (HD.out.trans (if_pos (Or.inl h2)))
  clear HD
  go_enter Tryz.func298,Tryz.ntmps298
  go_wp2;go_ret2
  exact⟨⟨#[]⟩,by rw[HE.out];rfl,by rw[HE.out];rfl,Nx.rfl⟩
 ·have hz:s.size-1<s.size:=by omega
  have hb:=bb (s[s.size-1]'hz);rw[Zcp s (s.size-1) hz]at HD
  cases h93:(((s[s.size-1]'hz).toNat:Int)==93)
  ·have HE:=Za (HD.out.trans (if_pos (Or.inr (by simpa using h93))))
   have h93':=Zd9 h93;clear HD
   go_enter Tryz.func298,Tryz.ntmps298
   go_wp2;go_ret2
   exact⟨⟨#[]⟩,by rw[HE.out];rfl,by rw[HE.out];rfl,Nx.rfl⟩
  ·have HE:=Za (HD.out.trans (if_neg (by rintro(h|h);exact h2 h;exact h (by simpa using h93))))
   have h93':=Zpz h93;rw[←tl_extract s 1 (s.size-1)]at HE;have HOK:=Za (Zk1 (tl (s.extract 1 (s.size-1))));clear HD
   go_enter Tryz.func298,Tryz.ntmps298
   go_wp2_with fail
   refine(Zr0 (s.extract 1 (s.size-1)) _ (Xi (ZdC s _ _) hs)).mono ?_
   rintro e w1 ⟨a0,a1,a2,a3,a4,a5,a6,a7,ok,rfl,hq,hn⟩;rw[hq]at HE HOK;simp only at HE HOK;have HN:=Za hn;have HTB1:=Za (HTB.out.on hn);clear hq hn
   cases ok
   ·have HE2:=Za (HE.out.trans (if_neg (by decide)))
    clear HE;go_wp2;go_ret2
    exact⟨⟨#[]⟩,by rw[HE2.out];rfl,by rw[HE2.out];rfl,HN.out.alloc _⟩
   ·have HE2:=Za (HE.out.trans (if_pos rfl))
    clear HE;go_wp2_with fail
    refine(ZnQ a0 a1 a2 a3 a4 a5 a6 a7 _ (HTB1.out.on (Nx.rfl.alloc _)) HOK.out).mono ?_
    rintro e w2 ⟨r,rfl,hr,hn2⟩
    have hrs:r.size≤1000:=by
     have:=Zro [a0,a1,a2,a3,a4,a5,a6,a7] (Zaz [a0,a1,a2,a3,a4,a5,a6,a7]).1 (Zaz [a0,a1,a2,a3,a4,a5,a6,a7]).2 8 0;rw[←tl_length,hr];unfold Zfb
     omega
    have HR:=Za hr;have HN2:=Za ((HN.out.alloc _).then hn2);clear hr hn2;go_wp2;go_ret2
    exact⟨(⟨#[91]⟩:BA)++r++(⟨#[93]⟩:BA),by rw[HE2.out];rfl,by rw[HE2.out,Zc,Zc,HR.out];rfl,HN2.out⟩
def Zea(d:Nat):UInt8:=UInt8.ofNat (48+d)
def Za8(n:Nat):List UInt8:=
 if n<10 then [Zea n]else if n<100 then [Zea (n/10),Zea (n%10)]else if n<1000 then [Zea (n/100),Zea (n/10%10),Zea (n%10)]
 else if n<10000 then [Zea (n/1000),Zea (n/100%10),Zea (n/10%10),Zea (n%10)]else [Zea (n/10000),Zea (n/1000%10),Zea (n/100%10),Zea (n/10%10),Zea (n%10)]
theorem Zfl{n:Nat}(h:¬n<10):Lib.decDigits n=Lib.decDigits (n/10)++[Zea (n%10)]:=by rw[Lib.decDigits,dif_neg h];rfl
theorem Zeg{n:Nat}(h:n<10):Lib.decDigits n=[Zea n]:=by rw[Lib.decDigits,dif_pos h];rfl
theorem ZnT(n:Nat)(h:n≤99999):Lib.decDigits n=Za8 n:=by
 unfold Za8
 by_cases h1:n<10
 ·rw[if_pos h1,Zeg h1]
 rw[if_neg h1,Zfl h1]
 by_cases h2:n<100
 ·rw[if_pos h2,Zeg (by omega)];rfl
 rw[if_neg h2,Zfl (by omega),show n/10/10=n/100 by omega]
 by_cases h3:n<1000
 ·rw[if_pos h3,Zeg (by omega)];rfl
 rw[if_neg h3,Zfl (by omega),show n/100/10=n/1000 by omega]
 by_cases h4:n<10000
 ·rw[if_pos h4,Zeg (by omega)];rfl
 rw[if_neg h4,Zfl (by omega),show n/1000/10=n/10000 by omega,Zeg (by omega)]
 rfl
theorem Zeh(n:Nat):(Za8 n).length≤5:=by
 unfold Za8
 split
 ·simp
 ·split
  ·simp
  ·split
   ·simp
   ·split<;>simp
theorem Zk2(n:Nat)(hn:n≤65535)(w:World)(h:Tb w):Calls Tryz.prog 320 #[.int .i64 n,.int .i64 10] w fun e w'=>∃r:BA,e=.returned (.string r)∧tl r=Za8 n∧Nx w w':=by
 refine(Znm n (by omega) w h).mono ?_
 rintro e w' ⟨r,rfl,hr,hn1⟩
 exact⟨r,rfl,by rw[hr,ZnT n (by omega)],hn1⟩
theorem ZnU(n:Nat)(hn:n≤65535)(w:World)(h:Tb w):Calls Tryz.prog 147 #[.int .i64 n] w fun e w'=>∃r:BA,e=.returned (.string r)∧tl r=Za8 n∧Nx w w':=by
 refine(ZpF n (by omega) w h).mono ?_
 rintro e w' ⟨r,rfl,hr,hn1⟩
 exact⟨r,rfl,by rw[hr,ZnT n (by omega)],hn1⟩
def ZjS(v:Nat):Nat→List UInt8
 | 0=>[]
 | k+1=>Za8 (v/256^k%256)++(if 0<k then [46]++ZjS v k else ZjS v k)
def Zct(v:Nat):List UInt8:=ZjS v 4
theorem Zk3(v:Nat):∀k,(ZjS v k).length≤6*k:=by
 intro k
 induction k with
 | zero=>simp[ZjS]
 | succ k ih=>
  rw[ZjS,Xc];have:=Zeh (v/256^k%256)
  split
  ·simp only[Xc,Xa,Xm];omega
  ·omega
theorem ZjT(v:Nat)(hv:v≤1099511627776)(w:World)(ht:Tb w):Calls Tryz.prog 314 #[.int .i64 v] w fun e w'=>∃r:BA,e=.returned (.string r)∧tl r=Zct v∧Nx w w':=by
 have HTB:=Za ht;clear ht
 go_enter Tryz.func314,Tryz.ntmps314
 go_wp2
 go_loopw [3,4,5] (fun t r i wr=>∃(k:Nat) (txt:BA) (rest:Nat),k≤4∧t=.string txt∧r=.int .i64 rest∧i=.int .i64 k∧rest=v/256^k∧tl txt=ZjS v k∧Nx w wr) (fun _ _ i _=>4-(intOf i).toNat)
 case atStart=>exact⟨0,⟨#[]⟩,v,by omega,rfl,rfl,rfl,by simp,rfl,Nx.rfl⟩
 case round=>
  obtain⟨k,txt,rest,hk,rfl,rfl,rfl,hrest,hE,hnx⟩:=hrel
  have hrl:rest≤1099511627776:=by rw[hrest];exact Xi (Nat.div_le_self _ _) hv
  have hsz:txt.size≤100:=by have:=Zk3 v k;rw[←hE,tl_length]at this;omega
  have HR:=Za hrest;have HE:=Za hE;have HN:=Za hnx;clear hrest hE hnx
  by_cases hlt:k<4
  ·have HDV:=Za (show Int.tdiv (rest:Int) 256=((rest/256:Nat):Int)by rw[Int.tdiv_eq_ediv_of_nonneg (by omega)];omega)
   have HNR:=Za (show rest/256=v/256^(k+1)by rw[HR.out,Nat.div_div_eq_div_mul,Nat.pow_succ])
   have HS:=Za (show ZjS v (k+1)=Za8 (rest%256)++(if 0<k then [46]++ZjS v k else ZjS v k)by rw[ZjS,HR.out])
   by_cases hk0:0<k
   ·have HS2:=Za (HS.out.trans (by rw[if_pos hk0]))
    clear HS;go_wp2_with fail
    refine(Zk2 (rest%256) (by omega) _ (HTB.out.on HN.out)).mono ?_
    rintro e w1 ⟨r,rfl,hr,hn1⟩
    have hrs:r.size≤5:=by rw[←tl_length,hr];exact Zeh _
    have HRR:=Za hr;have HN1:=Za (HN.out.then hn1);clear hr hn1;go_wp2
    go_roundw
    case rel=>exact⟨k+1,_,rest/256,by omega,rfl,by simp,by go_num,HNR.out,by rw[HS2.out,Zc,Zc,HRR.out,HE.out];rfl,HN1.out⟩
    case measure=>simp[intOf];omega
   ·have HS2:=Za (HS.out.trans (by rw[if_neg hk0]))
    clear HS;go_wp2_with fail
    refine(Zk2 (rest%256) (by omega) _ (HTB.out.on HN.out)).mono ?_
    rintro e w1 ⟨r,rfl,hr,hn1⟩
    have hrs:r.size≤5:=by rw[←tl_length,hr];exact Zeh _
    have HRR:=Za hr;have HN1:=Za (HN.out.then hn1);clear hr hn1;go_wp2
    go_roundw
    case rel=>exact⟨k+1,_,rest/256,by omega,rfl,by simp,by go_num,HNR.out,by rw[HS2.out,Zc,HRR.out,HE.out],HN1.out⟩
    case measure=>simp[intOf];omega
  ·have HE2:=Za (show tl txt=Zct v by rw[HE.out,show k=4 by omega];rfl)
   go_wp2;go_ret;exact⟨_,rfl,HE2.out,HN.out⟩
theorem Zk4(l:LB):(Zr l).length≤l.length:=by
 generalize hn:l.length=n
 induction n using Nat.strongRecOn generalizing l with
 | ind n ih=>
  cases l with
  | nil=>rw[Zr];simp
  | cons c r=>
   rw[Xa]at hn
   have key:Zr (c::r)=if(Zbw (c::r)).2 then toB (Zbw (c::r)).1::Zr (r.drop 2)else c::Zr r:=by rw[Zr]
   rw[key]
   split
   ·have:=ih (r.drop 2).length (by rw[Xd];omega) _ rfl
    rw[Xd]at this;rw[Xa]
    omega
   ·have:=ih r.length (by omega) _ rfl
    rw[Xa]
    omega
theorem ZjU(l:LB):(Zae l).length=l.length:=by simp[Zae]
def Zbk(l:List UInt8):List UInt8×Int:=if(l.any fun b=>Zx b.toNat ZdN)=true then([],2)else(encB (tl (ZaN 0)) (clean l),0)
theorem Ziy(s:BA)(w:World)(hs:s.size≤1000000):Calls Tryz.prog 300 #[.string s] w fun e w'=>∃r:BA,e=.returned (.tuple #[.string r,.int .i64 (Zbk (tl s)).2])∧tl r=(Zbk (tl s)).1∧Nx w w':=by
 have HD:=Za (show Zbk (tl s)=if((tl s).any fun b=>Zx b.toNat ZdN)=true then([],2)else(encB (tl (ZaN 0)) (clean (tl s)),0)from rfl)
 go_enter Tryz.func300,Tryz.ntmps300
 go_wp2
 go_loop [4] (fun i=>∃k:Nat,k≤s.size∧i=.int .i64 k∧(((tl s).take k).any fun b=>Zx b.toNat ZdN)=false) (fun i=>s.size-(intOf i).toNat)
 case atStart=>exact⟨0,Nat.zero_le _,rfl,rfl⟩
 case round=>
  obtain⟨k,hk,rfl,ha⟩:=hrel;have HA:=Za ha;clear ha
  by_cases hlt:k<s.size
  ·have hb:=bb s[k]
   cases hA:Zx (s[k].toNat:Int) ZdN
   ·have HH:=Za (show(((tl s).take (k+1)).any fun b=>Zx b.toNat ZdN)=false by rw[ZG s k hlt,any_snoc,HA.out,hA];rfl)
    have HA2:=Za hA;clear hA
    go_wp2_with (go_at_call 194;refine(Zam _ _ _ (Zg (by decide))).mono ?_;rintro e w' ⟨rfl,rfl⟩;rw[show Zx (s[k].toNat:Int) (tl ⟨#[0,9,10,13,32,35,47,58,60,62,63,64,91,92,93,94,124]⟩)=false from HA2.out])
    go_round
    case rel=>exact⟨k+1,by omega,by go_num,HH.out⟩
    case measure=>simp[intOf];omega
   ·have HE:=Za (HD.out.trans (if_pos (Zhu (fun b=>Zx b.toNat ZdN) s k hlt hA)))
    have HA2:=Za hA;clear hA
    go_wp2_with (go_at_call 194;refine(Zam _ _ _ (Zg (by decide))).mono ?_;rintro e w' ⟨rfl,rfl⟩;rw[show Zx (s[k].toNat:Int) (tl ⟨#[0,9,10,13,32,35,47,58,60,62,63,64,91,92,93,94,124]⟩)=true from HA2.out])
    go_ret2
    exact⟨⟨#[]⟩,by rw[HE.out];rfl,by rw[HE.out];rfl,Nx.rfl⟩
  ·have HE:=Za (HD.out.trans (if_neg (by have h:=HA.out;rw[Zah _ _ (by omega)]at h;rw[h];decide)))
   go_wp2_with fail
   refine(Zaw s 0 _ hs).mono ?_
   rintro e w1 ⟨r,rfl,hr,hn⟩;have HR:=Za hr;have HN:=Za hn;clear hr hn;go_wp2;go_ret2
   exact⟨r,by rw[HE.out];rfl,by rw[HE.out];exact HR.out,HN.out⟩
def Zc2(d:List UInt8)(qs:List (List UInt8)):List UInt8×Int:=
 if ZbP qs=false then(d,0)else if(ip4 qs).2=true then(Zct (ip4 qs).1.toNat,0)else([],2)
def ZaA(l:List UInt8):List UInt8×Int:=
 if(beyondB (Zae (Zr l))||ZrY (bsplit 46 (Zae (Zr l))))=true then([],3)
 else if plainDom (Zae (Zr l))=false then([],2)
 else Zc2 (Zae (Zr l)) (ZdQ (bsplit 46 (Zae (Zr l))))
theorem ZnV(ps:List LB):∀room value,0≤room→room≤4294967296→0≤value→0≤(Zch ps room value).1∧(Zch ps room value).1≤value+ps.length*4294967296:=by
 induction ps with
 | nil=>intro room value h0 h1 h2;rw[Zch];exact⟨h2,by simp⟩
 | cons p r ih=>
  intro room value h0 h1 h2;rw[Zch,Xa]
  split
  ·exact⟨by decide,by show(0:Int)≤_;omega⟩
  ·split
   ·exact⟨by decide,by show(0:Int)≤_;omega⟩
   ·rename_i hb
    have hr:=Zd0 p
    have hlt:(ZJ p).1<room:=Int.not_le.1 (fun h=>hb (Or.inl h))
    split
    ·rename_i hne
     have h255:¬255<(ZJ p).1:=fun h=>hb (Or.inr ⟨hne,h⟩)
     have hd0:0≤room/256:=by omega
     have hd1:room/256≤16777216:=by omega
     have hm0:0≤(ZJ p).1*(room/256):=Int.mul_nonneg hr.1 hd0
     have hm1:(ZJ p).1*(room/256)≤255*16777216:=Int.mul_le_mul (by omega) hd1 hd0 (by decide)
     have:=ih (room/256) (value+(ZJ p).1*(room/256)) hd0 (by omega) (by omega)
     exact⟨this.1,by omega⟩
    ·have:=ih room (value+(ZJ p).1) h0 h1 (by omega)
     exact⟨this.1,by omega⟩
theorem Zr6(ps:List LB):0≤(ip4 ps).1∧(ip4 ps).1≤17179869184:=by
 unfold ip4
 split
 ·exact⟨by decide,by decide⟩
 ·have:=ZnV ps 4294967296 0 (by decide) (by decide) (by decide)
  exact⟨this.1,by omega⟩
theorem ZgV(s:BA)(w:World)(hs:s.size≤1000000)(ht:Tb w):Calls Tryz.prog 299 #[.string s] w fun e w'=>∃r:BA,e=.returned (.tuple #[.string r,.int .i64 (ZaA (tl s)).2])∧tl r=(ZaA (tl s)).1∧Nx w w':=by
 have HTB:=Za ht;clear ht
 go_enter Tryz.func299,Tryz.ntmps299
 go_wp2_with fail
 refine(ZgH s _ hs).mono ?_
 rintro e w1 ⟨dec,rfl,hdec,hn1⟩
 have hds:dec.size≤1000000:=by have:=Zk4 (tl s);rw[←hdec,tl_length,tl_length]at this;omega
 go_wp2_with fail
 refine(ZgG dec _ hds).mono ?_
 rintro e w2 ⟨d,rfl,hd,hn2⟩
 have hdd:d.size≤1000000:=by have:=ZjU (tl dec);rw[←hd,tl_length,tl_length]at this;omega
 have HD:=Za (show ZaA (tl s)=if(beyondB (tl d)||ZrY (bsplit 46 (tl d)))=true then([],3)else if plainDom (tl d)=false then([],2)else Zc2 (tl d) (ZdQ (bsplit 46 (tl d)))by
  unfold ZaA;rw[hd,hdec])
 have HN2:=Za (hn1.then hn2);clear hdec hn1 hd hn2;go_wp2_with fail
 refine(Zda d 46 _ hdd).mono ?_
 rintro e w3 ⟨v,bs,rfl,hv,hbs,hn3⟩;rw[←hbs]at HD
 have HSZ:=Za (show ∀b∈bs,b.size≤1000000 from fun b hb=>Xi (Zd2 hbs b hb) hdd)
 have HN3:=Za (HN2.out.then hn3);have HV:=Za hv;clear hbs hn3 hv HN2
 cases hbe:beyondB (tl d)
 ·cases hpu:ZrY (bs.map tl)
  ·have HD2:=Za (HD.out.trans (if_neg (by rw[hbe,hpu];decide)))
   have HBE:=Za hbe;have HPU:=Za hpu;clear HD hbe hpu
   cases hpl:plainDom (tl d)
   ·have HE:=Za (HD2.out.trans (if_pos hpl))
    have HPL:=Za hpl;clear HD2 hpl
    go_wp2_with (first|(go_at_call 308;refine(ZdF _ _ (Zg hdd)).mono ?_;rintro e w' ⟨rfl,rfl⟩;rw[HBE.out])|(go_at_call 309;refine(Zfi _ bs _ HV.out HSZ.out).mono ?_;rintro e w' ⟨rfl,rfl⟩;rw[HPU.out])|(go_at_call 310;refine(ZeU _ _ (Zg hdd)).mono ?_;rintro e w' ⟨rfl,rfl⟩;rw[HPL.out]))
    go_ret2
    exact⟨⟨#[]⟩,by rw[HE.out];rfl,by rw[HE.out];rfl,HN3.out⟩
   ·have HE:=Za (HD2.out.trans (if_neg (by rw[hpl];decide)))
    have HPL:=Za hpl;rw[←ZnF]at HE;clear HD2 hpl
    go_wp2_with (first|(go_at_call 308;refine(ZdF _ _ (Zg hdd)).mono ?_;rintro e w' ⟨rfl,rfl⟩;rw[HBE.out])|(go_at_call 309;refine(Zfi _ bs _ HV.out HSZ.out).mono ?_;rintro e w' ⟨rfl,rfl⟩;rw[HPU.out])|(go_at_call 310;refine(ZeU _ _ (Zg hdd)).mono ?_;rintro e w' ⟨rfl,rfl⟩;rw[HPL.out]))
    refine(ZnH _ bs _ HV.out).mono ?_
    rintro e w' ⟨v2,rfl,hv2,rfl⟩;have HV2:=Za hv2
    have HSZ2:=Za (show ∀b∈noEnd bs,b.size≤1000000 from fun b hb=>HSZ.out b (ZnG hb))
    clear hv2;generalize noEnd bs=qs at *
    have HDE:=Za (show Zc2 (tl d) (qs.map tl)=if ZbP (qs.map tl)=false then(tl d,0)else if(ip4 (qs.map tl)).2=true then(Zct (ip4 (qs.map tl)).1.toNat,0)else([],2)from rfl)
    cases hen:ZbP (qs.map tl)
    ·have HE2:=Za (HE.out.trans (HDE.out.trans (if_pos hen)))
     have HEN:=Za hen;clear hen HE HDE
     go_wp2_with (go_at_call 312;refine(Zd1 _ qs _ HV2.out HSZ2.out).mono ?_;rintro e w' ⟨rfl,rfl⟩;rw[HEN.out])
     go_ret2
     exact⟨d,by rw[HE2.out];rfl,by rw[HE2.out],HN3.out⟩
    ·have HE2:=Za (HE.out.trans (HDE.out.trans (if_neg (by rw[hen];decide))))
     have HEN:=Za hen;have hrg:=Zr6 (qs.map tl);clear hen HE HDE;generalize hq:ip4 (qs.map tl)=q at *;have HQ:=Za hq;clear hq;obtain⟨val,ok⟩:=q;simp only at HE2 hrg
     obtain⟨vn,rfl⟩:∃vn:Nat,val=(vn:Int):=⟨val.toNat,by omega⟩
     rw[Xj]at HE2
     have hvn:vn≤1099511627776:=by omega
     clear hrg
     cases ok
     ·have HE3:=Za (HE2.out.trans (if_neg (by decide)))
      clear HE2
      go_wp2_with (first|(go_at_call 312;refine(Zd1 _ qs _ HV2.out HSZ2.out).mono ?_;rintro e w' ⟨rfl,rfl⟩;rw[HEN.out])|(go_at_call 313;refine(ZnI _ qs _ HV2.out HSZ2.out).mono ?_;rintro e w' ⟨rfl,rfl⟩;rw[HQ.out]))
      go_ret2
      exact⟨⟨#[]⟩,by rw[HE3.out];rfl,by rw[HE3.out];rfl,HN3.out⟩
     ·have HE3:=Za (HE2.out.trans (if_pos rfl))
      clear HE2
      go_wp2_with (first|(go_at_call 312;refine(Zd1 _ qs _ HV2.out HSZ2.out).mono ?_;rintro e w' ⟨rfl,rfl⟩;rw[HEN.out])|(go_at_call 313;refine(ZnI _ qs _ HV2.out HSZ2.out).mono ?_;rintro e w' ⟨rfl,rfl⟩;rw[HQ.out])|(go_at_call 314;refine(ZjT vn hvn _ (HTB.out.on HN3.out)).mono ?_;rintro e w4 ⟨r,rfl,hr,hn4⟩;have HR:=Za hr;have HN4:=Za (HN3.out.then hn4);clear hr hn4))
      go_ret2
      exact⟨r,by rw[HE3.out];rfl,by rw[HE3.out];exact HR.out,HN4.out⟩
  ·have HE:=Za (HD.out.trans (if_pos (by rw[hpu];simp)))
   have HBE:=Za hbe;have HPU:=Za hpu;clear HD hbe hpu
   go_wp2_with (first|(go_at_call 308;refine(ZdF _ _ (Zg hdd)).mono ?_;rintro e w' ⟨rfl,rfl⟩;rw[HBE.out])|(go_at_call 309;refine(Zfi _ bs _ HV.out HSZ.out).mono ?_;rintro e w' ⟨rfl,rfl⟩;rw[HPU.out]))
   go_ret2
   exact⟨⟨#[]⟩,by rw[HE.out];rfl,by rw[HE.out];rfl,HN3.out⟩
 ·have HE:=Za (HD.out.trans (if_pos (by rw[hbe];simp)))
  have HBE:=Za hbe;clear HD hbe
  go_wp2_with (first|(go_at_call 308;refine(ZdF _ _ (Zg hdd)).mono ?_;rintro e w' ⟨rfl,rfl⟩;rw[HBE.out])|(go_at_call 309;refine(Zfi _ bs _ HV.out HSZ.out).mono ?_;rintro e w' ⟨rfl,rfl⟩))
  go_ret2
  exact⟨⟨#[]⟩,by rw[HE.out];rfl,by rw[HE.out];rfl,HN3.out⟩
def ZI(l:List UInt8)(sp:Bool):List UInt8×Int:=if((l.getD 0 0).toNat:Int)=91 then Zak l else if sp=true then ZaA l else Zbk l
theorem Ziz(s:BA)(sp:Bool)(w:World)(hs:s.size≤1000000)(ht:Tb w):Calls Tryz.prog 277 #[.string s,.bool sp] w fun e w'=>∃r:BA,e=.returned (.tuple #[.string r,.int .i64 (ZI (tl s) sp).2])∧tl r=(ZI (tl s) sp).1∧Nx w w':=by
 have HD:=Za (show ZI (tl s) sp=if(((tl s).getD 0 0).toNat:Int)=91 then Zak (tl s)else if sp=true then ZaA (tl s)else Zbk (tl s)from rfl)
 by_cases h0:s.size=0
 ·have HE:=Za (HD.out.trans (if_neg (by rw[Zz h0];decide)))
  have h0':=Zf h0;clear HD h0
  cases sp
  ·have HE2:Hid (ZI (tl s) false=Zbk (tl s)):=Za (HE.out.trans (if_neg (by decide)))
   clear HE
   go_enter Tryz.func277,Tryz.ntmps277
   go_wp2_with (go_at_call 300;refine(Ziy s _ hs).mono ?_;rintro e w1 ⟨r,rfl,hr,hn⟩;have HR:=Za hr;have HN:=Za hn;clear hr hn)
   go_ret2
   exact⟨r,by rw[HE2.out];rfl,by rw[HE2.out];exact HR.out,HN.out⟩
  ·have HE2:Hid (ZI (tl s) true=ZaA (tl s)):=Za (HE.out.trans (if_pos rfl))
   clear HE
   go_enter Tryz.func277,Tryz.ntmps277
   go_wp2_with (go_at_call 299;refine(ZgV s _ hs ht).mono ?_;rintro e w1 ⟨r,rfl,hr,hn⟩;have HR:=Za hr;have HN:=Za hn;clear hr hn)
   go_ret2
   exact⟨r,by rw[HE2.out];rfl,by rw[HE2.out];exact HR.out,HN.out⟩
 ·have hpos:0<s.size:=by omega
  have h0':=Ze h0;rw[Zcp s 0 hpos]at HD;have hb:=bb (s[0]'hpos);clear h0
  cases h91:(((s[0]'hpos).toNat:Int)==91)
  ·have HE:=Za (HD.out.trans (if_neg (by simpa using h91)))
   clear HD
   cases sp
   ·have HE2:Hid (ZI (tl s) false=Zbk (tl s)):=Za (HE.out.trans (if_neg (by decide)))
    clear HE
    go_enter Tryz.func277,Tryz.ntmps277
    go_wp2_with (go_at_call 300;refine(Ziy s _ hs).mono ?_;rintro e w1 ⟨r,rfl,hr,hn⟩;have HR:=Za hr;have HN:=Za hn;clear hr hn)
    go_ret2
    exact⟨r,by rw[HE2.out];rfl,by rw[HE2.out];exact HR.out,HN.out⟩
   ·have HE2:Hid (ZI (tl s) true=ZaA (tl s)):=Za (HE.out.trans (if_pos rfl))
    clear HE
    go_enter Tryz.func277,Tryz.ntmps277
    go_wp2_with (go_at_call 299;refine(ZgV s _ hs ht).mono ?_;rintro e w1 ⟨r,rfl,hr,hn⟩;have HR:=Za hr;have HN:=Za hn;clear hr hn)
    go_ret2
    exact⟨r,by rw[HE2.out];rfl,by rw[HE2.out];exact HR.out,HN.out⟩
  ·have HE:=Za (HD.out.trans (if_pos (by simpa using h91)))
   clear HD
   go_enter Tryz.func277,Tryz.ntmps277
   go_wp2_with (go_at_call 298;refine(Zix s _ hs ht).mono ?_;rintro e w1 ⟨r,rfl,hr,hn⟩;have HR:=Za hr;have HN:=Za hn;clear hr hn)
   go_ret2
   exact⟨r,by rw[HE.out];rfl,by rw[HE.out];exact HR.out,HN.out⟩
end Go.Proofs.YtchkhibgbnhjpabGreatDoor
