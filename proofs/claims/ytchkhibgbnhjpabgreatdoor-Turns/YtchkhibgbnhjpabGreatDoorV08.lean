import Derived.Test.YtchkhibgbnhjpabGreatDoorV07
open Array renaming getElem?_eq_some_iff→Xb,getElem?_modify→Xf
open List renaming map_nil→Xc,map_cons→Xd,drop_of_length_le→Xe,nil_append→Xg,length_map→Xh,drop_eq_getElem_cons→Xi,length_take→Xk,map_append→Xl
open Nat renaming le_refl→Xa,le_trans→Xj,zero_le→Xm
namespace Go.Proofs.YtchkhibgbnhjpabGreatDoor
open Go.RowKit
set_option maxHeartbeats 8000000
def zeros8:List Int:=[0,0,0,0,0,0,0,0]
def zeroG:List Int×Nat:=(zeros8,0)
def grpGo(en:Bool):List Int×Nat→List (List UInt8)→Option (List Int×Nat)
 | g,[]=>some g
 | g,p::r=>
  if en=true∧r=[]∧Zx 46 p=true then(if(Zbj g p).2=true then grpGo en (Zbj g p).1 r else none)
  else(if(Zbi g p).2=true then grpGo en (Zbi g p).1 r else none)
def ZB(l:List UInt8)(en:Bool):(List Int×Nat)×Bool:=
 if l=[]then(zeroG,true)else
 match grpGo en zeroG (bsplit 58 l)with
 | none=>(zeroG,false)
 | some g=>(g,true)
theorem ZpP(en:Bool)(bs:LA)(k:Nat)(h:k<bs.length)(g:LI×Nat):grpGo en g ((bs.drop k).map tl) =
  if en=true∧k+1=bs.length∧Zx 46 (tl bs[k])=true then(if(Zbj g (tl bs[k])).2=true then grpGo en (Zbj g (tl bs[k])).1 ((bs.drop (k+1)).map tl)else none)
  else(if(Zbi g (tl bs[k])).2=true then grpGo en (Zbi g (tl bs[k])).1 ((bs.drop (k+1)).map tl)else none):=by
 rw[Xi h,Xd,grpGo]
 have hr:((bs.drop (k+1)).map tl=[])↔k+1=bs.length:=by
  constructor
  ·intro hn
   have:=congrArg List.length hn;rw[Xh,List.length_drop]at this
   simp at this
   omega
  ·intro hlt
   rw[Xe (by omega)]
   rfl
 simp only[hr]
theorem GrpAt.nine{w:World}{gb n:Nat}{a0 a1 a2 a3 a4 a5 a6 a7:Int}(h:GrpAt w gb [a0,a1,a2,a3,a4,a5,a6,a7] n):w.cell? ⟨gb,0,none⟩=some (.int .i64 a0)∧w.cell? ⟨gb,1,none⟩=some (.int .i64 a1)∧w.cell? ⟨gb,2,none⟩=some (.int .i64 a2)∧w.cell? ⟨gb,3,none⟩=some (.int .i64 a3)∧w.cell? ⟨gb,4,none⟩=some (.int .i64 a4)∧w.cell? ⟨gb,5,none⟩=some (.int .i64 a5)∧w.cell? ⟨gb,6,none⟩=some (.int .i64 a6)∧w.cell? ⟨gb,7,none⟩=some (.int .i64 a7)∧w.cell? ⟨gb,8,none⟩=some (.int .i64 (n:Int)):=by
 have h1:=h.1
 refine⟨?_,?_,?_,?_,?_,?_,?_,?_,?_⟩<;>simp[World.cell?,h1]
theorem GrpAt.put{w:World}{gb n:Nat}{ns:LI}(h:GrpAt w gb ns n)(a0 a1 a2 a3 a4 a5 a6 a7:Int)(m:Nat)(m':Int)(hm:m'=(m:Int)):GrpAt (((((((((w.setCell ⟨gb,0,none⟩ (.int .i64 a0)).setCell ⟨gb,1,none⟩ (.int .i64 a1)).setCell ⟨gb,2,none⟩ (.int .i64 a2)).setCell ⟨gb,3,none⟩ (.int .i64 a3)).setCell ⟨gb,4,none⟩ (.int .i64 a4)).setCell ⟨gb,5,none⟩ (.int .i64 a5)).setCell ⟨gb,6,none⟩ (.int .i64 a6)).setCell ⟨gb,7,none⟩ (.int .i64 a7)).setCell ⟨gb,8,none⟩ (.int .i64 m')) gb [a0,a1,a2,a3,a4,a5,a6,a7] m:=by
 subst hm;obtain⟨h1,h2⟩:=h
 match ns,h2 with
 | [_,_,_,_,_,_,_,_],_=>
  refine⟨?_,rfl⟩
  simp[World.setCell,Xf,h1]
theorem Zs9{l:LI}(h:l.length=8):∃a0 a1 a2 a3 a4 a5 a6 a7,l=[a0,a1,a2,a3,a4,a5,a6,a7]:=by
 match l,h with
 | [a0,a1,a2,a3,a4,a5,a6,a7],_=>exact⟨a0,a1,a2,a3,a4,a5,a6,a7,rfl⟩
theorem ZnL(w:World):GrpAt (w.alloc (Obj.cells #[.int .i64 0,.int .i64 0,.int .i64 0,.int .i64 0,.int .i64 0,.int .i64 0,.int .i64 0,.int .i64 0,.int .i64 0] 265)) w.heap.size zeros8 0:=⟨heap_alloc_new w _,rfl⟩
theorem ZgS(g:LI×Nat)(l:LB):(Zbj g l).1.1.length=g.1.length:=by
 unfold Zbj
 split
 ·rfl
 ·split
  ·rfl
  ·split
   ·rw[Zfk]
   ·rw[Zfk,Zfk]
theorem ZdG(g:LI×Nat)(l:LB):(Zbi g l).1.1.length=g.1.length:=by
 unfold Zbi
 split
 ·rfl
 ·rw[Zfk]
theorem Zta{w:World}{b off gb n:Nat}{l:LA}{ns:LI}(h:RowAt 9 Value.string w b off l)(hg:GrpAt w gb ns n):b≠gb:=by
 rintro rfl;obtain⟨cs,fz,hh,-⟩:=h;have h1:=hg.1;rw[hh]at h1;simp only[Option.some.injEq,Obj.cells.injEq]at h1
 exact absurd h1.2.1 (by decide)
theorem ZlY(n:Int)(l:LB):(bsplit n l).length≤l.length+1:=by
 induction l with
 | nil=>simp[bsplit]
 | cons c r ih=>
  rw[bsplit]
  split
  ·simp;omega
  ·obtain⟨x,q,hx⟩:=Zb7 n r
   rw[hx]at ih ⊢
   simp at ih ⊢
   omega
theorem ZfJ{w wr:World}{rb:Nat}(hrb:w.heap.size=rb)(h:Nx w wr)(x0 x1 x2 x3 x4 x5 x6 x7 x8:Value):Nx w (((((((((wr.setCell ⟨rb,0,none⟩ x0).setCell ⟨rb,1,none⟩ x1).setCell ⟨rb,2,none⟩ x2).setCell ⟨rb,3,none⟩ x3).setCell ⟨rb,4,none⟩ x4).setCell ⟨rb,5,none⟩ x5).setCell ⟨rb,6,none⟩ x6).setCell ⟨rb,7,none⟩ x7).setCell ⟨rb,8,none⟩ x8):=by subst hrb;exact((((((((h.setCell (Xa _) _).setCell (Xa _) _).setCell (Xa _) _).setCell (Xa _) _).setCell (Xa _) _).setCell (Xa _) _).setCell (Xa _) _).setCell (Xa _) _).setCell (Xa _) _
theorem Zd3(s:BA)(en:Bool)(w:World)(hs:s.size≤1000000):Calls Tryz.prog 318 #[.string s,.bool en] w fun e w'=>∃(a0 a1 a2 a3 a4 a5 a6 a7:Int) (n:Nat) (ok:Bool),e=.returned (.tuple #[.agg #[.int .i64 a0,.int .i64 a1,.int .i64 a2,.int .i64 a3,.int .i64 a4,.int .i64 a5,.int .i64 a6,.int .i64 a7,.int .i64 (n:Int)],.bool ok])∧ZB (tl s) en=(([a0,a1,a2,a3,a4,a5,a6,a7],n),ok)∧Nx w w':=by
 by_cases h0:s.size=0
 ·have HE:=Za (show ZB (tl s) en=(zeroG,true)by unfold ZB;rw[if_pos (Zz h0)])
  have h0':=Zf h0;clear h0
  go_enter Tryz.func318,Tryz.ntmps318
  go_wp2
  exact bodyPost_ret (v:=.tuple #[.agg #[.int .i64 0,.int .i64 0,.int .i64 0,.int .i64 0,.int .i64 0,.int .i64 0,.int .i64 0,.int .i64 0,.int .i64 0],.bool true]) (by simp[results,Tryz.results318,go_sem]) rfl ⟨0,0,0,0,0,0,0,0,0,true,rfl,HE.out,Nx.rfl.alloc _⟩
 ·have h0':=Ze h0
  have HE:=Za (show ZB (tl s) en=match grpGo en zeroG (bsplit 58 (tl s))with|none=>(zeroG,false)|some g=>(g,true)by unfold ZB;rw[if_neg (ZcC h0)])
  clear h0
  go_enter Tryz.func318,Tryz.ntmps318
  go_wp2_with fail
  refine(Zda s 58 _ hs).mono ?_
  rintro e w1 ⟨v,bs,rfl,hv,hbs,hn⟩;have HR0:=Za (show GrpAt w1 w.heap.size zeros8 0 from((ZnL w).on (Nx.rfl.alloc _)).on hn)
  have HG0:=Za (show GrpAt w1 (w.heap.size+1) zeros8 0 from(show GrpAt ((w.alloc _).alloc _) (w.heap.size+1) zeros8 0 by have:=ZnL (w.alloc (Obj.cells #[.int .i64 0,.int .i64 0,.int .i64 0,.int .i64 0,.int .i64 0,.int .i64 0,.int .i64 0,.int .i64 0,.int .i64 0] 265));simpa using this).on hn)
  have HN1:=Za (show Nx w w1 from((Nx.rfl.alloc _).alloc _).then hn);have HBS:=Za hbs
  have HSZ:=Za (show ∀b∈bs,b.size≤1000000 from fun b hb=>Xj (Zd2 hbs b hb) hs)
  have hz:w.heap.size+2≤w1.heap.size:=by have:=hn.size;simpa using this
  obtain⟨ao,cap,rfl,hlc,hcap,hnone,hsome⟩:=hv;unfold maxLen at hcap
  have HRW:=Za (show ∀k,k<bs.length→∃b off,ao=some ⟨b,off,none⟩∧RowAt 9 Value.string w1 b off bs∧b≠w.heap.size+1 from fun k hk=>by
   obtain⟨a,ha⟩:=Zbm hk hnone;obtain⟨b,off,rfl,hr⟩:=hsome a ha
   exact⟨b,off,ha,hr,Zta hr HG0.out⟩)
  have hbl:bs.length≤s.size+1:=by have h1:=congrArg List.length hbs;rw[Xh]at h1;rw[h1];have:=ZlY 58 (tl s);rw[tl_length]at this;exact this
  clear hnone hsome hbs hn;generalize hrb:w.heap.size=rb at *;have HRB:=Za hrb;clear hrb;go_wp2
  go_loopw [8] (fun i wr=>∃(k:Nat) (g:LI×Nat),k≤bs.length∧i=.int .i64 k∧g.1.length=8∧GrpAt wr (rb+1) g.1 g.2∧grpGo en zeroG (bsplit 58 (tl s))=grpGo en g ((bs.drop k).map tl)∧But (rb+1) w1 wr) (fun i _=>bs.length-(intOf i).toNat)
  case atStart=>exact⟨0,zeroG,Xm _,rfl,rfl,HG0.out,by rw[←HBS.out];rfl,But.refl _ _⟩
  case round=>
   obtain⟨k,g,hk,rfl,hgl,hg,hE,hbut⟩:=hrel;have HGL:=Za hgl;have HG:=Za hg;have HBT:=Za hbut
   have HRR:=Za (HR0.out.but hbut (by omega))
   clear hgl hg hbut
   by_cases hlt:k<bs.length
   ·obtain⟨b,off,rfl,hr,hne⟩:=HRW.out k hlt
    have hck:=(hr.but HBT.out hne).cell hlt;have hsz:=HSZ.out _ (List.getElem_mem hlt);rw[ZpP en bs k hlt]at hE;have HE2:=Za hE;clear hE hr hne HRW;generalize bs[k]=p at *
    have HPUT:=Za (fun w2 (hb2:But (rb+1) wr w2)=>(HRR.out.but hb2 (by omega)))
    have KEY:=Za (show grpGo en zeroG (bsplit 58 (tl s))=none→ZB (tl s) en=(zeroG,false)from fun h=>by rw[HE.out,h])
    by_cases hdot:en=true∧k+1=bs.length∧Zx 46 (tl p)=true
    ·have HF:=Za (HE2.out.trans (if_pos hdot))
     obtain⟨rfl,hlast,hA⟩:=hdot;have HA:=Za hA
     have hl':((k:Int)==(bs.length:Int)-1)=true:=by rw[beq_iff_eq];omega
     clear HE2 hA hlast
     go_wp2_with (first|(go_at_call 194;refine(Zam _ _ _ (Zg hsz)).mono ?_;rintro e w' ⟨rfl,rfl⟩;rw[HA.out])|fail)
     refine(ZlU (rb+1) g p _ HG.out hsz).mono ?_
     rintro e w2 ⟨rfl,h1,h2⟩;have HLN:=Za ((ZgS g (tl p)).trans HGL.out);generalize Zbj g (tl p)=q at *;obtain⟨g2,ok⟩:=q;simp only at *;have HG2:=Za h1;have HB2:=Za (HBT.out.then h2);have HR2:=Za (HPUT.out w2 h2);clear h1 h2
     cases ok
     ·have HF2:=Za (KEY.out (HF.out.trans (if_neg (by decide))))
      obtain⟨z0,z1,z2,z3,z4,z5,z6,z7,z8⟩:=HR2.out.nine;have f0:=HR2.out.free 0;have f1:=HR2.out.free 1;have f2:=HR2.out.free 2;have f3:=HR2.out.free 3;have f4:=HR2.out.free 4;have f5:=HR2.out.free 5;have f6:=HR2.out.free 6;have f7:=HR2.out.free 7;have f8:=HR2.out.free 8;have HP:=Za (HR2.out.put 0 0 0 0 0 0 0 0 0 0 rfl)
      have HNF:=Za (show ∀x0 x1 x2 x3 x4 x5 x6 x7 x8,Nx w (((((((((w2.setCell ⟨rb,0,none⟩ x0).setCell ⟨rb,1,none⟩ x1).setCell ⟨rb,2,none⟩ x2).setCell ⟨rb,3,none⟩ x3).setCell ⟨rb,4,none⟩ x4).setCell ⟨rb,5,none⟩ x5).setCell ⟨rb,6,none⟩ x6).setCell ⟨rb,7,none⟩ x7).setCell ⟨rb,8,none⟩ x8)from ZfJ HRB.out (HN1.out.trans (HB2.out.below (by rw[HRB.out];omega) HN1.out.size)))
      go_wp2;obtain⟨y0,y1,y2,y3,y4,y5,y6,y7,y8⟩:=HP.out.nine
      exact bodyPost_ret (v:=.tuple #[.agg #[.int .i64 0,.int .i64 0,.int .i64 0,.int .i64 0,.int .i64 0,.int .i64 0,.int .i64 0,.int .i64 0,.int .i64 0],.bool false]) (by simp[results,Tryz.results318,go_sem,y0,y1,y2,y3,y4,y5,y6,y7,y8]) rfl ⟨0,0,0,0,0,0,0,0,0,false,rfl,HF2.out,HNF.out _ _ _ _ _ _ _ _ _⟩
     ·have HF2:=Za (HF.out.trans (if_pos rfl))
      clear HF;go_wp2
      go_roundw
      case rel=>exact⟨k+1,g2,by omega,by go_num,HLN.out,HG2.out,HF2.out,HB2.out⟩
      case measure=>simp[intOf];omega
    ·have HF:=Za (HE2.out.trans (if_neg hdot))
     clear HE2
     have hcase:(en=true∧k+1=bs.length→Zx 46 (tl p)=false):=fun h=>by
      cases hA:Zx 46 (tl p)
      ·rfl
      ·exact absurd ⟨h.1,h.2,hA⟩ hdot
     have CC:=Za hcase;clear hcase hdot
     cases en
     ·go_wp2_with fail
      refine(Zex (rb+1) g p _ HG.out hsz).mono ?_
      rintro e w2 ⟨rfl,h1,h2⟩;have HLN:=Za ((ZdG g (tl p)).trans HGL.out);generalize Zbi g (tl p)=q at *;obtain⟨g2,ok⟩:=q;simp only at *;have HG2:=Za h1;have HB2:=Za (HBT.out.then h2);have HR2:=Za (HPUT.out w2 h2);clear h1 h2
      cases ok
      ·have HF2:=Za (KEY.out (HF.out.trans (if_neg (by decide))))
       obtain⟨z0,z1,z2,z3,z4,z5,z6,z7,z8⟩:=HR2.out.nine;have f0:=HR2.out.free 0;have f1:=HR2.out.free 1;have f2:=HR2.out.free 2;have f3:=HR2.out.free 3;have f4:=HR2.out.free 4;have f5:=HR2.out.free 5;have f6:=HR2.out.free 6;have f7:=HR2.out.free 7;have f8:=HR2.out.free 8;have HP:=Za (HR2.out.put 0 0 0 0 0 0 0 0 0 0 rfl)
       have HNF:=Za (show ∀x0 x1 x2 x3 x4 x5 x6 x7 x8,Nx w (((((((((w2.setCell ⟨rb,0,none⟩ x0).setCell ⟨rb,1,none⟩ x1).setCell ⟨rb,2,none⟩ x2).setCell ⟨rb,3,none⟩ x3).setCell ⟨rb,4,none⟩ x4).setCell ⟨rb,5,none⟩ x5).setCell ⟨rb,6,none⟩ x6).setCell ⟨rb,7,none⟩ x7).setCell ⟨rb,8,none⟩ x8)from ZfJ HRB.out (HN1.out.trans (HB2.out.below (by rw[HRB.out];omega) HN1.out.size)))
       go_wp2;obtain⟨y0,y1,y2,y3,y4,y5,y6,y7,y8⟩:=HP.out.nine
       exact bodyPost_ret (v:=.tuple #[.agg #[.int .i64 0,.int .i64 0,.int .i64 0,.int .i64 0,.int .i64 0,.int .i64 0,.int .i64 0,.int .i64 0,.int .i64 0],.bool false]) (by simp[results,Tryz.results318,go_sem,y0,y1,y2,y3,y4,y5,y6,y7,y8]) rfl ⟨0,0,0,0,0,0,0,0,0,false,rfl,HF2.out,HNF.out _ _ _ _ _ _ _ _ _⟩
      ·have HF2:=Za (HF.out.trans (if_pos rfl))
       clear HF;go_wp2
       go_roundw
       case rel=>exact⟨k+1,g2,by omega,by go_num,HLN.out,HG2.out,HF2.out,HB2.out⟩
       case measure=>simp[intOf];omega
     ·by_cases hlast:k+1=bs.length
      ·have HA:=Za (CC.out ⟨rfl,hlast⟩)
       have hl':((k:Int)==(bs.length:Int)-1)=true:=by rw[beq_iff_eq];omega
       clear hlast CC
       go_wp2_with (first|(go_at_call 194;refine(Zam _ _ _ (Zg hsz)).mono ?_;rintro e w' ⟨rfl,rfl⟩;rw[HA.out])|fail)
       refine(Zex (rb+1) g p _ HG.out hsz).mono ?_
       rintro e w2 ⟨rfl,h1,h2⟩;have HLN:=Za ((ZdG g (tl p)).trans HGL.out);generalize Zbi g (tl p)=q at *;obtain⟨g2,ok⟩:=q;simp only at *;have HG2:=Za h1;have HB2:=Za (HBT.out.then h2);have HR2:=Za (HPUT.out w2 h2);clear h1 h2
       cases ok
       ·have HF2:=Za (KEY.out (HF.out.trans (if_neg (by decide))))
        obtain⟨z0,z1,z2,z3,z4,z5,z6,z7,z8⟩:=HR2.out.nine;have f0:=HR2.out.free 0;have f1:=HR2.out.free 1;have f2:=HR2.out.free 2;have f3:=HR2.out.free 3;have f4:=HR2.out.free 4;have f5:=HR2.out.free 5;have f6:=HR2.out.free 6;have f7:=HR2.out.free 7;have f8:=HR2.out.free 8;have HP:=Za (HR2.out.put 0 0 0 0 0 0 0 0 0 0 rfl)
        have HNF:=Za (show ∀x0 x1 x2 x3 x4 x5 x6 x7 x8,Nx w (((((((((w2.setCell ⟨rb,0,none⟩ x0).setCell ⟨rb,1,none⟩ x1).setCell ⟨rb,2,none⟩ x2).setCell ⟨rb,3,none⟩ x3).setCell ⟨rb,4,none⟩ x4).setCell ⟨rb,5,none⟩ x5).setCell ⟨rb,6,none⟩ x6).setCell ⟨rb,7,none⟩ x7).setCell ⟨rb,8,none⟩ x8)from ZfJ HRB.out (HN1.out.trans (HB2.out.below (by rw[HRB.out];omega) HN1.out.size)))
        go_wp2;obtain⟨y0,y1,y2,y3,y4,y5,y6,y7,y8⟩:=HP.out.nine
        exact bodyPost_ret (v:=.tuple #[.agg #[.int .i64 0,.int .i64 0,.int .i64 0,.int .i64 0,.int .i64 0,.int .i64 0,.int .i64 0,.int .i64 0,.int .i64 0],.bool false]) (by simp[results,Tryz.results318,go_sem,y0,y1,y2,y3,y4,y5,y6,y7,y8]) rfl ⟨0,0,0,0,0,0,0,0,0,false,rfl,HF2.out,HNF.out _ _ _ _ _ _ _ _ _⟩
       ·have HF2:=Za (HF.out.trans (if_pos rfl))
        clear HF;go_wp2
        go_roundw
        case rel=>exact⟨k+1,g2,by omega,by go_num,HLN.out,HG2.out,HF2.out,HB2.out⟩
        case measure=>simp[intOf];omega
      ·have hl':((k:Int)==(bs.length:Int)-1)=false:=beq_eq_false_iff_ne.2 (by omega)
       clear hlast CC;go_wp2_with fail
       refine(Zex (rb+1) g p _ HG.out hsz).mono ?_
       rintro e w2 ⟨rfl,h1,h2⟩;have HLN:=Za ((ZdG g (tl p)).trans HGL.out);generalize Zbi g (tl p)=q at *;obtain⟨g2,ok⟩:=q;simp only at *;have HG2:=Za h1;have HB2:=Za (HBT.out.then h2);have HR2:=Za (HPUT.out w2 h2);clear h1 h2
       cases ok
       ·have HF2:=Za (KEY.out (HF.out.trans (if_neg (by decide))))
        obtain⟨z0,z1,z2,z3,z4,z5,z6,z7,z8⟩:=HR2.out.nine;have f0:=HR2.out.free 0;have f1:=HR2.out.free 1;have f2:=HR2.out.free 2;have f3:=HR2.out.free 3;have f4:=HR2.out.free 4;have f5:=HR2.out.free 5;have f6:=HR2.out.free 6;have f7:=HR2.out.free 7;have f8:=HR2.out.free 8;have HP:=Za (HR2.out.put 0 0 0 0 0 0 0 0 0 0 rfl)
        have HNF:=Za (show ∀x0 x1 x2 x3 x4 x5 x6 x7 x8,Nx w (((((((((w2.setCell ⟨rb,0,none⟩ x0).setCell ⟨rb,1,none⟩ x1).setCell ⟨rb,2,none⟩ x2).setCell ⟨rb,3,none⟩ x3).setCell ⟨rb,4,none⟩ x4).setCell ⟨rb,5,none⟩ x5).setCell ⟨rb,6,none⟩ x6).setCell ⟨rb,7,none⟩ x7).setCell ⟨rb,8,none⟩ x8)from ZfJ HRB.out (HN1.out.trans (HB2.out.below (by rw[HRB.out];omega) HN1.out.size)))
        go_wp2;obtain⟨y0,y1,y2,y3,y4,y5,y6,y7,y8⟩:=HP.out.nine
        exact bodyPost_ret (v:=.tuple #[.agg #[.int .i64 0,.int .i64 0,.int .i64 0,.int .i64 0,.int .i64 0,.int .i64 0,.int .i64 0,.int .i64 0,.int .i64 0],.bool false]) (by simp[results,Tryz.results318,go_sem,y0,y1,y2,y3,y4,y5,y6,y7,y8]) rfl ⟨0,0,0,0,0,0,0,0,0,false,rfl,HF2.out,HNF.out _ _ _ _ _ _ _ _ _⟩
       ·have HF2:=Za (HF.out.trans (if_pos rfl))
        clear HF;go_wp2
        go_roundw
        case rel=>exact⟨k+1,g2,by omega,by go_num,HLN.out,HG2.out,HF2.out,HB2.out⟩
        case measure=>simp[intOf];omega
   ·have HF:=Za (show ZB (tl s) en=(g,true)by rw[HE.out,hE,Xe (by omega)];rfl)
    clear hE;obtain⟨a0,a1,a2,a3,a4,a5,a6,a7,hg8⟩:=Zs9 HGL.out;obtain⟨g1,n⟩:=g;simp only at hg8;subst hg8;simp only at *;obtain⟨z0,z1,z2,z3,z4,z5,z6,z7,z8⟩:=HG.out.nine;obtain⟨x0,x1,x2,x3,x4,x5,x6,x7,x8⟩:=HRR.out.nine;have f0:=HRR.out.free 0;have f1:=HRR.out.free 1;have f2:=HRR.out.free 2;have f3:=HRR.out.free 3;have f4:=HRR.out.free 4;have f5:=HRR.out.free 5;have f6:=HRR.out.free 6;have f7:=HRR.out.free 7;have f8:=HRR.out.free 8;have HP:=Za (HRR.out.put a0 a1 a2 a3 a4 a5 a6 a7 n (n:Int) rfl)
    have HNF:=Za (show ∀x0 x1 x2 x3 x4 x5 x6 x7 x8,Nx w (((((((((wr.setCell ⟨rb,0,none⟩ x0).setCell ⟨rb,1,none⟩ x1).setCell ⟨rb,2,none⟩ x2).setCell ⟨rb,3,none⟩ x3).setCell ⟨rb,4,none⟩ x4).setCell ⟨rb,5,none⟩ x5).setCell ⟨rb,6,none⟩ x6).setCell ⟨rb,7,none⟩ x7).setCell ⟨rb,8,none⟩ x8)from ZfJ HRB.out (HN1.out.trans (HBT.out.below (by rw[HRB.out];omega) HN1.out.size)))
    go_wp2;obtain⟨y0,y1,y2,y3,y4,y5,y6,y7,y8⟩:=HP.out.nine
    exact bodyPost_ret (v:=.tuple #[.agg #[.int .i64 a0,.int .i64 a1,.int .i64 a2,.int .i64 a3,.int .i64 a4,.int .i64 a5,.int .i64 a6,.int .i64 a7,.int .i64 (n:Int)],.bool true]) (by simp[results,Tryz.results318,go_sem,y0,y1,y2,y3,y4,y5,y6,y7,y8]) rfl ⟨a0,a1,a2,a3,a4,a5,a6,a7,n,true,rfl,HF.out,HNF.out _ _ _ _ _ _ _ _ _⟩
def ArrAt(w:World)(gb:Nat)(ns:List Int):Prop:=w.heap[gb]?=some (Obj.cells (ns.map (Value.int .i64)).toArray 255 (0,0))∧ns.length=8
theorem ArrAt.on{w w':World}{gb:Nat}{ns:LI}(h:ArrAt w gb ns)(hb:Nx w w'):ArrAt w' gb ns:=
 ⟨(hb.block gb (Xb.1 h.1).1).trans h.1,h.2⟩
theorem ArrAt.but{w w':World}{gb q:Nat}{ns:LI}(h:ArrAt w gb ns)(hb:But q w w')(hn:gb≠q):ArrAt w' gb ns:=
 ⟨(hb.block gb (Xb.1 h.1).1 hn).trans h.1,h.2⟩
theorem ArrAt.cell{w:World}{gb:Nat}{ns:LI}(h:ArrAt w gb ns){i:Nat}(hi:i<ns.length):w.cell? ⟨gb,i,none⟩=some (.int .i64 ns[i]):=by
 have h1:=h.1
 simp[World.cell?,h1,List.getElem?_eq_getElem hi]
theorem ArrAt.free{w:World}{gb:Nat}{ns:LI}(h:ArrAt w gb ns)(i:Nat):w.frozen? ⟨gb,i,none⟩=false:=by
 have h1:=h.1
 simp[World.frozen?,h1]
theorem ArrAt.set{w:World}{gb:Nat}{ns:LI}(h:ArrAt w gb ns)(i:Nat)(x:Int):ArrAt (w.setCell ⟨gb,i,none⟩ (.int .i64 x)) gb (ns.set i x):=by
 obtain⟨h1,h2⟩:=h
 refine⟨?_,by rw[List.length_set];exact h2⟩
 simp only[World.setCell,Xf,if_pos,h1]
 simp[List.map_set]
theorem ArrAt.nine{w:World}{gb:Nat}{a0 a1 a2 a3 a4 a5 a6 a7:Int}(h:ArrAt w gb [a0,a1,a2,a3,a4,a5,a6,a7]):w.cell? ⟨gb,0,none⟩=some (.int .i64 a0)∧w.cell? ⟨gb,1,none⟩=some (.int .i64 a1)∧w.cell? ⟨gb,2,none⟩=some (.int .i64 a2)∧w.cell? ⟨gb,3,none⟩=some (.int .i64 a3)∧w.cell? ⟨gb,4,none⟩=some (.int .i64 a4)∧w.cell? ⟨gb,5,none⟩=some (.int .i64 a5)∧w.cell? ⟨gb,6,none⟩=some (.int .i64 a6)∧w.cell? ⟨gb,7,none⟩=some (.int .i64 a7):=by
 have h1:=h.1
 refine⟨?_,?_,?_,?_,?_,?_,?_,?_⟩<;>simp[World.cell?,h1]
theorem ArrAt.put{w:World}{gb:Nat}{ns:LI}(h:ArrAt w gb ns)(a0 a1 a2 a3 a4 a5 a6 a7:Int):ArrAt ((((((((w.setCell ⟨gb,0,none⟩ (.int .i64 a0)).setCell ⟨gb,1,none⟩ (.int .i64 a1)).setCell ⟨gb,2,none⟩ (.int .i64 a2)).setCell ⟨gb,3,none⟩ (.int .i64 a3)).setCell ⟨gb,4,none⟩ (.int .i64 a4)).setCell ⟨gb,5,none⟩ (.int .i64 a5)).setCell ⟨gb,6,none⟩ (.int .i64 a6)).setCell ⟨gb,7,none⟩ (.int .i64 a7)) gb [a0,a1,a2,a3,a4,a5,a6,a7]:=by
 obtain⟨h1,h2⟩:=h
 match ns,h2 with
 | [_,_,_,_,_,_,_,_],_=>
  refine⟨?_,rfl⟩
  simp[World.setCell,Xf,h1]
theorem ZfK(w:World)(a0 a1 a2 a3 a4 a5 a6 a7:Int):ArrAt (w.alloc (Obj.cells #[.int .i64 a0,.int .i64 a1,.int .i64 a2,.int .i64 a3,.int .i64 a4,.int .i64 a5,.int .i64 a6,.int .i64 a7] 255)) w.heap.size [a0,a1,a2,a3,a4,a5,a6,a7]:=⟨heap_alloc_new w _,rfl⟩
theorem ZkZ(w:World)(a0 a1 a2 a3 a4 a5 a6 a7:Int)(n:Nat):GrpAt (w.alloc (Obj.cells #[.int .i64 a0,.int .i64 a1,.int .i64 a2,.int .i64 a3,.int .i64 a4,.int .i64 a5,.int .i64 a6,.int .i64 a7,.int .i64 (n:Int)] 265)) w.heap.size [a0,a1,a2,a3,a4,a5,a6,a7] n:=⟨heap_alloc_new w _,rfl⟩
theorem Zcj{w wr:World}{rb:Nat}(hrb:w.heap.size=rb)(h:Nx w wr)(x0 x1 x2 x3 x4 x5 x6 x7:Value):Nx w ((((((((wr.setCell ⟨rb,0,none⟩ x0).setCell ⟨rb,1,none⟩ x1).setCell ⟨rb,2,none⟩ x2).setCell ⟨rb,3,none⟩ x3).setCell ⟨rb,4,none⟩ x4).setCell ⟨rb,5,none⟩ x5).setCell ⟨rb,6,none⟩ x6).setCell ⟨rb,7,none⟩ x7):=by subst hrb;exact(((((((h.setCell (Xa _) _).setCell (Xa _) _).setCell (Xa _) _).setCell (Xa _) _).setCell (Xa _) _).setCell (Xa _) _).setCell (Xa _) _).setCell (Xa _) _
def ZfL(l:List UInt8):List Int×Bool:=if(ZB l true).2=false∨(ZB l true).1.2≠8 then(zeros8,false)else((ZB l true).1.1,true)
theorem ZlZ(s:BA)(w:World)(hs:s.size≤1000000):Calls Tryz.prog 317 #[.string s] w fun e w'=>∃(a0 a1 a2 a3 a4 a5 a6 a7:Int) (ok:Bool),e=.returned (.tuple #[.agg #[.int .i64 a0,.int .i64 a1,.int .i64 a2,.int .i64 a3,.int .i64 a4,.int .i64 a5,.int .i64 a6,.int .i64 a7],.bool ok])∧ZfL (tl s)=([a0,a1,a2,a3,a4,a5,a6,a7],ok)∧Nx w w':=by
 have HD:=Za (show ZfL (tl s)=if(ZB (tl s) true).2=false∨(ZB (tl s) true).1.2≠8 then(zeros8,false)else((ZB (tl s) true).1.1,true)from rfl)
 go_enter Tryz.func317,Tryz.ntmps317
 go_wp2_with fail
 refine(Zd3 s true _ hs).mono ?_
 rintro e w1 ⟨a0,a1,a2,a3,a4,a5,a6,a7,n,ok,rfl,hq,hn⟩;have HR:=Za (show ArrAt w1 w.heap.size zeros8 from(ZfK w 0 0 0 0 0 0 0 0).on hn);have HN:=Za (show Nx w w1 from(Nx.rfl.alloc _).then hn);rw[hq]at HD;simp only at HD;clear hq hn;generalize hrb:w.heap.size=rb at *;have HRB:=Za hrb;clear hrb;obtain⟨z0,z1,z2,z3,z4,z5,z6,z7⟩:=HR.out.nine;have f0:=HR.out.free 0;have f1:=HR.out.free 1;have f2:=HR.out.free 2;have f3:=HR.out.free 3;have f4:=HR.out.free 4;have f5:=HR.out.free 5;have f6:=HR.out.free 6;have f7:=HR.out.free 7;have hlt:rb<w1.heap.size:=(Xb.1 HR.out.1).1
 cases ok
 ·have HE:=Za (HD.out.trans (if_pos (Or.inl rfl)))
  clear HD;go_wp2;obtain⟨y0,y1,y2,y3,y4,y5,y6,y7⟩:=((HR.out.put 0 0 0 0 0 0 0 0).on (Nx.rfl.alloc (Obj.cells #[.int .i64 a0,.int .i64 a1,.int .i64 a2,.int .i64 a3,.int .i64 a4,.int .i64 a5,.int .i64 a6,.int .i64 a7,.int .i64 (n:Int)] 265))).nine
  exact bodyPost_ret (v:=.tuple #[.agg #[.int .i64 0,.int .i64 0,.int .i64 0,.int .i64 0,.int .i64 0,.int .i64 0,.int .i64 0,.int .i64 0],.bool false]) (by simp[results,Tryz.results317,go_sem,y0,y1,y2,y3,y4,y5,y6,y7]) rfl ⟨0,0,0,0,0,0,0,0,false,rfl,HE.out,(Zcj HRB.out HN.out _ _ _ _ _ _ _ _).alloc _⟩
 ·by_cases h8:n=8
  ·have HE:=Za (HD.out.trans (if_neg (by rintro(h|h);cases h;exact h h8)))
   have h8':((n:Int) != 8)=false:=by rw[h8];rfl
   clear HD h8;go_wp2;obtain⟨y0,y1,y2,y3,y4,y5,y6,y7⟩:=((HR.out.put a0 a1 a2 a3 a4 a5 a6 a7).on (Nx.rfl.alloc (Obj.cells #[.int .i64 a0,.int .i64 a1,.int .i64 a2,.int .i64 a3,.int .i64 a4,.int .i64 a5,.int .i64 a6,.int .i64 a7,.int .i64 (n:Int)] 265))).nine
   exact bodyPost_ret (v:=.tuple #[.agg #[.int .i64 a0,.int .i64 a1,.int .i64 a2,.int .i64 a3,.int .i64 a4,.int .i64 a5,.int .i64 a6,.int .i64 a7],.bool true]) (by simp[results,Tryz.results317,go_sem,y0,y1,y2,y3,y4,y5,y6,y7]) rfl ⟨a0,a1,a2,a3,a4,a5,a6,a7,true,rfl,HE.out,(Zcj HRB.out HN.out _ _ _ _ _ _ _ _).alloc _⟩
  ·have HE:=Za (HD.out.trans (if_pos (Or.inr h8)))
   have h8':((n:Int) != 8)=true:=Zd9 (beq_eq_false_iff_ne.2 (by omega))
   clear HD h8;go_wp2;obtain⟨y0,y1,y2,y3,y4,y5,y6,y7⟩:=((HR.out.put 0 0 0 0 0 0 0 0).on (Nx.rfl.alloc (Obj.cells #[.int .i64 a0,.int .i64 a1,.int .i64 a2,.int .i64 a3,.int .i64 a4,.int .i64 a5,.int .i64 a6,.int .i64 a7,.int .i64 (n:Int)] 265))).nine
   exact bodyPost_ret (v:=.tuple #[.agg #[.int .i64 0,.int .i64 0,.int .i64 0,.int .i64 0,.int .i64 0,.int .i64 0,.int .i64 0,.int .i64 0],.bool false]) (by simp[results,Tryz.results317,go_sem,y0,y1,y2,y3,y4,y5,y6,y7]) rfl ⟨0,0,0,0,0,0,0,0,false,rfl,HE.out,(Zcj HRB.out HN.out _ _ _ _ _ _ _ _).alloc _⟩
def putGo:List Int→Nat→List Int→List Int
 | ns,_,[]=>ns
 | ns,i,x::r=>putGo (ns.set i x) (i+1) r
def ip6(l:List UInt8):List Int×Bool:=
 if(cutGap l).2.2=false then ZfL l else
 if(ZB (cutGap l).1 false).2=false∨(ZB (cutGap l).2.1 true).2=false∨7<(ZB (cutGap l).1 false).1.2+(ZB (cutGap l).2.1 true).1.2 then(zeros8,false)
 else(putGo (ZB (cutGap l).1 false).1.1 (8-(ZB (cutGap l).2.1 true).1.2) ((ZB (cutGap l).2.1 true).1.1.take (ZB (cutGap l).2.1 true).1.2),true)
theorem ZgT(l:LB):(cutGap l).1.length≤l.length∧(cutGap l).2.1.length≤l.length:=by
 match l with
 | []=>exact⟨by simp[cutGap],by simp[cutGap]⟩
 | [_]=>exact⟨by simp[cutGap],by simp[cutGap]⟩
 | c::d::r=>
  have ih:=ZgT (d::r);rw[cutGap]
  split
  ·exact⟨by simp,by simp;omega⟩
  ·split
   ·simp only[List.length_cons]at *
    exact⟨by omega,by omega⟩
   ·exact⟨by simp,by simp⟩
theorem ZpQ(ns bl:LI)(i k m:Nat)(hk:k<m)(hl:m≤bl.length):putGo ns i ((bl.take m).drop k)=putGo (ns.set i (bl[k]'(by omega))) (i+1) ((bl.take m).drop (k+1)):=by
 have h1:k<(bl.take m).length:=by rw[Xk];omega
 rw[Xi h1,putGo,List.getElem_take]
theorem ZnM(g:LI×Nat)(l:LB)(h:g.2≤8):(Zbi g l).1.2≤8:=by
 unfold Zbi
 split
 ·exact h
 ·exact ZhB _ _ h
theorem ZnN(g:LI×Nat)(l:LB)(h:g.2≤8):(Zbj g l).1.2≤8:=by
 unfold Zbj
 split
 ·exact h
 ·split
  ·exact h
  ·split
   ·exact ZhB _ _ h
   ·exact ZhB _ _ (ZhB _ _ h)
theorem grpGo_le(en:Bool)(ps:List LB):∀g q,g.2≤8→grpGo en g ps=some q→q.2≤8:=by
 induction ps with
 | nil=>intro g q h e;rw[grpGo]at e;cases e;exact h
 | cons p r ih=>
  intro g q h e;rw[grpGo]at e
  split at e
  ·split at e
   ·exact ih _ _ (ZnN g p h) e
   ·cases e
  ·split at e
   ·exact ih _ _ (ZnM g p h) e
   ·cases e
theorem ZgU(l:LB)(en:Bool):(ZB l en).1.2≤8:=by
 unfold ZB
 split
 ·decide
 ·split
  ·decide
  ·rename_i g e
   exact grpGo_le en _ _ _ (by decide) e
theorem Zr0(s:BA)(w:World)(hs:s.size≤1000000):Calls Tryz.prog 306 #[.string s] w fun e w'=>∃(a0 a1 a2 a3 a4 a5 a6 a7:Int) (ok:Bool),e=.returned (.tuple #[.agg #[.int .i64 a0,.int .i64 a1,.int .i64 a2,.int .i64 a3,.int .i64 a4,.int .i64 a5,.int .i64 a6,.int .i64 a7],.bool ok])∧ip6 (tl s)=([a0,a1,a2,a3,a4,a5,a6,a7],ok)∧Nx w w':=by
 have HD:=Za (show ip6 (tl s)=if(cutGap (tl s)).2.2=false then ZfL (tl s)else
  if(ZB (cutGap (tl s)).1 false).2=false∨(ZB (cutGap (tl s)).2.1 true).2=false∨7<(ZB (cutGap (tl s)).1 false).1.2+(ZB (cutGap (tl s)).2.1 true).1.2 then(zeros8,false)
  else(putGo (ZB (cutGap (tl s)).1 false).1.1 (8-(ZB (cutGap (tl s)).2.1 true).1.2) ((ZB (cutGap (tl s)).2.1 true).1.1.take (ZB (cutGap (tl s)).2.1 true).1.2),true)from rfl)
 have hcl:=ZgT (tl s);rw[tl_length]at hcl
 go_enter Tryz.func306,Tryz.ntmps306
 go_wp2_with fail
 refine(ZlX s _ hs).mono ?_
 rintro e w1 ⟨⟨x,y,rfl,hx,hy⟩,hn1⟩;have HR1:=Za (show ArrAt w1 w.heap.size zeros8 from(ZfK w 0 0 0 0 0 0 0 0).on hn1);have HN1:=Za (show Nx w w1 from(Nx.rfl.alloc _).then hn1);rw[←hx,←hy]at HD hcl;rw[tl_length,tl_length]at hcl;generalize (cutGap (tl s)).2.2=gap at *;obtain⟨hxl,hyl⟩:=hcl;clear hx hy hn1;generalize hrb:w.heap.size=rb at *;have HRB:=Za hrb;clear hrb
 cases gap
 ·have HE:=Za (HD.out.trans (if_pos rfl))
  clear HD;go_wp2_with fail
  refine(ZlZ s _ hs).mono ?_
  rintro e w2 ⟨a0,a1,a2,a3,a4,a5,a6,a7,ok,rfl,hq,hn⟩;have HQ:=Za (HE.out.trans hq);have HR:=Za (HR1.out.on hn);have HN:=Za (HN1.out.then hn);clear hq hn;obtain⟨z0,z1,z2,z3,z4,z5,z6,z7⟩:=HR.out.nine;have f0:=HR.out.free 0;have f1:=HR.out.free 1;have f2:=HR.out.free 2;have f3:=HR.out.free 3;have f4:=HR.out.free 4;have f5:=HR.out.free 5;have f6:=HR.out.free 6;have f7:=HR.out.free 7;go_wp2;obtain⟨y0,y1,y2,y3,y4,y5,y6,y7⟩:=(HR.out.put a0 a1 a2 a3 a4 a5 a6 a7).nine
  exact bodyPost_ret (v:=.tuple #[.agg #[.int .i64 a0,.int .i64 a1,.int .i64 a2,.int .i64 a3,.int .i64 a4,.int .i64 a5,.int .i64 a6,.int .i64 a7],.bool ok]) (by simp[results,Tryz.results306,go_sem,y0,y1,y2,y3,y4,y5,y6,y7]) rfl ⟨a0,a1,a2,a3,a4,a5,a6,a7,ok,rfl,HQ.out,Zcj HRB.out HN.out _ _ _ _ _ _ _ _⟩
 ·have HD2:=Za (HD.out.trans (if_neg (by decide)))
  clear HD;go_wp2_with fail
  refine(Zd3 x false _ (by omega)).mono ?_
  rintro e w2 ⟨c0,c1,c2,c3,c4,c5,c6,c7,fn,fok,rfl,hq1,hn2⟩
  have hfn:fn≤8:=by have:=ZgU (tl x) false;rw[hq1]at this;exact this
  rw[hq1]at HD2;have HR2:=Za (HR1.out.on hn2);have HN2:=Za (HN1.out.then hn2);clear hq1 hn2 HR1 HN1;go_wp2_with fail
  refine(Zd3 y true _ (by omega)).mono ?_
  rintro e w3 ⟨b0,b1,b2,b3,b4,b5,b6,b7,bn,bok,rfl,hq2,hn3⟩
  have hbn:bn≤8:=by have:=ZgU (tl y) true;rw[hq2]at this;exact this
  rw[hq2]at HD2;simp only at HD2;have HR3:=Za (HR2.out.on ((Nx.rfl.alloc _).then hn3));have HN3:=Za (HN2.out.then ((Nx.rfl.alloc _).then hn3));have HF3:=Za (GrpAt.on (ZkZ w2 c0 c1 c2 c3 c4 c5 c6 c7 fn) hn3);generalize hfb:w2.heap.size=fb at *;have hlf:fb<w3.heap.size:=(Xb.1 HF3.out.1).1;have hlr:rb<w3.heap.size:=(Xb.1 HR3.out.1).1;clear hq2 hn3 hfb HR2 HN2;obtain⟨z0,z1,z2,z3,z4,z5,z6,z7⟩:=HR3.out.nine;obtain⟨g0,g1,g2,g3,g4,g5,g6,g7,g8⟩:=HF3.out.nine;have f0:=HR3.out.free 0;have f1:=HR3.out.free 1;have f2:=HR3.out.free 2;have f3:=HR3.out.free 3;have f4:=HR3.out.free 4;have f5:=HR3.out.free 5;have f6:=HR3.out.free 6;have f7:=HR3.out.free 7
  by_cases hbad:fok=false∨bok=false∨7<fn+bn
  ·have HE:=Za (HD2.out.trans (if_pos hbad))
   clear HD2
   cases fok
   ·clear hbad
    go_wp2;obtain⟨y0,y1,y2,y3,y4,y5,y6,y7⟩:=((HR3.out.put 0 0 0 0 0 0 0 0).on (Nx.rfl.alloc (Obj.cells #[.int .i64 b0,.int .i64 b1,.int .i64 b2,.int .i64 b3,.int .i64 b4,.int .i64 b5,.int .i64 b6,.int .i64 b7,.int .i64 (bn:Int)] 265))).nine
    exact bodyPost_ret (v:=.tuple #[.agg #[.int .i64 0,.int .i64 0,.int .i64 0,.int .i64 0,.int .i64 0,.int .i64 0,.int .i64 0,.int .i64 0],.bool false]) (by simp[results,Tryz.results306,go_sem,y0,y1,y2,y3,y4,y5,y6,y7]) rfl ⟨0,0,0,0,0,0,0,0,false,rfl,HE.out,(Zcj HRB.out HN3.out _ _ _ _ _ _ _ _).alloc _⟩
   ·cases bok
    ·clear hbad
     go_wp2;obtain⟨y0,y1,y2,y3,y4,y5,y6,y7⟩:=((HR3.out.put 0 0 0 0 0 0 0 0).on (Nx.rfl.alloc (Obj.cells #[.int .i64 b0,.int .i64 b1,.int .i64 b2,.int .i64 b3,.int .i64 b4,.int .i64 b5,.int .i64 b6,.int .i64 b7,.int .i64 (bn:Int)] 265))).nine
     exact bodyPost_ret (v:=.tuple #[.agg #[.int .i64 0,.int .i64 0,.int .i64 0,.int .i64 0,.int .i64 0,.int .i64 0,.int .i64 0,.int .i64 0],.bool false]) (by simp[results,Tryz.results306,go_sem,y0,y1,y2,y3,y4,y5,y6,y7]) rfl ⟨0,0,0,0,0,0,0,0,false,rfl,HE.out,(Zcj HRB.out HN3.out _ _ _ _ _ _ _ _).alloc _⟩
    ·have h7:7<(fn:Int)+(bn:Int):=by
      rcases hbad with h|h|h
      ·cases h
      ·cases h
      ·omega
     clear hbad;go_wp2;obtain⟨y0,y1,y2,y3,y4,y5,y6,y7⟩:=((HR3.out.put 0 0 0 0 0 0 0 0).on (Nx.rfl.alloc (Obj.cells #[.int .i64 b0,.int .i64 b1,.int .i64 b2,.int .i64 b3,.int .i64 b4,.int .i64 b5,.int .i64 b6,.int .i64 b7,.int .i64 (bn:Int)] 265))).nine
     exact bodyPost_ret (v:=.tuple #[.agg #[.int .i64 0,.int .i64 0,.int .i64 0,.int .i64 0,.int .i64 0,.int .i64 0,.int .i64 0,.int .i64 0],.bool false]) (by simp[results,Tryz.results306,go_sem,y0,y1,y2,y3,y4,y5,y6,y7]) rfl ⟨0,0,0,0,0,0,0,0,false,rfl,HE.out,(Zcj HRB.out HN3.out _ _ _ _ _ _ _ _).alloc _⟩
  ·have HE:=Za (HD2.out.trans (if_neg hbad))
   clear HD2
   have hfok:fok=true:=by cases fok;exact absurd (Or.inl rfl) hbad;rfl
   have hbok:bok=true:=by cases bok;exact absurd (Or.inr (Or.inl rfl)) hbad;rfl
   have h7:(fn:Int)+(bn:Int)≤7:=by have:¬7<fn+bn:=fun h=>hbad (Or.inr (Or.inr h));omega
   subst hfok;subst hbok;clear hbad;have HG4:=Za (show GrpAt ((w3.alloc (Obj.cells #[.int .i64 b0,.int .i64 b1,.int .i64 b2,.int .i64 b3,.int .i64 b4,.int .i64 b5,.int .i64 b6,.int .i64 b7,.int .i64 (bn:Int)] 265)).alloc (Obj.cells #[.int .i64 c0,.int .i64 c1,.int .i64 c2,.int .i64 c3,.int .i64 c4,.int .i64 c5,.int .i64 c6,.int .i64 c7] 255)) w3.heap.size [b0,b1,b2,b3,b4,b5,b6,b7] bn from(ZkZ w3 b0 b1 b2 b3 b4 b5 b6 b7 bn).on (Nx.rfl.alloc _))
   have HA4:=Za (show ArrAt ((w3.alloc (Obj.cells #[.int .i64 b0,.int .i64 b1,.int .i64 b2,.int .i64 b3,.int .i64 b4,.int .i64 b5,.int .i64 b6,.int .i64 b7,.int .i64 (bn:Int)] 265)).alloc (Obj.cells #[.int .i64 c0,.int .i64 c1,.int .i64 c2,.int .i64 c3,.int .i64 c4,.int .i64 c5,.int .i64 c6,.int .i64 c7] 255)) (w3.heap.size+1) [c0,c1,c2,c3,c4,c5,c6,c7]from by have:=ZfK (w3.alloc (Obj.cells #[.int .i64 b0,.int .i64 b1,.int .i64 b2,.int .i64 b3,.int .i64 b4,.int .i64 b5,.int .i64 b6,.int .i64 b7,.int .i64 (bn:Int)] 265)) c0 c1 c2 c3 c4 c5 c6 c7;simpa using this)
   have HR4:=Za (show ArrAt ((w3.alloc (Obj.cells #[.int .i64 b0,.int .i64 b1,.int .i64 b2,.int .i64 b3,.int .i64 b4,.int .i64 b5,.int .i64 b6,.int .i64 b7,.int .i64 (bn:Int)] 265)).alloc (Obj.cells #[.int .i64 c0,.int .i64 c1,.int .i64 c2,.int .i64 c3,.int .i64 c4,.int .i64 c5,.int .i64 c6,.int .i64 c7] 255)) rb zeros8 from HR3.out.on ((Nx.rfl.alloc _).alloc _));have HN4:=Za (show Nx w ((w3.alloc (Obj.cells #[.int .i64 b0,.int .i64 b1,.int .i64 b2,.int .i64 b3,.int .i64 b4,.int .i64 b5,.int .i64 b6,.int .i64 b7,.int .i64 (bn:Int)] 265)).alloc (Obj.cells #[.int .i64 c0,.int .i64 c1,.int .i64 c2,.int .i64 c3,.int .i64 c4,.int .i64 c5,.int .i64 c6,.int .i64 c7] 255))from(HN3.out.alloc _).alloc _);go_wp2;generalize hbb:w3.heap.size=bb at *;generalize ((w3.alloc (Obj.cells #[.int .i64 b0,.int .i64 b1,.int .i64 b2,.int .i64 b3,.int .i64 b4,.int .i64 b5,.int .i64 b6,.int .i64 b7,.int .i64 (bn:Int)] 265)).alloc (Obj.cells #[.int .i64 c0,.int .i64 c1,.int .i64 c2,.int .i64 c3,.int .i64 c4,.int .i64 c5,.int .i64 c6,.int .i64 c7] 255))=w4 at *;clear z0 z1 z2 z3 z4 z5 z6 z7 g0 g1 g2 g3 g4 g5 g6 g7 g8 f0 f1 f2 f3 f4 f5 f6 f7 HF3 HR3 HN3 hlf hbb
   go_loopw [12] (fun i wr=>∃(k:Nat) (ns:LI),k≤bn∧i=.int .i64 k∧ArrAt wr (bb+1) ns∧putGo [c0,c1,c2,c3,c4,c5,c6,c7] (8-bn) (List.take bn [b0,b1,b2,b3,b4,b5,b6,b7])=putGo ns (8-bn+k) ((List.take bn [b0,b1,b2,b3,b4,b5,b6,b7]).drop k)∧But (bb+1) w4 wr) (fun i _=>bn-(intOf i).toNat)
   case atStart=>exact⟨0,_,Xm _,rfl,HA4.out,rfl,But.refl _ _⟩
   case round=>
    obtain⟨k,ns,hk,rfl,hA,hE,hbut⟩:=hrel;have HA:=Za hA;have HBT:=Za hbut
    have HG:=Za (HG4.out.but hbut (by omega))
    have hc8:=HG.out.count;clear hA hbut
    by_cases hlt:k<bn
    ·have hk8:k < [b0,b1,b2,b3,b4,b5,b6,b7].length:=by simp;omega
     have hE2:=hE.trans (ZpQ ns [b0,b1,b2,b3,b4,b5,b6,b7] _ k bn hlt (by simp;omega))
     have hck:=HG.out.cell (i:=k) hk8;obtain⟨m,hm⟩:∃m:Nat,m=8 - bn+k:=⟨_,rfl⟩
     have hml:m<ns.length:=by have:=HA.out.2;omega
     have hcm:=HA.out.cell hml;have hfm:=HA.out.free m;have HAS:=Za (HA.out.set m ([b0,b1,b2,b3,b4,b5,b6,b7][k]'hk8));have HBS:=Za (HBT.out.set m (.int .i64 ([b0,b1,b2,b3,b4,b5,b6,b7][k]'hk8)));rw[←hm]at hE2;generalize [b0,b1,b2,b3,b4,b5,b6,b7][k]'hk8=u at *
     have hmi:(8:Int)-(bn:Int)+(k:Int)=(m:Int):=by omega
     have hm8:(m:Int)<8:=by omega
     have HE2:=Za hE2;have HM:=Za hm;generalize ns[m]=un at *;clear hE2 hE hm;go_wp2
     go_region
     all_goals go_wp2
     all_goals exact⟨⟨k+1,ns.set m u,by omega,by simp,HAS.out,by rw[HE2.out,show 8-bn+(k+1)=m+1 by have:=HM.out;omega],HBS.out.drew⟩,by simp[intOf];omega⟩
    ·rw[Xe (by rw[Xk];omega),putGo]at hE
     obtain⟨a0,a1,a2,a3,a4,a5,a6,a7,hg8⟩:=Zs9 HA.out.2;subst hg8
     have HQ:=Za (HE.out.trans (by rw[hE]))
     clear hE
     have HR:=Za (HR4.out.but HBT.out (by omega))
     have HN:=Za (HN4.out.trans (HBT.out.below (by rw[HRB.out];omega) HN4.out.size))
     obtain⟨z0,z1,z2,z3,z4,z5,z6,z7⟩:=HR.out.nine;obtain⟨g0,g1,g2,g3,g4,g5,g6,g7⟩:=HA.out.nine;have f0:=HR.out.free 0;have f1:=HR.out.free 1;have f2:=HR.out.free 2;have f3:=HR.out.free 3;have f4:=HR.out.free 4;have f5:=HR.out.free 5;have f6:=HR.out.free 6;have f7:=HR.out.free 7;go_wp2;obtain⟨y0,y1,y2,y3,y4,y5,y6,y7⟩:=(HR.out.put a0 a1 a2 a3 a4 a5 a6 a7).nine
     exact bodyPost_ret (v:=.tuple #[.agg #[.int .i64 a0,.int .i64 a1,.int .i64 a2,.int .i64 a3,.int .i64 a4,.int .i64 a5,.int .i64 a6,.int .i64 a7],.bool true]) (by simp[results,Tryz.results306,go_sem,y0,y1,y2,y3,y4,y5,y6,y7]) rfl ⟨a0,a1,a2,a3,a4,a5,a6,a7,true,rfl,HQ.out,Zcj HRB.out HN.out _ _ _ _ _ _ _ _⟩
theorem Zb3{w:World}{base:Nat}{v:Value}{bs:LA}(h:ZcM w base v bs)(h0:0<bs.length):∃g n cap,v=.slice (some ⟨g,0,none⟩) n cap:=by obtain⟨g,cap,h,-,-⟩:=ZfF h h0;exact⟨g,_,cap,h⟩
theorem Zc(a b:BA):tl (a++b)=tl a++tl b:=by simp[tl]
theorem Zm(a b:BA):(a++b).size=a.size+b.size:=by simp
def joinL(f:Bool)(ps:List (List UInt8))(seg:List UInt8):List (List UInt8):=
 ps++[if f=true∧ps=[]∧Zaf seg=true then seg.take 1++[58]else encB (tl (ZaN 4)) (clean seg)]
theorem ZjO{ps:List LB}{seg:LB}(h:ps=[])(hd:Zaf seg=true):joinL true ps seg=ps++[seg.take 1++[58]]:=by unfold joinL;rw[if_pos ⟨rfl,h,hd⟩]
theorem ZhD{f:Bool}{ps:List LB}{seg:LB}(h:¬(f=true∧ps=[]∧Zaf seg=true)):joinL f ps seg=ps++[encB (tl (ZaN 4)) (clean seg)]:=by unfold joinL;rw[if_neg h]
theorem ZpR(pb base:Nat)(f s:Bool)(v:Value)(bs:LA)(q:BA)(w:World)(hp:PthAt w pb f s v)(ho:ZcM w base v bs)(hb:base≤pb)(hbw:base≤w.heap.size)(hl:bs.length≤1000000)(hq:q.size≤1000000):Calls Tryz.prog 303 #[.pointer (some ⟨pb,0,none⟩),.string q] w fun e w'=>∃x v' bs',e=.returned x∧PthAt w' pb f s v'∧ZcM w' base v' bs'∧bs'.map tl=joinL f (bs.map tl) (tl q)∧bs'.length≤bs.length+1∧Below base w w':=by
 have HP:=Za hp;have HO:=Za ho;have HB:=Za hb;clear hp ho hb
 go_enter Tryz.func303,Tryz.ntmps303
 go_wp2_with fail
 refine(Zaw _ _ _ hq).mono ?_
 rintro e w1 ⟨r1,rfl,hr1,hn1⟩;have HP1:=Za (HP.out.on hn1);have HO1:=Za (Zng HO.out hn1);have HR1:=Za hr1;have hz:base≤w1.heap.size:=Xj hbw hn1.size;have HN1:=Za (show Below base w w1 from hn1.mono hbw);clear hr1 hn1 HP HO;obtain⟨hc0,hc1,hc2,hf2⟩:=HP1.out.facts
 have hbl:bs.length<1099511627776:=by omega
 have key:∀(y:BA) (w2:World) (v':Value),ZcM w2 base v' (bs++[y])→Below base w1 w2→Kp 9 w1 w2→PthAt w2 pb f s v∧(∀u,PthAt (w2.setCell ⟨pb,2,none⟩ u) pb f s u)∧(∀u,ZcM (w2.setCell ⟨pb,2,none⟩ u) base v' (bs++[y]))∧(∀u,Below base w (w2.setCell ⟨pb,2,none⟩ u)):=by
  intro y w2 v' h1 h2 h3;have h4:=HP1.out.kp h3
  exact⟨h4,fun u=>h4.set u,fun u=>h4.own h1 u,fun u=>(HN1.out.trans h2).setCell HB.out u⟩
 have KEY:=Za key;clear key
 cases f
 ·have HE:=Za (show joinL false (bs.map tl) (tl q)=(bs++[r1]).map tl by rw[ZhD (by rintro⟨h,-⟩;cases h),Xl,Xd,Xc,HR1.out])
  go_wp2_with (at_builtin;go_must (refine ZeS w1 r1 rfl _ _ rfl base v bs rfl HO1.out rfl hbl hz ?_;intro v' w2 ho2 hb2 hk2;obtain⟨g2,n2,c2,rfl⟩:=Zb3 ho2 (by simp);obtain⟨hp4,hps,hos,hbs⟩:=KEY.out r1 w2 _ ho2 hb2 hk2;obtain⟨-,-,hd2,hg2⟩:=hp4.facts;have HPS:=Za hps;have HOS:=Za hos;have HBS:=Za hbs;clear ho2 hb2 hk2 hp4 hps hos hbs))
  exact bodyPost_end (results_none rfl _ _ _) rfl ⟨_,_,_,rfl,HPS.out _,HOS.out _,HE.out.symm,by simp,HBS.out _⟩
 ·rcases Nat.eq_zero_or_pos bs.length with h0|hpos
  ·have e0:bs=[]:=List.eq_nil_of_length_eq_zero h0
   subst e0;obtain⟨ao,cap,rfl⟩:=ZgM HO1.out;clear h0
   cases hd:Zaf (tl q)
   ·have HD:=Za hd
    have HE:=Za (show joinL true ([].map tl) (tl q)=([]++[r1]:LA).map tl by rw[ZhD (by rintro⟨-,-,h⟩;rw[hd]at h;cases h),Xg,Xc,Xg,Xd,Xc,HR1.out])
    clear hd
    go_wp2_with (first|(go_at_call 288;refine(Zb9 _ _).mono ?_;rintro e w' ⟨rfl,rfl⟩;rw[HD.out])|(at_builtin;go_must (refine ZeS w1 r1 rfl _ _ rfl base _ [] rfl HO1.out rfl hbl hz ?_;intro v' w2 ho2 hb2 hk2;obtain⟨g2,n2,c2,rfl⟩:=Zb3 ho2 (by simp);obtain⟨hp4,hps,hos,hbs⟩:=KEY.out r1 w2 _ ho2 hb2 hk2;obtain⟨-,-,hd2,hg2⟩:=hp4.facts;have HPS:=Za hps;have HOS:=Za hos;have HBS:=Za hbs;clear ho2 hb2 hk2 hp4 hps hos hbs)))
    exact bodyPost_end (results_none rfl _ _ _) rfl ⟨_,_,_,rfl,HPS.out _,HOS.out _,HE.out.symm,by simp,HBS.out _⟩
   ·have hq2:=Zev hd
    rw[tl_length]at hq2
    have hq1:1≤q.size:=by omega
    have HD:=Za hd
    have HE:=Za (show joinL true ([].map tl) (tl q)=([]++[q.extract 0 1++(⟨#[58]⟩:BA)]:LA).map tl by rw[Xc,ZjO rfl hd,Xg,Xg,Xd,Xc,Zc,Zih];rfl)
    have hsz:(q.extract 0 1).size≤1000000:=Xj (ZrP q 1) hq;clear hd hq2
    go_wp2_with (first|(go_at_call 288;refine(Zb9 _ _).mono ?_;rintro e w' ⟨rfl,rfl⟩;rw[HD.out])|(at_builtin;go_must (refine ZeS w1 (q.extract 0 1++(⟨#[58]⟩:BA)) rfl _ _ rfl base _ [] rfl HO1.out rfl hbl hz ?_;intro v' w2 ho2 hb2 hk2;obtain⟨g2,n2,c2,rfl⟩:=Zb3 ho2 (by simp);obtain⟨hp4,hps,hos,hbs⟩:=KEY.out (q.extract 0 1++(⟨#[58]⟩:BA)) w2 _ ho2 hb2 hk2;obtain⟨-,-,hd2,hg2⟩:=hp4.facts;have HPS:=Za hps;have HOS:=Za hos;have HBS:=Za hbs;clear ho2 hb2 hk2 hp4 hps hos hbs)))
    exact bodyPost_end (results_none rfl _ _ _) rfl ⟨_,_,_,rfl,HPS.out _,HOS.out _,HE.out.symm,by simp,HBS.out _⟩
  ·obtain⟨g,cap,rfl,hlc,hcm⟩:=ZfF HO1.out hpos
   unfold maxLen at hcm
   have hn0:((bs.length:Int)==0)=false:=beq_eq_false_iff_ne.2 (by omega)
   have HE:=Za (show joinL true (bs.map tl) (tl q)=(bs++[r1]).map tl by
    rw[ZhD (by rintro⟨-,h,-⟩;have:=congrArg List.length h;rw[Xh]at this;simp at this;subst this;simp at hpos),Xl,Xd,Xc,HR1.out])
   go_wp2_with (at_builtin;go_must (refine ZeS w1 r1 rfl _ _ rfl base _ bs rfl HO1.out rfl hbl hz ?_;intro v' w2 ho2 hb2 hk2;obtain⟨g2,n2,c2,rfl⟩:=Zb3 ho2 (by simp);obtain⟨hp4,hps,hos,hbs⟩:=KEY.out r1 w2 _ ho2 hb2 hk2;obtain⟨-,-,hd2,hg2⟩:=hp4.facts;have HPS:=Za hps;have HOS:=Za hos;have HBS:=Za hbs;clear ho2 hb2 hk2 hp4 hps hos hbs))
   exact bodyPost_end (results_none rfl _ _ _) rfl ⟨_,_,_,rfl,HPS.out _,HOS.out _,HE.out.symm,by simp,HBS.out _⟩
end Go.Proofs.YtchkhibgbnhjpabGreatDoor
