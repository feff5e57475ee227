import Derived.Test.YtchkhibgbnhjpabGreatDoorT10
import Derived.Great.BuildSlice
open Array renaming getElem?_modify→Xc,getElem?_eq_some_iff→Xg
open List renaming length_eq_zero_iff→Xa,getElem?_cons_zero→Xb,length_pos_iff→Xd,length_cons→Xe,length_nil→Xf,getElem?_append_left→Xh,length_append→Xk,append_assoc→Xl
open Nat renaming mul_comm→Xi,le_refl→Xj
namespace Go.Proofs.YtchkhibgbnhjpabGreatDoor
open Go.RowKit
set_option maxHeartbeats 16000000
set_option maxRecDepth 100000
def Zwn:List (ByteArray×ByteArray×ByteArray):=[
 ((⟨#[104,116,116,112,115,58,101,120,97,109,112,108,101,46,111,114,103]⟩:ByteArray),(⟨#[]⟩:ByteArray),(⟨#[104,116,116,112,115,58,47,47,101,120,97,109,112,108,101,46,111,114,103,47]⟩:ByteArray)),
 ((⟨#[104,116,116,112,115,58,47,47,47,47,47,47,101,120,97,109,112,108,101,46,99,111,109,47,47,47]⟩:ByteArray),(⟨#[]⟩:ByteArray),(⟨#[104,116,116,112,115,58,47,47,101,120,97,109,112,108,101,46,99,111,109,47,47,47]⟩:ByteArray)),
 ((⟨#[104,116,116,112,115,58,47,47,101,120,97,109,112,108,101,46,99,111,109,47,46,47,46,47,102,111,111]⟩:ByteArray),(⟨#[]⟩:ByteArray),(⟨#[104,116,116,112,115,58,47,47,101,120,97,109,112,108,101,46,99,111,109,47,102,111,111]⟩:ByteArray)),
 ((⟨#[104,101,108,108,111,58,119,111,114,108,100]⟩:ByteArray),(⟨#[104,116,116,112,115,58,47,47,101,120,97,109,112,108,101,46,99,111,109,47]⟩:ByteArray),(⟨#[104,101,108,108,111,58,119,111,114,108,100]⟩:ByteArray)),
 ((⟨#[104,116,116,112,115,58,101,120,97,109,112,108,101,46,111,114,103]⟩:ByteArray),(⟨#[104,116,116,112,115,58,47,47,101,120,97,109,112,108,101,46,99,111,109,47]⟩:ByteArray),(⟨#[104,116,116,112,115,58,47,47,101,120,97,109,112,108,101,46,99,111,109,47,101,120,97,109,112,108,101,46,111,114,103]⟩:ByteArray)),
 ((⟨#[92,101,120,97,109,112,108,101,92,46,46,92,100,101,109,111,47,46,92]⟩:ByteArray),(⟨#[104,116,116,112,115,58,47,47,101,120,97,109,112,108,101,46,99,111,109,47]⟩:ByteArray),(⟨#[104,116,116,112,115,58,47,47,101,120,97,109,112,108,101,46,99,111,109,47,100,101,109,111,47]⟩:ByteArray)),
 ((⟨#[101,120,97,109,112,108,101]⟩:ByteArray),(⟨#[104,116,116,112,115,58,47,47,101,120,97,109,112,108,101,46,99,111,109,47,100,101,109,111]⟩:ByteArray),(⟨#[104,116,116,112,115,58,47,47,101,120,97,109,112,108,101,46,99,111,109,47,101,120,97,109,112,108,101]⟩:ByteArray)),
 ((⟨#[102,105,108,101,58,47,47,47,67,124,47,100,101,109,111]⟩:ByteArray),(⟨#[]⟩:ByteArray),(⟨#[102,105,108,101,58,47,47,47,67,58,47,100,101,109,111]⟩:ByteArray)),
 ((⟨#[46,46]⟩:ByteArray),(⟨#[102,105,108,101,58,47,47,47,67,58,47,100,101,109,111]⟩:ByteArray),(⟨#[102,105,108,101,58,47,47,47,67,58,47]⟩:ByteArray)),
 ((⟨#[102,105,108,101,58,47,47,108,111,99,37,54,49,108,104,111,115,116,47]⟩:ByteArray),(⟨#[]⟩:ByteArray),(⟨#[102,105,108,101,58,47,47,47]⟩:ByteArray)),
 ((⟨#[104,116,116,112,115,58,47,47,117,115,101,114,58,112,97,115,115,119,111,114,100,64,101,120,97,109,112,108,101,46,111,114,103,47]⟩:ByteArray),(⟨#[]⟩:ByteArray),(⟨#[104,116,116,112,115,58,47,47,117,115,101,114,58,112,97,115,115,119,111,114,100,64,101,120,97,109,112,108,101,46,111,114,103,47]⟩:ByteArray)),
 ((⟨#[104,116,116,112,115,58,47,47,101,120,97,109,112,108,101,46,111,114,103,47,102,111,111,32,98,97,114]⟩:ByteArray),(⟨#[]⟩:ByteArray),(⟨#[104,116,116,112,115,58,47,47,101,120,97,109,112,108,101,46,111,114,103,47,102,111,111,37,50,48,98,97,114]⟩:ByteArray)),
 ((⟨#[104,116,116,112,115,58,47,47,69,88,65,77,80,76,69,46,99,111,109,47,46,46,47,120]⟩:ByteArray),(⟨#[]⟩:ByteArray),(⟨#[104,116,116,112,115,58,47,47,101,120,97,109,112,108,101,46,99,111,109,47,120]⟩:ByteArray)),
 ((⟨#[104,116,116,112,115,58,47,47,101,120,32,97,109,112,108,101,46,111,114,103,47]⟩:ByteArray),(⟨#[]⟩:ByteArray),(⟨#[]⟩:ByteArray)),
 ((⟨#[101,120,97,109,112,108,101]⟩:ByteArray),(⟨#[]⟩:ByteArray),(⟨#[]⟩:ByteArray)),
 ((⟨#[104,116,116,112,115,58,47,47,101,120,97,109,112,108,101,46,99,111,109,58,100,101,109,111]⟩:ByteArray),(⟨#[]⟩:ByteArray),(⟨#[]⟩:ByteArray)),
 ((⟨#[104,116,116,112,58,47,47,91,119,119,119,46,101,120,97,109,112,108,101,46,99,111,109,93,47]⟩:ByteArray),(⟨#[]⟩:ByteArray),(⟨#[]⟩:ByteArray)),
 ((⟨#[104,116,116,112,115,58,47,47,101,120,97,109,112,108,101,46,111,114,103,47,47]⟩:ByteArray),(⟨#[]⟩:ByteArray),(⟨#[104,116,116,112,115,58,47,47,101,120,97,109,112,108,101,46,111,114,103,47,47]⟩:ByteArray)),
 ((⟨#[104,116,116,112,115,58,47,47,101,120,97,109,112,108,101,46,99,111,109,47,91,93,63,91,93,35,91,93]⟩:ByteArray),(⟨#[]⟩:ByteArray),(⟨#[104,116,116,112,115,58,47,47,101,120,97,109,112,108,101,46,99,111,109,47,91,93,63,91,93,35,91,93]⟩:ByteArray)),
 ((⟨#[104,116,116,112,115,58,47,47,101,120,97,109,112,108,101,47,37,63,37,35,37]⟩:ByteArray),(⟨#[]⟩:ByteArray),(⟨#[104,116,116,112,115,58,47,47,101,120,97,109,112,108,101,47,37,63,37,35,37]⟩:ByteArray)),
 ((⟨#[104,116,116,112,115,58,47,47,101,120,97,109,112,108,101,47,37,50,53,63,37,50,53,35,37,50,53]⟩:ByteArray),(⟨#[]⟩:ByteArray),(⟨#[104,116,116,112,115,58,47,47,101,120,97,109,112,108,101,47,37,50,53,63,37,50,53,35,37,50,53]⟩:ByteArray)),
 ((⟨#[104,116,116,112,58,47,47,50,53,54,47]⟩:ByteArray),(⟨#[]⟩:ByteArray),(⟨#[104,116,116,112,58,47,47,48,46,48,46,49,46,48,47]⟩:ByteArray)),
 ((⟨#[104,116,116,112,58,47,47,48,120,55,70,46,49,47]⟩:ByteArray),(⟨#[]⟩:ByteArray),(⟨#[104,116,116,112,58,47,47,49,50,55,46,48,46,48,46,49,47]⟩:ByteArray)),
 ((⟨#[104,116,116,112,58,47,47,49,57,50,46,49,54,56,46,48,49,48,46,49,46,47]⟩:ByteArray),(⟨#[]⟩:ByteArray),(⟨#[104,116,116,112,58,47,47,49,57,50,46,49,54,56,46,56,46,49,47]⟩:ByteArray)),
 ((⟨#[104,116,116,112,58,47,47,49,46,50,46,51,46,50,53,54,47]⟩:ByteArray),(⟨#[]⟩:ByteArray),(⟨#[]⟩:ByteArray)),
 ((⟨#[104,116,116,112,58,47,47,49,46,48,57,47]⟩:ByteArray),(⟨#[]⟩:ByteArray),(⟨#[]⟩:ByteArray)),
 ((⟨#[104,116,116,112,58,47,47,91,49,58,48,58,48,58,50,58,48,58,48,58,48,58,51,93,47]⟩:ByteArray),(⟨#[]⟩:ByteArray),(⟨#[104,116,116,112,58,47,47,91,49,58,48,58,48,58,50,58,58,51,93,47]⟩:ByteArray)),
 ((⟨#[104,116,116,112,58,47,47,91,48,58,48,58,49,58,50,58,51,58,52,58,53,58,54,93,47]⟩:ByteArray),(⟨#[]⟩:ByteArray),(⟨#[104,116,116,112,58,47,47,91,58,58,49,58,50,58,51,58,52,58,53,58,54,93,47]⟩:ByteArray)),
 ((⟨#[104,116,116,112,58,47,47,91,58,58,102,102,102,102,58,49,46,50,46,51,46,52,93,47]⟩:ByteArray),(⟨#[]⟩:ByteArray),(⟨#[104,116,116,112,58,47,47,91,58,58,102,102,102,102,58,49,48,50,58,51,48,52,93,47]⟩:ByteArray)),
 ((⟨#[104,116,116,112,58,47,47,91,49,58,48,58,50,58,51,58,52,58,53,58,54,58,55,93,47]⟩:ByteArray),(⟨#[]⟩:ByteArray),(⟨#[104,116,116,112,58,47,47,91,49,58,48,58,50,58,51,58,52,58,53,58,54,58,55,93,47]⟩:ByteArray)),
 ((⟨#[102,116,112,58,47,47,104,58,50,49,47]⟩:ByteArray),(⟨#[]⟩:ByteArray),(⟨#[102,116,112,58,47,47,104,47]⟩:ByteArray)),
 ((⟨#[102,116,112,58,47,47,104,58,50,50,47]⟩:ByteArray),(⟨#[]⟩:ByteArray),(⟨#[102,116,112,58,47,47,104,58,50,50,47]⟩:ByteArray)),
 ((⟨#[119,115,58,47,47,104,58,56,48,47]⟩:ByteArray),(⟨#[]⟩:ByteArray),(⟨#[119,115,58,47,47,104,47]⟩:ByteArray)),
 ((⟨#[119,115,115,58,47,47,104,58,52,52,51,47]⟩:ByteArray),(⟨#[]⟩:ByteArray),(⟨#[119,115,115,58,47,47,104,47]⟩:ByteArray)),
 ((⟨#[119,101,98,43,100,101,109,111,58,47,46,47,47,110,111,116,45,97,45,104,111,115,116,47]⟩:ByteArray),(⟨#[]⟩:ByteArray),(⟨#[119,101,98,43,100,101,109,111,58,47,46,47,47,110,111,116,45,97,45,104,111,115,116,47]⟩:ByteArray)),
 ((⟨#[119,101,98,43,100,101,109,111,58,47,46,46,47,47,120]⟩:ByteArray),(⟨#[]⟩:ByteArray),(⟨#[119,101,98,43,100,101,109,111,58,47,46,47,47,120]⟩:ByteArray)),
 ((⟨#[104,116,116,112,58,47,47,97,58,98,58,99,64,104,47]⟩:ByteArray),(⟨#[]⟩:ByteArray),(⟨#[104,116,116,112,58,47,47,97,58,98,37,51,65,99,64,104,47]⟩:ByteArray)),
 ((⟨#[104,116,116,112,58,47,47,97,64,98,64,104,47]⟩:ByteArray),(⟨#[]⟩:ByteArray),(⟨#[104,116,116,112,58,47,47,97,37,52,48,98,64,104,47]⟩:ByteArray)),
 ((⟨#[104,116,116,112,58,47,47,120,110,45,45,97,47]⟩:ByteArray),(⟨#[]⟩:ByteArray),(⟨#[33]⟩:ByteArray)),
 ((⟨#[104,116,116,112,58,47,47,104,47,63,97,39,98]⟩:ByteArray),(⟨#[]⟩:ByteArray),(⟨#[104,116,116,112,58,47,47,104,47,63,97,37,50,55,98]⟩:ByteArray)),
 ((⟨#[97,58,47,47,104,47,63,97,39,98]⟩:ByteArray),(⟨#[]⟩:ByteArray),(⟨#[97,58,47,47,104,47,63,97,39,98]⟩:ByteArray)),
 ((⟨#[104,116,116,112,58,47,47,104,47,94,96,123,125,124]⟩:ByteArray),(⟨#[]⟩:ByteArray),(⟨#[104,116,116,112,58,47,47,104,47,37,53,69,37,54,48,37,55,66,37,55,68,124]⟩:ByteArray)),
 ((⟨#[47,47,104,47,120]⟩:ByteArray),(⟨#[104,116,116,112,58,47,47,97,47,98,63,99,35,100]⟩:ByteArray),(⟨#[104,116,116,112,58,47,47,104,47,120]⟩:ByteArray)),
 ((⟨#[63,113]⟩:ByteArray),(⟨#[104,116,116,112,58,47,47,97,47,98,63,99,35,100]⟩:ByteArray),(⟨#[104,116,116,112,58,47,47,97,47,98,63,113]⟩:ByteArray)),
 ((⟨#[35,102]⟩:ByteArray),(⟨#[109,97,105,108,116,111,58,120]⟩:ByteArray),(⟨#[109,97,105,108,116,111,58,120,35,102]⟩:ByteArray)),
 ((⟨#[]⟩:ByteArray),(⟨#[104,116,116,112,58,47,47,97,47,98,63,99,35,100]⟩:ByteArray),(⟨#[104,116,116,112,58,47,47,97,47,98,63,99]⟩:ByteArray)),
 ((⟨#[109,97,105,108,116,111,58,120,32]⟩:ByteArray),(⟨#[]⟩:ByteArray),(⟨#[109,97,105,108,116,111,58,120]⟩:ByteArray)),
 ((⟨#[47,120]⟩:ByteArray),(⟨#[102,105,108,101,58,47,47,104,47,67,58,47,121]⟩:ByteArray),(⟨#[102,105,108,101,58,47,47,104,47,67,58,47,120]⟩:ByteArray)),
 ((⟨#[47,47,100,58,47,120]⟩:ByteArray),(⟨#[102,105,108,101,58,47,47,47,67,58,47,121]⟩:ByteArray),(⟨#[102,105,108,101,58,47,47,47,100,58,47,120]⟩:ByteArray))]
def Zvq:List Value:=Zwn.flatMap fun t=>[.string t.1,.string t.2.1,.string t.2.2]
def ZyD(k:Nat):ByteArray×ByteArray×ByteArray:=Zwn.getD k (⟨#[]⟩,⟨#[]⟩,⟨#[]⟩)
theorem ZBi(l:List (ByteArray×BA×BA)):∀k,(h:k<l.length)→(l.flatMap fun t=>[Value.string t.1,.string t.2.1,.string t.2.2])[3*k]?=some (.string (l[k]).1)∧(l.flatMap fun t=>[Value.string t.1,.string t.2.1,.string t.2.2])[3*k+1]?=some (.string (l[k]).2.1)∧(l.flatMap fun t=>[Value.string t.1,.string t.2.1,.string t.2.2])[3*k+2]?=some (.string (l[k]).2.2):=by
 induction l with
 | nil=>intro k h;simp at h
 | cons x r ih=>
  intro k h
  cases k with
  | zero=>exact⟨rfl,rfl,rfl⟩
  | succ k=>
   have:=ih k (by simpa using h)
   rw[show 3*(k+1)=3*k+3 by omega]
   simpa using this
theorem ZA5:(Tryz.prog.info? 108).map (fun i=>(i.zero,i.size,i.bytes))=some (some (.agg #[.string ⟨#[]⟩,.string ⟨#[]⟩,.string ⟨#[]⟩]),3,48):=by kernel_rfl
theorem Zzv(k:Nat)(hk:k<49)(w:World):Calls Tryz.prog 80 #[.int .i64 k] w fun e w'=>e=.returned (.tuple #[.agg #[.string (ZyD k).1,.string (ZyD k).2.1,.string (ZyD k).2.2],.bool true])∧Nx w w':=by
 obtain⟨i0,hi0,hz0,hz1,-⟩:=info_parts ZA5
 go_enter Tryz.func80,Tryz.ntmps80
 go_upto_region 1 with fail
 go_cut [4]from 5 (fun s wx=>s=.slice (some ⟨w.heap.size+1,0,none⟩) 49 49∧wx.heap[w.heap.size+1]?=some (Obj.cells Zvq.toArray 108 (0,0))∧wx.heap[w.heap.size]?=some (Obj.cells #[.string ⟨#[]⟩,.string ⟨#[]⟩,.string ⟨#[]⟩] 108 (0,0))∧Nx w wx)
 case first=>
  go_wp2_with (refine wpList_buildSlice (P:=Tryz.prog) rfl 150 108 49 _ rfl Zvq.toArray i0 _ Tryz.underlying150 hi0 hz0 (by rw[hz1];decide) (by rw[hz1];decide) (by rw[hz1];kernel_rfl) ?_)
  go_meet
  case rel=>exact⟨by simp,by have h:=heap_alloc_new (w.alloc (Obj.cells #[.string ⟨#[]⟩,.string ⟨#[]⟩,.string ⟨#[]⟩] 108)) (Obj.cells Zvq.toArray 108);rw[show(w.alloc (Obj.cells #[.string ⟨#[]⟩,.string ⟨#[]⟩,.string ⟨#[]⟩] 108)).heap.size=w.heap.size+1 by simp]at h;exact h,((Nx.rfl.alloc _).block _ (by simp)).trans (heap_alloc_new w _),(Nx.rfl.alloc _).alloc _⟩
 case rest=>
  obtain⟨rfl,h1,h2,hn⟩:=hcut
  have hg:ZyD k=Zwn[k]'hk:=by unfold ZyD;rw[List.getD_eq_getElem?_getD,List.getElem?_eq_getElem (show k<Zwn.length from hk)];rfl
  obtain⟨f0,f1,f2⟩:=ZBi Zwn k hk;rw[←hg]at f0 f1 f2
  have c0:wc.cell? ⟨w.heap.size+1,k*3,none⟩=some (.string (ZyD k).1):=by simp only[World.cell?,h1];rw[Xi];simpa [Zvq]using f0
  have c1:wc.cell? ⟨w.heap.size+1,k*3+1,none⟩=some (.string (ZyD k).2.1):=by simp only[World.cell?,h1];rw[Xi];simpa [Zvq]using f1
  have c2:wc.cell? ⟨w.heap.size+1,k*3+2,none⟩=some (.string (ZyD k).2.2):=by simp only[World.cell?,h1];rw[Xi];simpa [Zvq]using f2
  have z0:wc.cell? ⟨w.heap.size,0,none⟩=some (.string ⟨#[]⟩):=by simp[World.cell?,h2]
  have z1:wc.cell? ⟨w.heap.size,1,none⟩=some (.string ⟨#[]⟩):=by simp[World.cell?,h2]
  have z2:wc.cell? ⟨w.heap.size,2,none⟩=some (.string ⟨#[]⟩):=by simp[World.cell?,h2]
  have y0:wc.frozen? ⟨w.heap.size,0,none⟩=false:=by simp[World.frozen?,h2]
  have y1:wc.frozen? ⟨w.heap.size,1,none⟩=false:=by simp[World.frozen?,h2]
  have y2:wc.frozen? ⟨w.heap.size,2,none⟩=false:=by simp[World.frozen?,h2]
  have HN:=Za hn;have H2:=Za h2;clear hg f0 f1 f2 h1 h2 hn;generalize hgk:ZyD k=g at *;have HG:=Za hgk;clear hgk
  have s0:(((wc.setCell ⟨w.heap.size,0,none⟩ (.string g.1)).setCell ⟨w.heap.size,1,none⟩ (.string g.2.1)).setCell ⟨w.heap.size,2,none⟩ (.string g.2.2)).cell? ⟨w.heap.size,0,none⟩=some (.string g.1):=by simp[World.cell?,World.setCell,Xc,H2.out]
  have s1:(((wc.setCell ⟨w.heap.size,0,none⟩ (.string g.1)).setCell ⟨w.heap.size,1,none⟩ (.string g.2.1)).setCell ⟨w.heap.size,2,none⟩ (.string g.2.2)).cell? ⟨w.heap.size,1,none⟩=some (.string g.2.1):=by simp[World.cell?,World.setCell,Xc,H2.out]
  have s2:(((wc.setCell ⟨w.heap.size,0,none⟩ (.string g.1)).setCell ⟨w.heap.size,1,none⟩ (.string g.2.1)).setCell ⟨w.heap.size,2,none⟩ (.string g.2.2)).cell? ⟨w.heap.size,2,none⟩=some (.string g.2.2):=by simp[World.cell?,World.setCell,Xc,H2.out]
  go_wp2
  exact bodyPost_ret (v:=.tuple #[.agg #[.string g.1,.string g.2.1,.string g.2.2],.bool true]) (by simp[results,Tryz.results80,go_sem,s0,s1,s2]) rfl ⟨by rw[HG.out],((HN.out.setCell (Xj _) _).setCell (Xj _) _).setCell (Xj _) _⟩
def Zv3(g:ByteArray×ByteArray×ByteArray):U×Int:=Zat (tl g.1) (tl g.2.1) (!(tl g.2.1).isEmpty)
theorem ZBf:∀k<13,(ZyD k).1.size≤160∧(ZyD k).2.1.size≤160∧(Zv3 (ZyD k)).2=0:=by decide +kernel
theorem ZyE(n:Nat)(h1:n≤9223372036854775807)(w:World):Calls Tryz.prog 13 #[.int .i64 n,.int .i64 13] w fun e w'=>e=.returned (.int .i64 (n%13:Nat))∧w=w':=by
 have HM:=Za (show Int.tmod (n:Int) 13=((n%13:Nat):Int)by rw[Int.tmod_eq_emod_of_nonneg (by omega)];omega)
 have hn:¬(n:Int)<0:=by omega
 go_enter Tryz.func13,Tryz.ntmps13
 go_wp2;go_ret
 exact⟨Zai (by first|exact HM.out|rw[HM.out]),rfl⟩
theorem RcIs.five{w:World}{r:Rc}{u:U}{bs:LA}(h:RcIs w r u bs):u.sch.length≤1000000∧u.nam.length≤1000000∧u.pw.length≤1000000∧u.q.length≤1000000∧u.fr.length≤1000000:=by
 have a:=h.lsch;have b:=h.lnam;have c:=h.lpw;have d:=h.lq;have e:=h.lfr;rw[←h.eq]
 refine⟨?_,?_,?_,?_,?_⟩
 ·show(tl r.sch).length≤_;rw[tl_length];omega
 ·show(tl r.nam).length≤_;rw[tl_length];omega
 ·show(tl r.pw).length≤_;rw[tl_length];omega
 ·show(tl r.q).length≤_;rw[tl_length];omega
 ·show(tl r.fr).length≤_;rw[tl_length];omega
def FamB(w:World)(b:Nat)(g:ByteArray×ByteArray×ByteArray):Prop:=w.heap[b]?=some (Obj.cells #[.string g.1,.string g.2.1,.string g.2.2] 108 (0,0))
theorem FamB.cell{w w':World}{b:Nat}{g:BA×BA×BA}(h:FamB w b g)(hb:Nx w w'):w'.cell? ⟨b,2,none⟩=some (.string g.2.2):=by
 have h2:=(hb.block b (Xg.1 h).1).trans h
 simp[World.cell?,h2]
theorem ZyF(n:Nat)(h1:n≤9223372036854775807)(w:World)(ht:Tb w):Calls Tryz.prog 29 #[.int .i64 n] w fun e w'=>e=.returned (.bool true)∧Nx w w':=by
 obtain⟨hl1,hl2,hg⟩:=ZBf (n%13) (by omega)
 have HTB:=Za ht
 have HK:=Za (fun w=>Zzv (n%13) (by omega) w)
 have HP:=Za (ZyE n h1);clear ht;generalize ZyD (n%13)=g at *;have HEX:=Za (show Zv3 g=Zat (tl g.1) (tl g.2.1) (!(tl g.2.1).isEmpty)from rfl)
 have main:Hid (∀(b:Bool) (w1:World),b=(!(tl g.2.1).isEmpty)→Nx w w1→∀(K:Ending→World→Prop),(∀e w2,Zli e w2 (Zv3 g)→Nx (w1.alloc (Obj.cells #[.string g.1,.string g.2.1,.string g.2.2] 108)) w2→K e w2)→Calls Tryz.prog 28 #[.string g.1,.string g.2.1,.bool b] (w1.alloc (Obj.cells #[.string g.1,.string g.2.1,.string g.2.2] 108)) K):=Za (by
  intro b w1 hb hn K hK;subst hb
  refine(ZeD g.1 g.2.1 _ _ (Zg (by omega)) (Zg (by omega)) (HTB.out.on (hn.alloc _))).mono ?_
  rintro e w2 ⟨h1,h2⟩
  exact hK e w2 (by rw[HEX.out];exact h1) h2)
 generalize hx:Zv3 g=x at *;clear hx;obtain⟨xu,xe⟩:=x;simp only at hg;subst hg;clear HEX
 by_cases hb0:g.2.1.size=0
 ·have hb0':=Zf hb0
  have HB:=Za (show false=(!(tl g.2.1).isEmpty)by rw[Zz hb0];rfl)
  clear hb0
  go_enter Tryz.func29,Tryz.ntmps29
  go_wp2_with (first|(go_at_call 13;refine(HP.out _).mono ?_;rintro e w' ⟨rfl,rfl⟩)|(go_at_call 80;refine(HK.out _).mono ?_;rintro e w1 ⟨rfl,hn1⟩;have HN1:=Za hn1;clear hn1)|(go_at_call 28;refine main.out _ w1 HB.out HN1.out _ ?_;intro e w2 hp hn2;have HN2:=Za ((HN1.out.alloc _).then hn2);clear hn2 main HK HP;rcases hp with⟨h,-⟩|⟨-,pb,r,bs,rfl,-,-⟩;exact absurd rfl h))
  go_ret;exact⟨rfl,HN2.out⟩
 ·have hb0':=Ze hb0
  have HB:=Za (show true=(!(tl g.2.1).isEmpty)by have:=ZcC hb0;cases hq:tl g.2.1 with|nil=>exact absurd hq this|cons _ _=>rfl)
  clear hb0
  go_enter Tryz.func29,Tryz.ntmps29
  go_wp2_with (first|(go_at_call 13;refine(HP.out _).mono ?_;rintro e w' ⟨rfl,rfl⟩)|(go_at_call 80;refine(HK.out _).mono ?_;rintro e w1 ⟨rfl,hn1⟩;have HN1:=Za hn1;clear hn1)|(go_at_call 28;refine main.out _ w1 HB.out HN1.out _ ?_;intro e w2 hp hn2;have HN2:=Za ((HN1.out.alloc _).then hn2);clear hn2 main HK HP;rcases hp with⟨h,-⟩|⟨-,pb,r,bs,rfl,-,-⟩;exact absurd rfl h))
  go_ret;exact⟨rfl,HN2.out⟩
def ItemB(w:World)(b pb:Nat):Prop:=w.heap[b]?=some (Obj.cells #[.pointer (some ⟨pb,0,none⟩),.bool false] 32 (0,0))
theorem Zzw(w:World)(pb:Nat):ItemB (w.alloc (Obj.cells #[.pointer (some ⟨pb,0,none⟩),.bool false] 32)) w.heap.size pb:=heap_alloc_new w _
theorem ItemB.on{w w':World}{b pb:Nat}(h:ItemB w b pb)(hb:Nx w w'):ItemB w' b pb:=(hb.block b (Xg.1 h).1).trans h
theorem ItemB.cell{w:World}{b pb:Nat}(h:ItemB w b pb):w.cell? ⟨b,0,none⟩=some (.pointer (some ⟨pb,0,none⟩)):=by unfold ItemB at h;simp[World.cell?,h]
theorem ZyG{s t:BA}{r:LB}(h:tl s=tl t++r):(decide (t.size≤s.size)&&((tl s).take t.size==tl t))=true:=by
 have h1:t.size≤s.size:=by rw[←tl_length,←tl_length,h,Xk];omega
 rw[decide_eq_true h1,h,←tl_length,List.take_left']
 ·simp
 ·rfl
theorem begins_true{s t:BA}{r:LB}(h:tl s=tl t++r)(w:World):Calls Tryz.prog 90 #[.string s,.string t] w fun e w'=>e=.returned (.bool true)∧w=w':=by
 refine(ZuM s t w).mono ?_
 rintro e w' ⟨rfl,rfl⟩
 exact⟨by rw[ZyG h],rfl⟩
theorem ZAH(u:U):(userU u).length≤u.nam.length+u.pw.length+2:=by
 unfold userU
 split
 ·simp
 split
 ·simp;omega
 ·simp;omega
theorem ZwN(m t:LB):(ZaL m t).length≤m.length+t.length:=by unfold ZaL;split<;>simp
theorem ZvG(u:U):(Zdg u).length≤u.sch.length+10+u.nam.length+u.pw.length+(Zl u).length+(pathU u).length+u.q.length+u.fr.length:=by
 have h1:=ZAH u
 have h2:(Zbb u).length≤2+(userU u).length+(Zl u).length:=by
  unfold Zbb
  split
  ·simp;omega
  split
  ·simp;omega
  ·simp
 have h3:(if u.hq=true then [63]++u.q else []).length≤1+u.q.length:=by split<;>simp<;>omega
 have h4:(if u.hf=true then [35]++u.fr else []).length≤1+u.fr.length:=by split<;>simp<;>omega
 unfold Zdg Zad;simp only[Xk,Xe,Xf]at *
 omega
theorem ZwO(u:U)(h:Sd u)(l0:u.sch.length≤999999)(l1:u.nam.length≤1000000)(l2:u.pw.length≤1000000)(l5:u.q.length≤1000000)(l6:u.fr.length≤1000000)(l7:u.host.length≤1000000)(e:Ending)(he:ZmF e u):∃v,e=.returned v∧∀w,Calls Tryz.prog 36 #[v] w fun e w'=>e=.returned (.bool true)∧Nx w w':=by
 obtain⟨t0,t1,t2,t3,t4,t5,t6,t7,t8,t9,t10,rfl,h0,h1,h2,h3,h4,h5,h6,h7,h8,h9,h10,s5,s8⟩:=he
 refine⟨_,rfl,fun w=>?_⟩
 have z0:t0.size≤maxLen:=by
  have:=ZvG u;rw[←h0,←h5,←h8,tl_length,tl_length,tl_length]at this;unfold maxLen
  omega
 have z2:t2.size=u.sch.length+1:=by rw[←tl_length,h2];unfold Zad;simp
 have z6:t6.size≤1000000:=by rw[←tl_length,h6];exact l7
 have z7:t7.size≤5:=by
  rw[←tl_length,h7];unfold ZC
  split
  ·exact Zeh _
  ·simp
 have z9:t9.size≤1000001:=by
  have:=ZwN [63] u.q;rw[←tl_length,h9];unfold Z4;simp only[Xe,Xf]at this
  omega
 have z10:t10.size≤1000001:=by
  have:=ZwN [35] u.fr;rw[←tl_length,h10];unfold ZbX;simp only[Xe,Xf]at this
  omega
 have hne:=Xd.2 h.sc.ne;have hpro:tl t2=u.sch++[58]:=h2
 have p7:t7.size=0↔u.hp=false:=by
  rw[←tl_length,h7];unfold ZC
  constructor
  ·intro e
   cases hp:u.hp
   ·rfl
   ·rw[hp]at e;exact absurd (Xa.1 e) (decD_ne _)
  ·intro e;rw[e];rfl
 refine Zzp t0 t1 t2 t3 t4 t5 t6 t7 t8 t9 t10 w z6 (by omega) z9 z10 ?_ ?_ ?_ ?_ ?_ ?_ ?_ ?_ ?_ ?_ ?_
 ·intro w
  refine plain_true t0 w z0 fun k hk=>?_
  have:=ZA4 h _ (by rw[←h0];exact ZAW t0 k hk)
  omega
 ·intro w
  have hat:∀k (hk:k<t2.size),(u.sch++[58])[k]?=some t2[k]:=fun k hk=>by rw[←hpro];exact ZA1 t2 k hk
  refine Zxt t2 w (by omega) (by omega) ?_ ?_ ?_
  ·have:=hat (t2.size-1) (by omega)
   rw[List.getElem?_append_right (show u.sch.length≤t2.size-1 by omega),show t2.size-1-u.sch.length=0 by omega]at this
   simp only[Xb,Option.some.injEq]at this;rw[←this];rfl
  ·have:=hat 0 (by omega)
   rw[Xh hne]at this
   cases hs:u.sch with
   | nil=>exact absurd hs h.sc.ne
   | cons c r=>
    rw[hs]at this;simp only[Xb,Option.some.injEq]at this;have hf:=h.sc.first c r hs;rw[←this]
    omega
  ·intro k hk
   have:=hat k (by omega)
   rw[Xh (show k<u.sch.length by omega)]at this
   have ha:=h.sc.all _ (List.mem_of_getElem? this);unfold ZBk
   omega
 ·intro w
  have hdg:=Zwm h
  refine ZxW t2 t7 w (by omega) ?_ ?_ ?_ ?_ ?_
  ·intro k hk
   have:=hdg _ (by rw[←h7];exact ZAW t7 k hk)
   omega
  ·intro k hk
   rw[h7];unfold ZC
   split
   ·next hp=>exact ZAF (h.port hp).1 k
   ·simp[vD]
  ·by_cases h1:1<t7.size
   ·refine Or.inr ⟨h1,?_⟩
    have hp:u.hp=true:=by
     cases hp:u.hp
     ·have:=p7.2 hp;omega
     ·rfl
    have e7:tl t7=Za8 u.port:=by rw[h7];unfold ZC;rw[if_pos hp]
    obtain⟨c,r,hc,hc1⟩:=ZyA (h.port hp).1 (by rw[←e7,tl_length];exact h1)
    have:=ZA1 t7 0 (by omega)
    rw[e7,hc]at this;simp only[Xb,Option.some.injEq]at this;rw[←this];exact hc1
   ·exact Or.inl (by omega)
  ·rw[h7,hpro];exact ZyC h
  ·intro e
   rw[hpro]at e;exact p7.2 (h.who (Or.inr (Zvp.1 e))).2.2
 ·intro w
  refine begins_true (r:=Zbb u++pathU u++(if u.hq=true then [63]++u.q else [])++(if u.hf=true then [35]++u.fr else [])) ?_ w
  rw[h0,h2];unfold Zdg;simp only[Xl]
 ·intro e w
  rw[hpro,Zvb]at e;have hs:=h.sp e
  cases hg:u.segs with
  | nil=>exact absurd hg hs.2
  | cons x r=>
   refine begins_true (r:=x++joinSl r) ?_ w
   rw[h8];unfold pathU
   rw[if_neg (by rw[hs.1];decide),hg]
   unfold joinSl;rw[List.flatMap_cons,Xl]
   rfl
 ·intro e
  rw[←tl_length,h9]at e;unfold Z4 ZaL at h9 e
  by_cases hq:u.q=[]
  ·rw[if_pos hq]at e;exact absurd rfl e
  ·rw[if_neg hq]at h9
   have hl:=Xd.2 hq
   exact⟨by rw[←tl_length,h9];simp;omega,fun w=>begins_true h9 w⟩
 ·intro e
  rw[←tl_length,h10]at e;unfold ZbX ZaL at h10 e
  by_cases hq:u.fr=[]
  ·rw[if_pos hq]at e;exact absurd rfl e
  ·rw[if_neg hq]at h10
   have hl:=Xd.2 hq
   exact⟨by rw[←tl_length,h10];simp;omega,fun w=>begins_true h10 w⟩
 ·intro e
  rw[h5,h6];unfold Zl
  rw[if_neg (by rw[p7.1 e];decide)]
 ·intro e
  have hp:u.hp=true:=by
   cases hp:u.hp
   ·exact absurd (p7.2 hp) e
   ·rfl
  rw[h5,h6,h7];unfold Zl;rw[if_pos hp]
 ·intro e ef e0
  rw[hpro,Zvb]at e;rw[hpro]at ef;rw[←tl_length,h6]at e0
  exact h.hst e (fun x=>ef (Zvp.2 x)) (Xa.1 e0)
 ·intro e
  have hw:u.nam=[]∧u.pw=[]∧u.hp=false:=by
   refine h.who ?_
   rcases e with e|e
   ·rw[←tl_length,h6]at e;exact Or.inl (Xa.1 e)
   ·rw[hpro]at e;exact Or.inr (Zvp.1 e)
  exact⟨by rw[←tl_length,h3,hw.1];rfl,by rw[←tl_length,h4,hw.2.1];rfl,p7.2 hw.2.2⟩
end Go.Proofs.YtchkhibgbnhjpabGreatDoor
