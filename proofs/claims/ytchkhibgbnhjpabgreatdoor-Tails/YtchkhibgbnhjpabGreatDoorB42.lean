import Derived.Test.YtchkhibgbnhjpabGreatDoorB41
namespace Go.Proofs.YtchkhibgbnhjpabGreatDoor
open Go.RowKit
set_option maxHeartbeats 8000000
set_option maxRecDepth 8000
def Ztt(e:Ending)(w w':World)(pb:Nat)(long:Bool)(x:U×Int):Prop:=
 (long=true∧e=.returned (.int .i64 1)∧Nx w w')∨(long=false∧x.2≠0∧e=.returned (.int .i64 x.2)∧Nx w w')∨(long=false∧x.2=0∧e=.returned (.int .i64 0)∧(∃(r:Rc) (ds:List ByteArray),UrlB w' pb r∧RcIs w' r x.1 ds∧ds.length≤30002)∧But pb w w')
theorem Zg1(k:Nat)(pb:Nat)(r:Rc)(u:U)(bs:LA)(s:BA)(w:World)(hu:UrlB w pb r)(hr:RcIs w r u bs)(hput:s.size≤160→Calls Tryz.prog 170 #[.agg #[.string r.sch,.string r.nam,.string r.pw,.bool r.hh,.string r.host,.bool r.hp,.int .i64 (r.port:Int),.bool r.op,.string r.opath,.slice r.so r.sn r.sc,.bool r.hq,.string r.q,.bool r.hf,.string r.fr],.int .i64 (k:Int),.string s] w fun e w'=>Zfy e w' (ZnS u k (tl s)) 30002∧Nx w w'):Calls Tryz.prog 127 #[.pointer (some ⟨pb,0,none⟩),.int .i64 (k:Int),.string s] w fun e w'=>Ztt e w w' pb (decide (160<s.size)) (ZnS u k (tl s)):=by
 by_cases hs:160<s.size
 ·rw[decide_eq_true hs]
  clear hu hr hput
  go_enter Tryz.func127,Tryz.ntmps127
  go_wp2;go_ret;exact Or.inl ⟨rfl,rfl,Nx.rfl⟩
 rw[decide_eq_false hs];have HU:=Za hu;have HR:=Za hr
 have HP:=Za (hput (by omega))
 obtain⟨x,hx⟩:∃x,ZnS u k (tl s)=x:=⟨_,rfl⟩;rw[hx]at HP ⊢;clear hx;obtain⟨y,err⟩:=x;obtain⟨u0,u1,u2,u3,u4,u5,u6,u7,u8,u9,u10,u11,u12,u13⟩:=hu.cells
 have hs':s.size≤160:=by omega
 clear hu hr hput hs
 go_enter Tryz.func127,Tryz.ntmps127
 go_wp2_with fail
 refine HP.out.mono ?_
 rintro e w1 ⟨⟨r1,ds,rfl,hr1,hdl⟩,hn⟩;clear HP;simp only at hr1;have HU1:=Za (HU.out.on hn);have HR1:=Za hr1;have HN:=Za hn;have hlb:pb<w1.heap.size:=(Array.getElem?_eq_some_iff.1 HU1.out).1;clear hn hr1 u0 u1 u2 u3 u4 u5 u6 u7 u8 u9 u10 u11 u12 u13
 by_cases he:err=0
 ·subst he
  go_upto_region 6 with fail;have HU2:=Za (HU1.out.on (Nx.rfl.alloc (Obj.cells #[.string r1.sch,.string r1.nam,.string r1.pw,.bool r1.hh,.string r1.host,.bool r1.hp,.int .i64 (r1.port:Int),.bool r1.op,.string r1.opath,.slice r1.so r1.sn r1.sc,.bool r1.hq,.string r1.q,.bool r1.hf,.string r1.fr] 101)));have HR2:=Za (HR1.out.on (Nx.rfl.alloc (Obj.cells #[.string r1.sch,.string r1.nam,.string r1.pw,.bool r1.hh,.string r1.host,.bool r1.hp,.int .i64 (r1.port:Int),.bool r1.op,.string r1.opath,.slice r1.so r1.sn r1.sc,.bool r1.hq,.string r1.q,.bool r1.hf,.string r1.fr] 101)));have HV2:=Za (Za5 w1 r1);have HN2:=Za (HN.out.alloc (Obj.cells #[.string r1.sch,.string r1.nam,.string r1.pw,.bool r1.hh,.string r1.host,.bool r1.hp,.int .i64 (r1.port:Int),.bool r1.op,.string r1.opath,.slice r1.so r1.sn r1.sc,.bool r1.hq,.string r1.q,.bool r1.hf,.string r1.fr] 101));clear HU1 HR1 HN;generalize (w1.alloc (Obj.cells #[.string r1.sch,.string r1.nam,.string r1.pw,.bool r1.hh,.string r1.host,.bool r1.hp,.int .i64 (r1.port:Int),.bool r1.op,.string r1.opath,.slice r1.so r1.sn r1.sc,.bool r1.hq,.string r1.q,.bool r1.hf,.string r1.fr] 101))=w2 at *;obtain⟨u0,u1,u2,u3,u4,u5,u6,u7,u8,u9,u10,u11,u12,u13⟩:=HU2.out.cells;obtain⟨x0,x1,x2,x3,x4,x5,x6,x7,x8,x9,x10,x11,x12,x13⟩:=HV2.out.cells;have uf0:=HU2.out.free 0;have uf1:=HU2.out.free 1;have uf2:=HU2.out.free 2;have uf3:=HU2.out.free 3;have uf4:=HU2.out.free 4;have uf5:=HU2.out.free 5;have uf6:=HU2.out.free 6;have uf7:=HU2.out.free 7;have uf8:=HU2.out.free 8;have uf9:=HU2.out.free 9;have uf10:=HU2.out.free 10;have uf11:=HU2.out.free 11;have uf12:=HU2.out.free 12;have uf13:=HU2.out.free 13;go_wp2;go_ret
  refine Or.inr (Or.inr ⟨rfl,rfl,rfl,⟨r1,ds,UrlB.put HU2.out r1,?_,hdl⟩,ZxW (But.nx HN2.out) _ _ _ _ _ _ _ _ _ _ _ _ _ _⟩)
  exact RcIs.ks HR2.out (Zm HU2.out.ty (by decide) _ _ _ _ _ _ _ _ _ _ _ _ _ _)
 ·have he1:(err==0)=false:=beq_eq_false_iff_ne.2 he
  have he2:(err != 0)=true:=bne_iff_ne.2 he;have HE:=Za he;clear he;go_wp2;go_ret;exact Or.inr (Or.inl ⟨rfl,HE.out,rfl,HN.out.alloc _⟩)
end Go.Proofs.YtchkhibgbnhjpabGreatDoor
