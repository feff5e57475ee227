import Derived.Test.YtchkhibgbnhjpabGreatDoorR41
namespace Go.Proofs.YtchkhibgbnhjpabGreatDoor
open Go.RowKit
set_option maxHeartbeats 16000000
def Zu1(n:Nat)(e:Ending)(w':World)(x:U×Int):Prop:=
 (x.2≠0∧e=.returned (.tuple #[.pointer none,.int .i64 x.2]))∨(x.2=0∧∃(pb:Nat) (r:Rc) (bs:List ByteArray),e=.returned (.tuple #[.pointer (some ⟨pb,0,none⟩),.int .i64 0])∧UrlB w' pb r∧RcIs w' r x.1 bs∧n≤pb)
theorem ZrW(s base:BA)(based:Bool)(w:World)(hs:s.size≤maxLen)(hb:base.size≤maxLen)(ht:Tb w):Calls Tryz.prog 28 #[.string s,.string base,.bool based] w fun e w'=>Zu1 w.heap.size e w' (Zcc (tl s) (tl base) based)∧Nx w w':=by
 have HTB:=Za ht;clear ht;unfold maxLen at hs hb
 have HD:=Za (show Zcc (tl s) (tl base) based=if 160<s.size∨(based=true∧160<base.size)then(zeroU,1)
  else if(ZcQ (tl base) based).2≠0 then(zeroU,(ZcQ (tl base) based).2)else Zac (tl s) (ZcQ (tl base) based).1 by rw[←tl_length s,←tl_length base];rfl)
 by_cases h1:160<s.size
 ·have HE:=Za (HD.out.trans (if_pos (Or.inl h1)))
  clear HD
  go_enter Tryz.func28,Tryz.ntmps28
  go_wp2;go_ret2
  exact⟨Or.inl ⟨by rw[HE.out];decide,by rw[HE.out];rfl⟩,Nx.rfl⟩
 by_cases h2:based=true∧160<base.size
 ·have HE:=Za (HD.out.trans (if_pos (Or.inr h2)))
  obtain⟨rfl,h3⟩:=h2;clear HD
  go_enter Tryz.func28,Tryz.ntmps28
  go_wp2;go_ret2
  exact⟨Or.inl ⟨by rw[HE.out];decide,by rw[HE.out];rfl⟩,Nx.rfl⟩
 have HD2:=Za (HD.out.trans (if_neg (by rintro(h|h);exact h1 h;exact h2 h)))
 clear HD
 have HBC:=Za (fun w1 (hn:Nx w w1)=>ZtM base based w1 (fun hb=>by have:¬160<base.size:=fun h=>h2 ⟨hb,h⟩;omega) (HTB.out.on hn))
 have two:based=false∨(based=true∧¬160<base.size):=by
  cases based
  ·exact Or.inl rfl
  ·exact Or.inr ⟨rfl,fun h=>h2 ⟨rfl,h⟩⟩
 clear h2;rcases two with rfl|⟨rfl,h3⟩
 ·go_enter Tryz.func28,Tryz.ntmps28
  go_wp2_with fail
  refine(HBC.out _ Nx.rfl).mono ?_
  rintro e w1 ⟨⟨r,ds,rfl,hr,hdl⟩,hn1⟩;have HR:=Za hr;have HN1:=Za hn1;clear hr hn1;generalize ZcQ (tl base) false=q at *;obtain⟨qu,err⟩:=q;simp only at HR HD2
  by_cases he:err=0
  ·subst he
   have HE:=Za (HD2.out.trans (if_neg (by decide)))
   clear HD2;go_wp2_with fail
   refine(ZeM s r qu ds _ (HR.out.on (Nx.rfl.alloc _)) (by omega) (by omega) (HTB.out.on (HN1.out.alloc _))).mono ?_
   rintro e w2 ⟨⟨r2,ds2,rfl,hr2,hdl2⟩,hn2⟩;have HR2:=Za hr2;have HN2:=Za ((HN1.out.alloc _).then hn2);clear hr2 hn2;generalize Zac (tl s) qu=q2 at *;obtain⟨qu2,err2⟩:=q2;simp only at HR2
   by_cases he2:err2=0
   ·subst he2
    go_wp2;go_ret2
    refine⟨Or.inr ⟨by rw[HE.out],w2.heap.size+1,r2,ds2,rfl,?_,by rw[HE.out];exact HR2.out.on ((Nx.rfl.alloc _).alloc _),Nat.le_trans HN2.out.size (Nat.le_succ _)⟩,(HN2.out.alloc _).alloc _⟩
    have h:=ZpT (w2.alloc (Obj.cells #[.string r2.sch,.string r2.nam,.string r2.pw,.bool r2.hh,.string r2.host,.bool r2.hp,.int .i64 (r2.port:Int),.bool r2.op,.string r2.opath,.slice r2.so r2.sn r2.sc,.bool r2.hq,.string r2.q,.bool r2.hf,.string r2.fr] 101)) r2
    rw[show(w2.alloc (Obj.cells #[.string r2.sch,.string r2.nam,.string r2.pw,.bool r2.hh,.string r2.host,.bool r2.hp,.int .i64 (r2.port:Int),.bool r2.op,.string r2.opath,.slice r2.so r2.sn r2.sc,.bool r2.hq,.string r2.q,.bool r2.hf,.string r2.fr] 101)).heap.size=w2.heap.size+1 by simp]at h
    exact h
   ·have he':(err2 != 0)=true:=ZhP (beq_eq_false_iff_ne.2 he2)
    have HE2:=Za he2;clear he2;go_wp2;go_ret2
    exact⟨Or.inl ⟨by rw[HE.out];exact HE2.out,by rw[HE.out];rfl⟩,HN2.out.alloc _⟩
  ·have HE:=Za (HD2.out.trans (if_pos he))
   have he':(err != 0)=true:=ZhP (beq_eq_false_iff_ne.2 he);have HE2:=Za he;clear HD2 he;go_wp2;go_ret2
   exact⟨Or.inl ⟨by rw[HE.out];exact HE2.out,by rw[HE.out];rfl⟩,HN1.out.alloc _⟩
 ·go_enter Tryz.func28,Tryz.ntmps28
  go_wp2_with fail
  refine(HBC.out _ Nx.rfl).mono ?_
  rintro e w1 ⟨⟨r,ds,rfl,hr,hdl⟩,hn1⟩;have HR:=Za hr;have HN1:=Za hn1;clear hr hn1;generalize ZcQ (tl base) true=q at *;obtain⟨qu,err⟩:=q;simp only at HR HD2
  by_cases he:err=0
  ·subst he
   have HE:=Za (HD2.out.trans (if_neg (by decide)))
   clear HD2;go_wp2_with fail
   refine(ZeM s r qu ds _ (HR.out.on (Nx.rfl.alloc _)) (by omega) (by omega) (HTB.out.on (HN1.out.alloc _))).mono ?_
   rintro e w2 ⟨⟨r2,ds2,rfl,hr2,hdl2⟩,hn2⟩;have HR2:=Za hr2;have HN2:=Za ((HN1.out.alloc _).then hn2);clear hr2 hn2;generalize Zac (tl s) qu=q2 at *;obtain⟨qu2,err2⟩:=q2;simp only at HR2
   by_cases he2:err2=0
   ·subst he2
    go_wp2;go_ret2
    refine⟨Or.inr ⟨by rw[HE.out],w2.heap.size+1,r2,ds2,rfl,?_,by rw[HE.out];exact HR2.out.on ((Nx.rfl.alloc _).alloc _),Nat.le_trans HN2.out.size (Nat.le_succ _)⟩,(HN2.out.alloc _).alloc _⟩
    have h:=ZpT (w2.alloc (Obj.cells #[.string r2.sch,.string r2.nam,.string r2.pw,.bool r2.hh,.string r2.host,.bool r2.hp,.int .i64 (r2.port:Int),.bool r2.op,.string r2.opath,.slice r2.so r2.sn r2.sc,.bool r2.hq,.string r2.q,.bool r2.hf,.string r2.fr] 101)) r2
    rw[show(w2.alloc (Obj.cells #[.string r2.sch,.string r2.nam,.string r2.pw,.bool r2.hh,.string r2.host,.bool r2.hp,.int .i64 (r2.port:Int),.bool r2.op,.string r2.opath,.slice r2.so r2.sn r2.sc,.bool r2.hq,.string r2.q,.bool r2.hf,.string r2.fr] 101)).heap.size=w2.heap.size+1 by simp]at h
    exact h
   ·have he':(err2 != 0)=true:=ZhP (beq_eq_false_iff_ne.2 he2)
    have HE2:=Za he2;clear he2;go_wp2;go_ret2
    exact⟨Or.inl ⟨by rw[HE.out];exact HE2.out,by rw[HE.out];rfl⟩,HN2.out.alloc _⟩
  ·have HE:=Za (HD2.out.trans (if_pos he))
   have he':(err != 0)=true:=ZhP (beq_eq_false_iff_ne.2 he);have HE2:=Za he;clear HD2 he;go_wp2;go_ret2
   exact⟨Or.inl ⟨by rw[HE.out];exact HE2.out,by rw[HE.out];rfl⟩,HN1.out.alloc _⟩
end Go.Proofs.YtchkhibgbnhjpabGreatDoor
