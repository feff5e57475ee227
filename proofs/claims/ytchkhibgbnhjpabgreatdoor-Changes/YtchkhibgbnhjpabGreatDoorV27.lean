import Derived.Test.YtchkhibgbnhjpabGreatDoorV26
open List renaming all_cons→Xb
open Nat renaming zero_le→Xa
namespace Go.Proofs.YtchkhibgbnhjpabGreatDoor
open Go.RowKit
set_option maxHeartbeats 8000000
set_option maxRecDepth 8000
def OpK(w:World)(b:Nat)(kd c:Int)(s t:ByteArray):Prop:=w.heap[b]?=some (Obj.cells #[.int .i64 kd,.int .i64 c,.string s,.string t] 53 (0,0))
theorem OpK.on{w w':World}{b:Nat}{kd c:Int}{s t:BA}(h:OpK w b kd c s t)(hb:Nx w w'):OpK w' b kd c s t:=(hb.block b (Array.getElem?_eq_some_iff.1 h).1).trans h
theorem OpK.cells{w:World}{b:Nat}{kd c:Int}{s t:BA}(h:OpK w b kd c s t):w.cell? ⟨b,0,none⟩=some (.int .i64 kd)∧w.cell? ⟨b,1,none⟩=some (.int .i64 c)∧w.cell? ⟨b,2,none⟩=some (.string s)∧w.cell? ⟨b,3,none⟩=some (.string t):=by
 unfold OpK at h
 refine⟨?_,?_,?_,?_⟩<;>simp[World.cell?,h]
theorem OpK.free{w:World}{b:Nat}{kd c:Int}{s t:BA}(h:OpK w b kd c s t)(i:Nat):w.frozen? ⟨b,i,none⟩=false:=by
 unfold OpK at h
 simp[World.frozen?,h]
def Zcg(c:Int)(s t:ByteArray)(p:Pq):Bool:=!Zgo s t (c==1) p
theorem Zdw(v:Value)(ps:List Pq)(kd c:Int)(s t:BA)(w:World)(hp:PlAt w v ps)(hl:ps.length≤1000000):Calls Tryz.prog 123 #[v,.agg #[.int .i64 kd,.int .i64 c,.string s,.string t]] w fun e w'=>∃r,e=.returned r∧PlAt w' r (ps.filter (Zcg c s t))∧Nx w w':=by
 obtain⟨ao,cap,rfl,hlc,hcap,hnone,hsome⟩:=hp;unfold maxLen at hcap
 go_enter Tryz.func123,Tryz.ntmps123
 have HOP:=Za (show OpK (w.alloc (Obj.cells #[.int .i64 kd,.int .i64 c,.string s,.string t] 53)) w.heap.size kd c s t from heap_alloc_new w _);have HN1:=Za (show Nx w (w.alloc (Obj.cells #[.int .i64 kd,.int .i64 c,.string s,.string t] 53))from Nx.rfl.alloc _);go_upto_region 1 with fail;generalize w.alloc (Obj.cells #[.int .i64 kd,.int .i64 c,.string s,.string t] 53)=w1 at *;go_wp2
 go_loopw [5,6] (fun o i wr=>∃k:Nat,k≤ps.length∧i=.int .i64 k∧OwnP wr w1.heap.size o ((ps.take k).filter (Zcg c s t))∧Nx w1 wr) (fun _ i _=>ps.length-(intOf i).toNat)
 case atStart=>exact⟨0,Xa _,rfl,World.ownsRow_nil _ _ _ _,Nx.rfl⟩
 case round=>
  obtain⟨k,hk,rfl,hO1,hnx⟩:=hrel;have HO1:=Za hO1;have HN:=Za hnx;have hzr:=hnx.size;clear hO1
  by_cases hlt:k<ps.length
  ·obtain⟨a,ha⟩:=Za6 hlt hnone
   subst ha;obtain⟨b,off,rfl,hr⟩:=hsome a rfl;obtain⟨c0,c1⟩:=(hr.on (HN1.out.then hnx)).cell hlt;obtain⟨o0,o1,o2,o3⟩:=(HOP.out.on hnx).cells;have HS1:=Za (Zcd (Zcg c s t) ps k hlt)
   have hl1:((ps.take k).filter (Zcg c s t)).length<1000000000000:=by
    have h1:=List.length_filter_le (Zcg c s t) (ps.take k);have h2:=List.length_take_le k ps
    omega
   clear hnone hsome hr hnx;generalize ps[k]=d at *;obtain⟨cn,cv⟩:=d;simp only at c0 c1
   have HQ:=Za (show Zcg c s t (cn,cv)=!(cn.toList==s.toList&&(!(c==1)||cv.toList==t.toList))from rfl)
   have keep:∀ {x:Value},OwnP wr w1.heap.size x ((ps.take k).filter (Zcg c s t))→Zcg c s t (cn,cv)=false→OwnP wr w1.heap.size x ((ps.take (k+1)).filter (Zcg c s t)):=fun h e=>by rw[HS1.out,e,if_neg (by decide),List.append_nil];exact h
   cases hd1:(cn.toList==s.toList)
   ·have hd1':(cn.toList != s.toList)=true:=Zkp hd1
    have HM:=Za (show Zcg c s t (cn,cv)=true by rw[HQ.out,hd1];rfl)
    clear HQ;go_wp2
    go_region
    go_wp2_with (at_builtin;go_must (refine ZcI wr.drew (cn,cv) rfl _ _ rfl w1.heap.size _ _ rfl (HO1.out.drew) rfl hl1 hzr ?_;intro v' w3 ho1 hb3 _;have HA:=Za ho1;clear ho1))
    go_roundw
    case rel=>exact⟨k+1,by omega,by go_num,by rw[HS1.out,HM.out,if_pos rfl];exact HA.out,HN.out.drew.trans hb3⟩
    case measure=>simp[intOf];omega
   ·have hd1':(cn.toList != s.toList)=false:=ZgB hd1
    cases hc:(c==1)
    ·have HM:=Za (show Zcg c s t (cn,cv)=false by rw[HQ.out,hd1,hc];rfl)
     clear HQ;go_wp2
     go_region
     go_wp2
     go_roundw
     case rel=>exact⟨k+1,by omega,by go_num,(keep HO1.out HM.out).drew,HN.out.drew⟩
     case measure=>simp[intOf];omega
    ·cases hd2:(cv.toList==t.toList)
     ·have hd2':(cv.toList != t.toList)=true:=Zkp hd2
      have HM:=Za (show Zcg c s t (cn,cv)=true by rw[HQ.out,hd1,hc,hd2];rfl)
      clear HQ;go_wp2
      go_region
      go_wp2_with (at_builtin;go_must (refine ZcI wr.drew (cn,cv) rfl _ _ rfl w1.heap.size _ _ rfl (HO1.out.drew) rfl hl1 hzr ?_;intro v' w3 ho1 hb3 _;have HA:=Za ho1;clear ho1))
      go_roundw
      case rel=>exact⟨k+1,by omega,by go_num,by rw[HS1.out,HM.out,if_pos rfl];exact HA.out,HN.out.drew.trans hb3⟩
      case measure=>simp[intOf];omega
     ·have hd2':(cv.toList != t.toList)=false:=ZgB hd2
      have HM:=Za (show Zcg c s t (cn,cv)=false by rw[HQ.out,hd1,hc,hd2];rfl)
      clear HQ;go_wp2
      go_region
      go_wp2
      go_roundw
      case rel=>exact⟨k+1,by omega,by go_num,(keep HO1.out HM.out).drew,HN.out.drew⟩
      case measure=>simp[intOf];omega
  ·have e:ps.take k=ps:=List.take_of_length_le (by omega)
   have HF1:=Za (show OwnP wr w1.heap.size _ (ps.filter (Zcg c s t))by have h:=HO1.out;rw[e]at h;exact h)
   clear hnone hsome hnx e;go_wp2;go_ret;exact⟨_,rfl,OwnP.at HF1.out,HN1.out.then HN.out⟩
theorem Ze7(a b:Value)(ps qs:List Pq)(w:World)(ha:PlAt w a ps)(hb:PlAt w b qs)(hl:ps.length≤1000000)(he:ps.length=qs.length)(hm:∀p∈ps,ps.filter (nameQ p.1)=qs.filter (nameQ p.1)):Calls Tryz.prog 122 #[a,b] w fun e w'=>e=.returned (.bool true)∧Nx w w':=by
 have HA:=Za ha;have HB:=Za hb;have HM:=Za hm
 have hlq:qs.length≤1000000:=by omega
 obtain⟨ao,cap,rfl,hlc,hcap,hnone,hsome⟩:=ha;obtain⟨bo,cap2,hve,-⟩:=hb;subst hve;unfold maxLen at hcap
 have hl':((ps.length:Int) != (qs.length:Int))=false:=by rw[he];simp
 have hl'':((ps.length:Int)==(qs.length:Int))=true:=by rw[he];simp
 clear hm he
 go_enter Tryz.func122,Tryz.ntmps122
 go_wp2
 go_loopw [5] (fun i wr=>∃k:Nat,k≤ps.length∧i=.int .i64 k∧Nx w wr) (fun i _=>ps.length-(intOf i).toNat)
 case atStart=>exact⟨0,Xa _,rfl,Nx.rfl⟩
 case round=>
  obtain⟨k,hk,rfl,hnx⟩:=hrel;have HN:=Za hnx
  by_cases hlt:k<ps.length
  ·obtain⟨x,hx⟩:=Za6 hlt hnone
   subst hx;obtain⟨b,off,rfl,hr⟩:=hsome x rfl;obtain⟨c0,c1⟩:=(hr.on hnx).cell hlt;have HF:=Za (HM.out ps[k] (List.getElem_mem _));clear hnone hsome hr hnx;generalize ps[k]=d at *;obtain⟨cn,cv⟩:=d;simp only at c0 c1 HF;have HOP:=Za (show OpK (wr.alloc (Obj.cells #[.int .i64 0,.int .i64 0,.string cn,.string ⟨#[]⟩] 53)) wr.heap.size 0 0 cn ⟨#[]⟩from heap_alloc_new wr _);have HN1:=Za (HN.out.then (show Nx wr (wr.alloc (Obj.cells #[.int .i64 0,.int .i64 0,.string cn,.string ⟨#[]⟩] 53))from Nx.rfl.alloc _));go_upto_region 7 with fail;generalize wr.alloc (Obj.cells #[.int .i64 0,.int .i64 0,.string cn,.string ⟨#[]⟩] 53)=w1 at *;obtain⟨o0,o1,o2,o3⟩:=HOP.out.cells;go_wp2_with fail
   refine(Zpe _ ps cn w1 (HA.out.on HN1.out) hl).mono ?_
   rintro e w2 ⟨r1,rfl,hr1,hn2⟩;have HR1:=Za (OwnP.at hr1);have HN2:=Za (HN1.out.then hn2);have HOP2:=Za (HOP.out.on hn2);clear hr1 hn2 o0 o1 o2 o3;obtain⟨o0,o1,o2,o3⟩:=HOP2.out.cells;go_wp2_with fail
   refine(Zpe _ qs cn w2 (HB.out.on HN2.out) hlq).mono ?_
   rintro e w3 ⟨r2,rfl,hr2,hn3⟩;have HR2:=Za (OwnP.at hr2);have HN3:=Za hn3;clear hr2 hn3;go_wp2_with fail
   refine(ZbW r1 r2 _ _ w3 (HR1.out.on HN3.out) HR2.out).mono ?_
   rintro e w4 ⟨rfl,hn4⟩;rw[decide_eq_true HF.out];have HN4:=Za ((HN2.out.then HN3.out).then hn4);clear hn4;go_wp2
   go_roundw
   case rel=>exact⟨k+1,by omega,by go_num,HN4.out⟩
   case measure=>simp[intOf];omega
  ·clear hnone hsome hnx
   go_wp2;go_ret;exact⟨rfl,HN.out⟩
def ZaI(l:List UInt8):Bool:=l.all fun c=>decide (32≤c.toNat)&&decide (c.toNat≤126)
theorem ZaQ(s:BA)(w:World)(hs:s.size≤maxLen):Calls Tryz.prog 92 #[.string s] w fun e w'=>e=.returned (.bool (ZaI (tl s)))∧w=w':=by
 unfold maxLen at hs
 go_enter Tryz.func92,Tryz.ntmps92
 go_wp2
 go_loopw [3] (fun i wr=>∃k:Nat,k≤s.size∧i=.int .i64 k∧ZaI (tl s)=ZaI ((tl s).drop k)∧w=wr) (fun i _=>s.size-(intOf i).toNat)
 case atStart=>exact⟨0,Xa _,rfl,rfl,rfl⟩
 case round=>
  obtain⟨k,hk,rfl,hE,rfl⟩:=hrel;have HE:=Za hE;clear hE
  by_cases hlt:k<s.size
  ·have HD:=Za (ZU s k hlt)
   have b1:=bb s[k]
   by_cases h1:s[k].toNat<32
   ·have HF:=Za (show ZaI (tl s)=false by rw[HE.out,HD.out];unfold ZaI;rw[Xb,decide_eq_false (by omega)];rfl)
    go_wp2;go_wp2;go_ret
    exact⟨by rw[HF.out];rfl,rfl⟩
   ·by_cases h2:126<s[k].toNat
    ·have HF:=Za (show ZaI (tl s)=false by rw[HE.out,HD.out];unfold ZaI;rw[Xb,decide_eq_false (by omega:¬s[k].toNat≤126),Bool.and_false];rfl)
     go_wp2;go_wp2;go_ret
     exact⟨by rw[HF.out];rfl,rfl⟩
    ·have HF:=Za (show ZaI (tl s)=ZaI ((tl s).drop (k+1))by rw[HE.out,HD.out];unfold ZaI;rw[Xb,decide_eq_true (by omega:32≤s[k].toNat),decide_eq_true (by omega:s[k].toNat≤126)];rfl)
     go_wp2;go_wp2
     go_roundw
     case rel=>exact⟨k+1,by omega,by go_num,HF.out,trivial⟩
     case measure=>simp[intOf];omega
  ·have HF:=Za (show ZaI (tl s)=true by rw[HE.out,Zy s k (by omega)];rfl)
   go_wp2;go_ret
   exact⟨by rw[HF.out];rfl,rfl⟩
def signsB(c:Int):List UInt8→Bool
 | []=>false
 | b::r=>if(b.toNat:Int)==c then true else if(b.toNat:Int)==35 then false else signsB c r
theorem ZmJ(s:BA)(c:Int)(w:World)(hs:s.size≤maxLen):Calls Tryz.prog 63 #[.string s,.int .u8 c] w fun e w'=>e=.returned (.bool (signsB c (tl s)))∧w=w':=by
 unfold maxLen at hs
 go_enter Tryz.func63,Tryz.ntmps63
 go_wp2
 go_loopw [5] (fun i wr=>∃k:Nat,k≤s.size∧i=.int .i64 k∧signsB c (tl s)=signsB c ((tl s).drop k)∧w=wr) (fun i _=>s.size-(intOf i).toNat)
 case atStart=>exact⟨0,Xa _,rfl,rfl,rfl⟩
 case round=>
  obtain⟨k,hk,rfl,hE,rfl⟩:=hrel;have HE:=Za hE;clear hE
  by_cases hlt:k<s.size
  ·have HD:=Za (ZU s k hlt)
   have b1:=bb s[k]
   cases h1:((s[k].toNat:Int)==c)
   ·cases h2:((s[k].toNat:Int)==35)
    ·have HF:=Za (show signsB c (tl s)=signsB c ((tl s).drop (k+1))by rw[HE.out,HD.out,signsB,h1,h2];rfl)
     go_wp2
     go_roundw
     case rel=>exact⟨k+1,by omega,by go_num,HF.out,trivial⟩
     case measure=>simp[intOf];omega
    ·have HF:=Za (show signsB c (tl s)=false by rw[HE.out,HD.out,signsB,h1,h2];rfl)
     go_wp2;go_ret
     exact⟨by rw[HF.out];rfl,rfl⟩
   ·have HF:=Za (show signsB c (tl s)=true by rw[HE.out,HD.out,signsB,h1];rfl)
    go_wp2;go_ret
    exact⟨by rw[HF.out];rfl,rfl⟩
  ·have HF:=Za (show signsB c (tl s)=false by rw[HE.out,Zy s k (by omega)];rfl)
   go_wp2;go_ret
   exact⟨by rw[HF.out];rfl,rfl⟩
end Go.Proofs.YtchkhibgbnhjpabGreatDoor
