import Derived.Test.YtchkhibgbnhjpabGreatDoorT17
open List renaming all_cons→Xb
open UInt8 renaming toNat_inj→Xa
namespace Go.Proofs.YtchkhibgbnhjpabGreatDoor
open Go.RowKit
set_option maxHeartbeats 16000000
set_option maxRecDepth 8000
def ZAN(c:UInt8):Bool:=decide (97≤c.toNat)&&decide (c.toNat≤122)
def ZuU(l:List UInt8):Bool:=l.all ZAN&&(decide (0<l.length)&&decide (l.length<10))
theorem Zu2(s:BA)(w:World)(hs:s.size≤maxLen):Calls Tryz.prog 89 #[.string s] w fun e w'=>e=.returned (.bool (ZuU (tl s)))∧w=w':=by
 have HL:=Za (tl_length s);unfold maxLen at hs
 go_enter Tryz.func89,Tryz.ntmps89
 go_wp2
 go_loopw [3] (fun i wr=>∃k:Nat,k≤s.size∧i=.int .i64 k∧(tl s).all ZAN=((tl s).drop k).all ZAN∧w=wr) (fun i _=>s.size-(intOf i).toNat)
 case atStart=>exact⟨0,Nat.zero_le _,rfl,rfl,rfl⟩
 case round=>
  obtain⟨k,hk,rfl,hE,rfl⟩:=hrel;have HE:=Za hE;clear hE
  by_cases hlt:k<s.size
  ·have HD:=Za (ZU s k hlt)
   have b1:=bb s[k]
   by_cases h1:s[k].toNat<97
   ·have HF:=Za (show ZuU (tl s)=false by unfold ZuU;rw[HE.out,HD.out,Xb];unfold ZAN;rw[decide_eq_false (by omega)];rfl)
    go_wp2;go_ret
    exact⟨by rw[HF.out];rfl,rfl⟩
   ·by_cases h2:122<s[k].toNat
    ·have HF:=Za (show ZuU (tl s)=false by unfold ZuU;rw[HE.out,HD.out,Xb];unfold ZAN;rw[decide_eq_false (by omega:¬s[k].toNat≤122),Bool.and_false];rfl)
     go_wp2;go_ret
     exact⟨by rw[HF.out];rfl,rfl⟩
    ·have HF:=Za (show(tl s).all ZAN=((tl s).drop (k+1)).all ZAN by rw[HE.out,HD.out,Xb];unfold ZAN;rw[decide_eq_true (by omega:97≤s[k].toNat),decide_eq_true (by omega:s[k].toNat≤122)];rfl)
     go_wp2
     go_roundw
     case rel=>exact⟨k+1,by omega,by go_num,HF.out,trivial⟩
     case measure=>simp[intOf];omega
  ·have HF:=Za (show ZuU (tl s)=(decide (0<s.size)&&decide (s.size<10))by unfold ZuU;rw[HE.out,Zy s k (by omega),HL.out];rfl)
   go_wp2
   all_goals go_ret
   all_goals exact⟨by rw[HF.out];exact Zi (by rw[Bool.eq_iff_iff];simp;try omega),rfl⟩
theorem ZvJ{w w1:World}{a0 a1 a2 a3 a4 a5 a6 a7 a8 a9 a10 b0 b1 b2 b3 b4 b5 b6 b7 b8 b9 b10:BA}(hn:Nx ((w.alloc (Obj.cells #[.string a0,.string a1,.string a2,.string a3,.string a4,.string a5,.string a6,.string a7,.string a8,.string a9,.string a10] 66)).alloc (Obj.cells #[.string b0,.string b1,.string b2,.string b3,.string b4,.string b5,.string b6,.string b7,.string b8,.string b9,.string b10] 66)) w1):C11 w1 w.heap.size (.string a0) (.string a1) (.string a2) (.string a3) (.string a4) (.string a5) (.string a6) (.string a7) (.string a8) (.string a9) (.string a10)∧C11 w1 (w.heap.size+1) (.string b0) (.string b1) (.string b2) (.string b3) (.string b4) (.string b5) (.string b6) (.string b7) (.string b8) (.string b9) (.string b10)∧Nx w w1:=by
 refine⟨((show C11 (w.alloc (Obj.cells #[.string a0,.string a1,.string a2,.string a3,.string a4,.string a5,.string a6,.string a7,.string a8,.string a9,.string a10] 66)) w.heap.size (.string a0) (.string a1) (.string a2) (.string a3) (.string a4) (.string a5) (.string a6) (.string a7) (.string a8) (.string a9) (.string a10)from heap_alloc_new w _).on (Nx.rfl.alloc _)).on hn,?_,((Nx.rfl.alloc _).alloc _).then hn⟩
 have h:C11 ((w.alloc (Obj.cells #[.string a0,.string a1,.string a2,.string a3,.string a4,.string a5,.string a6,.string a7,.string a8,.string a9,.string a10] 66)).alloc (Obj.cells #[.string b0,.string b1,.string b2,.string b3,.string b4,.string b5,.string b6,.string b7,.string b8,.string b9,.string b10] 66)) (w.alloc (Obj.cells #[.string a0,.string a1,.string a2,.string a3,.string a4,.string a5,.string a6,.string a7,.string a8,.string a9,.string a10] 66)).heap.size (.string b0) (.string b1) (.string b2) (.string b3) (.string b4) (.string b5) (.string b6) (.string b7) (.string b8) (.string b9) (.string b10):=heap_alloc_new _ _
 rw[show(w.alloc (Obj.cells #[.string a0,.string a1,.string a2,.string a3,.string a4,.string a5,.string a6,.string a7,.string a8,.string a9,.string a10] 66)).heap.size=w.heap.size+1 by simp]at h
 exact h.on hn
def Zvo(l:List UInt8):Bool:=match l with | []=>true|c::_=>c != 47
def Zu7(h p:List UInt8):Bool:=decide (p.length+2≤h.length)&&(h.take (p.length+2)==p++[47,47])
def ZuX(h p:List UInt8):Bool:=decide (h=[]∨p=Zva)
theorem Zvg{s:BA}(h:s.size=0):Zvo (tl s)=true:=by rw[Zz h];rfl
theorem Zvc{s:BA}(h:0<s.size):Zvo (tl s)=(s[0] != 47):=by
 have:=ZU s 0 h;rw[List.drop_zero]at this;rw[this]
 rfl
theorem ZBg{a b:BA}(h:¬tl a=tl b):(a.toList==b.toList)=false:=by rw[ByteArray.toList_eq,ByteArray.toList_eq];show(tl a==tl b)=false;exact beq_eq_false_iff_ne.2 h
theorem ZyO(a0 a1 a2 a3 a4 a5 a6 a7 a8 a9 a10 b0 b1 b2 b3 b4 b5 b6 b7 b8 b9 b10 s:BA)(w:World)(z0:a0.size≤maxLen)(zb0:b0.size≤maxLen)(z2:a2.size≤1000001)(z8:a8.size≤200000000000)(zs:s.size≤65536)(hh:ZuU (tl s)=true→tl b3=tl s∨ZuX (tl a6) (tl a2)=true):Calls Tryz.prog 35 #[.agg #[.string a0,.string a1,.string a2,.string a3,.string a4,.string a5,.string a6,.string a7,.string a8,.string a9,.string a10],.agg #[.string b0,.string b1,.string b2,.string b3,.string b4,.string b5,.string b6,.string b7,.string b8,.string b9,.string b10],.int .i64 2,.string s] w fun e w'=>e=.returned (.bool true)∧Nx w w':=by
 have HH:=Za hh;clear hh;have HZ0:=Za z0;have HZB:=Za zb0
 have HSM:=Za (fun w'=>Zu2 s w' (by unfold maxLen;omega))
 have HBG:=Za (fun w'=>ZuM a0 (a2++(⟨#[47,47]⟩:BA)) w')
 have HBE:=Za (show(decide ((a2++(⟨#[47,47]⟩:BA)).size≤a0.size)&&((tl a0).take (a2++(⟨#[47,47]⟩:BA)).size==tl (a2++(⟨#[47,47]⟩:BA))))=Zu7 (tl a0) (tl a2)by
  unfold Zu7;rw[Zm,tlApp7,tl_length,tl_length]
  rfl)
 clear z0 zb0
 go_enter Tryz.func35,Tryz.ntmps35
 go_upto_region 1 with fail;obtain⟨g1,g2,g4⟩:=ZvJ (w:=w) (a0:=a0) (a1:=a1) (a2:=a2) (a3:=a3) (a4:=a4) (a5:=a5) (a6:=a6) (a7:=a7) (a8:=a8) (a9:=a9) (a10:=a10) (b0:=b0) (b1:=b1) (b2:=b2) (b3:=b3) (b4:=b4) (b5:=b5) (b6:=b6) (b7:=b7) (b8:=b8) (b9:=b9) (b10:=b10) Nx.rfl;have HA:=Za g1;have HB:=Za g2;have HN:=Za g4;clear g1 g2 g4;generalize ((w.alloc (Obj.cells #[.string a0,.string a1,.string a2,.string a3,.string a4,.string a5,.string a6,.string a7,.string a8,.string a9,.string a10] 66)).alloc (Obj.cells #[.string b0,.string b1,.string b2,.string b3,.string b4,.string b5,.string b6,.string b7,.string b8,.string b9,.string b10] 66))=w1 at *;obtain⟨x0,x1,x2,x3,x4,x5,x6,x7,x8,x9,x10⟩:=HA.out.cells;obtain⟨y0,y1,y2,y3,y4,y5,y6,y7,y8,y9,y10⟩:=HB.out.cells;go_wp2_with fail
 refine(HSM.out _).mono ?_
 rintro e w' ⟨rfl,rfl⟩;go_upto_region 2 with fail
 go_cut [10]from 18 (fun x wx=>x=.bool (Zvo (tl a8))∧w1=wx)
 case first=>
  by_cases h0:a8.size=0
  ·have h0b:((a8.size:Int)==0)=true:=by rw[h0];rfl
   have HO:=Za (Zvg h0);clear h0;go_wp2
   go_meet
   case rel=>exact⟨by rw[HO.out],rfl⟩
  ·have h0b:((a8.size:Int)==0)=false:=beq_eq_false_iff_ne.2 (by omega)
   have hpos:0<a8.size:=by omega
   have HO:=Za (Zvc hpos)
   cases hsl:((a8[0].toNat:Int)==47)
   ·have hsl':((a8[0].toNat:Int) != 47)=true:=by simp only[bne,hsl];rfl
    have HO2:=Za (show Zvo (tl a8)=true by rw[HO.out];exact bne_iff_ne.2 (fun g=>by rw[g]at hsl;exact absurd hsl (by decide)))
    clear h0 HO;go_wp2
    go_meet
    case rel=>exact⟨by rw[HO2.out],rfl⟩
   ·have hsl':((a8[0].toNat:Int) != 47)=false:=by simp only[bne,hsl];rfl
    have e47:a8[0]=47:=Xa.1 (by have:=beq_iff_eq.1 hsl;show a8[0].toNat=47;omega)
    have HO2:=Za (show Zvo (tl a8)=false by rw[HO.out,e47];rfl)
    clear e47;clear h0 HO;go_wp2
    go_meet
    case rel=>exact⟨by rw[HO2.out],rfl⟩
 case rest=>
  obtain⟨rfl,rfl⟩:=hcut;go_wp2_with fail
  refine(HBG.out _).mono ?_
  rintro e w' ⟨rfl,rfl⟩;rw[HBE.out];go_upto_region 4 with fail
  go_cut [12]from 18 (fun x wx=>x=.bool (ZuX (tl a6) (tl a2))∧w1=wx)
  case first=>
   by_cases h6:a6.size=0
   ·have h6':=Zf h6
    have HO:=Za (show ZuX (tl a6) (tl a2)=true from decide_eq_true (Or.inl (Zz h6)));clear h6;go_wp2
    go_meet
    case rel=>exact⟨by rw[HO.out],rfl⟩
   ·have h6':=Ze h6
    by_cases h2:tl a2=Zva
    ·have h2':=eqB h2
     have HO:=Za (show ZuX (tl a6) (tl a2)=true from decide_eq_true (Or.inr h2));clear h6 h2;go_wp2
     go_meet
     case rel=>exact⟨by rw[HO.out],rfl⟩
    ·have h2':=neB h2
     have HO:=Za (show ZuX (tl a6) (tl a2)=false from decide_eq_false (by rintro(g|g);exact ZcC h6 g;exact h2 g))
     clear h6 h2;go_wp2
     go_meet
     case rel=>exact⟨by rw[HO.out],rfl⟩
  case rest=>
   obtain⟨rfl,rfl⟩:=hcut;generalize Zvo (tl a8)=op at *;generalize Zu7 (tl a0) (tl a2)=ho at *;generalize ZuX (tl a6) (tl a2)=ba at *;generalize ZuU (tl s)=sb at *
   cases sb
   ·go_wp2
    go_ret;exact⟨rfl,HN.out⟩
   ·rcases HH.out rfl with g|g
    ·have ht:(b3.toList==s.toList)=true:=Zvd g
     clear g;go_wp2;go_ret;exact⟨rfl,HN.out⟩
    ·subst g
     cases ht:(b3.toList==s.toList)
     ·go_wp2
      go_ret;exact⟨rfl,HN.out⟩
     ·go_wp2
      go_ret;exact⟨rfl,HN.out⟩
theorem ZyP(a0 a1 a2 a3 a4 a5 a6 a7 a8 a9 a10 b0 b1 b2 b3 b4 b5 b6 b7 b8 b9 b10 s:BA)(w:World)(z0:a0.size≤maxLen)(zb0:b0.size≤maxLen)(z2:a2.size≤1000001)(z8:a8.size≤200000000000)(zs:s.size≤65536)(hh:ZuU (tl s)=true→tl b4=tl s∨ZuX (tl a6) (tl a2)=true):Calls Tryz.prog 35 #[.agg #[.string a0,.string a1,.string a2,.string a3,.string a4,.string a5,.string a6,.string a7,.string a8,.string a9,.string a10],.agg #[.string b0,.string b1,.string b2,.string b3,.string b4,.string b5,.string b6,.string b7,.string b8,.string b9,.string b10],.int .i64 3,.string s] w fun e w'=>e=.returned (.bool true)∧Nx w w':=by
 have HH:=Za hh;clear hh;have HZ0:=Za z0;have HZB:=Za zb0
 have HSM:=Za (fun w'=>Zu2 s w' (by unfold maxLen;omega))
 have HBG:=Za (fun w'=>ZuM a0 (a2++(⟨#[47,47]⟩:BA)) w')
 have HBE:=Za (show(decide ((a2++(⟨#[47,47]⟩:BA)).size≤a0.size)&&((tl a0).take (a2++(⟨#[47,47]⟩:BA)).size==tl (a2++(⟨#[47,47]⟩:BA))))=Zu7 (tl a0) (tl a2)by
  unfold Zu7;rw[Zm,tlApp7,tl_length,tl_length]
  rfl)
 clear z0 zb0
 go_enter Tryz.func35,Tryz.ntmps35
 go_upto_region 1 with fail;obtain⟨g1,g2,g4⟩:=ZvJ (w:=w) (a0:=a0) (a1:=a1) (a2:=a2) (a3:=a3) (a4:=a4) (a5:=a5) (a6:=a6) (a7:=a7) (a8:=a8) (a9:=a9) (a10:=a10) (b0:=b0) (b1:=b1) (b2:=b2) (b3:=b3) (b4:=b4) (b5:=b5) (b6:=b6) (b7:=b7) (b8:=b8) (b9:=b9) (b10:=b10) Nx.rfl;have HA:=Za g1;have HB:=Za g2;have HN:=Za g4;clear g1 g2 g4;generalize ((w.alloc (Obj.cells #[.string a0,.string a1,.string a2,.string a3,.string a4,.string a5,.string a6,.string a7,.string a8,.string a9,.string a10] 66)).alloc (Obj.cells #[.string b0,.string b1,.string b2,.string b3,.string b4,.string b5,.string b6,.string b7,.string b8,.string b9,.string b10] 66))=w1 at *;obtain⟨x0,x1,x2,x3,x4,x5,x6,x7,x8,x9,x10⟩:=HA.out.cells;obtain⟨y0,y1,y2,y3,y4,y5,y6,y7,y8,y9,y10⟩:=HB.out.cells;go_wp2_with fail
 refine(HSM.out _).mono ?_
 rintro e w' ⟨rfl,rfl⟩;go_upto_region 2 with fail
 go_cut [10]from 18 (fun x wx=>x=.bool (Zvo (tl a8))∧w1=wx)
 case first=>
  by_cases h0:a8.size=0
  ·have h0b:((a8.size:Int)==0)=true:=by rw[h0];rfl
   have HO:=Za (Zvg h0);clear h0;go_wp2
   go_meet
   case rel=>exact⟨by rw[HO.out],rfl⟩
  ·have h0b:((a8.size:Int)==0)=false:=beq_eq_false_iff_ne.2 (by omega)
   have hpos:0<a8.size:=by omega
   have HO:=Za (Zvc hpos)
   cases hsl:((a8[0].toNat:Int)==47)
   ·have hsl':((a8[0].toNat:Int) != 47)=true:=by simp only[bne,hsl];rfl
    have HO2:=Za (show Zvo (tl a8)=true by rw[HO.out];exact bne_iff_ne.2 (fun g=>by rw[g]at hsl;exact absurd hsl (by decide)))
    clear h0 HO;go_wp2
    go_meet
    case rel=>exact⟨by rw[HO2.out],rfl⟩
   ·have hsl':((a8[0].toNat:Int) != 47)=false:=by simp only[bne,hsl];rfl
    have e47:a8[0]=47:=Xa.1 (by have:=beq_iff_eq.1 hsl;show a8[0].toNat=47;omega)
    have HO2:=Za (show Zvo (tl a8)=false by rw[HO.out,e47];rfl)
    clear e47;clear h0 HO;go_wp2
    go_meet
    case rel=>exact⟨by rw[HO2.out],rfl⟩
 case rest=>
  obtain⟨rfl,rfl⟩:=hcut;go_wp2_with fail
  refine(HBG.out _).mono ?_
  rintro e w' ⟨rfl,rfl⟩;rw[HBE.out];go_upto_region 4 with fail
  go_cut [12]from 18 (fun x wx=>x=.bool (ZuX (tl a6) (tl a2))∧w1=wx)
  case first=>
   by_cases h6:a6.size=0
   ·have h6':=Zf h6
    have HO:=Za (show ZuX (tl a6) (tl a2)=true from decide_eq_true (Or.inl (Zz h6)));clear h6;go_wp2
    go_meet
    case rel=>exact⟨by rw[HO.out],rfl⟩
   ·have h6':=Ze h6
    by_cases h2:tl a2=Zva
    ·have h2':=eqB h2
     have HO:=Za (show ZuX (tl a6) (tl a2)=true from decide_eq_true (Or.inr h2));clear h6 h2;go_wp2
     go_meet
     case rel=>exact⟨by rw[HO.out],rfl⟩
    ·have h2':=neB h2
     have HO:=Za (show ZuX (tl a6) (tl a2)=false from decide_eq_false (by rintro(g|g);exact ZcC h6 g;exact h2 g))
     clear h6 h2;go_wp2
     go_meet
     case rel=>exact⟨by rw[HO.out],rfl⟩
  case rest=>
   obtain⟨rfl,rfl⟩:=hcut;generalize Zvo (tl a8)=op at *;generalize Zu7 (tl a0) (tl a2)=ho at *;generalize ZuX (tl a6) (tl a2)=ba at *;generalize ZuU (tl s)=sb at *
   cases sb
   ·go_wp2
    go_ret;exact⟨rfl,HN.out⟩
   ·rcases HH.out rfl with g|g
    ·have ht:(b4.toList==s.toList)=true:=Zvd g
     clear g;go_wp2;go_ret;exact⟨rfl,HN.out⟩
    ·subst g
     cases ht:(b4.toList==s.toList)
     ·go_wp2
      go_ret;exact⟨rfl,HN.out⟩
     ·go_wp2
      go_ret;exact⟨rfl,HN.out⟩
theorem ZyQ(a0 a1 a2 a3 a4 a5 a6 a7 a8 a9 a10 b0 b1 b2 b3 b4 b5 b6 b7 b8 b9 b10 s:BA)(w:World)(z0:a0.size≤maxLen)(zb0:b0.size≤maxLen)(z2:a2.size≤1000001)(z8:a8.size≤200000000000)(zs:s.size≤65536)(hh:(tl a2=Zva→tl s=Zej→b6.size=0)∧(ZuU (tl s)=true→¬(tl a2=Zva∧tl s=Zej)→tl b6=tl s∨(Zvo (tl a8)=true∧Zu7 (tl a0) (tl a2)=false))):Calls Tryz.prog 35 #[.agg #[.string a0,.string a1,.string a2,.string a3,.string a4,.string a5,.string a6,.string a7,.string a8,.string a9,.string a10],.agg #[.string b0,.string b1,.string b2,.string b3,.string b4,.string b5,.string b6,.string b7,.string b8,.string b9,.string b10],.int .i64 4,.string s] w fun e w'=>e=.returned (.bool true)∧Nx w w':=by
 have HH:=Za hh;clear hh;have HZ0:=Za z0;have HZB:=Za zb0
 have HSM:=Za (fun w'=>Zu2 s w' (by unfold maxLen;omega))
 have HBG:=Za (fun w'=>ZuM a0 (a2++(⟨#[47,47]⟩:BA)) w')
 have HBE:=Za (show(decide ((a2++(⟨#[47,47]⟩:BA)).size≤a0.size)&&((tl a0).take (a2++(⟨#[47,47]⟩:BA)).size==tl (a2++(⟨#[47,47]⟩:BA))))=Zu7 (tl a0) (tl a2)by
  unfold Zu7;rw[Zm,tlApp7,tl_length,tl_length]
  rfl)
 clear z0 zb0
 go_enter Tryz.func35,Tryz.ntmps35
 go_upto_region 1 with fail;obtain⟨g1,g2,g4⟩:=ZvJ (w:=w) (a0:=a0) (a1:=a1) (a2:=a2) (a3:=a3) (a4:=a4) (a5:=a5) (a6:=a6) (a7:=a7) (a8:=a8) (a9:=a9) (a10:=a10) (b0:=b0) (b1:=b1) (b2:=b2) (b3:=b3) (b4:=b4) (b5:=b5) (b6:=b6) (b7:=b7) (b8:=b8) (b9:=b9) (b10:=b10) Nx.rfl;have HA:=Za g1;have HB:=Za g2;have HN:=Za g4;clear g1 g2 g4;generalize ((w.alloc (Obj.cells #[.string a0,.string a1,.string a2,.string a3,.string a4,.string a5,.string a6,.string a7,.string a8,.string a9,.string a10] 66)).alloc (Obj.cells #[.string b0,.string b1,.string b2,.string b3,.string b4,.string b5,.string b6,.string b7,.string b8,.string b9,.string b10] 66))=w1 at *;obtain⟨x0,x1,x2,x3,x4,x5,x6,x7,x8,x9,x10⟩:=HA.out.cells;obtain⟨y0,y1,y2,y3,y4,y5,y6,y7,y8,y9,y10⟩:=HB.out.cells;go_wp2_with fail
 refine(HSM.out _).mono ?_
 rintro e w' ⟨rfl,rfl⟩;go_upto_region 2 with fail
 go_cut [10]from 18 (fun x wx=>x=.bool (Zvo (tl a8))∧w1=wx)
 case first=>
  by_cases h0:a8.size=0
  ·have h0b:((a8.size:Int)==0)=true:=by rw[h0];rfl
   have HO:=Za (Zvg h0);clear h0;go_wp2
   go_meet
   case rel=>exact⟨by rw[HO.out],rfl⟩
  ·have h0b:((a8.size:Int)==0)=false:=beq_eq_false_iff_ne.2 (by omega)
   have hpos:0<a8.size:=by omega
   have HO:=Za (Zvc hpos)
   cases hsl:((a8[0].toNat:Int)==47)
   ·have hsl':((a8[0].toNat:Int) != 47)=true:=by simp only[bne,hsl];rfl
    have HO2:=Za (show Zvo (tl a8)=true by rw[HO.out];exact bne_iff_ne.2 (fun g=>by rw[g]at hsl;exact absurd hsl (by decide)))
    clear h0 HO;go_wp2
    go_meet
    case rel=>exact⟨by rw[HO2.out],rfl⟩
   ·have hsl':((a8[0].toNat:Int) != 47)=false:=by simp only[bne,hsl];rfl
    have e47:a8[0]=47:=Xa.1 (by have:=beq_iff_eq.1 hsl;show a8[0].toNat=47;omega)
    have HO2:=Za (show Zvo (tl a8)=false by rw[HO.out,e47];rfl)
    clear e47;clear h0 HO;go_wp2
    go_meet
    case rel=>exact⟨by rw[HO2.out],rfl⟩
 case rest=>
  obtain⟨rfl,rfl⟩:=hcut;go_wp2_with fail
  refine(HBG.out _).mono ?_
  rintro e w' ⟨rfl,rfl⟩;rw[HBE.out];go_upto_region 4 with fail
  go_cut [12]from 18 (fun x wx=>x=.bool (ZuX (tl a6) (tl a2))∧w1=wx)
  case first=>
   by_cases h6:a6.size=0
   ·have h6':=Zf h6
    have HO:=Za (show ZuX (tl a6) (tl a2)=true from decide_eq_true (Or.inl (Zz h6)));clear h6;go_wp2
    go_meet
    case rel=>exact⟨by rw[HO.out],rfl⟩
   ·have h6':=Ze h6
    by_cases h2:tl a2=Zva
    ·have h2':=eqB h2
     have HO:=Za (show ZuX (tl a6) (tl a2)=true from decide_eq_true (Or.inr h2));clear h6 h2;go_wp2
     go_meet
     case rel=>exact⟨by rw[HO.out],rfl⟩
    ·have h2':=neB h2
     have HO:=Za (show ZuX (tl a6) (tl a2)=false from decide_eq_false (by rintro(g|g);exact ZcC h6 g;exact h2 g))
     clear h6 h2;go_wp2
     go_meet
     case rel=>exact⟨by rw[HO.out],rfl⟩
  case rest=>
   obtain⟨rfl,rfl⟩:=hcut;generalize Zvo (tl a8)=op at *;generalize Zu7 (tl a0) (tl a2)=ho at *;generalize ZuX (tl a6) (tl a2)=ba at *;generalize ZuU (tl s)=sb at *
   cases sb
   ·go_wp2
    go_ret;exact⟨rfl,HN.out⟩
   ·by_cases hf:tl a2=Zva
    ·have hf':=eqB hf
     by_cases hl:tl s=Zej
     ·have hl':=eqB hl
      unfold Zej at hl';have h6:=Zf (HH.out.1 hf hl);clear hf hl;go_wp2;go_ret;exact⟨rfl,HN.out⟩
     ·have hl':=neB hl
      unfold Zej at hl'
      rcases HH.out.2 rfl (fun g=>hl g.2)with g|⟨g1,g2⟩
      ·have ht:(b6.toList==s.toList)=true:=Zvd g
       clear g;go_wp2;go_ret;exact⟨rfl,HN.out⟩
      ·subst g1
       subst g2
       cases ht:(b6.toList==s.toList)
       ·go_wp2
        go_ret;exact⟨rfl,HN.out⟩
       ·go_wp2
        go_ret;exact⟨rfl,HN.out⟩
    ·have hf':=neB hf
     rcases HH.out.2 rfl (fun g=>hf g.1)with g|⟨g1,g2⟩
     ·have ht:(b6.toList==s.toList)=true:=Zvd g
      clear g;go_wp2;go_ret;exact⟨rfl,HN.out⟩
     ·subst g1
      subst g2
      cases ht:(b6.toList==s.toList)
      ·go_wp2
       go_ret;exact⟨rfl,HN.out⟩
      ·go_wp2
       go_ret;exact⟨rfl,HN.out⟩
theorem ZyR(a0 a1 a2 a3 a4 a5 a6 a7 a8 a9 a10 b0 b1 b2 b3 b4 b5 b6 b7 b8 b9 b10 s:BA)(w:World)(z0:a0.size≤maxLen)(zb0:b0.size≤maxLen)(z2:a2.size≤1000001)(z8:a8.size≤200000000000)(zs:s.size≤65536)(hh:(tl a2=Zva→tl s=Zej→b6.size=0)∧(ZuU (tl s)=true→¬(tl a2=Zva∧tl s=Zej)→tl b6=tl s∨(Zvo (tl a8)=true∧Zu7 (tl a0) (tl a2)=false))):Calls Tryz.prog 35 #[.agg #[.string a0,.string a1,.string a2,.string a3,.string a4,.string a5,.string a6,.string a7,.string a8,.string a9,.string a10],.agg #[.string b0,.string b1,.string b2,.string b3,.string b4,.string b5,.string b6,.string b7,.string b8,.string b9,.string b10],.int .i64 5,.string s] w fun e w'=>e=.returned (.bool true)∧Nx w w':=by
 have HH:=Za hh;clear hh;have HZ0:=Za z0;have HZB:=Za zb0
 have HSM:=Za (fun w'=>Zu2 s w' (by unfold maxLen;omega))
 have HBG:=Za (fun w'=>ZuM a0 (a2++(⟨#[47,47]⟩:BA)) w')
 have HBE:=Za (show(decide ((a2++(⟨#[47,47]⟩:BA)).size≤a0.size)&&((tl a0).take (a2++(⟨#[47,47]⟩:BA)).size==tl (a2++(⟨#[47,47]⟩:BA))))=Zu7 (tl a0) (tl a2)by
  unfold Zu7;rw[Zm,tlApp7,tl_length,tl_length]
  rfl)
 clear z0 zb0
 go_enter Tryz.func35,Tryz.ntmps35
 go_upto_region 1 with fail;obtain⟨g1,g2,g4⟩:=ZvJ (w:=w) (a0:=a0) (a1:=a1) (a2:=a2) (a3:=a3) (a4:=a4) (a5:=a5) (a6:=a6) (a7:=a7) (a8:=a8) (a9:=a9) (a10:=a10) (b0:=b0) (b1:=b1) (b2:=b2) (b3:=b3) (b4:=b4) (b5:=b5) (b6:=b6) (b7:=b7) (b8:=b8) (b9:=b9) (b10:=b10) Nx.rfl;have HA:=Za g1;have HB:=Za g2;have HN:=Za g4;clear g1 g2 g4;generalize ((w.alloc (Obj.cells #[.string a0,.string a1,.string a2,.string a3,.string a4,.string a5,.string a6,.string a7,.string a8,.string a9,.string a10] 66)).alloc (Obj.cells #[.string b0,.string b1,.string b2,.string b3,.string b4,.string b5,.string b6,.string b7,.string b8,.string b9,.string b10] 66))=w1 at *;obtain⟨x0,x1,x2,x3,x4,x5,x6,x7,x8,x9,x10⟩:=HA.out.cells;obtain⟨y0,y1,y2,y3,y4,y5,y6,y7,y8,y9,y10⟩:=HB.out.cells;go_wp2_with fail
 refine(HSM.out _).mono ?_
 rintro e w' ⟨rfl,rfl⟩;go_upto_region 2 with fail
 go_cut [10]from 18 (fun x wx=>x=.bool (Zvo (tl a8))∧w1=wx)
 case first=>
  by_cases h0:a8.size=0
  ·have h0b:((a8.size:Int)==0)=true:=by rw[h0];rfl
   have HO:=Za (Zvg h0);clear h0;go_wp2
   go_meet
   case rel=>exact⟨by rw[HO.out],rfl⟩
  ·have h0b:((a8.size:Int)==0)=false:=beq_eq_false_iff_ne.2 (by omega)
   have hpos:0<a8.size:=by omega
   have HO:=Za (Zvc hpos)
   cases hsl:((a8[0].toNat:Int)==47)
   ·have hsl':((a8[0].toNat:Int) != 47)=true:=by simp only[bne,hsl];rfl
    have HO2:=Za (show Zvo (tl a8)=true by rw[HO.out];exact bne_iff_ne.2 (fun g=>by rw[g]at hsl;exact absurd hsl (by decide)))
    clear h0 HO;go_wp2
    go_meet
    case rel=>exact⟨by rw[HO2.out],rfl⟩
   ·have hsl':((a8[0].toNat:Int) != 47)=false:=by simp only[bne,hsl];rfl
    have e47:a8[0]=47:=Xa.1 (by have:=beq_iff_eq.1 hsl;show a8[0].toNat=47;omega)
    have HO2:=Za (show Zvo (tl a8)=false by rw[HO.out,e47];rfl)
    clear e47;clear h0 HO;go_wp2
    go_meet
    case rel=>exact⟨by rw[HO2.out],rfl⟩
 case rest=>
  obtain⟨rfl,rfl⟩:=hcut;go_wp2_with fail
  refine(HBG.out _).mono ?_
  rintro e w' ⟨rfl,rfl⟩;rw[HBE.out];go_upto_region 4 with fail
  go_cut [12]from 18 (fun x wx=>x=.bool (ZuX (tl a6) (tl a2))∧w1=wx)
  case first=>
   by_cases h6:a6.size=0
   ·have h6':=Zf h6
    have HO:=Za (show ZuX (tl a6) (tl a2)=true from decide_eq_true (Or.inl (Zz h6)));clear h6;go_wp2
    go_meet
    case rel=>exact⟨by rw[HO.out],rfl⟩
   ·have h6':=Ze h6
    by_cases h2:tl a2=Zva
    ·have h2':=eqB h2
     have HO:=Za (show ZuX (tl a6) (tl a2)=true from decide_eq_true (Or.inr h2));clear h6 h2;go_wp2
     go_meet
     case rel=>exact⟨by rw[HO.out],rfl⟩
    ·have h2':=neB h2
     have HO:=Za (show ZuX (tl a6) (tl a2)=false from decide_eq_false (by rintro(g|g);exact ZcC h6 g;exact h2 g))
     clear h6 h2;go_wp2
     go_meet
     case rel=>exact⟨by rw[HO.out],rfl⟩
  case rest=>
   obtain⟨rfl,rfl⟩:=hcut;generalize Zvo (tl a8)=op at *;generalize Zu7 (tl a0) (tl a2)=ho at *;generalize ZuX (tl a6) (tl a2)=ba at *;generalize ZuU (tl s)=sb at *
   cases sb
   ·go_wp2
    go_ret;exact⟨rfl,HN.out⟩
   ·by_cases hf:tl a2=Zva
    ·have hf':=eqB hf
     by_cases hl:tl s=Zej
     ·have hl':=eqB hl
      unfold Zej at hl';have h6:=Zf (HH.out.1 hf hl);clear hf hl;go_wp2;go_ret;exact⟨rfl,HN.out⟩
     ·have hl':=neB hl
      unfold Zej at hl'
      rcases HH.out.2 rfl (fun g=>hl g.2)with g|⟨g1,g2⟩
      ·have ht:(b6.toList==s.toList)=true:=Zvd g
       clear g;go_wp2;go_ret;exact⟨rfl,HN.out⟩
      ·subst g1
       subst g2
       cases ht:(b6.toList==s.toList)
       ·go_wp2
        go_ret;exact⟨rfl,HN.out⟩
       ·go_wp2
        go_ret;exact⟨rfl,HN.out⟩
    ·have hf':=neB hf
     rcases HH.out.2 rfl (fun g=>hf g.1)with g|⟨g1,g2⟩
     ·have ht:(b6.toList==s.toList)=true:=Zvd g
      clear g;go_wp2;go_ret;exact⟨rfl,HN.out⟩
     ·subst g1
      subst g2
      cases ht:(b6.toList==s.toList)
      ·go_wp2
       go_ret;exact⟨rfl,HN.out⟩
      ·go_wp2
       go_ret;exact⟨rfl,HN.out⟩
theorem ZyS(a0 a1 a2 a3 a4 a5 a6 a7 a8 a9 a10 b0 b1 b2 b3 b4 b5 b6 b7 b8 b9 b10 s:BA)(w:World)(z0:a0.size≤maxLen)(zb0:b0.size≤maxLen)(z2:a2.size≤1000001)(z8:a8.size≤200000000000)(zs:s.size≤65536)(hh:ZuU (tl s)=true→tl b8=47::tl s∨(Zvo (tl a8)=true∧Zu7 (tl a0) (tl a2)=false)):Calls Tryz.prog 35 #[.agg #[.string a0,.string a1,.string a2,.string a3,.string a4,.string a5,.string a6,.string a7,.string a8,.string a9,.string a10],.agg #[.string b0,.string b1,.string b2,.string b3,.string b4,.string b5,.string b6,.string b7,.string b8,.string b9,.string b10],.int .i64 7,.string s] w fun e w'=>e=.returned (.bool true)∧Nx w w':=by
 have HH:=Za hh;clear hh;have HZ0:=Za z0;have HZB:=Za zb0
 have HSM:=Za (fun w'=>Zu2 s w' (by unfold maxLen;omega))
 have HBG:=Za (fun w'=>ZuM a0 (a2++(⟨#[47,47]⟩:BA)) w')
 have HBE:=Za (show(decide ((a2++(⟨#[47,47]⟩:BA)).size≤a0.size)&&((tl a0).take (a2++(⟨#[47,47]⟩:BA)).size==tl (a2++(⟨#[47,47]⟩:BA))))=Zu7 (tl a0) (tl a2)by
  unfold Zu7;rw[Zm,tlApp7,tl_length,tl_length]
  rfl)
 clear z0 zb0
 go_enter Tryz.func35,Tryz.ntmps35
 go_upto_region 1 with fail;obtain⟨g1,g2,g4⟩:=ZvJ (w:=w) (a0:=a0) (a1:=a1) (a2:=a2) (a3:=a3) (a4:=a4) (a5:=a5) (a6:=a6) (a7:=a7) (a8:=a8) (a9:=a9) (a10:=a10) (b0:=b0) (b1:=b1) (b2:=b2) (b3:=b3) (b4:=b4) (b5:=b5) (b6:=b6) (b7:=b7) (b8:=b8) (b9:=b9) (b10:=b10) Nx.rfl;have HA:=Za g1;have HB:=Za g2;have HN:=Za g4;clear g1 g2 g4;generalize ((w.alloc (Obj.cells #[.string a0,.string a1,.string a2,.string a3,.string a4,.string a5,.string a6,.string a7,.string a8,.string a9,.string a10] 66)).alloc (Obj.cells #[.string b0,.string b1,.string b2,.string b3,.string b4,.string b5,.string b6,.string b7,.string b8,.string b9,.string b10] 66))=w1 at *;obtain⟨x0,x1,x2,x3,x4,x5,x6,x7,x8,x9,x10⟩:=HA.out.cells;obtain⟨y0,y1,y2,y3,y4,y5,y6,y7,y8,y9,y10⟩:=HB.out.cells;go_wp2_with fail
 refine(HSM.out _).mono ?_
 rintro e w' ⟨rfl,rfl⟩;go_upto_region 2 with fail
 go_cut [10]from 18 (fun x wx=>x=.bool (Zvo (tl a8))∧w1=wx)
 case first=>
  by_cases h0:a8.size=0
  ·have h0b:((a8.size:Int)==0)=true:=by rw[h0];rfl
   have HO:=Za (Zvg h0);clear h0;go_wp2
   go_meet
   case rel=>exact⟨by rw[HO.out],rfl⟩
  ·have h0b:((a8.size:Int)==0)=false:=beq_eq_false_iff_ne.2 (by omega)
   have hpos:0<a8.size:=by omega
   have HO:=Za (Zvc hpos)
   cases hsl:((a8[0].toNat:Int)==47)
   ·have hsl':((a8[0].toNat:Int) != 47)=true:=by simp only[bne,hsl];rfl
    have HO2:=Za (show Zvo (tl a8)=true by rw[HO.out];exact bne_iff_ne.2 (fun g=>by rw[g]at hsl;exact absurd hsl (by decide)))
    clear h0 HO;go_wp2
    go_meet
    case rel=>exact⟨by rw[HO2.out],rfl⟩
   ·have hsl':((a8[0].toNat:Int) != 47)=false:=by simp only[bne,hsl];rfl
    have e47:a8[0]=47:=Xa.1 (by have:=beq_iff_eq.1 hsl;show a8[0].toNat=47;omega)
    have HO2:=Za (show Zvo (tl a8)=false by rw[HO.out,e47];rfl)
    clear e47;clear h0 HO;go_wp2
    go_meet
    case rel=>exact⟨by rw[HO2.out],rfl⟩
 case rest=>
  obtain⟨rfl,rfl⟩:=hcut;go_wp2_with fail
  refine(HBG.out _).mono ?_
  rintro e w' ⟨rfl,rfl⟩;rw[HBE.out];go_upto_region 4 with fail
  go_cut [12]from 18 (fun x wx=>x=.bool (ZuX (tl a6) (tl a2))∧w1=wx)
  case first=>
   by_cases h6:a6.size=0
   ·have h6':=Zf h6
    have HO:=Za (show ZuX (tl a6) (tl a2)=true from decide_eq_true (Or.inl (Zz h6)));clear h6;go_wp2
    go_meet
    case rel=>exact⟨by rw[HO.out],rfl⟩
   ·have h6':=Ze h6
    by_cases h2:tl a2=Zva
    ·have h2':=eqB h2
     have HO:=Za (show ZuX (tl a6) (tl a2)=true from decide_eq_true (Or.inr h2));clear h6 h2;go_wp2
     go_meet
     case rel=>exact⟨by rw[HO.out],rfl⟩
    ·have h2':=neB h2
     have HO:=Za (show ZuX (tl a6) (tl a2)=false from decide_eq_false (by rintro(g|g);exact ZcC h6 g;exact h2 g))
     clear h6 h2;go_wp2
     go_meet
     case rel=>exact⟨by rw[HO.out],rfl⟩
  case rest=>
   obtain⟨rfl,rfl⟩:=hcut;generalize Zvo (tl a8)=op at *;generalize Zu7 (tl a0) (tl a2)=ho at *;generalize ZuX (tl a6) (tl a2)=ba at *;generalize ZuU (tl s)=sb at *
   cases sb
   ·go_wp2
    go_ret;exact⟨rfl,HN.out⟩
   ·rcases HH.out rfl with g|⟨g1,g2⟩
    ·have ht:(b8.toList==((⟨#[47]⟩:BA)++s).toList)=true:=Zvd (by rw[g,tlApp7];rfl)
     clear g;go_wp2;go_ret;exact⟨rfl,HN.out⟩
    ·subst g1
     subst g2
     cases ht:(b8.toList==((⟨#[47]⟩:BA)++s).toList)
     ·go_wp2
      go_ret;exact⟨rfl,HN.out⟩
     ·go_wp2
      go_ret;exact⟨rfl,HN.out⟩
theorem ZyT(a0 a1 a2 a3 a4 a5 a6 a7 a8 a9 a10 b0 b1 b2 b3 b4 b5 b6 b7 b8 b9 b10 s:BA)(w:World)(z0:a0.size≤maxLen)(zb0:b0.size≤maxLen)(z2:a2.size≤1000001)(z8:a8.size≤200000000000)(zs:s.size≤65536)(hh:(s.size=0→b7.size=0)∧(ZuU (tl s)=true→tl b7=tl a7)):Calls Tryz.prog 35 #[.agg #[.string a0,.string a1,.string a2,.string a3,.string a4,.string a5,.string a6,.string a7,.string a8,.string a9,.string a10],.agg #[.string b0,.string b1,.string b2,.string b3,.string b4,.string b5,.string b6,.string b7,.string b8,.string b9,.string b10],.int .i64 6,.string s] w fun e w'=>e=.returned (.bool true)∧Nx w w':=by
 have HH:=Za hh;clear hh;have HZ0:=Za z0;have HZB:=Za zb0
 have HSM:=Za (fun w'=>Zu2 s w' (by unfold maxLen;omega))
 have HBG:=Za (fun w'=>ZuM a0 (a2++(⟨#[47,47]⟩:BA)) w')
 have HBE:=Za (show(decide ((a2++(⟨#[47,47]⟩:BA)).size≤a0.size)&&((tl a0).take (a2++(⟨#[47,47]⟩:BA)).size==tl (a2++(⟨#[47,47]⟩:BA))))=Zu7 (tl a0) (tl a2)by
  unfold Zu7;rw[Zm,tlApp7,tl_length,tl_length]
  rfl)
 clear z0 zb0
 go_enter Tryz.func35,Tryz.ntmps35
 go_upto_region 1 with fail;obtain⟨g1,g2,g4⟩:=ZvJ (w:=w) (a0:=a0) (a1:=a1) (a2:=a2) (a3:=a3) (a4:=a4) (a5:=a5) (a6:=a6) (a7:=a7) (a8:=a8) (a9:=a9) (a10:=a10) (b0:=b0) (b1:=b1) (b2:=b2) (b3:=b3) (b4:=b4) (b5:=b5) (b6:=b6) (b7:=b7) (b8:=b8) (b9:=b9) (b10:=b10) Nx.rfl;have HA:=Za g1;have HB:=Za g2;have HN:=Za g4;clear g1 g2 g4;generalize ((w.alloc (Obj.cells #[.string a0,.string a1,.string a2,.string a3,.string a4,.string a5,.string a6,.string a7,.string a8,.string a9,.string a10] 66)).alloc (Obj.cells #[.string b0,.string b1,.string b2,.string b3,.string b4,.string b5,.string b6,.string b7,.string b8,.string b9,.string b10] 66))=w1 at *;obtain⟨x0,x1,x2,x3,x4,x5,x6,x7,x8,x9,x10⟩:=HA.out.cells;obtain⟨y0,y1,y2,y3,y4,y5,y6,y7,y8,y9,y10⟩:=HB.out.cells;go_wp2_with fail
 refine(HSM.out _).mono ?_
 rintro e w' ⟨rfl,rfl⟩;go_upto_region 2 with fail
 go_cut [10]from 18 (fun x wx=>x=.bool (Zvo (tl a8))∧w1=wx)
 case first=>
  by_cases h0:a8.size=0
  ·have h0b:((a8.size:Int)==0)=true:=by rw[h0];rfl
   have HO:=Za (Zvg h0);clear h0;go_wp2
   go_meet
   case rel=>exact⟨by rw[HO.out],rfl⟩
  ·have h0b:((a8.size:Int)==0)=false:=beq_eq_false_iff_ne.2 (by omega)
   have hpos:0<a8.size:=by omega
   have HO:=Za (Zvc hpos)
   cases hsl:((a8[0].toNat:Int)==47)
   ·have hsl':((a8[0].toNat:Int) != 47)=true:=by simp only[bne,hsl];rfl
    have HO2:=Za (show Zvo (tl a8)=true by rw[HO.out];exact bne_iff_ne.2 (fun g=>by rw[g]at hsl;exact absurd hsl (by decide)))
    clear h0 HO;go_wp2
    go_meet
    case rel=>exact⟨by rw[HO2.out],rfl⟩
   ·have hsl':((a8[0].toNat:Int) != 47)=false:=by simp only[bne,hsl];rfl
    have e47:a8[0]=47:=Xa.1 (by have:=beq_iff_eq.1 hsl;show a8[0].toNat=47;omega)
    have HO2:=Za (show Zvo (tl a8)=false by rw[HO.out,e47];rfl)
    clear e47;clear h0 HO;go_wp2
    go_meet
    case rel=>exact⟨by rw[HO2.out],rfl⟩
 case rest=>
  obtain⟨rfl,rfl⟩:=hcut;go_wp2_with fail
  refine(HBG.out _).mono ?_
  rintro e w' ⟨rfl,rfl⟩;rw[HBE.out];go_upto_region 4 with fail
  go_cut [12]from 18 (fun x wx=>x=.bool (ZuX (tl a6) (tl a2))∧w1=wx)
  case first=>
   by_cases h6:a6.size=0
   ·have h6':=Zf h6
    have HO:=Za (show ZuX (tl a6) (tl a2)=true from decide_eq_true (Or.inl (Zz h6)));clear h6;go_wp2
    go_meet
    case rel=>exact⟨by rw[HO.out],rfl⟩
   ·have h6':=Ze h6
    by_cases h2:tl a2=Zva
    ·have h2':=eqB h2
     have HO:=Za (show ZuX (tl a6) (tl a2)=true from decide_eq_true (Or.inr h2));clear h6 h2;go_wp2
     go_meet
     case rel=>exact⟨by rw[HO.out],rfl⟩
    ·have h2':=neB h2
     have HO:=Za (show ZuX (tl a6) (tl a2)=false from decide_eq_false (by rintro(g|g);exact ZcC h6 g;exact h2 g))
     clear h6 h2;go_wp2
     go_meet
     case rel=>exact⟨by rw[HO.out],rfl⟩
  case rest=>
   obtain⟨rfl,rfl⟩:=hcut;generalize Zvo (tl a8)=op at *;generalize Zu7 (tl a0) (tl a2)=ho at *;generalize ZuX (tl a6) (tl a2)=ba at *;generalize ZuU (tl s)=sb at *
   by_cases hz:s.size=0
   ·have hz':=Zf hz
    have h7:=Zf (HH.out.1 hz);clear hz;go_wp2;go_ret;exact⟨rfl,HN.out⟩
   ·have hz':=Ze hz
    cases sb
    ·go_wp2
     go_ret;exact⟨rfl,HN.out⟩
    ·have ht:(b7.toList==a7.toList)=true:=Zvd (HH.out.2 rfl)
     go_wp2;go_ret;exact⟨rfl,HN.out⟩
theorem ZyU(a0 a1 a2 a3 a4 a5 a6 a7 a8 a9 a10 b0 b1 b2 b3 b4 b5 b6 b7 b8 b9 b10 s:BA)(w:World)(z0:a0.size≤maxLen)(zb0:b0.size≤maxLen)(z2:a2.size≤1000001)(z8:a8.size≤200000000000)(zs:s.size≤65536)(hh:(s.size=0→signsB 63 (tl b0)=false∧b9.size=0)∧(ZuU (tl s)=true→tl b9=63::tl s)):Calls Tryz.prog 35 #[.agg #[.string a0,.string a1,.string a2,.string a3,.string a4,.string a5,.string a6,.string a7,.string a8,.string a9,.string a10],.agg #[.string b0,.string b1,.string b2,.string b3,.string b4,.string b5,.string b6,.string b7,.string b8,.string b9,.string b10],.int .i64 8,.string s] w fun e w'=>e=.returned (.bool true)∧Nx w w':=by
 have HH:=Za hh;clear hh;have HZ0:=Za z0;have HZB:=Za zb0
 have HSM:=Za (fun w'=>Zu2 s w' (by unfold maxLen;omega))
 have HBG:=Za (fun w'=>ZuM a0 (a2++(⟨#[47,47]⟩:BA)) w')
 have HBE:=Za (show(decide ((a2++(⟨#[47,47]⟩:BA)).size≤a0.size)&&((tl a0).take (a2++(⟨#[47,47]⟩:BA)).size==tl (a2++(⟨#[47,47]⟩:BA))))=Zu7 (tl a0) (tl a2)by
  unfold Zu7;rw[Zm,tlApp7,tl_length,tl_length]
  rfl)
 clear z0 zb0
 go_enter Tryz.func35,Tryz.ntmps35
 go_upto_region 1 with fail;obtain⟨g1,g2,g4⟩:=ZvJ (w:=w) (a0:=a0) (a1:=a1) (a2:=a2) (a3:=a3) (a4:=a4) (a5:=a5) (a6:=a6) (a7:=a7) (a8:=a8) (a9:=a9) (a10:=a10) (b0:=b0) (b1:=b1) (b2:=b2) (b3:=b3) (b4:=b4) (b5:=b5) (b6:=b6) (b7:=b7) (b8:=b8) (b9:=b9) (b10:=b10) Nx.rfl;have HA:=Za g1;have HB:=Za g2;have HN:=Za g4;clear g1 g2 g4;generalize ((w.alloc (Obj.cells #[.string a0,.string a1,.string a2,.string a3,.string a4,.string a5,.string a6,.string a7,.string a8,.string a9,.string a10] 66)).alloc (Obj.cells #[.string b0,.string b1,.string b2,.string b3,.string b4,.string b5,.string b6,.string b7,.string b8,.string b9,.string b10] 66))=w1 at *;obtain⟨x0,x1,x2,x3,x4,x5,x6,x7,x8,x9,x10⟩:=HA.out.cells;obtain⟨y0,y1,y2,y3,y4,y5,y6,y7,y8,y9,y10⟩:=HB.out.cells;go_wp2_with fail
 refine(HSM.out _).mono ?_
 rintro e w' ⟨rfl,rfl⟩;go_upto_region 2 with fail
 go_cut [10]from 18 (fun x wx=>x=.bool (Zvo (tl a8))∧w1=wx)
 case first=>
  by_cases h0:a8.size=0
  ·have h0b:((a8.size:Int)==0)=true:=by rw[h0];rfl
   have HO:=Za (Zvg h0);clear h0;go_wp2
   go_meet
   case rel=>exact⟨by rw[HO.out],rfl⟩
  ·have h0b:((a8.size:Int)==0)=false:=beq_eq_false_iff_ne.2 (by omega)
   have hpos:0<a8.size:=by omega
   have HO:=Za (Zvc hpos)
   cases hsl:((a8[0].toNat:Int)==47)
   ·have hsl':((a8[0].toNat:Int) != 47)=true:=by simp only[bne,hsl];rfl
    have HO2:=Za (show Zvo (tl a8)=true by rw[HO.out];exact bne_iff_ne.2 (fun g=>by rw[g]at hsl;exact absurd hsl (by decide)))
    clear h0 HO;go_wp2
    go_meet
    case rel=>exact⟨by rw[HO2.out],rfl⟩
   ·have hsl':((a8[0].toNat:Int) != 47)=false:=by simp only[bne,hsl];rfl
    have e47:a8[0]=47:=Xa.1 (by have:=beq_iff_eq.1 hsl;show a8[0].toNat=47;omega)
    have HO2:=Za (show Zvo (tl a8)=false by rw[HO.out,e47];rfl)
    clear e47;clear h0 HO;go_wp2
    go_meet
    case rel=>exact⟨by rw[HO2.out],rfl⟩
 case rest=>
  obtain⟨rfl,rfl⟩:=hcut;go_wp2_with fail
  refine(HBG.out _).mono ?_
  rintro e w' ⟨rfl,rfl⟩;rw[HBE.out];go_upto_region 4 with fail
  go_cut [12]from 18 (fun x wx=>x=.bool (ZuX (tl a6) (tl a2))∧w1=wx)
  case first=>
   by_cases h6:a6.size=0
   ·have h6':=Zf h6
    have HO:=Za (show ZuX (tl a6) (tl a2)=true from decide_eq_true (Or.inl (Zz h6)));clear h6;go_wp2
    go_meet
    case rel=>exact⟨by rw[HO.out],rfl⟩
   ·have h6':=Ze h6
    by_cases h2:tl a2=Zva
    ·have h2':=eqB h2
     have HO:=Za (show ZuX (tl a6) (tl a2)=true from decide_eq_true (Or.inr h2));clear h6 h2;go_wp2
     go_meet
     case rel=>exact⟨by rw[HO.out],rfl⟩
    ·have h2':=neB h2
     have HO:=Za (show ZuX (tl a6) (tl a2)=false from decide_eq_false (by rintro(g|g);exact ZcC h6 g;exact h2 g))
     clear h6 h2;go_wp2
     go_meet
     case rel=>exact⟨by rw[HO.out],rfl⟩
  case rest=>
   obtain⟨rfl,rfl⟩:=hcut;generalize Zvo (tl a8)=op at *;generalize Zu7 (tl a0) (tl a2)=ho at *;generalize ZuX (tl a6) (tl a2)=ba at *;generalize ZuU (tl s)=sb at *
   by_cases hz:s.size=0
   ·have hz':=Zf hz
    obtain⟨g1,g2⟩:=HH.out.1 hz;have h9:=Zf g2;clear hz g2;go_wp2_with fail
    refine(ZwL b0 63 _ HZB.out).mono ?_
    rintro e w' ⟨rfl,rfl⟩;rw[g1];clear g1;go_wp2;go_ret;exact⟨rfl,HN.out⟩
   ·have hz':=Ze hz
    cases sb
    ·go_wp2
     go_ret;exact⟨rfl,HN.out⟩
    ·have ht:(b9.toList==((⟨#[63]⟩:BA)++s).toList)=true:=Zvd (by rw[HH.out.2 rfl,tlApp7];rfl)
     go_wp2;go_ret;exact⟨rfl,HN.out⟩
theorem ZyV(a0 a1 a2 a3 a4 a5 a6 a7 a8 a9 a10 b0 b1 b2 b3 b4 b5 b6 b7 b8 b9 b10 s:BA)(w:World)(z0:a0.size≤maxLen)(zb0:b0.size≤maxLen)(z2:a2.size≤1000001)(z8:a8.size≤200000000000)(zs:s.size≤65536)(hh:(s.size=0→signsB 35 (tl b0)=false∧b10.size=0)∧(ZuU (tl s)=true→tl b10=35::tl s)):Calls Tryz.prog 35 #[.agg #[.string a0,.string a1,.string a2,.string a3,.string a4,.string a5,.string a6,.string a7,.string a8,.string a9,.string a10],.agg #[.string b0,.string b1,.string b2,.string b3,.string b4,.string b5,.string b6,.string b7,.string b8,.string b9,.string b10],.int .i64 9,.string s] w fun e w'=>e=.returned (.bool true)∧Nx w w':=by
 have HH:=Za hh;clear hh;have HZ0:=Za z0;have HZB:=Za zb0
 have HSM:=Za (fun w'=>Zu2 s w' (by unfold maxLen;omega))
 have HBG:=Za (fun w'=>ZuM a0 (a2++(⟨#[47,47]⟩:BA)) w')
 have HBE:=Za (show(decide ((a2++(⟨#[47,47]⟩:BA)).size≤a0.size)&&((tl a0).take (a2++(⟨#[47,47]⟩:BA)).size==tl (a2++(⟨#[47,47]⟩:BA))))=Zu7 (tl a0) (tl a2)by
  unfold Zu7;rw[Zm,tlApp7,tl_length,tl_length]
  rfl)
 clear z0 zb0
 go_enter Tryz.func35,Tryz.ntmps35
 go_upto_region 1 with fail;obtain⟨g1,g2,g4⟩:=ZvJ (w:=w) (a0:=a0) (a1:=a1) (a2:=a2) (a3:=a3) (a4:=a4) (a5:=a5) (a6:=a6) (a7:=a7) (a8:=a8) (a9:=a9) (a10:=a10) (b0:=b0) (b1:=b1) (b2:=b2) (b3:=b3) (b4:=b4) (b5:=b5) (b6:=b6) (b7:=b7) (b8:=b8) (b9:=b9) (b10:=b10) Nx.rfl;have HA:=Za g1;have HB:=Za g2;have HN:=Za g4;clear g1 g2 g4;generalize ((w.alloc (Obj.cells #[.string a0,.string a1,.string a2,.string a3,.string a4,.string a5,.string a6,.string a7,.string a8,.string a9,.string a10] 66)).alloc (Obj.cells #[.string b0,.string b1,.string b2,.string b3,.string b4,.string b5,.string b6,.string b7,.string b8,.string b9,.string b10] 66))=w1 at *;obtain⟨x0,x1,x2,x3,x4,x5,x6,x7,x8,x9,x10⟩:=HA.out.cells;obtain⟨y0,y1,y2,y3,y4,y5,y6,y7,y8,y9,y10⟩:=HB.out.cells;go_wp2_with fail
 refine(HSM.out _).mono ?_
 rintro e w' ⟨rfl,rfl⟩;go_upto_region 2 with fail
 go_cut [10]from 18 (fun x wx=>x=.bool (Zvo (tl a8))∧w1=wx)
 case first=>
  by_cases h0:a8.size=0
  ·have h0b:((a8.size:Int)==0)=true:=by rw[h0];rfl
   have HO:=Za (Zvg h0);clear h0;go_wp2
   go_meet
   case rel=>exact⟨by rw[HO.out],rfl⟩
  ·have h0b:((a8.size:Int)==0)=false:=beq_eq_false_iff_ne.2 (by omega)
   have hpos:0<a8.size:=by omega
   have HO:=Za (Zvc hpos)
   cases hsl:((a8[0].toNat:Int)==47)
   ·have hsl':((a8[0].toNat:Int) != 47)=true:=by simp only[bne,hsl];rfl
    have HO2:=Za (show Zvo (tl a8)=true by rw[HO.out];exact bne_iff_ne.2 (fun g=>by rw[g]at hsl;exact absurd hsl (by decide)))
    clear h0 HO;go_wp2
    go_meet
    case rel=>exact⟨by rw[HO2.out],rfl⟩
   ·have hsl':((a8[0].toNat:Int) != 47)=false:=by simp only[bne,hsl];rfl
    have e47:a8[0]=47:=Xa.1 (by have:=beq_iff_eq.1 hsl;show a8[0].toNat=47;omega)
    have HO2:=Za (show Zvo (tl a8)=false by rw[HO.out,e47];rfl)
    clear e47;clear h0 HO;go_wp2
    go_meet
    case rel=>exact⟨by rw[HO2.out],rfl⟩
 case rest=>
  obtain⟨rfl,rfl⟩:=hcut;go_wp2_with fail
  refine(HBG.out _).mono ?_
  rintro e w' ⟨rfl,rfl⟩;rw[HBE.out];go_upto_region 4 with fail
  go_cut [12]from 18 (fun x wx=>x=.bool (ZuX (tl a6) (tl a2))∧w1=wx)
  case first=>
   by_cases h6:a6.size=0
   ·have h6':=Zf h6
    have HO:=Za (show ZuX (tl a6) (tl a2)=true from decide_eq_true (Or.inl (Zz h6)));clear h6;go_wp2
    go_meet
    case rel=>exact⟨by rw[HO.out],rfl⟩
   ·have h6':=Ze h6
    by_cases h2:tl a2=Zva
    ·have h2':=eqB h2
     have HO:=Za (show ZuX (tl a6) (tl a2)=true from decide_eq_true (Or.inr h2));clear h6 h2;go_wp2
     go_meet
     case rel=>exact⟨by rw[HO.out],rfl⟩
    ·have h2':=neB h2
     have HO:=Za (show ZuX (tl a6) (tl a2)=false from decide_eq_false (by rintro(g|g);exact ZcC h6 g;exact h2 g))
     clear h6 h2;go_wp2
     go_meet
     case rel=>exact⟨by rw[HO.out],rfl⟩
  case rest=>
   obtain⟨rfl,rfl⟩:=hcut;generalize Zvo (tl a8)=op at *;generalize Zu7 (tl a0) (tl a2)=ho at *;generalize ZuX (tl a6) (tl a2)=ba at *;generalize ZuU (tl s)=sb at *
   by_cases hz:s.size=0
   ·have hz':=Zf hz
    obtain⟨g1,g2⟩:=HH.out.1 hz;have h9:=Zf g2;clear hz g2;go_wp2_with fail
    refine(ZwL b0 35 _ HZB.out).mono ?_
    rintro e w' ⟨rfl,rfl⟩;rw[g1];clear g1;go_wp2;go_ret;exact⟨rfl,HN.out⟩
   ·have hz':=Ze hz
    cases sb
    ·go_wp2
     go_ret;exact⟨rfl,HN.out⟩
    ·have ht:(b10.toList==((⟨#[35]⟩:BA)++s).toList)=true:=Zvd (by rw[HH.out.2 rfl,tlApp7];rfl)
     go_wp2;go_ret;exact⟨rfl,HN.out⟩
theorem ZyW(a0 a1 a2 a3 a4 a5 a6 a7 a8 a9 a10 b0 b1 b2 b3 b4 b5 b6 b7 b8 b9 b10 s:BA)(w:World)(z0:a0.size≤maxLen)(zb0:b0.size≤maxLen)(z2:a2.size≤1000001)(z8:a8.size≤200000000000)(zs:s.size≤65536)(hh:ZuU (tl s)=true→(¬(ZuO (tl a2)=ZuO (tl s++[58])∧ZuO (tl a2)=ZuO (tl b2))→tl b2=tl a2)∧(ZuO (tl a2)=ZuO (tl s++[58])→ZuO (tl a2)=ZuO (tl b2)→tl b2=tl s++[58]∨tl s=[102,105,108,101]∨tl a2=[102,105,108,101,58])):Calls Tryz.prog 35 #[.agg #[.string a0,.string a1,.string a2,.string a3,.string a4,.string a5,.string a6,.string a7,.string a8,.string a9,.string a10],.agg #[.string b0,.string b1,.string b2,.string b3,.string b4,.string b5,.string b6,.string b7,.string b8,.string b9,.string b10],.int .i64 1,.string s] w fun e w'=>e=.returned (.bool true)∧Nx w w':=by
 have HH:=Za hh;clear hh;have HZ0:=Za z0;have HZB:=Za zb0
 have HSM:=Za (fun w'=>Zu2 s w' (by unfold maxLen;omega))
 have HBG:=Za (fun w'=>ZuM a0 (a2++(⟨#[47,47]⟩:BA)) w')
 have HBE:=Za (show(decide ((a2++(⟨#[47,47]⟩:BA)).size≤a0.size)&&((tl a0).take (a2++(⟨#[47,47]⟩:BA)).size==tl (a2++(⟨#[47,47]⟩:BA))))=Zu7 (tl a0) (tl a2)by
  unfold Zu7;rw[Zm,tlApp7,tl_length,tl_length]
  rfl)
 clear z0 zb0
 go_enter Tryz.func35,Tryz.ntmps35
 go_upto_region 1 with fail;obtain⟨g1,g2,g4⟩:=ZvJ (w:=w) (a0:=a0) (a1:=a1) (a2:=a2) (a3:=a3) (a4:=a4) (a5:=a5) (a6:=a6) (a7:=a7) (a8:=a8) (a9:=a9) (a10:=a10) (b0:=b0) (b1:=b1) (b2:=b2) (b3:=b3) (b4:=b4) (b5:=b5) (b6:=b6) (b7:=b7) (b8:=b8) (b9:=b9) (b10:=b10) Nx.rfl;have HA:=Za g1;have HB:=Za g2;have HN:=Za g4;clear g1 g2 g4;generalize ((w.alloc (Obj.cells #[.string a0,.string a1,.string a2,.string a3,.string a4,.string a5,.string a6,.string a7,.string a8,.string a9,.string a10] 66)).alloc (Obj.cells #[.string b0,.string b1,.string b2,.string b3,.string b4,.string b5,.string b6,.string b7,.string b8,.string b9,.string b10] 66))=w1 at *;obtain⟨x0,x1,x2,x3,x4,x5,x6,x7,x8,x9,x10⟩:=HA.out.cells;obtain⟨y0,y1,y2,y3,y4,y5,y6,y7,y8,y9,y10⟩:=HB.out.cells;go_wp2_with fail
 refine(HSM.out _).mono ?_
 rintro e w' ⟨rfl,rfl⟩;go_upto_region 2 with fail
 go_cut [10]from 18 (fun x wx=>x=.bool (Zvo (tl a8))∧w1=wx)
 case first=>
  by_cases h0:a8.size=0
  ·have h0b:((a8.size:Int)==0)=true:=by rw[h0];rfl
   have HO:=Za (Zvg h0);clear h0;go_wp2
   go_meet
   case rel=>exact⟨by rw[HO.out],rfl⟩
  ·have h0b:((a8.size:Int)==0)=false:=beq_eq_false_iff_ne.2 (by omega)
   have hpos:0<a8.size:=by omega
   have HO:=Za (Zvc hpos)
   cases hsl:((a8[0].toNat:Int)==47)
   ·have hsl':((a8[0].toNat:Int) != 47)=true:=by simp only[bne,hsl];rfl
    have HO2:=Za (show Zvo (tl a8)=true by rw[HO.out];exact bne_iff_ne.2 (fun g=>by rw[g]at hsl;exact absurd hsl (by decide)))
    clear h0 HO;go_wp2
    go_meet
    case rel=>exact⟨by rw[HO2.out],rfl⟩
   ·have hsl':((a8[0].toNat:Int) != 47)=false:=by simp only[bne,hsl];rfl
    have e47:a8[0]=47:=Xa.1 (by have:=beq_iff_eq.1 hsl;show a8[0].toNat=47;omega)
    have HO2:=Za (show Zvo (tl a8)=false by rw[HO.out,e47];rfl)
    clear e47;clear h0 HO;go_wp2
    go_meet
    case rel=>exact⟨by rw[HO2.out],rfl⟩
 case rest=>
  obtain⟨rfl,rfl⟩:=hcut;go_wp2_with fail
  refine(HBG.out _).mono ?_
  rintro e w' ⟨rfl,rfl⟩;rw[HBE.out];go_upto_region 4 with fail
  go_cut [12]from 18 (fun x wx=>x=.bool (ZuX (tl a6) (tl a2))∧w1=wx)
  case first=>
   by_cases h6:a6.size=0
   ·have h6':=Zf h6
    have HO:=Za (show ZuX (tl a6) (tl a2)=true from decide_eq_true (Or.inl (Zz h6)));clear h6;go_wp2
    go_meet
    case rel=>exact⟨by rw[HO.out],rfl⟩
   ·have h6':=Ze h6
    by_cases h2:tl a2=Zva
    ·have h2':=eqB h2
     have HO:=Za (show ZuX (tl a6) (tl a2)=true from decide_eq_true (Or.inr h2));clear h6 h2;go_wp2
     go_meet
     case rel=>exact⟨by rw[HO.out],rfl⟩
    ·have h2':=neB h2
     have HO:=Za (show ZuX (tl a6) (tl a2)=false from decide_eq_false (by rintro(g|g);exact ZcC h6 g;exact h2 g))
     clear h6 h2;go_wp2
     go_meet
     case rel=>exact⟨by rw[HO.out],rfl⟩
  case rest=>
   obtain⟨rfl,rfl⟩:=hcut;generalize Zvo (tl a8)=op at *;generalize Zu7 (tl a0) (tl a2)=ho at *;generalize ZuX (tl a6) (tl a2)=ba at *;generalize ZuU (tl s)=sb at *
   cases sb
   ·go_wp2
    go_ret;exact⟨rfl,HN.out⟩
   ·go_wp2_with fail
    refine(Zu6 a2 _).mono ?_
    rintro e w' ⟨rfl,rfl⟩;go_wp2_with fail
    refine(Zu6 (s++(⟨#[58]⟩:BA)) _).mono ?_
    rintro e w' ⟨rfl,rfl⟩;go_wp2_with fail
    refine(Zu6 b2 _).mono ?_
    rintro e w' ⟨rfl,rfl⟩
    have hh:=HH.out (by trivial)
    rw[show tl (s++(⟨#[58]⟩:BA))=tl s++[58]by rw[tlApp7];rfl]
    generalize ZuO (tl a2)=p1 at *;generalize ZuO (tl s++[58])=p2 at *;generalize ZuO (tl b2)=p3 at *
    by_cases hp:p1=p2∧p1=p3
    ·obtain⟨h1,h2⟩:=hp
     subst h1;subst h2
     have hpp:(!(p1==p1))=false:=by simp
     have hpe:(p1==p1)=true:=by simp
     have hq:=hh.2 rfl rfl;clear hh
     cases e1:(b2.toList==(s++(⟨#[58]⟩:BA)).toList)
     ·cases e2:(s.toList == [102,105,108,101])
      ·cases e3:(a2.toList == [102,105,108,101,58])
       ·exfalso
        rcases hq with g|g|g
        ·have:=Zvd (a:=b2) (b:=s++(⟨#[58]⟩:BA)) (by rw[g,tlApp7];rfl)
         rw[this]at e1
         cases e1
        ·have:=eqB g
         rw[this]at e2
         cases e2
        ·have:=eqB g
         rw[this]at e3
         cases e3
       ·go_wp2
        go_ret;exact⟨rfl,HN.out⟩
      ·go_wp2
       go_ret;exact⟨rfl,HN.out⟩
     ·go_wp2
      go_ret;exact⟨rfl,HN.out⟩
    ·have hb:=Zvd (hh.1 hp)
     clear hh
     cases p1<;>cases p2<;>cases p3
     all_goals first|exact absurd ⟨rfl,rfl⟩ hp|skip
     all_goals clear hp
     all_goals go_wp2
     all_goals go_ret
     all_goals exact⟨rfl,HN.out⟩
end Go.Proofs.YtchkhibgbnhjpabGreatDoor
