import Derived.Test.YtchkhibgbnhjpabGreatDoorT07
namespace Go.Proofs.YtchkhibgbnhjpabGreatDoor
open Go.RowKit
set_option maxHeartbeats 16000000
set_option maxRecDepth 8000
theorem ZuM(s t:BA)(w:World):Calls Tryz.prog 90 #[.string s,.string t] w fun e w'=>e=.returned (.bool (decide (t.size≤s.size)&&((tl s).take t.size==tl t)))∧w=w':=by
 by_cases h:t.size≤s.size
 ·have HE:=Za (show(decide (t.size≤s.size)&&((tl s).take t.size==tl t))=((tl s).take t.size==tl t)by rw[decide_eq_true h];rfl)
  go_enter Tryz.func90,Tryz.ntmps90
  go_wp2;go_ret
  exact⟨Zi (by rw[HE.out,ByteArray.toList_eq,ByteArray.toList_eq];show(tl (s.extract 0 t.size)==tl t)=_;rw[tl_extract];simp),rfl⟩
 ·have HE:=Za (show(decide (t.size≤s.size)&&((tl s).take t.size==tl t))=false by rw[decide_eq_false h];rfl)
  go_enter Tryz.func90,Tryz.ntmps90
  go_wp2;go_ret;exact⟨Zi HE.out.symm,rfl⟩
def ZBk(c:Int):Prop:=(97≤c∧c≤122)∨(48≤c∧c≤57)∨c=43∨c=45∨c=46
theorem Zxt(s:BA)(w:World)(hs:s.size≤1000000)(h2:2≤s.size)(hl:((s[s.size-1]'(by omega)).toNat:Int)=58)(hf:97≤((s[0]'(by omega)).toNat:Int)∧((s[0]'(by omega)).toNat:Int)≤122)
  (hp:∀k (h:k<s.size-1),ZBk ((s[k]'(by omega)).toNat:Int)):
  Calls Tryz.prog 93 #[.string s] w fun e w'=>e=.returned (.bool true)∧w=w':=by
 have HP:=Za hp;have hf1:=hf.1;have hf2:=hf.2
 have hl1:(((s[s.size-1]'(by omega)).toNat:Int)==58)=true:=by rw[hl];rfl
 have hl2:(((s[s.size-1]'(by omega)).toNat:Int) != 58)=false:=by rw[hl];rfl
 have hidx:((s.size:Int)-1).toNat=s.size-1:=by omega
 have HL:=Za hl;clear hp hf hl
 go_enter Tryz.func93,Tryz.ntmps93
 go_wp2
 all_goals try exact absurd HL.out (by assumption)
 all_goals try omega
 go_loop [3,4,5] (fun i _ _=>∃k:Nat,k≤s.size-1∧i=.int .i64 k) (fun i _ _=>s.size-(intOf i).toNat)
 case atStart=>exact⟨0,Nat.zero_le _,rfl⟩
 case round=>
  obtain⟨k,hk,rfl⟩:=hrel
  by_cases hlt:k<s.size-1
  ·have hks:k<s.size:=by omega
   have hb:=HP.out k hlt;rcases hb with⟨b1,b2⟩|⟨b1,b2⟩|b|b|b
   ·go_wp2
    go_round
    case rel=>exact⟨k+1,by omega,by go_num⟩
    case measure=>simp[intOf];omega
   ·go_wp2
    go_round
    case rel=>exact⟨k+1,by omega,by go_num⟩
    case measure=>simp[intOf];omega
   ·go_wp2
    go_round
    case rel=>exact⟨k+1,by omega,by go_num⟩
    case measure=>simp[intOf];omega
   ·go_wp2
    go_round
    case rel=>exact⟨k+1,by omega,by go_num⟩
    case measure=>simp[intOf];omega
   ·go_wp2
    go_round
    case rel=>exact⟨k+1,by omega,by go_num⟩
    case measure=>simp[intOf];omega
  ·go_wp2
   go_ret;exact⟨rfl,rfl⟩
def vD(l:List UInt8):Int:=l.foldl (fun n c=>10*n+(c.toNat:Int)-48) 0
theorem ZA0(l:LB)(c:UInt8):vD (l++[c])=10*vD l+(c.toNat:Int)-48:=by simp[vD]
def Zwk(p:List UInt8):List UInt8:=if p=[104,116,116,112,58]∨p=[119,115,58]then [56,48]else if p=[104,116,116,112,115,58]∨p=[119,115,115,58]then [52,52,51]else if p=[102,116,112,58]then [50,49]else [0]
theorem ZxW(p t:BA)(w:World)(hs:t.size≤1000000)(hd:∀k (h:k<t.size),48≤((t[k]'h).toNat:Int)∧((t[k]'h).toNat:Int)≤57)(hv:∀k,k≤t.size→0≤vD ((tl t).take k)∧vD ((tl t).take k)≤65535)
  (hz:t.size≤1∨∃h:1<t.size,49≤((t[0]'(by omega)).toNat:Int)) (ho:tl t≠Zwk (tl p)) (hfi:tl p=[102,105,108,101,58]→t.size=0):
  Calls Tryz.prog 94 #[.string p,.string t] w fun e w'=>e=.returned (.bool true)∧w=w':=by
 have HD:=Za hd;have HV:=Za hv;have HZ:=Za hz;have HO:=Za ho;have HFI:=Za hfi;clear hd hv hz ho hfi
 go_enter Tryz.func94,Tryz.ntmps94
 go_wp2
 go_loop [5,6] (fun n i=>∃k:Nat,k≤t.size∧i=.int .i64 k∧n=.int .i64 (vD ((tl t).take k))) (fun _ i=>t.size-(intOf i).toNat)
 case atStart=>exact⟨0,Nat.zero_le _,rfl,rfl⟩
 case round=>
  obtain⟨k,hk,rfl,rfl⟩:=hrel;have hv1:=(HV.out k hk).1;have hv2:=(HV.out k hk).2
  by_cases hlt:k<t.size
  ·have HS:=Za (show vD ((tl t).take (k+1))=10*vD ((tl t).take k)+((t[k]'hlt).toNat:Int)-48 by rw[ZG t k hlt,ZA0])
   have hb1:=(HD.out k hlt).1;have hb2:=(HD.out k hlt).2;generalize vD ((tl t).take k)=n at *;go_wp2
   go_round
   case rel=>exact⟨k+1,by omega,by go_num,by rw[HS.out]⟩
   case measure=>simp[intOf];omega
  ·generalize vD ((tl t).take k)=n at *
   rcases HZ.out with hz|⟨hz,hz0⟩
   ·skip
    by_cases p0:tl p=[104,116,116,112,58]
    ·have hn:=neB (show ¬tl t=[56,48]from fun e=>HO.out (e.trans (by rw[p0];decide)))
     have p0':=eqB p0;clear p0;go_wp2
     all_goals go_ret
     all_goals exact⟨rfl,rfl⟩
    have p0':=neB p0
    by_cases p1:tl p=[119,115,58]
    ·have hn:=neB (show ¬tl t=[56,48]from fun e=>HO.out (e.trans (by rw[p1];decide)))
     have p1':=eqB p1;clear p0 p1;go_wp2
     all_goals go_ret
     all_goals exact⟨rfl,rfl⟩
    have p1':=neB p1
    by_cases p2:tl p=[104,116,116,112,115,58]
    ·have hn:=neB (show ¬tl t=[52,52,51]from fun e=>HO.out (e.trans (by rw[p2];decide)))
     have p2':=eqB p2;clear p0 p1 p2;go_wp2
     all_goals go_ret
     all_goals exact⟨rfl,rfl⟩
    have p2':=neB p2
    by_cases p3:tl p=[119,115,115,58]
    ·have hn:=neB (show ¬tl t=[52,52,51]from fun e=>HO.out (e.trans (by rw[p3];decide)))
     have p3':=eqB p3;clear p0 p1 p2 p3;go_wp2
     all_goals go_ret
     all_goals exact⟨rfl,rfl⟩
    have p3':=neB p3
    by_cases p4:tl p=[102,116,112,58]
    ·have hn:=neB (show ¬tl t=[50,49]from fun e=>HO.out (e.trans (by rw[p4];decide)))
     have p4':=eqB p4;clear p0 p1 p2 p3 p4;go_wp2
     all_goals go_ret
     all_goals exact⟨rfl,rfl⟩
    have p4':=neB p4
    by_cases p5:tl p=[102,105,108,101,58]
    ·have hn:=Zf (HFI.out p5)
     have p5':=eqB p5;clear p0 p1 p2 p3 p4 p5;go_wp2
     all_goals go_ret
     all_goals exact⟨rfl,rfl⟩
    have p5':=neB p5;clear p0 p1 p2 p3 p4 p5;go_wp2
    all_goals go_ret
    all_goals exact⟨rfl,rfl⟩
   ·have hz1:(((t[0]'(by omega)).toNat:Int)==48)=false:=beq_eq_false_iff_ne.2 (by omega)
    by_cases p0:tl p=[104,116,116,112,58]
    ·have hn:=neB (show ¬tl t=[56,48]from fun e=>HO.out (e.trans (by rw[p0];decide)))
     have p0':=eqB p0;clear p0;go_wp2
     all_goals go_ret
     all_goals exact⟨rfl,rfl⟩
    have p0':=neB p0
    by_cases p1:tl p=[119,115,58]
    ·have hn:=neB (show ¬tl t=[56,48]from fun e=>HO.out (e.trans (by rw[p1];decide)))
     have p1':=eqB p1;clear p0 p1;go_wp2
     all_goals go_ret
     all_goals exact⟨rfl,rfl⟩
    have p1':=neB p1
    by_cases p2:tl p=[104,116,116,112,115,58]
    ·have hn:=neB (show ¬tl t=[52,52,51]from fun e=>HO.out (e.trans (by rw[p2];decide)))
     have p2':=eqB p2;clear p0 p1 p2;go_wp2
     all_goals go_ret
     all_goals exact⟨rfl,rfl⟩
    have p2':=neB p2
    by_cases p3:tl p=[119,115,115,58]
    ·have hn:=neB (show ¬tl t=[52,52,51]from fun e=>HO.out (e.trans (by rw[p3];decide)))
     have p3':=eqB p3;clear p0 p1 p2 p3;go_wp2
     all_goals go_ret
     all_goals exact⟨rfl,rfl⟩
    have p3':=neB p3
    by_cases p4:tl p=[102,116,112,58]
    ·have hn:=neB (show ¬tl t=[50,49]from fun e=>HO.out (e.trans (by rw[p4];decide)))
     have p4':=eqB p4;clear p0 p1 p2 p3 p4;go_wp2
     all_goals go_ret
     all_goals exact⟨rfl,rfl⟩
    have p4':=neB p4
    by_cases p5:tl p=[102,105,108,101,58]
    ·have hn:=Zf (HFI.out p5)
     have p5':=eqB p5;clear p0 p1 p2 p3 p4 p5;go_wp2
     all_goals go_ret
     all_goals exact⟨rfl,rfl⟩
    have p5':=neB p5;clear p0 p1 p2 p3 p4 p5;go_wp2
    all_goals go_ret
    all_goals exact⟨rfl,rfl⟩
theorem tlApp7(a b:BA):tl (a++b)=tl a++tl b:=by simp[tl]
theorem Zvd{a b:BA}(h:tl a=tl b):(a.toList==b.toList)=true:=by rw[ByteArray.toList_eq,ByteArray.toList_eq];show(tl a==tl b)=true;rw[h];simp
theorem Zzo{s:BA}{l:LB}(h:(s.toList==l)=false):(s.toList != l)=true:=by simp only[bne,h];rfl
theorem Zyv{s:BA}{l:LB}(h:(s.toList==l)=true):(s.toList != l)=false:=by simp only[bne,h];rfl
abbrev Zva:List UInt8:=[102,105,108,101,58]
theorem Zzp(h og p us pw ho hn po pa se ha:BA)(w:World)(lhn:hn.size≤1000000)(lpo:po.size≤1000000)(lse:se.size≤1000001)(lha:ha.size≤1000001)
  (c1:∀w,Calls Tryz.prog 92 #[.string h] w fun e w'=>e=.returned (.bool true)∧w=w')
  (c2:∀w,Calls Tryz.prog 93 #[.string p] w fun e w'=>e=.returned (.bool true)∧w=w')
  (c3:∀w,Calls Tryz.prog 94 #[.string p,.string po] w fun e w'=>e=.returned (.bool true)∧w=w')
  (c4:∀w,Calls Tryz.prog 90 #[.string h,.string p] w fun e w'=>e=.returned (.bool true)∧w=w')
  (c5:ZuO (tl p)=true→∀w,Calls Tryz.prog 90 #[.string pa,.string ⟨#[47]⟩] w fun e w'=>e=.returned (.bool true)∧w=w')
  (c6:¬se.size=0→1<se.size∧∀w,Calls Tryz.prog 90 #[.string se,.string ⟨#[63]⟩] w fun e w'=>e=.returned (.bool true)∧w=w')
  (c7:¬ha.size=0→1<ha.size∧∀w,Calls Tryz.prog 90 #[.string ha,.string ⟨#[35]⟩] w fun e w'=>e=.returned (.bool true)∧w=w')
  (k0:po.size=0→tl ho=tl hn) (k1:¬po.size=0→tl ho=tl hn++[58]++tl po)
  (k2:ZuO (tl p)=true→¬tl p=Zva→¬hn.size=0)
  (k3:hn.size=0∨tl p=Zva→us.size=0∧pw.size=0∧po.size=0):
  Calls Tryz.prog 36 #[.agg #[.string h,.string og,.string p,.string us,.string pw,.string ho,.string hn,.string po,.string pa,.string se,.string ha]] w fun e w'=>e=.returned (.bool true)∧Nx w w':=by
 have C1:=Za c1;have C2:=Za c2;have C3:=Za c3;have C4:=Za c4;have C5:=Za c5;have C6:=Za c6;have C7:=Za c7;have K0:=Za k0;have K1:=Za k1;have K2:=Za k2;have K3:=Za k3
 have KF:Hid (ZuO (tl p)=false→¬tl p=Zva):=Za (fun e ef=>by rw[ef]at e;exact absurd e (by decide))
 clear c1 c2 c3 c4 c5 c6 c7 k0 k1 k2 k3;have HSP:=Za (Zu6 p);generalize ZuO (tl p)=sp at *
 go_enter Tryz.func36,Tryz.ntmps36
 go_upto_if 49 with(first|(go_at_call 91;refine(HSP.out _).mono ?_;rintro e w' ⟨rfl,rfl⟩)|(go_at_call 92;refine(C1.out _).mono ?_;rintro e w' ⟨rfl,rfl⟩)|(go_at_call 93;refine(C2.out _).mono ?_;rintro e w' ⟨rfl,rfl⟩)|(go_at_call 94;refine(C3.out _).mono ?_;rintro e w' ⟨rfl,rfl⟩)|(go_at_call 90;refine(C4.out _).mono ?_;rintro e w' ⟨rfl,rfl⟩))
 go_cut [8]from 12 (fun s wx=>∃hx:BA,s=.string hx∧tl hx=tl ho∧wx=w.alloc (Obj.cells #[.string h,.string og,.string p,.string us,.string pw,.string ho,.string hn,.string po,.string pa,.string se,.string ha] 66))
 case first=>
  by_cases hp:po.size=0
  ·have hp':=Zf hp
   have HK:=Za (K0.out hp);clear hp;go_wp2
   all_goals try exact absurd (by assumption:(!po.toList.isEmpty)=true) (by rw[hp'];decide)
   go_meet
   case rel=>exact⟨hn,rfl,HK.out.symm,rfl⟩
  ·have hp':=Ze hp
   have HK:=Za (K1.out hp);clear hp;go_wp2
   all_goals try exact absurd (by assumption:(!po.toList.isEmpty)=false) (by rw[hp'];decide)
   go_meet
   case rel=>exact⟨hn++(⟨#[58]⟩:BA)++po,rfl,by rw[HK.out,tlApp7,tlApp7];rfl,rfl⟩
 case rest=>
  obtain⟨hx,rfl,hhx,rfl⟩:=hcut;have hho:=Zvd hhx.symm
  have hho':(ho.toList != hx.toList)=false:=by simp only[bne,hho];rfl
  clear hhx;clear C1 C2 C3 C4 K0 K1 HSP
  by_cases hz:hn.size=0
  ·have KE:=K3.out (Or.inl hz)
   have hz':=Zf hz
   cases sp
   ·have hf:=neB (KF.out rfl)
    have hf':=Zzo hf;clear hz K2 K3 KF;obtain⟨e1,e2,e3⟩:=KE;have e1':=Zf e1;have e2':=Zf e2;have e3':=Zf e3;clear e1 e2 e3;have CP:=Za (ZuM pa ⟨#[47]⟩);generalize (decide ((⟨#[47]⟩:BA).size≤pa.size)&&((tl pa).take (⟨#[47]⟩:BA).size==tl ⟨#[47]⟩))=bp at CP
    go_upto_region 18 with(first|(go_at_call 90;refine(CP.out _).mono ?_;rintro e w' ⟨rfl,rfl⟩)|fail)
    by_cases hse:se.size=0
    ·have hse':=Zf hse
     have CS:=Za (ZuM se ⟨#[63]⟩);generalize (decide ((⟨#[63]⟩:BA).size≤se.size)&&((tl se).take (⟨#[63]⟩:BA).size==tl ⟨#[63]⟩))=bs at CS;clear hse
     by_cases hha:ha.size=0
     ·have hha':=Zf hha
      have CH:=Za (ZuM ha ⟨#[35]⟩);generalize (decide ((⟨#[35]⟩:BA).size≤ha.size)&&((tl ha).take (⟨#[35]⟩:BA).size==tl ⟨#[35]⟩))=bh at CH;clear hha;clear C5 C6 C7
      go_upto_region 19 with(go_at_call 90;refine(CS.out _).mono ?_;rintro e w' ⟨rfl,rfl⟩)
      go_wp2_with (go_at_call 90;refine(CH.out _).mono ?_;rintro e w' ⟨rfl,rfl⟩)
      all_goals go_ret
      all_goals first|exact⟨rfl,Nx.rfl.alloc _⟩|exact⟨Zi (decide_eq_true (by omega)),Nx.rfl.alloc _⟩
     ·have hha':=Ze hha
      have hha2:=(C7.out hha).1;have CH:=Za (C7.out hha).2;clear hha;clear C5 C6 C7
      go_upto_region 19 with(go_at_call 90;refine(CS.out _).mono ?_;rintro e w' ⟨rfl,rfl⟩)
      go_wp2_with (go_at_call 90;refine(CH.out _).mono ?_;rintro e w' ⟨rfl,rfl⟩)
      all_goals go_ret
      all_goals first|exact⟨rfl,Nx.rfl.alloc _⟩|exact⟨Zi (decide_eq_true (by omega)),Nx.rfl.alloc _⟩
    ·have hse':=Ze hse
     have hse2:=(C6.out hse).1;have CS:=Za (C6.out hse).2;clear hse
     by_cases hha:ha.size=0
     ·have hha':=Zf hha
      have CH:=Za (ZuM ha ⟨#[35]⟩);generalize (decide ((⟨#[35]⟩:BA).size≤ha.size)&&((tl ha).take (⟨#[35]⟩:BA).size==tl ⟨#[35]⟩))=bh at CH;clear hha;clear C5 C6 C7
      go_upto_region 19 with(go_at_call 90;refine(CS.out _).mono ?_;rintro e w' ⟨rfl,rfl⟩)
      go_wp2_with (go_at_call 90;refine(CH.out _).mono ?_;rintro e w' ⟨rfl,rfl⟩)
      all_goals go_ret
      all_goals first|exact⟨rfl,Nx.rfl.alloc _⟩|exact⟨Zi (decide_eq_true (by omega)),Nx.rfl.alloc _⟩
     ·have hha':=Ze hha
      have hha2:=(C7.out hha).1;have CH:=Za (C7.out hha).2;clear hha;clear C5 C6 C7
      go_upto_region 19 with(go_at_call 90;refine(CS.out _).mono ?_;rintro e w' ⟨rfl,rfl⟩)
      go_wp2_with (go_at_call 90;refine(CH.out _).mono ?_;rintro e w' ⟨rfl,rfl⟩)
      all_goals go_ret
      all_goals first|exact⟨rfl,Nx.rfl.alloc _⟩|exact⟨Zi (decide_eq_true (by omega)),Nx.rfl.alloc _⟩
   ·have hpf:tl p=Zva:=Classical.byContradiction fun hh=>K2.out rfl hh hz
    have hf:=eqB hpf;have hf':=Zyv hf;clear hz K2 K3 KF hpf;obtain⟨e1,e2,e3⟩:=KE;have e1':=Zf e1;have e2':=Zf e2;have e3':=Zf e3;clear e1 e2 e3;have CP:=Za (C5.out rfl)
    go_upto_region 18 with(first|(go_at_call 90;refine(CP.out _).mono ?_;rintro e w' ⟨rfl,rfl⟩)|fail)
    by_cases hse:se.size=0
    ·have hse':=Zf hse
     have CS:=Za (ZuM se ⟨#[63]⟩);generalize (decide ((⟨#[63]⟩:BA).size≤se.size)&&((tl se).take (⟨#[63]⟩:BA).size==tl ⟨#[63]⟩))=bs at CS;clear hse
     by_cases hha:ha.size=0
     ·have hha':=Zf hha
      have CH:=Za (ZuM ha ⟨#[35]⟩);generalize (decide ((⟨#[35]⟩:BA).size≤ha.size)&&((tl ha).take (⟨#[35]⟩:BA).size==tl ⟨#[35]⟩))=bh at CH;clear hha;clear C5 C6 C7
      go_upto_region 19 with(go_at_call 90;refine(CS.out _).mono ?_;rintro e w' ⟨rfl,rfl⟩)
      go_wp2_with (go_at_call 90;refine(CH.out _).mono ?_;rintro e w' ⟨rfl,rfl⟩)
      all_goals go_ret
      all_goals first|exact⟨rfl,Nx.rfl.alloc _⟩|exact⟨Zi (decide_eq_true (by omega)),Nx.rfl.alloc _⟩
     ·have hha':=Ze hha
      have hha2:=(C7.out hha).1;have CH:=Za (C7.out hha).2;clear hha;clear C5 C6 C7
      go_upto_region 19 with(go_at_call 90;refine(CS.out _).mono ?_;rintro e w' ⟨rfl,rfl⟩)
      go_wp2_with (go_at_call 90;refine(CH.out _).mono ?_;rintro e w' ⟨rfl,rfl⟩)
      all_goals go_ret
      all_goals first|exact⟨rfl,Nx.rfl.alloc _⟩|exact⟨Zi (decide_eq_true (by omega)),Nx.rfl.alloc _⟩
    ·have hse':=Ze hse
     have hse2:=(C6.out hse).1;have CS:=Za (C6.out hse).2;clear hse
     by_cases hha:ha.size=0
     ·have hha':=Zf hha
      have CH:=Za (ZuM ha ⟨#[35]⟩);generalize (decide ((⟨#[35]⟩:BA).size≤ha.size)&&((tl ha).take (⟨#[35]⟩:BA).size==tl ⟨#[35]⟩))=bh at CH;clear hha;clear C5 C6 C7
      go_upto_region 19 with(go_at_call 90;refine(CS.out _).mono ?_;rintro e w' ⟨rfl,rfl⟩)
      go_wp2_with (go_at_call 90;refine(CH.out _).mono ?_;rintro e w' ⟨rfl,rfl⟩)
      all_goals go_ret
      all_goals first|exact⟨rfl,Nx.rfl.alloc _⟩|exact⟨Zi (decide_eq_true (by omega)),Nx.rfl.alloc _⟩
     ·have hha':=Ze hha
      have hha2:=(C7.out hha).1;have CH:=Za (C7.out hha).2;clear hha;clear C5 C6 C7
      go_upto_region 19 with(go_at_call 90;refine(CS.out _).mono ?_;rintro e w' ⟨rfl,rfl⟩)
      go_wp2_with (go_at_call 90;refine(CH.out _).mono ?_;rintro e w' ⟨rfl,rfl⟩)
      all_goals go_ret
      all_goals first|exact⟨rfl,Nx.rfl.alloc _⟩|exact⟨Zi (decide_eq_true (by omega)),Nx.rfl.alloc _⟩
  ·have hz':=Ze hz
   by_cases hpf:tl p=Zva
   ·have KE:=K3.out (Or.inr hpf)
    have hsp:sp=true:=by cases sp;exact absurd hpf (KF.out rfl);rfl
    subst hsp;have hf:=eqB hpf;have hf':=Zyv hf;clear hz K2 K3 KF hpf;obtain⟨e1,e2,e3⟩:=KE;have e1':=Zf e1;have e2':=Zf e2;have e3':=Zf e3;clear e1 e2 e3;have CP:=Za (C5.out rfl)
    go_upto_region 18 with(first|(go_at_call 90;refine(CP.out _).mono ?_;rintro e w' ⟨rfl,rfl⟩)|fail)
    by_cases hse:se.size=0
    ·have hse':=Zf hse
     have CS:=Za (ZuM se ⟨#[63]⟩);generalize (decide ((⟨#[63]⟩:BA).size≤se.size)&&((tl se).take (⟨#[63]⟩:BA).size==tl ⟨#[63]⟩))=bs at CS;clear hse
     by_cases hha:ha.size=0
     ·have hha':=Zf hha
      have CH:=Za (ZuM ha ⟨#[35]⟩);generalize (decide ((⟨#[35]⟩:BA).size≤ha.size)&&((tl ha).take (⟨#[35]⟩:BA).size==tl ⟨#[35]⟩))=bh at CH;clear hha;clear C5 C6 C7
      go_upto_region 19 with(go_at_call 90;refine(CS.out _).mono ?_;rintro e w' ⟨rfl,rfl⟩)
      go_wp2_with (go_at_call 90;refine(CH.out _).mono ?_;rintro e w' ⟨rfl,rfl⟩)
      all_goals go_ret
      all_goals first|exact⟨rfl,Nx.rfl.alloc _⟩|exact⟨Zi (decide_eq_true (by omega)),Nx.rfl.alloc _⟩
     ·have hha':=Ze hha
      have hha2:=(C7.out hha).1;have CH:=Za (C7.out hha).2;clear hha;clear C5 C6 C7
      go_upto_region 19 with(go_at_call 90;refine(CS.out _).mono ?_;rintro e w' ⟨rfl,rfl⟩)
      go_wp2_with (go_at_call 90;refine(CH.out _).mono ?_;rintro e w' ⟨rfl,rfl⟩)
      all_goals go_ret
      all_goals first|exact⟨rfl,Nx.rfl.alloc _⟩|exact⟨Zi (decide_eq_true (by omega)),Nx.rfl.alloc _⟩
    ·have hse':=Ze hse
     have hse2:=(C6.out hse).1;have CS:=Za (C6.out hse).2;clear hse
     by_cases hha:ha.size=0
     ·have hha':=Zf hha
      have CH:=Za (ZuM ha ⟨#[35]⟩);generalize (decide ((⟨#[35]⟩:BA).size≤ha.size)&&((tl ha).take (⟨#[35]⟩:BA).size==tl ⟨#[35]⟩))=bh at CH;clear hha;clear C5 C6 C7
      go_upto_region 19 with(go_at_call 90;refine(CS.out _).mono ?_;rintro e w' ⟨rfl,rfl⟩)
      go_wp2_with (go_at_call 90;refine(CH.out _).mono ?_;rintro e w' ⟨rfl,rfl⟩)
      all_goals go_ret
      all_goals first|exact⟨rfl,Nx.rfl.alloc _⟩|exact⟨Zi (decide_eq_true (by omega)),Nx.rfl.alloc _⟩
     ·have hha':=Ze hha
      have hha2:=(C7.out hha).1;have CH:=Za (C7.out hha).2;clear hha;clear C5 C6 C7
      go_upto_region 19 with(go_at_call 90;refine(CS.out _).mono ?_;rintro e w' ⟨rfl,rfl⟩)
      go_wp2_with (go_at_call 90;refine(CH.out _).mono ?_;rintro e w' ⟨rfl,rfl⟩)
      all_goals go_ret
      all_goals first|exact⟨rfl,Nx.rfl.alloc _⟩|exact⟨Zi (decide_eq_true (by omega)),Nx.rfl.alloc _⟩
   ·have hf:=neB hpf
    have hf':=Zzo hf;clear hz K2 K3 KF hpf
    cases sp
    ·skip
     have CP:=Za (ZuM pa ⟨#[47]⟩);generalize (decide ((⟨#[47]⟩:BA).size≤pa.size)&&((tl pa).take (⟨#[47]⟩:BA).size==tl ⟨#[47]⟩))=bp at CP
     go_upto_region 18 with(first|(go_at_call 90;refine(CP.out _).mono ?_;rintro e w' ⟨rfl,rfl⟩)|fail)
     by_cases hse:se.size=0
     ·have hse':=Zf hse
      have CS:=Za (ZuM se ⟨#[63]⟩);generalize (decide ((⟨#[63]⟩:BA).size≤se.size)&&((tl se).take (⟨#[63]⟩:BA).size==tl ⟨#[63]⟩))=bs at CS;clear hse
      by_cases hha:ha.size=0
      ·have hha':=Zf hha
       have CH:=Za (ZuM ha ⟨#[35]⟩);generalize (decide ((⟨#[35]⟩:BA).size≤ha.size)&&((tl ha).take (⟨#[35]⟩:BA).size==tl ⟨#[35]⟩))=bh at CH;clear hha;clear C5 C6 C7
       go_upto_region 19 with(go_at_call 90;refine(CS.out _).mono ?_;rintro e w' ⟨rfl,rfl⟩)
       go_wp2_with (go_at_call 90;refine(CH.out _).mono ?_;rintro e w' ⟨rfl,rfl⟩)
       all_goals go_ret
       all_goals first|exact⟨rfl,Nx.rfl.alloc _⟩|exact⟨Zi (decide_eq_true (by omega)),Nx.rfl.alloc _⟩
      ·have hha':=Ze hha
       have hha2:=(C7.out hha).1;have CH:=Za (C7.out hha).2;clear hha;clear C5 C6 C7
       go_upto_region 19 with(go_at_call 90;refine(CS.out _).mono ?_;rintro e w' ⟨rfl,rfl⟩)
       go_wp2_with (go_at_call 90;refine(CH.out _).mono ?_;rintro e w' ⟨rfl,rfl⟩)
       all_goals go_ret
       all_goals first|exact⟨rfl,Nx.rfl.alloc _⟩|exact⟨Zi (decide_eq_true (by omega)),Nx.rfl.alloc _⟩
     ·have hse':=Ze hse
      have hse2:=(C6.out hse).1;have CS:=Za (C6.out hse).2;clear hse
      by_cases hha:ha.size=0
      ·have hha':=Zf hha
       have CH:=Za (ZuM ha ⟨#[35]⟩);generalize (decide ((⟨#[35]⟩:BA).size≤ha.size)&&((tl ha).take (⟨#[35]⟩:BA).size==tl ⟨#[35]⟩))=bh at CH;clear hha;clear C5 C6 C7
       go_upto_region 19 with(go_at_call 90;refine(CS.out _).mono ?_;rintro e w' ⟨rfl,rfl⟩)
       go_wp2_with (go_at_call 90;refine(CH.out _).mono ?_;rintro e w' ⟨rfl,rfl⟩)
       all_goals go_ret
       all_goals first|exact⟨rfl,Nx.rfl.alloc _⟩|exact⟨Zi (decide_eq_true (by omega)),Nx.rfl.alloc _⟩
      ·have hha':=Ze hha
       have hha2:=(C7.out hha).1;have CH:=Za (C7.out hha).2;clear hha;clear C5 C6 C7
       go_upto_region 19 with(go_at_call 90;refine(CS.out _).mono ?_;rintro e w' ⟨rfl,rfl⟩)
       go_wp2_with (go_at_call 90;refine(CH.out _).mono ?_;rintro e w' ⟨rfl,rfl⟩)
       all_goals go_ret
       all_goals first|exact⟨rfl,Nx.rfl.alloc _⟩|exact⟨Zi (decide_eq_true (by omega)),Nx.rfl.alloc _⟩
    ·skip
     have CP:=Za (C5.out rfl)
     go_upto_region 18 with(first|(go_at_call 90;refine(CP.out _).mono ?_;rintro e w' ⟨rfl,rfl⟩)|fail)
     by_cases hse:se.size=0
     ·have hse':=Zf hse
      have CS:=Za (ZuM se ⟨#[63]⟩);generalize (decide ((⟨#[63]⟩:BA).size≤se.size)&&((tl se).take (⟨#[63]⟩:BA).size==tl ⟨#[63]⟩))=bs at CS;clear hse
      by_cases hha:ha.size=0
      ·have hha':=Zf hha
       have CH:=Za (ZuM ha ⟨#[35]⟩);generalize (decide ((⟨#[35]⟩:BA).size≤ha.size)&&((tl ha).take (⟨#[35]⟩:BA).size==tl ⟨#[35]⟩))=bh at CH;clear hha;clear C5 C6 C7
       go_upto_region 19 with(go_at_call 90;refine(CS.out _).mono ?_;rintro e w' ⟨rfl,rfl⟩)
       go_wp2_with (go_at_call 90;refine(CH.out _).mono ?_;rintro e w' ⟨rfl,rfl⟩)
       all_goals go_ret
       all_goals first|exact⟨rfl,Nx.rfl.alloc _⟩|exact⟨Zi (decide_eq_true (by omega)),Nx.rfl.alloc _⟩
      ·have hha':=Ze hha
       have hha2:=(C7.out hha).1;have CH:=Za (C7.out hha).2;clear hha;clear C5 C6 C7
       go_upto_region 19 with(go_at_call 90;refine(CS.out _).mono ?_;rintro e w' ⟨rfl,rfl⟩)
       go_wp2_with (go_at_call 90;refine(CH.out _).mono ?_;rintro e w' ⟨rfl,rfl⟩)
       all_goals go_ret
       all_goals first|exact⟨rfl,Nx.rfl.alloc _⟩|exact⟨Zi (decide_eq_true (by omega)),Nx.rfl.alloc _⟩
     ·have hse':=Ze hse
      have hse2:=(C6.out hse).1;have CS:=Za (C6.out hse).2;clear hse
      by_cases hha:ha.size=0
      ·have hha':=Zf hha
       have CH:=Za (ZuM ha ⟨#[35]⟩);generalize (decide ((⟨#[35]⟩:BA).size≤ha.size)&&((tl ha).take (⟨#[35]⟩:BA).size==tl ⟨#[35]⟩))=bh at CH;clear hha;clear C5 C6 C7
       go_upto_region 19 with(go_at_call 90;refine(CS.out _).mono ?_;rintro e w' ⟨rfl,rfl⟩)
       go_wp2_with (go_at_call 90;refine(CH.out _).mono ?_;rintro e w' ⟨rfl,rfl⟩)
       all_goals go_ret
       all_goals first|exact⟨rfl,Nx.rfl.alloc _⟩|exact⟨Zi (decide_eq_true (by omega)),Nx.rfl.alloc _⟩
      ·have hha':=Ze hha
       have hha2:=(C7.out hha).1;have CH:=Za (C7.out hha).2;clear hha;clear C5 C6 C7
       go_upto_region 19 with(go_at_call 90;refine(CS.out _).mono ?_;rintro e w' ⟨rfl,rfl⟩)
       go_wp2_with (go_at_call 90;refine(CH.out _).mono ?_;rintro e w' ⟨rfl,rfl⟩)
       all_goals go_ret
       all_goals first|exact⟨rfl,Nx.rfl.alloc _⟩|exact⟨Zi (decide_eq_true (by omega)),Nx.rfl.alloc _⟩
def Zzq(n:Nat)(e:Ending)(w':World)(x:U×Int):Prop:=
 (x.2≠0∧e=.returned (.tuple #[.pointer none,.int .i64 x.2]))∨(x.2=0∧∃(pb:Nat) (r:Rc) (bs:List ByteArray),e=.returned (.tuple #[.pointer (some ⟨pb,0,none⟩),.int .i64 0])∧UrlB w' pb r∧RcIs w' r x.1 bs∧n≤pb)
theorem Zyx(s base:BA)(based:Bool)(w:World)(hs:s.size≤maxLen)(hb:base.size≤maxLen)(ht:Tb w):Calls Tryz.prog 28 #[.string s,.string base,.bool based] w fun e w'=>Zzq w.heap.size e w' (Zat (tl s) (tl base) based)∧Nx w w':=by
 have HTB:=Za ht;clear ht;unfold maxLen at hs hb
 have HD:=Za (show Zat (tl s) (tl base) based=if 160<s.size∨(based=true∧160<base.size)then(zeroU,1)
  else if(ZbS (tl base) based).2≠0 then(zeroU,(ZbS (tl base) based).2)else ZD (tl s) (ZbS (tl base) based).1 by rw[←tl_length s,←tl_length base];rfl)
 by_cases h1:160<s.size
 ·have HE:=Za (HD.out.trans (if_pos (Or.inl h1)))
  clear HD
  go_enter Tryz.func28,Tryz.ntmps28
  go_wp2;go_ret2
  exact⟨Or.inl ⟨by rw[HE.out];decide,by rw[HE.out];rfl⟩,Nx.rfl⟩
 by_cases h2:based=true∧160<base.size
 ·have HE:=Za (HD.out.trans (if_pos (Or.inr h2)))
  obtain⟨rfl,h3⟩:=h2;clear HD
  go_enter Tryz.func28,Tryz.ntmps28
  go_wp2;go_ret2
  exact⟨Or.inl ⟨by rw[HE.out];decide,by rw[HE.out];rfl⟩,Nx.rfl⟩
 have HD2:=Za (HD.out.trans (if_neg (by rintro(h|h);exact h1 h;exact h2 h)))
 clear HD
 have HBC:=Za (fun w1 (hn:Nx w w1)=>ZiV base based w1 (fun hb=>by have:¬160<base.size:=fun h=>h2 ⟨hb,h⟩;omega) (HTB.out.on hn))
 have two:based=false∨(based=true∧¬160<base.size):=by
  cases based
  ·exact Or.inl rfl
  ·exact Or.inr ⟨rfl,fun h=>h2 ⟨rfl,h⟩⟩
 clear h2;rcases two with rfl|⟨rfl,h3⟩
 ·go_enter Tryz.func28,Tryz.ntmps28
  go_wp2_with fail
  refine(HBC.out _ Nx.rfl).mono ?_
  rintro e w1 ⟨⟨r,ds,rfl,hr,hdl⟩,hn1⟩;have HR:=Za hr;have HN1:=Za hn1;clear hr hn1;generalize ZbS (tl base) false=q at *;obtain⟨qu,err⟩:=q;simp only at HR HD2
  by_cases he:err=0
  ·subst he
   have HE:=Za (HD2.out.trans (if_neg (by decide)))
   clear HD2;go_wp2_with fail
   refine(ZbJ s r qu ds _ (HR.out.on (Nx.rfl.alloc _)) (by omega) (by omega) (HTB.out.on (HN1.out.alloc _))).mono ?_
   rintro e w2 ⟨⟨r2,ds2,rfl,hr2,hdl2⟩,hn2⟩;have HR2:=Za hr2;have HN2:=Za ((HN1.out.alloc _).then hn2);clear hr2 hn2;generalize ZD (tl s) qu=q2 at *;obtain⟨qu2,err2⟩:=q2;simp only at HR2
   by_cases he2:err2=0
   ·subst he2
    go_wp2;go_ret2
    refine⟨Or.inr ⟨by rw[HE.out],w2.heap.size+1,r2,ds2,rfl,?_,by rw[HE.out];exact HR2.out.on ((Nx.rfl.alloc _).alloc _),Nat.le_trans HN2.out.size (Nat.le_succ _)⟩,(HN2.out.alloc _).alloc _⟩
    have h:=Zfp (w2.alloc (Obj.cells #[.string r2.sch,.string r2.nam,.string r2.pw,.bool r2.hh,.string r2.host,.bool r2.hp,.int .i64 (r2.port:Int),.bool r2.op,.string r2.opath,.slice r2.so r2.sn r2.sc,.bool r2.hq,.string r2.q,.bool r2.hf,.string r2.fr] 101)) r2
    rw[show(w2.alloc (Obj.cells #[.string r2.sch,.string r2.nam,.string r2.pw,.bool r2.hh,.string r2.host,.bool r2.hp,.int .i64 (r2.port:Int),.bool r2.op,.string r2.opath,.slice r2.so r2.sn r2.sc,.bool r2.hq,.string r2.q,.bool r2.hf,.string r2.fr] 101)).heap.size=w2.heap.size+1 by simp]at h
    exact h
   ·have he':(err2 != 0)=true:=Zd9 (beq_eq_false_iff_ne.2 he2)
    have HE2:=Za he2;clear he2;go_wp2;go_ret2
    exact⟨Or.inl ⟨by rw[HE.out];exact HE2.out,by rw[HE.out];rfl⟩,HN2.out.alloc _⟩
  ·have HE:=Za (HD2.out.trans (if_pos he))
   have he':(err != 0)=true:=Zd9 (beq_eq_false_iff_ne.2 he);have HE2:=Za he;clear HD2 he;go_wp2;go_ret2
   exact⟨Or.inl ⟨by rw[HE.out];exact HE2.out,by rw[HE.out];rfl⟩,HN1.out.alloc _⟩
 ·go_enter Tryz.func28,Tryz.ntmps28
  go_wp2_with fail
  refine(HBC.out _ Nx.rfl).mono ?_
  rintro e w1 ⟨⟨r,ds,rfl,hr,hdl⟩,hn1⟩;have HR:=Za hr;have HN1:=Za hn1;clear hr hn1;generalize ZbS (tl base) true=q at *;obtain⟨qu,err⟩:=q;simp only at HR HD2
  by_cases he:err=0
  ·subst he
   have HE:=Za (HD2.out.trans (if_neg (by decide)))
   clear HD2;go_wp2_with fail
   refine(ZbJ s r qu ds _ (HR.out.on (Nx.rfl.alloc _)) (by omega) (by omega) (HTB.out.on (HN1.out.alloc _))).mono ?_
   rintro e w2 ⟨⟨r2,ds2,rfl,hr2,hdl2⟩,hn2⟩;have HR2:=Za hr2;have HN2:=Za ((HN1.out.alloc _).then hn2);clear hr2 hn2;generalize ZD (tl s) qu=q2 at *;obtain⟨qu2,err2⟩:=q2;simp only at HR2
   by_cases he2:err2=0
   ·subst he2
    go_wp2;go_ret2
    refine⟨Or.inr ⟨by rw[HE.out],w2.heap.size+1,r2,ds2,rfl,?_,by rw[HE.out];exact HR2.out.on ((Nx.rfl.alloc _).alloc _),Nat.le_trans HN2.out.size (Nat.le_succ _)⟩,(HN2.out.alloc _).alloc _⟩
    have h:=Zfp (w2.alloc (Obj.cells #[.string r2.sch,.string r2.nam,.string r2.pw,.bool r2.hh,.string r2.host,.bool r2.hp,.int .i64 (r2.port:Int),.bool r2.op,.string r2.opath,.slice r2.so r2.sn r2.sc,.bool r2.hq,.string r2.q,.bool r2.hf,.string r2.fr] 101)) r2
    rw[show(w2.alloc (Obj.cells #[.string r2.sch,.string r2.nam,.string r2.pw,.bool r2.hh,.string r2.host,.bool r2.hp,.int .i64 (r2.port:Int),.bool r2.op,.string r2.opath,.slice r2.so r2.sn r2.sc,.bool r2.hq,.string r2.q,.bool r2.hf,.string r2.fr] 101)).heap.size=w2.heap.size+1 by simp]at h
    exact h
   ·have he':(err2 != 0)=true:=Zd9 (beq_eq_false_iff_ne.2 he2)
    have HE2:=Za he2;clear he2;go_wp2;go_ret2
    exact⟨Or.inl ⟨by rw[HE.out];exact HE2.out,by rw[HE.out];rfl⟩,HN2.out.alloc _⟩
  ·have HE:=Za (HD2.out.trans (if_pos he))
   have he':(err != 0)=true:=Zd9 (beq_eq_false_iff_ne.2 he);have HE2:=Za he;clear HD2 he;go_wp2;go_ret2
   exact⟨Or.inl ⟨by rw[HE.out];exact HE2.out,by rw[HE.out];rfl⟩,HN1.out.alloc _⟩
end Go.Proofs.YtchkhibgbnhjpabGreatDoor
