import Derived.Test.YtchkhibgbnhjpabGreatDoorT13
import Derived.Test.YtchkhibgbnhjpabGreatDoorT14
open Array renaming getElem?_eq_some_iff→Xa
namespace Go.Proofs.YtchkhibgbnhjpabGreatDoor
open Go.RowKit
set_option maxHeartbeats 16000000
set_option maxRecDepth 8000
theorem Zzy(h og p us pw ho hn po pa se ha:BA)(w:World)(l0:p.size≤200000000000)(l1:us.size≤200000000000)(l2:pw.size≤200000000000)(l3:ho.size≤200000000000)(l4:pa.size≤200000000000)(l5:se.size≤200000000000)(l6:ha.size≤200000000000)
  (hc:∃k,k<12∧Zt (tl p) (ZE (tl us) (tl pw)) (tl ho) (tl pa) (tl se) (tl ha) k=tl h)
  (hok:∀k,Zt (tl p) (ZE (tl us) (tl pw)) (tl ho) (tl pa) (tl se) (tl ha) k=tl h→(∀j,j<k→Zt (tl p) (ZE (tl us) (tl pw)) (tl ho) (tl pa) (tl se) (tl ha) j≠tl h)→k%3=0∨(ZE (tl us) (tl pw)=[]∧tl ho=[])) (hu:¬us.size=0):
  Calls Tryz.prog 37 #[.agg #[.string h,.string og,.string p,.string us,.string pw,.string ho,.string hn,.string po,.string pa,.string se,.string ha]] w fun e w'=>e=.returned (.bool true)∧Nx w w':=by
 have HC:=Za hc;have HK:=Za hok;clear hc hok;have HE:=Za (ZcC hu);have hu':=Ze hu;clear hu
 go_enter Tryz.func37,Tryz.ntmps37
 go_upto_if 13 with fail
 go_cut [3]from 6 (fun s wx=>∃who:BA,s=.string who∧tl who=ZE (tl us) (tl pw)∧who.size≤500000000000∧wx=w.alloc (Obj.cells #[.string h,.string og,.string p,.string us,.string pw,.string ho,.string hn,.string po,.string pa,.string se,.string ha] 66))
 case first=>
  by_cases hp:pw.size=0
  ·have hp':=Zf hp
   have HP:=Za (ZsK hp);clear hp;go_wp2
   go_meet
   case rel=>exact⟨us++(⟨#[64]⟩:BA),rfl,by unfold ZE;rw[if_neg (fun h=>HE.out h.1),if_pos HP.out,Zc];rfl,by rw[Zm];show us.size+1≤_;omega,rfl⟩
  ·have hp':=Ze hp
   have HP:=Za (ZcC hp);clear hp;go_wp2
   go_meet
   case rel=>exact⟨us++(⟨#[58]⟩:BA)++pw++(⟨#[64]⟩:BA),rfl,by unfold ZE;rw[if_neg (fun h=>HP.out h.2),if_neg HP.out,Zc,Zc,Zc];simp;rfl,by rw[Zm,Zm,Zm];show us.size+1+pw.size+1≤_;omega,rfl⟩
 case rest=>
  obtain⟨who,rfl,hwho,hwl,rfl⟩:=hcut;have HW:=Za hwho;clear hwho;go_wp2
  go_loop [4,5] (fun i _=>∃(k:Nat),k≤12∧i=.int .i64 k∧∀j,j<k→Zt (tl p) (ZE (tl us) (tl pw)) (tl ho) (tl pa) (tl se) (tl ha) j≠tl h) (fun i _=>12-(intOf i).toNat)
  case atStart=>exact⟨0,Nat.zero_le _,rfl,fun j hj=>absurd hj (Nat.not_lt_zero _)⟩
  case round=>
   obtain⟨k,hk,rfl,hE⟩:=hrel;have HT:=Za hE;clear hE
   by_cases k0:k=0
   ·subst k0
    have HX:=Za ((Zdt p who ho pa se ha 0 rfl (by rintro⟨a,-⟩;exact absurd a (by decide)) (by rintro⟨a,-⟩;exact absurd a (by decide))).trans (by rw[HW.out]):tl (p++(⟨#[47,47]⟩:BA)++who++ho++pa++se++ha)=Zt (tl p) (ZE (tl us) (tl pw)) (tl ho) (tl pa) (tl se) (tl ha) 0)
    by_cases he:tl (p++(⟨#[47,47]⟩:BA)++who++ho++pa++se++ha)=tl h
    ·have he':=Zaa he
     clear he HX HK HT HW HC;go_wp2;go_ret;exact⟨rfl,Nx.rfl.alloc _⟩
    ·have he':=Zab he
     have HS:=Za (Zj HT.out (fun e=>he (HX.out.trans e)))
     clear he HX HK HT HW HC;go_wp2
     go_round
     case rel=>exact⟨1,by decide,rfl,HS.out⟩
     case measure=>simp[intOf]
   by_cases k1:k=1
   ·subst k1
    have HX:=Za ((Zdu p who ho pa se ha 1 rfl (by rintro⟨a,-⟩;exact absurd a (by decide)) (by rintro⟨a,-⟩;exact absurd a (by decide))).trans (by rw[HW.out]):tl (p++(⟨#[47,46]⟩:BA)++pa++se++ha)=Zt (tl p) (ZE (tl us) (tl pw)) (tl ho) (tl pa) (tl se) (tl ha) 1)
    by_cases he:tl (p++(⟨#[47,46]⟩:BA)++pa++se++ha)=tl h
    ·have he':=Zaa he
     have hz:=(HK.out 1 (HX.out.symm.trans he) HT.out).resolve_left (by decide)
     have hz1:=Zk (HW.out.trans hz.1);have hz2:=Zk hz.2;clear hz;clear he HX HK HT HW HC;go_wp2;go_ret;exact⟨rfl,Nx.rfl.alloc _⟩
    ·have he':=Zab he
     have HS:=Za (Zj HT.out (fun e=>he (HX.out.trans e)))
     clear he HX HK HT HW HC;go_wp2
     go_round
     case rel=>exact⟨2,by decide,rfl,HS.out⟩
     case measure=>simp[intOf]
   by_cases k2:k=2
   ·subst k2
    have HX:=Za ((Zdv p who ho pa se ha 2 rfl (by rintro⟨a,-⟩;exact absurd a (by decide)) (by rintro⟨a,-⟩;exact absurd a (by decide))).trans (by rw[HW.out]):tl (p++pa++se++ha)=Zt (tl p) (ZE (tl us) (tl pw)) (tl ho) (tl pa) (tl se) (tl ha) 2)
    by_cases he:tl (p++pa++se++ha)=tl h
    ·have he':=Zaa he
     have hz:=(HK.out 2 (HX.out.symm.trans he) HT.out).resolve_left (by decide)
     have hz1:=Zk (HW.out.trans hz.1);have hz2:=Zk hz.2;clear hz;clear he HX HK HT HW HC;go_wp2;go_ret;exact⟨rfl,Nx.rfl.alloc _⟩
    ·have he':=Zab he
     have HS:=Za (Zj HT.out (fun e=>he (HX.out.trans e)))
     clear he HX HK HT HW HC;go_wp2
     go_round
     case rel=>exact⟨3,by decide,rfl,HS.out⟩
     case measure=>simp[intOf]
   by_cases k3:k=3
   ·subst k3
    by_cases hse:tl se=[]
    ·skip
     have HX:=Za ((Zh0 p who ho pa se ha 3 rfl (by exact⟨rfl,hse⟩) (by rintro⟨a,-⟩;exact absurd a (by decide))).trans (by rw[HW.out]):tl (p++(⟨#[47,47]⟩:BA)++who++ho++pa++se++(⟨#[63]⟩:BA)++ha)=Zt (tl p) (ZE (tl us) (tl pw)) (tl ho) (tl pa) (tl se) (tl ha) 3)
     have hse':=Zk hse;clear hse
     by_cases he:tl (p++(⟨#[47,47]⟩:BA)++who++ho++pa++se++(⟨#[63]⟩:BA)++ha)=tl h
     ·have he':=Zaa he
      clear he HX HK HT HW HC;go_wp2;go_ret;exact⟨rfl,Nx.rfl.alloc _⟩
     ·have he':=Zab he
      have HS:=Za (Zj HT.out (fun e=>he (HX.out.trans e)))
      clear he HX HK HT HW HC;go_wp2
      go_round
      case rel=>exact⟨4,by decide,rfl,HS.out⟩
      case measure=>simp[intOf]
    ·skip
     have HX:=Za ((Zdt p who ho pa se ha 3 rfl (by rintro⟨-,a⟩;exact hse a) (by rintro⟨a,-⟩;exact absurd a (by decide))).trans (by rw[HW.out]):tl (p++(⟨#[47,47]⟩:BA)++who++ho++pa++se++ha)=Zt (tl p) (ZE (tl us) (tl pw)) (tl ho) (tl pa) (tl se) (tl ha) 3)
     have hse':=ZF hse;clear hse
     by_cases he:tl (p++(⟨#[47,47]⟩:BA)++who++ho++pa++se++ha)=tl h
     ·have he':=Zaa he
      clear he HX HK HT HW HC;go_wp2;go_ret;exact⟨rfl,Nx.rfl.alloc _⟩
     ·have he':=Zab he
      have HS:=Za (Zj HT.out (fun e=>he (HX.out.trans e)))
      clear he HX HK HT HW HC;go_wp2
      go_round
      case rel=>exact⟨4,by decide,rfl,HS.out⟩
      case measure=>simp[intOf]
   by_cases k4:k=4
   ·subst k4
    by_cases hse:tl se=[]
    ·skip
     have HX:=Za ((Zh2 p who ho pa se ha 4 rfl (by exact⟨rfl,hse⟩) (by rintro⟨a,-⟩;exact absurd a (by decide))).trans (by rw[HW.out]):tl (p++(⟨#[47,46]⟩:BA)++pa++se++(⟨#[63]⟩:BA)++ha)=Zt (tl p) (ZE (tl us) (tl pw)) (tl ho) (tl pa) (tl se) (tl ha) 4)
     have hse':=Zk hse;clear hse
     by_cases he:tl (p++(⟨#[47,46]⟩:BA)++pa++se++(⟨#[63]⟩:BA)++ha)=tl h
     ·have he':=Zaa he
      have hz:=(HK.out 4 (HX.out.symm.trans he) HT.out).resolve_left (by decide)
      have hz1:=Zk (HW.out.trans hz.1);have hz2:=Zk hz.2;clear hz;clear he HX HK HT HW HC;go_wp2;go_ret;exact⟨rfl,Nx.rfl.alloc _⟩
     ·have he':=Zab he
      have HS:=Za (Zj HT.out (fun e=>he (HX.out.trans e)))
      clear he HX HK HT HW HC;go_wp2
      go_round
      case rel=>exact⟨5,by decide,rfl,HS.out⟩
      case measure=>simp[intOf]
    ·skip
     have HX:=Za ((Zdu p who ho pa se ha 4 rfl (by rintro⟨-,a⟩;exact hse a) (by rintro⟨a,-⟩;exact absurd a (by decide))).trans (by rw[HW.out]):tl (p++(⟨#[47,46]⟩:BA)++pa++se++ha)=Zt (tl p) (ZE (tl us) (tl pw)) (tl ho) (tl pa) (tl se) (tl ha) 4)
     have hse':=ZF hse;clear hse
     by_cases he:tl (p++(⟨#[47,46]⟩:BA)++pa++se++ha)=tl h
     ·have he':=Zaa he
      have hz:=(HK.out 4 (HX.out.symm.trans he) HT.out).resolve_left (by decide)
      have hz1:=Zk (HW.out.trans hz.1);have hz2:=Zk hz.2;clear hz;clear he HX HK HT HW HC;go_wp2;go_ret;exact⟨rfl,Nx.rfl.alloc _⟩
     ·have he':=Zab he
      have HS:=Za (Zj HT.out (fun e=>he (HX.out.trans e)))
      clear he HX HK HT HW HC;go_wp2
      go_round
      case rel=>exact⟨5,by decide,rfl,HS.out⟩
      case measure=>simp[intOf]
   by_cases k5:k=5
   ·subst k5
    by_cases hse:tl se=[]
    ·skip
     have HX:=Za ((Zh4 p who ho pa se ha 5 rfl (by exact⟨rfl,hse⟩) (by rintro⟨a,-⟩;exact absurd a (by decide))).trans (by rw[HW.out]):tl (p++pa++se++(⟨#[63]⟩:BA)++ha)=Zt (tl p) (ZE (tl us) (tl pw)) (tl ho) (tl pa) (tl se) (tl ha) 5)
     have hse':=Zk hse;clear hse
     by_cases he:tl (p++pa++se++(⟨#[63]⟩:BA)++ha)=tl h
     ·have he':=Zaa he
      have hz:=(HK.out 5 (HX.out.symm.trans he) HT.out).resolve_left (by decide)
      have hz1:=Zk (HW.out.trans hz.1);have hz2:=Zk hz.2;clear hz;clear he HX HK HT HW HC;go_wp2;go_ret;exact⟨rfl,Nx.rfl.alloc _⟩
     ·have he':=Zab he
      have HS:=Za (Zj HT.out (fun e=>he (HX.out.trans e)))
      clear he HX HK HT HW HC;go_wp2
      go_round
      case rel=>exact⟨6,by decide,rfl,HS.out⟩
      case measure=>simp[intOf]
    ·skip
     have HX:=Za ((Zdv p who ho pa se ha 5 rfl (by rintro⟨-,a⟩;exact hse a) (by rintro⟨a,-⟩;exact absurd a (by decide))).trans (by rw[HW.out]):tl (p++pa++se++ha)=Zt (tl p) (ZE (tl us) (tl pw)) (tl ho) (tl pa) (tl se) (tl ha) 5)
     have hse':=ZF hse;clear hse
     by_cases he:tl (p++pa++se++ha)=tl h
     ·have he':=Zaa he
      have hz:=(HK.out 5 (HX.out.symm.trans he) HT.out).resolve_left (by decide)
      have hz1:=Zk (HW.out.trans hz.1);have hz2:=Zk hz.2;clear hz;clear he HX HK HT HW HC;go_wp2;go_ret;exact⟨rfl,Nx.rfl.alloc _⟩
     ·have he':=Zab he
      have HS:=Za (Zj HT.out (fun e=>he (HX.out.trans e)))
      clear he HX HK HT HW HC;go_wp2
      go_round
      case rel=>exact⟨6,by decide,rfl,HS.out⟩
      case measure=>simp[intOf]
   by_cases k6:k=6
   ·subst k6
    by_cases hha:tl ha=[]
    ·skip
     have HX:=Za ((ZhZ p who ho pa se ha 6 rfl (by rintro⟨a,-⟩;exact absurd a (by decide)) (by exact⟨rfl,hha⟩)).trans (by rw[HW.out]):tl (p++(⟨#[47,47]⟩:BA)++who++ho++pa++se++ha++(⟨#[35]⟩:BA))=Zt (tl p) (ZE (tl us) (tl pw)) (tl ho) (tl pa) (tl se) (tl ha) 6)
     have hha':=Zk hha;clear hha
     by_cases he:tl (p++(⟨#[47,47]⟩:BA)++who++ho++pa++se++ha++(⟨#[35]⟩:BA))=tl h
     ·have he':=Zaa he
      clear he HX HK HT HW HC;go_wp2;go_ret;exact⟨rfl,Nx.rfl.alloc _⟩
     ·have he':=Zab he
      have HS:=Za (Zj HT.out (fun e=>he (HX.out.trans e)))
      clear he HX HK HT HW HC;go_wp2
      go_round
      case rel=>exact⟨7,by decide,rfl,HS.out⟩
      case measure=>simp[intOf]
    ·skip
     have HX:=Za ((Zdt p who ho pa se ha 6 rfl (by rintro⟨a,-⟩;exact absurd a (by decide)) (by rintro⟨-,a⟩;exact hha a)).trans (by rw[HW.out]):tl (p++(⟨#[47,47]⟩:BA)++who++ho++pa++se++ha)=Zt (tl p) (ZE (tl us) (tl pw)) (tl ho) (tl pa) (tl se) (tl ha) 6)
     have hha':=ZF hha;clear hha
     by_cases he:tl (p++(⟨#[47,47]⟩:BA)++who++ho++pa++se++ha)=tl h
     ·have he':=Zaa he
      clear he HX HK HT HW HC;go_wp2;go_ret;exact⟨rfl,Nx.rfl.alloc _⟩
     ·have he':=Zab he
      have HS:=Za (Zj HT.out (fun e=>he (HX.out.trans e)))
      clear he HX HK HT HW HC;go_wp2
      go_round
      case rel=>exact⟨7,by decide,rfl,HS.out⟩
      case measure=>simp[intOf]
   by_cases k7:k=7
   ·subst k7
    by_cases hha:tl ha=[]
    ·skip
     have HX:=Za ((Zh1 p who ho pa se ha 7 rfl (by rintro⟨a,-⟩;exact absurd a (by decide)) (by exact⟨rfl,hha⟩)).trans (by rw[HW.out]):tl (p++(⟨#[47,46]⟩:BA)++pa++se++ha++(⟨#[35]⟩:BA))=Zt (tl p) (ZE (tl us) (tl pw)) (tl ho) (tl pa) (tl se) (tl ha) 7)
     have hha':=Zk hha;clear hha
     by_cases he:tl (p++(⟨#[47,46]⟩:BA)++pa++se++ha++(⟨#[35]⟩:BA))=tl h
     ·have he':=Zaa he
      have hz:=(HK.out 7 (HX.out.symm.trans he) HT.out).resolve_left (by decide)
      have hz1:=Zk (HW.out.trans hz.1);have hz2:=Zk hz.2;clear hz;clear he HX HK HT HW HC;go_wp2;go_ret;exact⟨rfl,Nx.rfl.alloc _⟩
     ·have he':=Zab he
      have HS:=Za (Zj HT.out (fun e=>he (HX.out.trans e)))
      clear he HX HK HT HW HC;go_wp2
      go_round
      case rel=>exact⟨8,by decide,rfl,HS.out⟩
      case measure=>simp[intOf]
    ·skip
     have HX:=Za ((Zdu p who ho pa se ha 7 rfl (by rintro⟨a,-⟩;exact absurd a (by decide)) (by rintro⟨-,a⟩;exact hha a)).trans (by rw[HW.out]):tl (p++(⟨#[47,46]⟩:BA)++pa++se++ha)=Zt (tl p) (ZE (tl us) (tl pw)) (tl ho) (tl pa) (tl se) (tl ha) 7)
     have hha':=ZF hha;clear hha
     by_cases he:tl (p++(⟨#[47,46]⟩:BA)++pa++se++ha)=tl h
     ·have he':=Zaa he
      have hz:=(HK.out 7 (HX.out.symm.trans he) HT.out).resolve_left (by decide)
      have hz1:=Zk (HW.out.trans hz.1);have hz2:=Zk hz.2;clear hz;clear he HX HK HT HW HC;go_wp2;go_ret;exact⟨rfl,Nx.rfl.alloc _⟩
     ·have he':=Zab he
      have HS:=Za (Zj HT.out (fun e=>he (HX.out.trans e)))
      clear he HX HK HT HW HC;go_wp2
      go_round
      case rel=>exact⟨8,by decide,rfl,HS.out⟩
      case measure=>simp[intOf]
   by_cases k8:k=8
   ·subst k8
    by_cases hha:tl ha=[]
    ·skip
     have HX:=Za ((Zh3 p who ho pa se ha 8 rfl (by rintro⟨a,-⟩;exact absurd a (by decide)) (by exact⟨rfl,hha⟩)).trans (by rw[HW.out]):tl (p++pa++se++ha++(⟨#[35]⟩:BA))=Zt (tl p) (ZE (tl us) (tl pw)) (tl ho) (tl pa) (tl se) (tl ha) 8)
     have hha':=Zk hha;clear hha
     by_cases he:tl (p++pa++se++ha++(⟨#[35]⟩:BA))=tl h
     ·have he':=Zaa he
      have hz:=(HK.out 8 (HX.out.symm.trans he) HT.out).resolve_left (by decide)
      have hz1:=Zk (HW.out.trans hz.1);have hz2:=Zk hz.2;clear hz;clear he HX HK HT HW HC;go_wp2;go_ret;exact⟨rfl,Nx.rfl.alloc _⟩
     ·have he':=Zab he
      have HS:=Za (Zj HT.out (fun e=>he (HX.out.trans e)))
      clear he HX HK HT HW HC;go_wp2
      go_round
      case rel=>exact⟨9,by decide,rfl,HS.out⟩
      case measure=>simp[intOf]
    ·skip
     have HX:=Za ((Zdv p who ho pa se ha 8 rfl (by rintro⟨a,-⟩;exact absurd a (by decide)) (by rintro⟨-,a⟩;exact hha a)).trans (by rw[HW.out]):tl (p++pa++se++ha)=Zt (tl p) (ZE (tl us) (tl pw)) (tl ho) (tl pa) (tl se) (tl ha) 8)
     have hha':=ZF hha;clear hha
     by_cases he:tl (p++pa++se++ha)=tl h
     ·have he':=Zaa he
      have hz:=(HK.out 8 (HX.out.symm.trans he) HT.out).resolve_left (by decide)
      have hz1:=Zk (HW.out.trans hz.1);have hz2:=Zk hz.2;clear hz;clear he HX HK HT HW HC;go_wp2;go_ret;exact⟨rfl,Nx.rfl.alloc _⟩
     ·have he':=Zab he
      have HS:=Za (Zj HT.out (fun e=>he (HX.out.trans e)))
      clear he HX HK HT HW HC;go_wp2
      go_round
      case rel=>exact⟨9,by decide,rfl,HS.out⟩
      case measure=>simp[intOf]
   by_cases k9:k=9
   ·subst k9
    by_cases hse:tl se=[]
    ·skip
     by_cases hha:tl ha=[]
     ·skip
      have HX:=Za ((Zo5 p who ho pa se ha 9 rfl (by exact⟨rfl,hse⟩) (by exact⟨rfl,hha⟩)).trans (by rw[HW.out]):tl (p++(⟨#[47,47]⟩:BA)++who++ho++pa++se++(⟨#[63]⟩:BA)++ha++(⟨#[35]⟩:BA))=Zt (tl p) (ZE (tl us) (tl pw)) (tl ho) (tl pa) (tl se) (tl ha) 9)
      have hse':=Zk hse;clear hse;have hha':=Zk hha;clear hha
      by_cases he:tl (p++(⟨#[47,47]⟩:BA)++who++ho++pa++se++(⟨#[63]⟩:BA)++ha++(⟨#[35]⟩:BA))=tl h
      ·have he':=Zaa he
       clear he HX HK HT HW HC;go_wp2;go_ret;exact⟨rfl,Nx.rfl.alloc _⟩
      ·have he':=Zab he
       have HS:=Za (Zj HT.out (fun e=>he (HX.out.trans e)))
       clear he HX HK HT HW HC;go_wp2
       go_round
       case rel=>exact⟨10,by decide,rfl,HS.out⟩
       case measure=>simp[intOf]
     ·skip
      have HX:=Za ((Zh0 p who ho pa se ha 9 rfl (by exact⟨rfl,hse⟩) (by rintro⟨-,a⟩;exact hha a)).trans (by rw[HW.out]):tl (p++(⟨#[47,47]⟩:BA)++who++ho++pa++se++(⟨#[63]⟩:BA)++ha)=Zt (tl p) (ZE (tl us) (tl pw)) (tl ho) (tl pa) (tl se) (tl ha) 9)
      have hse':=Zk hse;clear hse;have hha':=ZF hha;clear hha
      by_cases he:tl (p++(⟨#[47,47]⟩:BA)++who++ho++pa++se++(⟨#[63]⟩:BA)++ha)=tl h
      ·have he':=Zaa he
       clear he HX HK HT HW HC;go_wp2;go_ret;exact⟨rfl,Nx.rfl.alloc _⟩
      ·have he':=Zab he
       have HS:=Za (Zj HT.out (fun e=>he (HX.out.trans e)))
       clear he HX HK HT HW HC;go_wp2
       go_round
       case rel=>exact⟨10,by decide,rfl,HS.out⟩
       case measure=>simp[intOf]
    ·skip
     by_cases hha:tl ha=[]
     ·skip
      have HX:=Za ((ZhZ p who ho pa se ha 9 rfl (by rintro⟨-,a⟩;exact hse a) (by exact⟨rfl,hha⟩)).trans (by rw[HW.out]):tl (p++(⟨#[47,47]⟩:BA)++who++ho++pa++se++ha++(⟨#[35]⟩:BA))=Zt (tl p) (ZE (tl us) (tl pw)) (tl ho) (tl pa) (tl se) (tl ha) 9)
      have hse':=ZF hse;clear hse;have hha':=Zk hha;clear hha
      by_cases he:tl (p++(⟨#[47,47]⟩:BA)++who++ho++pa++se++ha++(⟨#[35]⟩:BA))=tl h
      ·have he':=Zaa he
       clear he HX HK HT HW HC;go_wp2;go_ret;exact⟨rfl,Nx.rfl.alloc _⟩
      ·have he':=Zab he
       have HS:=Za (Zj HT.out (fun e=>he (HX.out.trans e)))
       clear he HX HK HT HW HC;go_wp2
       go_round
       case rel=>exact⟨10,by decide,rfl,HS.out⟩
       case measure=>simp[intOf]
     ·skip
      have HX:=Za ((Zdt p who ho pa se ha 9 rfl (by rintro⟨-,a⟩;exact hse a) (by rintro⟨-,a⟩;exact hha a)).trans (by rw[HW.out]):tl (p++(⟨#[47,47]⟩:BA)++who++ho++pa++se++ha)=Zt (tl p) (ZE (tl us) (tl pw)) (tl ho) (tl pa) (tl se) (tl ha) 9)
      have hse':=ZF hse;clear hse;have hha':=ZF hha;clear hha
      by_cases he:tl (p++(⟨#[47,47]⟩:BA)++who++ho++pa++se++ha)=tl h
      ·have he':=Zaa he
       clear he HX HK HT HW HC;go_wp2;go_ret;exact⟨rfl,Nx.rfl.alloc _⟩
      ·have he':=Zab he
       have HS:=Za (Zj HT.out (fun e=>he (HX.out.trans e)))
       clear he HX HK HT HW HC;go_wp2
       go_round
       case rel=>exact⟨10,by decide,rfl,HS.out⟩
       case measure=>simp[intOf]
   by_cases k10:k=10
   ·subst k10
    by_cases hse:tl se=[]
    ·skip
     by_cases hha:tl ha=[]
     ·skip
      have HX:=Za ((Zo6 p who ho pa se ha 10 rfl (by exact⟨rfl,hse⟩) (by exact⟨rfl,hha⟩)).trans (by rw[HW.out]):tl (p++(⟨#[47,46]⟩:BA)++pa++se++(⟨#[63]⟩:BA)++ha++(⟨#[35]⟩:BA))=Zt (tl p) (ZE (tl us) (tl pw)) (tl ho) (tl pa) (tl se) (tl ha) 10)
      have hse':=Zk hse;clear hse;have hha':=Zk hha;clear hha
      by_cases he:tl (p++(⟨#[47,46]⟩:BA)++pa++se++(⟨#[63]⟩:BA)++ha++(⟨#[35]⟩:BA))=tl h
      ·have he':=Zaa he
       have hz:=(HK.out 10 (HX.out.symm.trans he) HT.out).resolve_left (by decide)
       have hz1:=Zk (HW.out.trans hz.1);have hz2:=Zk hz.2;clear hz;clear he HX HK HT HW HC;go_wp2;go_ret;exact⟨rfl,Nx.rfl.alloc _⟩
      ·have he':=Zab he
       have HS:=Za (Zj HT.out (fun e=>he (HX.out.trans e)))
       clear he HX HK HT HW HC;go_wp2
       go_round
       case rel=>exact⟨11,by decide,rfl,HS.out⟩
       case measure=>simp[intOf]
     ·skip
      have HX:=Za ((Zh2 p who ho pa se ha 10 rfl (by exact⟨rfl,hse⟩) (by rintro⟨-,a⟩;exact hha a)).trans (by rw[HW.out]):tl (p++(⟨#[47,46]⟩:BA)++pa++se++(⟨#[63]⟩:BA)++ha)=Zt (tl p) (ZE (tl us) (tl pw)) (tl ho) (tl pa) (tl se) (tl ha) 10)
      have hse':=Zk hse;clear hse;have hha':=ZF hha;clear hha
      by_cases he:tl (p++(⟨#[47,46]⟩:BA)++pa++se++(⟨#[63]⟩:BA)++ha)=tl h
      ·have he':=Zaa he
       have hz:=(HK.out 10 (HX.out.symm.trans he) HT.out).resolve_left (by decide)
       have hz1:=Zk (HW.out.trans hz.1);have hz2:=Zk hz.2;clear hz;clear he HX HK HT HW HC;go_wp2;go_ret;exact⟨rfl,Nx.rfl.alloc _⟩
      ·have he':=Zab he
       have HS:=Za (Zj HT.out (fun e=>he (HX.out.trans e)))
       clear he HX HK HT HW HC;go_wp2
       go_round
       case rel=>exact⟨11,by decide,rfl,HS.out⟩
       case measure=>simp[intOf]
    ·skip
     by_cases hha:tl ha=[]
     ·skip
      have HX:=Za ((Zh1 p who ho pa se ha 10 rfl (by rintro⟨-,a⟩;exact hse a) (by exact⟨rfl,hha⟩)).trans (by rw[HW.out]):tl (p++(⟨#[47,46]⟩:BA)++pa++se++ha++(⟨#[35]⟩:BA))=Zt (tl p) (ZE (tl us) (tl pw)) (tl ho) (tl pa) (tl se) (tl ha) 10)
      have hse':=ZF hse;clear hse;have hha':=Zk hha;clear hha
      by_cases he:tl (p++(⟨#[47,46]⟩:BA)++pa++se++ha++(⟨#[35]⟩:BA))=tl h
      ·have he':=Zaa he
       have hz:=(HK.out 10 (HX.out.symm.trans he) HT.out).resolve_left (by decide)
       have hz1:=Zk (HW.out.trans hz.1);have hz2:=Zk hz.2;clear hz;clear he HX HK HT HW HC;go_wp2;go_ret;exact⟨rfl,Nx.rfl.alloc _⟩
      ·have he':=Zab he
       have HS:=Za (Zj HT.out (fun e=>he (HX.out.trans e)))
       clear he HX HK HT HW HC;go_wp2
       go_round
       case rel=>exact⟨11,by decide,rfl,HS.out⟩
       case measure=>simp[intOf]
     ·skip
      have HX:=Za ((Zdu p who ho pa se ha 10 rfl (by rintro⟨-,a⟩;exact hse a) (by rintro⟨-,a⟩;exact hha a)).trans (by rw[HW.out]):tl (p++(⟨#[47,46]⟩:BA)++pa++se++ha)=Zt (tl p) (ZE (tl us) (tl pw)) (tl ho) (tl pa) (tl se) (tl ha) 10)
      have hse':=ZF hse;clear hse;have hha':=ZF hha;clear hha
      by_cases he:tl (p++(⟨#[47,46]⟩:BA)++pa++se++ha)=tl h
      ·have he':=Zaa he
       have hz:=(HK.out 10 (HX.out.symm.trans he) HT.out).resolve_left (by decide)
       have hz1:=Zk (HW.out.trans hz.1);have hz2:=Zk hz.2;clear hz;clear he HX HK HT HW HC;go_wp2;go_ret;exact⟨rfl,Nx.rfl.alloc _⟩
      ·have he':=Zab he
       have HS:=Za (Zj HT.out (fun e=>he (HX.out.trans e)))
       clear he HX HK HT HW HC;go_wp2
       go_round
       case rel=>exact⟨11,by decide,rfl,HS.out⟩
       case measure=>simp[intOf]
   by_cases k11:k=11
   ·subst k11
    by_cases hse:tl se=[]
    ·skip
     by_cases hha:tl ha=[]
     ·skip
      have HX:=Za ((Zo7 p who ho pa se ha 11 rfl (by exact⟨rfl,hse⟩) (by exact⟨rfl,hha⟩)).trans (by rw[HW.out]):tl (p++pa++se++(⟨#[63]⟩:BA)++ha++(⟨#[35]⟩:BA))=Zt (tl p) (ZE (tl us) (tl pw)) (tl ho) (tl pa) (tl se) (tl ha) 11)
      have hse':=Zk hse;clear hse;have hha':=Zk hha;clear hha
      by_cases he:tl (p++pa++se++(⟨#[63]⟩:BA)++ha++(⟨#[35]⟩:BA))=tl h
      ·have he':=Zaa he
       have hz:=(HK.out 11 (HX.out.symm.trans he) HT.out).resolve_left (by decide)
       have hz1:=Zk (HW.out.trans hz.1);have hz2:=Zk hz.2;clear hz;clear he HX HK HT HW HC;go_wp2;go_ret;exact⟨rfl,Nx.rfl.alloc _⟩
      ·have he':=Zab he
       have HS:=Za (Zj HT.out (fun e=>he (HX.out.trans e)))
       clear he HX HK HT HW HC;go_wp2
       go_round
       case rel=>exact⟨12,by decide,rfl,HS.out⟩
       case measure=>simp[intOf]
     ·skip
      have HX:=Za ((Zh4 p who ho pa se ha 11 rfl (by exact⟨rfl,hse⟩) (by rintro⟨-,a⟩;exact hha a)).trans (by rw[HW.out]):tl (p++pa++se++(⟨#[63]⟩:BA)++ha)=Zt (tl p) (ZE (tl us) (tl pw)) (tl ho) (tl pa) (tl se) (tl ha) 11)
      have hse':=Zk hse;clear hse;have hha':=ZF hha;clear hha
      by_cases he:tl (p++pa++se++(⟨#[63]⟩:BA)++ha)=tl h
      ·have he':=Zaa he
       have hz:=(HK.out 11 (HX.out.symm.trans he) HT.out).resolve_left (by decide)
       have hz1:=Zk (HW.out.trans hz.1);have hz2:=Zk hz.2;clear hz;clear he HX HK HT HW HC;go_wp2;go_ret;exact⟨rfl,Nx.rfl.alloc _⟩
      ·have he':=Zab he
       have HS:=Za (Zj HT.out (fun e=>he (HX.out.trans e)))
       clear he HX HK HT HW HC;go_wp2
       go_round
       case rel=>exact⟨12,by decide,rfl,HS.out⟩
       case measure=>simp[intOf]
    ·skip
     by_cases hha:tl ha=[]
     ·skip
      have HX:=Za ((Zh3 p who ho pa se ha 11 rfl (by rintro⟨-,a⟩;exact hse a) (by exact⟨rfl,hha⟩)).trans (by rw[HW.out]):tl (p++pa++se++ha++(⟨#[35]⟩:BA))=Zt (tl p) (ZE (tl us) (tl pw)) (tl ho) (tl pa) (tl se) (tl ha) 11)
      have hse':=ZF hse;clear hse;have hha':=Zk hha;clear hha
      by_cases he:tl (p++pa++se++ha++(⟨#[35]⟩:BA))=tl h
      ·have he':=Zaa he
       have hz:=(HK.out 11 (HX.out.symm.trans he) HT.out).resolve_left (by decide)
       have hz1:=Zk (HW.out.trans hz.1);have hz2:=Zk hz.2;clear hz;clear he HX HK HT HW HC;go_wp2;go_ret;exact⟨rfl,Nx.rfl.alloc _⟩
      ·have he':=Zab he
       have HS:=Za (Zj HT.out (fun e=>he (HX.out.trans e)))
       clear he HX HK HT HW HC;go_wp2
       go_round
       case rel=>exact⟨12,by decide,rfl,HS.out⟩
       case measure=>simp[intOf]
     ·skip
      have HX:=Za ((Zdv p who ho pa se ha 11 rfl (by rintro⟨-,a⟩;exact hse a) (by rintro⟨-,a⟩;exact hha a)).trans (by rw[HW.out]):tl (p++pa++se++ha)=Zt (tl p) (ZE (tl us) (tl pw)) (tl ho) (tl pa) (tl se) (tl ha) 11)
      have hse':=ZF hse;clear hse;have hha':=ZF hha;clear hha
      by_cases he:tl (p++pa++se++ha)=tl h
      ·have he':=Zaa he
       have hz:=(HK.out 11 (HX.out.symm.trans he) HT.out).resolve_left (by decide)
       have hz1:=Zk (HW.out.trans hz.1);have hz2:=Zk hz.2;clear hz;clear he HX HK HT HW HC;go_wp2;go_ret;exact⟨rfl,Nx.rfl.alloc _⟩
      ·have he':=Zab he
       have HS:=Za (Zj HT.out (fun e=>he (HX.out.trans e)))
       clear he HX HK HT HW HC;go_wp2
       go_round
       case rel=>exact⟨12,by decide,rfl,HS.out⟩
       case measure=>simp[intOf]
   exfalso
   obtain⟨j,h0,h1⟩:=HC.out
   exact HT.out j (by omega) h1
theorem Zwo(u:U)(h:Wf u)(l0:u.sch.length≤1000000)(l1:u.nam.length≤1000000)(l2:u.pw.length≤1000000)(l5:u.q.length≤1000000)(l6:u.fr.length≤1000000)(e:Ending)(he:ZmF e u):∃v,e=.returned v∧∀w,Calls Tryz.prog 37 #[v] w fun e w'=>e=.returned (.bool true)∧Nx w w':=by
 obtain⟨t0,t1,t2,t3,t4,t5,t6,t7,t8,t9,t10,rfl,h0,h1,h2,h3,h4,h5,h6,h7,h8,h9,h10,s5,s8⟩:=he
 refine⟨_,rfl,fun w=>?_⟩
 have hcand:∀k,Zt (tl t2) (ZE (tl t3) (tl t4)) (tl t5) (tl t8) (tl t9) (tl t10) k=Zmi u k:=fun k=>by rw[h2,h3,h4,h5,h8,h9,h10];rfl
 have z2:t2.size≤200000000000:=by rw[←tl_length,h2];unfold Zad;simp;omega
 have z3:t3.size≤200000000000:=by rw[←tl_length,h3];omega
 have z4:t4.size≤200000000000:=by rw[←tl_length,h4];omega
 have z9:t9.size≤200000000000:=by
  rw[←tl_length,h9];unfold Z4 ZaL
  split
  ·simp
  ·simp;omega
 have z10:t10.size≤200000000000:=by
  rw[←tl_length,h10];unfold ZbX ZaL
  split
  ·simp
  ·simp;omega
 have hc:∃k,k<12∧Zt (tl t2) (ZE (tl t3) (tl t4)) (tl t5) (tl t8) (tl t9) (tl t10) k=tl t0:=⟨ZeE u,Zqp u,by rw[hcand,h0];exact Zf2 h⟩
 have hok:∀k,Zt (tl t2) (ZE (tl t3) (tl t4)) (tl t5) (tl t8) (tl t9) (tl t10) k=tl t0→(∀j,j<k→Zt (tl t2) (ZE (tl t3) (tl t4)) (tl t5) (tl t8) (tl t9) (tl t10) j≠tl t0)→k%3=0∨(ZE (tl t3) (tl t4)=[]∧tl t5=[]):=by
  intro k hk hj;rw[hcand,h0]at hk
  have:=Zsv h hk (fun j hlt e=>hj j hlt (by rw[hcand,h0];exact e))
  rw[h3,h4,h5];exact this
 by_cases hu:t3.size=0
 ·exact Zzx t0 t1 t2 t3 t4 t5 t6 t7 t8 t9 t10 w z2 z3 z4 s5 s8 z9 z10 hc hok hu
 ·exact Zzy t0 t1 t2 t3 t4 t5 t6 t7 t8 t9 t10 w z2 z3 z4 s5 s8 z9 z10 hc hok hu
abbrev ZA6:List UInt8:=[98,108,111,98,58]
theorem Zwq(h og p us pw ho hn po pa se ha:BA)(w:World)(ht:Tb w)(lp:p.size≤1000001)(lho:ho.size≤200000000000)
  (k1:ZuO (tl p)=true→¬tl p=Zva→tl og=tl p++[47,47]++tl ho)
  (k2:¬(ZuO (tl p)=true∧¬tl p=Zva)→¬tl p=ZA6→tl og=ZcX)
  (k3:¬tl og=ZcX→og.size≤160→∃v,Zat (tl og) [] false=(v,0)∧ZZ v=tl og∧pathU v=[47]∧Z4 v=[]∧ZbX v=[]∧v.nam=[]∧v.sch≠[98,108,111,98]):
  Calls Tryz.prog 38 #[.agg #[.string h,.string og,.string p,.string us,.string pw,.string ho,.string hn,.string po,.string pa,.string se,.string ha]] w fun e w'=>e=.returned (.bool true)∧Nx w w':=by
 have HTB:=Za ht;have K1:=Za k1;have K2:=Za k2;have K3:=Za k3
 have HBS:Hid (tl p=ZA6→ZuO (tl p)=false):=Za (fun e=>by rw[e];decide)
 clear ht k1 k2 k3;have HSP:=Za (Zu6 p);generalize ZuO (tl p)=sp at *
 by_cases hb:tl p=ZA6
 ·have hsp:=HBS.out hb
  subst hsp;have hb1:=eqB hb;have hb2:=Zyv hb1;clear hb
  by_cases hnl:tl og=ZcX
  ·have hn':=eqB hnl
   unfold ZcX at hn';clear hnl
   go_enter Tryz.func38,Tryz.ntmps38
   go_wp2_with (go_at_call 91;refine(HSP.out _).mono ?_;rintro e w' ⟨rfl,rfl⟩)
   go_ret;exact⟨rfl,Nx.rfl.alloc _⟩
  ·have hn':=neB hnl
   unfold ZcX at hn'
   by_cases hl:og.size≤160
   ·obtain⟨v,v1,v2,v3,v4,v5,v6,v7⟩:=K3.out hnl hl
    have HPA:=Za (fun w1 (hn:Nx w w1)=>ZeD og ⟨#[]⟩ false w1 (Zg (by omega)) (Zg (by decide)) (HTB.out.on hn))
    rw[show tl (⟨#[]⟩:BA)=[]from rfl,v1]at HPA;have V2:=Za v2;have V3:=Za v3;have V4:=Za v4;have V5:=Za v5;have V6:=Za v6;have V7:=Za v7;have HC0:Hid (C11 (w.alloc (Obj.cells #[.string h,.string og,.string p,.string us,.string pw,.string ho,.string hn,.string po,.string pa,.string se,.string ha] 66)) w.heap.size (.string h) (.string og) (.string p) (.string us) (.string pw) (.string ho) (.string hn) (.string po) (.string pa) (.string se) (.string ha)):=Za (heap_alloc_new w _);clear hnl v1 v2 v3 v4 v5 v6 v7
    go_enter Tryz.func38,Tryz.ntmps38
    go_wp2_with (first|(go_at_call 91;refine(HSP.out _).mono ?_;rintro e w' ⟨rfl,rfl⟩)|fail)
    refine(HPA.out _ (Nx.rfl.alloc _)).mono ?_
    rintro e w1 ⟨hp,hn1⟩;rcases hp with⟨he,-⟩|⟨-,pb,r,bs,rfl,hu,hr⟩
    ·exact absurd rfl he
    have HN1:=Za (show Nx w w1 from(Nx.rfl.alloc _).then hn1);have HC1:=Za (HC0.out.on hn1);have HU:=Za hu;have HR:=Za hr;clear hn1 hu hr HC0;go_wp2_with fail
    refine(ZeL pb r v bs _ HU.out HR.out (HTB.out.on HN1.out) (fun e=>absurd e V7.out)).mono ?_
    rintro e w2 ⟨⟨t0,t1,t2,t3,t4,t5,t6,t7,t8,t9,t10,rfl,g0,g1,g2,g3,g4,g5,g6,g7,g8,g9,g10,-,-⟩,hn2⟩;have HN2:=Za (HN1.out.then hn2);have HC2:=Za (HC1.out.on hn2)
    have q1:=Zvd (show tl t1=tl og by rw[g1,V2.out])
    have q8:(t8.toList == [47])=true:=eqB (by rw[g8,V3.out])
    have q9:=Zf (s:=t9) (by rw[←tl_length,g9,V4.out];rfl)
    have q10:=Zf (s:=t10) (by rw[←tl_length,g10,V5.out];rfl)
    have q3:=Zf (s:=t3) (by rw[←tl_length,g3,V6.out];rfl)
    obtain⟨-,c1,-⟩:=HC2.out.cells;have hlb:w.heap.size<w2.heap.size:=(Xa.1 HC2.out).1;clear g0 g1 g2 g3 g4 g5 g6 g7 g8 g9 g10 hn2 HC1 HU HR V2 V3 V4 V5 V6 V7 HPA K1 K2 K3;go_wp2;go_ret;exact⟨rfl,HN2.out.alloc _⟩
   ·have hl':160<og.size:=by omega
    clear hl hnl
    go_enter Tryz.func38,Tryz.ntmps38
    go_wp2_with (go_at_call 91;refine(HSP.out _).mono ?_;rintro e w' ⟨rfl,rfl⟩)
    go_ret;exact⟨rfl,Nx.rfl.alloc _⟩
 ·have hb1:=neB hb
  have hb2:=Zzo hb1
  by_cases hf:tl p=Zva
  ·have hf1:=eqB hf
   have hf2:=Zyv hf1
   have hn':=eqB (K2.out (fun x=>x.2 hf) hb)
   unfold ZcX at hn';clear hf hb
   cases sp
   ·go_enter Tryz.func38,Tryz.ntmps38
    go_wp2_with (go_at_call 91;refine(HSP.out _).mono ?_;rintro e w' ⟨rfl,rfl⟩)
    go_ret;exact⟨rfl,Nx.rfl.alloc _⟩
   ·go_enter Tryz.func38,Tryz.ntmps38
    go_wp2_with (go_at_call 91;refine(HSP.out _).mono ?_;rintro e w' ⟨rfl,rfl⟩)
    go_ret;exact⟨rfl,Nx.rfl.alloc _⟩
  ·have hf1:=neB hf
   have hf2:=Zzo hf1
   cases sp
   ·have hn':=eqB (K2.out (fun x=>by cases x.1) hb)
    unfold ZcX at hn';clear hf hb
    go_enter Tryz.func38,Tryz.ntmps38
    go_wp2_with (go_at_call 91;refine(HSP.out _).mono ?_;rintro e w' ⟨rfl,rfl⟩)
    go_ret;exact⟨rfl,Nx.rfl.alloc _⟩
   ·have he:=Zvd (show tl og=tl (p++(⟨#[47,47]⟩:BA)++ho)by rw[K1.out rfl hf,tlApp7,tlApp7];rfl)
    have he':(og.toList != (p++(⟨#[47,47]⟩:BA)++ho).toList)=false:=by simp only[bne,he];rfl
    clear hf hb
    by_cases hnl:tl og=ZcX
    ·have hn':=eqB hnl
     unfold ZcX at hn';clear hnl
     go_enter Tryz.func38,Tryz.ntmps38
     go_wp2_with (go_at_call 91;refine(HSP.out _).mono ?_;rintro e w' ⟨rfl,rfl⟩)
     go_ret;exact⟨rfl,Nx.rfl.alloc _⟩
    ·have hn':=neB hnl
     unfold ZcX at hn'
     by_cases hl:og.size≤160
     ·obtain⟨v,v1,v2,v3,v4,v5,v6,v7⟩:=K3.out hnl hl
      have HPA:=Za (fun w1 (hn:Nx w w1)=>ZeD og ⟨#[]⟩ false w1 (Zg (by omega)) (Zg (by decide)) (HTB.out.on hn))
      rw[show tl (⟨#[]⟩:BA)=[]from rfl,v1]at HPA;have V2:=Za v2;have V3:=Za v3;have V4:=Za v4;have V5:=Za v5;have V6:=Za v6;have V7:=Za v7;have HC0:Hid (C11 (w.alloc (Obj.cells #[.string h,.string og,.string p,.string us,.string pw,.string ho,.string hn,.string po,.string pa,.string se,.string ha] 66)) w.heap.size (.string h) (.string og) (.string p) (.string us) (.string pw) (.string ho) (.string hn) (.string po) (.string pa) (.string se) (.string ha)):=Za (heap_alloc_new w _);clear hnl v1 v2 v3 v4 v5 v6 v7
      go_enter Tryz.func38,Tryz.ntmps38
      go_wp2_with (first|(go_at_call 91;refine(HSP.out _).mono ?_;rintro e w' ⟨rfl,rfl⟩)|fail)
      refine(HPA.out _ (Nx.rfl.alloc _)).mono ?_
      rintro e w1 ⟨hp,hn1⟩;rcases hp with⟨he,-⟩|⟨-,pb,r,bs,rfl,hu,hr⟩
      ·exact absurd rfl he
      have HN1:=Za (show Nx w w1 from(Nx.rfl.alloc _).then hn1);have HC1:=Za (HC0.out.on hn1);have HU:=Za hu;have HR:=Za hr;clear hn1 hu hr HC0;go_wp2_with fail
      refine(ZeL pb r v bs _ HU.out HR.out (HTB.out.on HN1.out) (fun e=>absurd e V7.out)).mono ?_
      rintro e w2 ⟨⟨t0,t1,t2,t3,t4,t5,t6,t7,t8,t9,t10,rfl,g0,g1,g2,g3,g4,g5,g6,g7,g8,g9,g10,-,-⟩,hn2⟩;have HN2:=Za (HN1.out.then hn2);have HC2:=Za (HC1.out.on hn2)
      have q1:=Zvd (show tl t1=tl og by rw[g1,V2.out])
      have q8:(t8.toList == [47])=true:=eqB (by rw[g8,V3.out])
      have q9:=Zf (s:=t9) (by rw[←tl_length,g9,V4.out];rfl)
      have q10:=Zf (s:=t10) (by rw[←tl_length,g10,V5.out];rfl)
      have q3:=Zf (s:=t3) (by rw[←tl_length,g3,V6.out];rfl)
      obtain⟨-,c1,-⟩:=HC2.out.cells;have hlb:w.heap.size<w2.heap.size:=(Xa.1 HC2.out).1;clear g0 g1 g2 g3 g4 g5 g6 g7 g8 g9 g10 hn2 HC1 HU HR V2 V3 V4 V5 V6 V7 HPA K1 K2 K3;go_wp2;go_ret;exact⟨rfl,HN2.out.alloc _⟩
     ·have hl':160<og.size:=by omega
      clear hl hnl
      go_enter Tryz.func38,Tryz.ntmps38
      go_wp2_with (go_at_call 91;refine(HSP.out _).mono ?_;rintro e w' ⟨rfl,rfl⟩)
      go_ret;exact⟨rfl,Nx.rfl.alloc _⟩
end Go.Proofs.YtchkhibgbnhjpabGreatDoor
