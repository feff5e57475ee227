import Derived.Test.YtchkhibgbnhjpabGreatDoorT09
namespace Go.Proofs.YtchkhibgbnhjpabGreatDoor
open Go.RowKit
set_option maxHeartbeats 16000000
set_option maxRecDepth 8000
theorem Zzx(h og p us pw ho hn po pa se ha:BA)(w:World)(l0:p.size≤200000000000)(l1:us.size≤200000000000)(l2:pw.size≤200000000000)(l3:ho.size≤200000000000)(l4:pa.size≤200000000000)(l5:se.size≤200000000000)(l6:ha.size≤200000000000)
  (hc:∃k,k<12∧Zt (tl p) (ZE (tl us) (tl pw)) (tl ho) (tl pa) (tl se) (tl ha) k=tl h)
  (hok:∀k,Zt (tl p) (ZE (tl us) (tl pw)) (tl ho) (tl pa) (tl se) (tl ha) k=tl h→(∀j,j<k→Zt (tl p) (ZE (tl us) (tl pw)) (tl ho) (tl pa) (tl se) (tl ha) j≠tl h)→k%3=0∨(ZE (tl us) (tl pw)=[]∧tl ho=[])) (hu:us.size=0):
  Calls Tryz.prog 37 #[.agg #[.string h,.string og,.string p,.string us,.string pw,.string ho,.string hn,.string po,.string pa,.string se,.string ha]] w fun e w'=>e=.returned (.bool true)∧Nx w w':=by
 have HC:=Za hc;have HK:=Za hok;clear hc hok;have HE:=Za (ZsK hu);have hu':=Zf hu;clear hu
 go_enter Tryz.func37,Tryz.ntmps37
 go_upto_if 13 with fail
 go_cut [3]from 6 (fun s wx=>∃who:BA,s=.string who∧tl who=ZE (tl us) (tl pw)∧who.size≤500000000000∧wx=w.alloc (Obj.cells #[.string h,.string og,.string p,.string us,.string pw,.string ho,.string hn,.string po,.string pa,.string se,.string ha] 66))
 case first=>
  by_cases hp:pw.size=0
  ·have hp':=Zf hp
   have HP:=Za (ZsK hp);clear hp;go_wp2
   all_goals try exact absurd (by assumption:(!pw.toList.isEmpty)=true) (by rw[hp'];decide)
   go_meet
   case rel=>exact⟨⟨#[]⟩,rfl,by rw[HE.out,HP.out];rfl,by decide,rfl⟩
  ·have hp':=Ze hp
   have HP:=Za (ZcC hp);clear hp;go_wp2
   all_goals try exact absurd (by assumption:(!pw.toList.isEmpty)=false) (by rw[hp'];decide)
   go_meet
   case rel=>exact⟨us++(⟨#[58]⟩:BA)++pw++(⟨#[64]⟩:BA),rfl,by unfold ZE;rw[if_neg (fun h=>HP.out h.2),if_neg HP.out,Zc,Zc,Zc];simp;rfl,by rw[Zm,Zm,Zm];show us.size+1+pw.size+1≤_;omega,rfl⟩
 case rest=>
  obtain⟨who,rfl,hwho,hwl,rfl⟩:=hcut;have HW:=Za hwho;clear hwho;go_wp2
  go_loop [4,5] (fun i _=>∃(k:Nat),k≤12∧i=.int .i64 k∧∀j,j<k→Zt (tl p) (ZE (tl us) (tl pw)) (tl ho) (tl pa) (tl se) (tl ha) j≠tl h) (fun i _=>12-(intOf i).toNat)
  case atStart=>exact⟨0,Nat.zero_le _,rfl,fun j hj=>absurd hj (Nat.not_lt_zero _)⟩
  case round=>
   obtain⟨k,hk,rfl,hE⟩:=hrel;have HT:=Za hE;clear hE
   by_cases k0:k=0
   ·subst k0
    have HX:=Za ((Zdt p who ho pa se ha 0 rfl (by rintro⟨a,-⟩;exact absurd a (by decide)) (by rintro⟨a,-⟩;exact absurd a (by decide))).trans (by rw[HW.out]):tl (p++(⟨#[47,47]⟩:BA)++who++ho++pa++se++ha)=Zt (tl p) (ZE (tl us) (tl pw)) (tl ho) (tl pa) (tl se) (tl ha) 0)
    by_cases he:tl (p++(⟨#[47,47]⟩:BA)++who++ho++pa++se++ha)=tl h
    ·have he':=Zaa he
     clear he HX HK HT HW HC;go_wp2;go_ret;exact⟨rfl,Nx.rfl.alloc _⟩
    ·have he':=Zab he
     have HS:=Za (Zj HT.out (fun e=>he (HX.out.trans e)))
     clear he HX HK HT HW HC;go_wp2
     go_round
     case rel=>exact⟨1,by decide,rfl,HS.out⟩
     case measure=>simp[intOf]
   by_cases k1:k=1
   ·subst k1
    have HX:=Za ((Zdu p who ho pa se ha 1 rfl (by rintro⟨a,-⟩;exact absurd a (by decide)) (by rintro⟨a,-⟩;exact absurd a (by decide))).trans (by rw[HW.out]):tl (p++(⟨#[47,46]⟩:BA)++pa++se++ha)=Zt (tl p) (ZE (tl us) (tl pw)) (tl ho) (tl pa) (tl se) (tl ha) 1)
    by_cases he:tl (p++(⟨#[47,46]⟩:BA)++pa++se++ha)=tl h
    ·have he':=Zaa he
     have hz:=(HK.out 1 (HX.out.symm.trans he) HT.out).resolve_left (by decide)
     have hz1:=Zk (HW.out.trans hz.1);have hz2:=Zk hz.2;clear hz;clear he HX HK HT HW HC;go_wp2;go_ret;exact⟨rfl,Nx.rfl.alloc _⟩
    ·have he':=Zab he
     have HS:=Za (Zj HT.out (fun e=>he (HX.out.trans e)))
     clear he HX HK HT HW HC;go_wp2
     go_round
     case rel=>exact⟨2,by decide,rfl,HS.out⟩
     case measure=>simp[intOf]
   by_cases k2:k=2
   ·subst k2
    have HX:=Za ((Zdv p who ho pa se ha 2 rfl (by rintro⟨a,-⟩;exact absurd a (by decide)) (by rintro⟨a,-⟩;exact absurd a (by decide))).trans (by rw[HW.out]):tl (p++pa++se++ha)=Zt (tl p) (ZE (tl us) (tl pw)) (tl ho) (tl pa) (tl se) (tl ha) 2)
    by_cases he:tl (p++pa++se++ha)=tl h
    ·have he':=Zaa he
     have hz:=(HK.out 2 (HX.out.symm.trans he) HT.out).resolve_left (by decide)
     have hz1:=Zk (HW.out.trans hz.1);have hz2:=Zk hz.2;clear hz;clear he HX HK HT HW HC;go_wp2;go_ret;exact⟨rfl,Nx.rfl.alloc _⟩
    ·have he':=Zab he
     have HS:=Za (Zj HT.out (fun e=>he (HX.out.trans e)))
     clear he HX HK HT HW HC;go_wp2
     go_round
     case rel=>exact⟨3,by decide,rfl,HS.out⟩
     case measure=>simp[intOf]
   by_cases k3:k=3
   ·subst k3
    by_cases hse:tl se=[]
    ·skip
     have HX:=Za ((Zh0 p who ho pa se ha 3 rfl (by exact⟨rfl,hse⟩) (by rintro⟨a,-⟩;exact absurd a (by decide))).trans (by rw[HW.out]):tl (p++(⟨#[47,47]⟩:BA)++who++ho++pa++se++(⟨#[63]⟩:BA)++ha)=Zt (tl p) (ZE (tl us) (tl pw)) (tl ho) (tl pa) (tl se) (tl ha) 3)
     have hse':=Zk hse;clear hse
     by_cases he:tl (p++(⟨#[47,47]⟩:BA)++who++ho++pa++se++(⟨#[63]⟩:BA)++ha)=tl h
     ·have he':=Zaa he
      clear he HX HK HT HW HC;go_wp2;go_ret;exact⟨rfl,Nx.rfl.alloc _⟩
     ·have he':=Zab he
      have HS:=Za (Zj HT.out (fun e=>he (HX.out.trans e)))
      clear he HX HK HT HW HC;go_wp2
      go_round
      case rel=>exact⟨4,by decide,rfl,HS.out⟩
      case measure=>simp[intOf]
    ·skip
     have HX:=Za ((Zdt p who ho pa se ha 3 rfl (by rintro⟨-,a⟩;exact hse a) (by rintro⟨a,-⟩;exact absurd a (by decide))).trans (by rw[HW.out]):tl (p++(⟨#[47,47]⟩:BA)++who++ho++pa++se++ha)=Zt (tl p) (ZE (tl us) (tl pw)) (tl ho) (tl pa) (tl se) (tl ha) 3)
     have hse':=ZF hse;clear hse
     by_cases he:tl (p++(⟨#[47,47]⟩:BA)++who++ho++pa++se++ha)=tl h
     ·have he':=Zaa he
      clear he HX HK HT HW HC;go_wp2;go_ret;exact⟨rfl,Nx.rfl.alloc _⟩
     ·have he':=Zab he
      have HS:=Za (Zj HT.out (fun e=>he (HX.out.trans e)))
      clear he HX HK HT HW HC;go_wp2
      go_round
      case rel=>exact⟨4,by decide,rfl,HS.out⟩
      case measure=>simp[intOf]
   by_cases k4:k=4
   ·subst k4
    by_cases hse:tl se=[]
    ·skip
     have HX:=Za ((Zh2 p who ho pa se ha 4 rfl (by exact⟨rfl,hse⟩) (by rintro⟨a,-⟩;exact absurd a (by decide))).trans (by rw[HW.out]):tl (p++(⟨#[47,46]⟩:BA)++pa++se++(⟨#[63]⟩:BA)++ha)=Zt (tl p) (ZE (tl us) (tl pw)) (tl ho) (tl pa) (tl se) (tl ha) 4)
     have hse':=Zk hse;clear hse
     by_cases he:tl (p++(⟨#[47,46]⟩:BA)++pa++se++(⟨#[63]⟩:BA)++ha)=tl h
     ·have he':=Zaa he
      have hz:=(HK.out 4 (HX.out.symm.trans he) HT.out).resolve_left (by decide)
      have hz1:=Zk (HW.out.trans hz.1);have hz2:=Zk hz.2;clear hz;clear he HX HK HT HW HC;go_wp2;go_ret;exact⟨rfl,Nx.rfl.alloc _⟩
     ·have he':=Zab he
      have HS:=Za (Zj HT.out (fun e=>he (HX.out.trans e)))
      clear he HX HK HT HW HC;go_wp2
      go_round
      case rel=>exact⟨5,by decide,rfl,HS.out⟩
      case measure=>simp[intOf]
    ·skip
     have HX:=Za ((Zdu p who ho pa se ha 4 rfl (by rintro⟨-,a⟩;exact hse a) (by rintro⟨a,-⟩;exact absurd a (by decide))).trans (by rw[HW.out]):tl (p++(⟨#[47,46]⟩:BA)++pa++se++ha)=Zt (tl p) (ZE (tl us) (tl pw)) (tl ho) (tl pa) (tl se) (tl ha) 4)
     have hse':=ZF hse;clear hse
     by_cases he:tl (p++(⟨#[47,46]⟩:BA)++pa++se++ha)=tl h
     ·have he':=Zaa he
      have hz:=(HK.out 4 (HX.out.symm.trans he) HT.out).resolve_left (by decide)
      have hz1:=Zk (HW.out.trans hz.1);have hz2:=Zk hz.2;clear hz;clear he HX HK HT HW HC;go_wp2;go_ret;exact⟨rfl,Nx.rfl.alloc _⟩
     ·have he':=Zab he
      have HS:=Za (Zj HT.out (fun e=>he (HX.out.trans e)))
      clear he HX HK HT HW HC;go_wp2
      go_round
      case rel=>exact⟨5,by decide,rfl,HS.out⟩
      case measure=>simp[intOf]
   by_cases k5:k=5
   ·subst k5
    by_cases hse:tl se=[]
    ·skip
     have HX:=Za ((Zh4 p who ho pa se ha 5 rfl (by exact⟨rfl,hse⟩) (by rintro⟨a,-⟩;exact absurd a (by decide))).trans (by rw[HW.out]):tl (p++pa++se++(⟨#[63]⟩:BA)++ha)=Zt (tl p) (ZE (tl us) (tl pw)) (tl ho) (tl pa) (tl se) (tl ha) 5)
     have hse':=Zk hse;clear hse
     by_cases he:tl (p++pa++se++(⟨#[63]⟩:BA)++ha)=tl h
     ·have he':=Zaa he
      have hz:=(HK.out 5 (HX.out.symm.trans he) HT.out).resolve_left (by decide)
      have hz1:=Zk (HW.out.trans hz.1);have hz2:=Zk hz.2;clear hz;clear he HX HK HT HW HC;go_wp2;go_ret;exact⟨rfl,Nx.rfl.alloc _⟩
     ·have he':=Zab he
      have HS:=Za (Zj HT.out (fun e=>he (HX.out.trans e)))
      clear he HX HK HT HW HC;go_wp2
      go_round
      case rel=>exact⟨6,by decide,rfl,HS.out⟩
      case measure=>simp[intOf]
    ·skip
     have HX:=Za ((Zdv p who ho pa se ha 5 rfl (by rintro⟨-,a⟩;exact hse a) (by rintro⟨a,-⟩;exact absurd a (by decide))).trans (by rw[HW.out]):tl (p++pa++se++ha)=Zt (tl p) (ZE (tl us) (tl pw)) (tl ho) (tl pa) (tl se) (tl ha) 5)
     have hse':=ZF hse;clear hse
     by_cases he:tl (p++pa++se++ha)=tl h
     ·have he':=Zaa he
      have hz:=(HK.out 5 (HX.out.symm.trans he) HT.out).resolve_left (by decide)
      have hz1:=Zk (HW.out.trans hz.1);have hz2:=Zk hz.2;clear hz;clear he HX HK HT HW HC;go_wp2;go_ret;exact⟨rfl,Nx.rfl.alloc _⟩
     ·have he':=Zab he
      have HS:=Za (Zj HT.out (fun e=>he (HX.out.trans e)))
      clear he HX HK HT HW HC;go_wp2
      go_round
      case rel=>exact⟨6,by decide,rfl,HS.out⟩
      case measure=>simp[intOf]
   by_cases k6:k=6
   ·subst k6
    by_cases hha:tl ha=[]
    ·skip
     have HX:=Za ((ZhZ p who ho pa se ha 6 rfl (by rintro⟨a,-⟩;exact absurd a (by decide)) (by exact⟨rfl,hha⟩)).trans (by rw[HW.out]):tl (p++(⟨#[47,47]⟩:BA)++who++ho++pa++se++ha++(⟨#[35]⟩:BA))=Zt (tl p) (ZE (tl us) (tl pw)) (tl ho) (tl pa) (tl se) (tl ha) 6)
     have hha':=Zk hha;clear hha
     by_cases he:tl (p++(⟨#[47,47]⟩:BA)++who++ho++pa++se++ha++(⟨#[35]⟩:BA))=tl h
     ·have he':=Zaa he
      clear he HX HK HT HW HC;go_wp2;go_ret;exact⟨rfl,Nx.rfl.alloc _⟩
     ·have he':=Zab he
      have HS:=Za (Zj HT.out (fun e=>he (HX.out.trans e)))
      clear he HX HK HT HW HC;go_wp2
      go_round
      case rel=>exact⟨7,by decide,rfl,HS.out⟩
      case measure=>simp[intOf]
    ·skip
     have HX:=Za ((Zdt p who ho pa se ha 6 rfl (by rintro⟨a,-⟩;exact absurd a (by decide)) (by rintro⟨-,a⟩;exact hha a)).trans (by rw[HW.out]):tl (p++(⟨#[47,47]⟩:BA)++who++ho++pa++se++ha)=Zt (tl p) (ZE (tl us) (tl pw)) (tl ho) (tl pa) (tl se) (tl ha) 6)
     have hha':=ZF hha;clear hha
     by_cases he:tl (p++(⟨#[47,47]⟩:BA)++who++ho++pa++se++ha)=tl h
     ·have he':=Zaa he
      clear he HX HK HT HW HC;go_wp2;go_ret;exact⟨rfl,Nx.rfl.alloc _⟩
     ·have he':=Zab he
      have HS:=Za (Zj HT.out (fun e=>he (HX.out.trans e)))
      clear he HX HK HT HW HC;go_wp2
      go_round
      case rel=>exact⟨7,by decide,rfl,HS.out⟩
      case measure=>simp[intOf]
   by_cases k7:k=7
   ·subst k7
    by_cases hha:tl ha=[]
    ·skip
     have HX:=Za ((Zh1 p who ho pa se ha 7 rfl (by rintro⟨a,-⟩;exact absurd a (by decide)) (by exact⟨rfl,hha⟩)).trans (by rw[HW.out]):tl (p++(⟨#[47,46]⟩:BA)++pa++se++ha++(⟨#[35]⟩:BA))=Zt (tl p) (ZE (tl us) (tl pw)) (tl ho) (tl pa) (tl se) (tl ha) 7)
     have hha':=Zk hha;clear hha
     by_cases he:tl (p++(⟨#[47,46]⟩:BA)++pa++se++ha++(⟨#[35]⟩:BA))=tl h
     ·have he':=Zaa he
      have hz:=(HK.out 7 (HX.out.symm.trans he) HT.out).resolve_left (by decide)
      have hz1:=Zk (HW.out.trans hz.1);have hz2:=Zk hz.2;clear hz;clear he HX HK HT HW HC;go_wp2;go_ret;exact⟨rfl,Nx.rfl.alloc _⟩
     ·have he':=Zab he
      have HS:=Za (Zj HT.out (fun e=>he (HX.out.trans e)))
      clear he HX HK HT HW HC;go_wp2
      go_round
      case rel=>exact⟨8,by decide,rfl,HS.out⟩
      case measure=>simp[intOf]
    ·skip
     have HX:=Za ((Zdu p who ho pa se ha 7 rfl (by rintro⟨a,-⟩;exact absurd a (by decide)) (by rintro⟨-,a⟩;exact hha a)).trans (by rw[HW.out]):tl (p++(⟨#[47,46]⟩:BA)++pa++se++ha)=Zt (tl p) (ZE (tl us) (tl pw)) (tl ho) (tl pa) (tl se) (tl ha) 7)
     have hha':=ZF hha;clear hha
     by_cases he:tl (p++(⟨#[47,46]⟩:BA)++pa++se++ha)=tl h
     ·have he':=Zaa he
      have hz:=(HK.out 7 (HX.out.symm.trans he) HT.out).resolve_left (by decide)
      have hz1:=Zk (HW.out.trans hz.1);have hz2:=Zk hz.2;clear hz;clear he HX HK HT HW HC;go_wp2;go_ret;exact⟨rfl,Nx.rfl.alloc _⟩
     ·have he':=Zab he
      have HS:=Za (Zj HT.out (fun e=>he (HX.out.trans e)))
      clear he HX HK HT HW HC;go_wp2
      go_round
      case rel=>exact⟨8,by decide,rfl,HS.out⟩
      case measure=>simp[intOf]
   by_cases k8:k=8
   ·subst k8
    by_cases hha:tl ha=[]
    ·skip
     have HX:=Za ((Zh3 p who ho pa se ha 8 rfl (by rintro⟨a,-⟩;exact absurd a (by decide)) (by exact⟨rfl,hha⟩)).trans (by rw[HW.out]):tl (p++pa++se++ha++(⟨#[35]⟩:BA))=Zt (tl p) (ZE (tl us) (tl pw)) (tl ho) (tl pa) (tl se) (tl ha) 8)
     have hha':=Zk hha;clear hha
     by_cases he:tl (p++pa++se++ha++(⟨#[35]⟩:BA))=tl h
     ·have he':=Zaa he
      have hz:=(HK.out 8 (HX.out.symm.trans he) HT.out).resolve_left (by decide)
      have hz1:=Zk (HW.out.trans hz.1);have hz2:=Zk hz.2;clear hz;clear he HX HK HT HW HC;go_wp2;go_ret;exact⟨rfl,Nx.rfl.alloc _⟩
     ·have he':=Zab he
      have HS:=Za (Zj HT.out (fun e=>he (HX.out.trans e)))
      clear he HX HK HT HW HC;go_wp2
      go_round
      case rel=>exact⟨9,by decide,rfl,HS.out⟩
      case measure=>simp[intOf]
    ·skip
     have HX:=Za ((Zdv p who ho pa se ha 8 rfl (by rintro⟨a,-⟩;exact absurd a (by decide)) (by rintro⟨-,a⟩;exact hha a)).trans (by rw[HW.out]):tl (p++pa++se++ha)=Zt (tl p) (ZE (tl us) (tl pw)) (tl ho) (tl pa) (tl se) (tl ha) 8)
     have hha':=ZF hha;clear hha
     by_cases he:tl (p++pa++se++ha)=tl h
     ·have he':=Zaa he
      have hz:=(HK.out 8 (HX.out.symm.trans he) HT.out).resolve_left (by decide)
      have hz1:=Zk (HW.out.trans hz.1);have hz2:=Zk hz.2;clear hz;clear he HX HK HT HW HC;go_wp2;go_ret;exact⟨rfl,Nx.rfl.alloc _⟩
     ·have he':=Zab he
      have HS:=Za (Zj HT.out (fun e=>he (HX.out.trans e)))
      clear he HX HK HT HW HC;go_wp2
      go_round
      case rel=>exact⟨9,by decide,rfl,HS.out⟩
      case measure=>simp[intOf]
   by_cases k9:k=9
   ·subst k9
    by_cases hse:tl se=[]
    ·skip
     by_cases hha:tl ha=[]
     ·skip
      have HX:=Za ((Zo5 p who ho pa se ha 9 rfl (by exact⟨rfl,hse⟩) (by exact⟨rfl,hha⟩)).trans (by rw[HW.out]):tl (p++(⟨#[47,47]⟩:BA)++who++ho++pa++se++(⟨#[63]⟩:BA)++ha++(⟨#[35]⟩:BA))=Zt (tl p) (ZE (tl us) (tl pw)) (tl ho) (tl pa) (tl se) (tl ha) 9)
      have hse':=Zk hse;clear hse;have hha':=Zk hha;clear hha
      by_cases he:tl (p++(⟨#[47,47]⟩:BA)++who++ho++pa++se++(⟨#[63]⟩:BA)++ha++(⟨#[35]⟩:BA))=tl h
      ·have he':=Zaa he
       clear he HX HK HT HW HC;go_wp2;go_ret;exact⟨rfl,Nx.rfl.alloc _⟩
      ·have he':=Zab he
       have HS:=Za (Zj HT.out (fun e=>he (HX.out.trans e)))
       clear he HX HK HT HW HC;go_wp2
       go_round
       case rel=>exact⟨10,by decide,rfl,HS.out⟩
       case measure=>simp[intOf]
     ·skip
      have HX:=Za ((Zh0 p who ho pa se ha 9 rfl (by exact⟨rfl,hse⟩) (by rintro⟨-,a⟩;exact hha a)).trans (by rw[HW.out]):tl (p++(⟨#[47,47]⟩:BA)++who++ho++pa++se++(⟨#[63]⟩:BA)++ha)=Zt (tl p) (ZE (tl us) (tl pw)) (tl ho) (tl pa) (tl se) (tl ha) 9)
      have hse':=Zk hse;clear hse;have hha':=ZF hha;clear hha
      by_cases he:tl (p++(⟨#[47,47]⟩:BA)++who++ho++pa++se++(⟨#[63]⟩:BA)++ha)=tl h
      ·have he':=Zaa he
       clear he HX HK HT HW HC;go_wp2;go_ret;exact⟨rfl,Nx.rfl.alloc _⟩
      ·have he':=Zab he
       have HS:=Za (Zj HT.out (fun e=>he (HX.out.trans e)))
       clear he HX HK HT HW HC;go_wp2
       go_round
       case rel=>exact⟨10,by decide,rfl,HS.out⟩
       case measure=>simp[intOf]
    ·skip
     by_cases hha:tl ha=[]
     ·skip
      have HX:=Za ((ZhZ p who ho pa se ha 9 rfl (by rintro⟨-,a⟩;exact hse a) (by exact⟨rfl,hha⟩)).trans (by rw[HW.out]):tl (p++(⟨#[47,47]⟩:BA)++who++ho++pa++se++ha++(⟨#[35]⟩:BA))=Zt (tl p) (ZE (tl us) (tl pw)) (tl ho) (tl pa) (tl se) (tl ha) 9)
      have hse':=ZF hse;clear hse;have hha':=Zk hha;clear hha
      by_cases he:tl (p++(⟨#[47,47]⟩:BA)++who++ho++pa++se++ha++(⟨#[35]⟩:BA))=tl h
      ·have he':=Zaa he
       clear he HX HK HT HW HC;go_wp2;go_ret;exact⟨rfl,Nx.rfl.alloc _⟩
      ·have he':=Zab he
       have HS:=Za (Zj HT.out (fun e=>he (HX.out.trans e)))
       clear he HX HK HT HW HC;go_wp2
       go_round
       case rel=>exact⟨10,by decide,rfl,HS.out⟩
       case measure=>simp[intOf]
     ·skip
      have HX:=Za ((Zdt p who ho pa se ha 9 rfl (by rintro⟨-,a⟩;exact hse a) (by rintro⟨-,a⟩;exact hha a)).trans (by rw[HW.out]):tl (p++(⟨#[47,47]⟩:BA)++who++ho++pa++se++ha)=Zt (tl p) (ZE (tl us) (tl pw)) (tl ho) (tl pa) (tl se) (tl ha) 9)
      have hse':=ZF hse;clear hse;have hha':=ZF hha;clear hha
      by_cases he:tl (p++(⟨#[47,47]⟩:BA)++who++ho++pa++se++ha)=tl h
      ·have he':=Zaa he
       clear he HX HK HT HW HC;go_wp2;go_ret;exact⟨rfl,Nx.rfl.alloc _⟩
      ·have he':=Zab he
       have HS:=Za (Zj HT.out (fun e=>he (HX.out.trans e)))
       clear he HX HK HT HW HC;go_wp2
       go_round
       case rel=>exact⟨10,by decide,rfl,HS.out⟩
       case measure=>simp[intOf]
   by_cases k10:k=10
   ·subst k10
    by_cases hse:tl se=[]
    ·skip
     by_cases hha:tl ha=[]
     ·skip
      have HX:=Za ((Zo6 p who ho pa se ha 10 rfl (by exact⟨rfl,hse⟩) (by exact⟨rfl,hha⟩)).trans (by rw[HW.out]):tl (p++(⟨#[47,46]⟩:BA)++pa++se++(⟨#[63]⟩:BA)++ha++(⟨#[35]⟩:BA))=Zt (tl p) (ZE (tl us) (tl pw)) (tl ho) (tl pa) (tl se) (tl ha) 10)
      have hse':=Zk hse;clear hse;have hha':=Zk hha;clear hha
      by_cases he:tl (p++(⟨#[47,46]⟩:BA)++pa++se++(⟨#[63]⟩:BA)++ha++(⟨#[35]⟩:BA))=tl h
      ·have he':=Zaa he
       have hz:=(HK.out 10 (HX.out.symm.trans he) HT.out).resolve_left (by decide)
       have hz1:=Zk (HW.out.trans hz.1);have hz2:=Zk hz.2;clear hz;clear he HX HK HT HW HC;go_wp2;go_ret;exact⟨rfl,Nx.rfl.alloc _⟩
      ·have he':=Zab he
       have HS:=Za (Zj HT.out (fun e=>he (HX.out.trans e)))
       clear he HX HK HT HW HC;go_wp2
       go_round
       case rel=>exact⟨11,by decide,rfl,HS.out⟩
       case measure=>simp[intOf]
     ·skip
      have HX:=Za ((Zh2 p who ho pa se ha 10 rfl (by exact⟨rfl,hse⟩) (by rintro⟨-,a⟩;exact hha a)).trans (by rw[HW.out]):tl (p++(⟨#[47,46]⟩:BA)++pa++se++(⟨#[63]⟩:BA)++ha)=Zt (tl p) (ZE (tl us) (tl pw)) (tl ho) (tl pa) (tl se) (tl ha) 10)
      have hse':=Zk hse;clear hse;have hha':=ZF hha;clear hha
      by_cases he:tl (p++(⟨#[47,46]⟩:BA)++pa++se++(⟨#[63]⟩:BA)++ha)=tl h
      ·have he':=Zaa he
       have hz:=(HK.out 10 (HX.out.symm.trans he) HT.out).resolve_left (by decide)
       have hz1:=Zk (HW.out.trans hz.1);have hz2:=Zk hz.2;clear hz;clear he HX HK HT HW HC;go_wp2;go_ret;exact⟨rfl,Nx.rfl.alloc _⟩
      ·have he':=Zab he
       have HS:=Za (Zj HT.out (fun e=>he (HX.out.trans e)))
       clear he HX HK HT HW HC;go_wp2
       go_round
       case rel=>exact⟨11,by decide,rfl,HS.out⟩
       case measure=>simp[intOf]
    ·skip
     by_cases hha:tl ha=[]
     ·skip
      have HX:=Za ((Zh1 p who ho pa se ha 10 rfl (by rintro⟨-,a⟩;exact hse a) (by exact⟨rfl,hha⟩)).trans (by rw[HW.out]):tl (p++(⟨#[47,46]⟩:BA)++pa++se++ha++(⟨#[35]⟩:BA))=Zt (tl p) (ZE (tl us) (tl pw)) (tl ho) (tl pa) (tl se) (tl ha) 10)
      have hse':=ZF hse;clear hse;have hha':=Zk hha;clear hha
      by_cases he:tl (p++(⟨#[47,46]⟩:BA)++pa++se++ha++(⟨#[35]⟩:BA))=tl h
      ·have he':=Zaa he
       have hz:=(HK.out 10 (HX.out.symm.trans he) HT.out).resolve_left (by decide)
       have hz1:=Zk (HW.out.trans hz.1);have hz2:=Zk hz.2;clear hz;clear he HX HK HT HW HC;go_wp2;go_ret;exact⟨rfl,Nx.rfl.alloc _⟩
      ·have he':=Zab he
       have HS:=Za (Zj HT.out (fun e=>he (HX.out.trans e)))
       clear he HX HK HT HW HC;go_wp2
       go_round
       case rel=>exact⟨11,by decide,rfl,HS.out⟩
       case measure=>simp[intOf]
     ·skip
      have HX:=Za ((Zdu p who ho pa se ha 10 rfl (by rintro⟨-,a⟩;exact hse a) (by rintro⟨-,a⟩;exact hha a)).trans (by rw[HW.out]):tl (p++(⟨#[47,46]⟩:BA)++pa++se++ha)=Zt (tl p) (ZE (tl us) (tl pw)) (tl ho) (tl pa) (tl se) (tl ha) 10)
      have hse':=ZF hse;clear hse;have hha':=ZF hha;clear hha
      by_cases he:tl (p++(⟨#[47,46]⟩:BA)++pa++se++ha)=tl h
      ·have he':=Zaa he
       have hz:=(HK.out 10 (HX.out.symm.trans he) HT.out).resolve_left (by decide)
       have hz1:=Zk (HW.out.trans hz.1);have hz2:=Zk hz.2;clear hz;clear he HX HK HT HW HC;go_wp2;go_ret;exact⟨rfl,Nx.rfl.alloc _⟩
      ·have he':=Zab he
       have HS:=Za (Zj HT.out (fun e=>he (HX.out.trans e)))
       clear he HX HK HT HW HC;go_wp2
       go_round
       case rel=>exact⟨11,by decide,rfl,HS.out⟩
       case measure=>simp[intOf]
   by_cases k11:k=11
   ·subst k11
    by_cases hse:tl se=[]
    ·skip
     by_cases hha:tl ha=[]
     ·skip
      have HX:=Za ((Zo7 p who ho pa se ha 11 rfl (by exact⟨rfl,hse⟩) (by exact⟨rfl,hha⟩)).trans (by rw[HW.out]):tl (p++pa++se++(⟨#[63]⟩:BA)++ha++(⟨#[35]⟩:BA))=Zt (tl p) (ZE (tl us) (tl pw)) (tl ho) (tl pa) (tl se) (tl ha) 11)
      have hse':=Zk hse;clear hse;have hha':=Zk hha;clear hha
      by_cases he:tl (p++pa++se++(⟨#[63]⟩:BA)++ha++(⟨#[35]⟩:BA))=tl h
      ·have he':=Zaa he
       have hz:=(HK.out 11 (HX.out.symm.trans he) HT.out).resolve_left (by decide)
       have hz1:=Zk (HW.out.trans hz.1);have hz2:=Zk hz.2;clear hz;clear he HX HK HT HW HC;go_wp2;go_ret;exact⟨rfl,Nx.rfl.alloc _⟩
      ·have he':=Zab he
       have HS:=Za (Zj HT.out (fun e=>he (HX.out.trans e)))
       clear he HX HK HT HW HC;go_wp2
       go_round
       case rel=>exact⟨12,by decide,rfl,HS.out⟩
       case measure=>simp[intOf]
     ·skip
      have HX:=Za ((Zh4 p who ho pa se ha 11 rfl (by exact⟨rfl,hse⟩) (by rintro⟨-,a⟩;exact hha a)).trans (by rw[HW.out]):tl (p++pa++se++(⟨#[63]⟩:BA)++ha)=Zt (tl p) (ZE (tl us) (tl pw)) (tl ho) (tl pa) (tl se) (tl ha) 11)
      have hse':=Zk hse;clear hse;have hha':=ZF hha;clear hha
      by_cases he:tl (p++pa++se++(⟨#[63]⟩:BA)++ha)=tl h
      ·have he':=Zaa he
       have hz:=(HK.out 11 (HX.out.symm.trans he) HT.out).resolve_left (by decide)
       have hz1:=Zk (HW.out.trans hz.1);have hz2:=Zk hz.2;clear hz;clear he HX HK HT HW HC;go_wp2;go_ret;exact⟨rfl,Nx.rfl.alloc _⟩
      ·have he':=Zab he
       have HS:=Za (Zj HT.out (fun e=>he (HX.out.trans e)))
       clear he HX HK HT HW HC;go_wp2
       go_round
       case rel=>exact⟨12,by decide,rfl,HS.out⟩
       case measure=>simp[intOf]
    ·skip
     by_cases hha:tl ha=[]
     ·skip
      have HX:=Za ((Zh3 p who ho pa se ha 11 rfl (by rintro⟨-,a⟩;exact hse a) (by exact⟨rfl,hha⟩)).trans (by rw[HW.out]):tl (p++pa++se++ha++(⟨#[35]⟩:BA))=Zt (tl p) (ZE (tl us) (tl pw)) (tl ho) (tl pa) (tl se) (tl ha) 11)
      have hse':=ZF hse;clear hse;have hha':=Zk hha;clear hha
      by_cases he:tl (p++pa++se++ha++(⟨#[35]⟩:BA))=tl h
      ·have he':=Zaa he
       have hz:=(HK.out 11 (HX.out.symm.trans he) HT.out).resolve_left (by decide)
       have hz1:=Zk (HW.out.trans hz.1);have hz2:=Zk hz.2;clear hz;clear he HX HK HT HW HC;go_wp2;go_ret;exact⟨rfl,Nx.rfl.alloc _⟩
      ·have he':=Zab he
       have HS:=Za (Zj HT.out (fun e=>he (HX.out.trans e)))
       clear he HX HK HT HW HC;go_wp2
       go_round
       case rel=>exact⟨12,by decide,rfl,HS.out⟩
       case measure=>simp[intOf]
     ·skip
      have HX:=Za ((Zdv p who ho pa se ha 11 rfl (by rintro⟨-,a⟩;exact hse a) (by rintro⟨-,a⟩;exact hha a)).trans (by rw[HW.out]):tl (p++pa++se++ha)=Zt (tl p) (ZE (tl us) (tl pw)) (tl ho) (tl pa) (tl se) (tl ha) 11)
      have hse':=ZF hse;clear hse;have hha':=ZF hha;clear hha
      by_cases he:tl (p++pa++se++ha)=tl h
      ·have he':=Zaa he
       have hz:=(HK.out 11 (HX.out.symm.trans he) HT.out).resolve_left (by decide)
       have hz1:=Zk (HW.out.trans hz.1);have hz2:=Zk hz.2;clear hz;clear he HX HK HT HW HC;go_wp2;go_ret;exact⟨rfl,Nx.rfl.alloc _⟩
      ·have he':=Zab he
       have HS:=Za (Zj HT.out (fun e=>he (HX.out.trans e)))
       clear he HX HK HT HW HC;go_wp2
       go_round
       case rel=>exact⟨12,by decide,rfl,HS.out⟩
       case measure=>simp[intOf]
   exfalso
   obtain⟨j,h0,h1⟩:=HC.out
   exact HT.out j (by omega) h1
end Go.Proofs.YtchkhibgbnhjpabGreatDoor
