import Derived.Test.YtchkhibgbnhjpabGreatDoorR23
open Array renaming getElem?_eq_some_iff→Xg
open List renaming length_take→Xb,any_eq_true→Xc,getElem_mem→Xd,getElem_of_mem→Xe,getElem_take→Xf,mem_cons→Xh,mem_of_mem_take→Xi,length_cons→Xj
open Nat renaming le_refl→Xa,zero_le→Xl
namespace Go.Proofs.YtchkhibgbnhjpabGreatDoor
open Go.RowKit
set_option maxHeartbeats 6000000
set_option maxRecDepth 100000
def xnB:List UInt8:=[120,110,45,45]
def ZpN(p:List Int):Bool:=decide (4≤(lower (Zb p)).length)&&(lower (Zb p)).take 4==xnB
def ZcI:List UInt8:=[0,9,10,13,32,35,47,58,60,62,63,64,91,92,93,94,124]
def ZfV(c:Int):Bool:=among c ZcI||decide (c<32)||c==127||c==37
def ZaY(n:Nat):List UInt8:=dec (n/16777216)++[46]++dec (n/65536%256)++[46]++dec (n/256%256)++[46]++dec (n%256)
def Zbp(ps:List (List Int)):List Int:=ps.getD (ps.length-1) []
def domTail(d:List Int)(qs:List (List Int)):Bool×List UInt8×Int:=
 if(valueOf (Zbp qs)).2=false∧ZP (Zbp qs)=false then(true,lower (Zb d),0)
 else if(fourOf qs).2=true then(true,ZaY (fourOf qs).1.toNat,0)else(false,[],2)
def ZiM(d:List Int)(ps:List (List Int)):Bool×List UInt8×Int:=
 if ps.any ZpN=true∨(d.any fun c=>decide (127<c))=true then(false,[],3)
 else if((d.length:Int)==0||d.any ZfV)=true then(false,[],2)
 else domTail d (if 1<ps.length∧(Zbp ps).length=0 then ps.take (ps.length-1)else ps)
def domainOf(l:List Int):Bool×List UInt8×Int:=ZiM (Zk (decoded (Zb l))) (parts (Zk (decoded (Zb l))) [46])
theorem Zcz{ps:List LI}(h:ps.length-1<ps.length):Zbp ps=ps[ps.length-1]:=by unfold Zbp;rw[List.getD_eq_getElem?_getD,List.getElem?_eq_getElem h];rfl
theorem ZiN{ps:List LI}(h1:1<ps.length):Zbp (ps.take (ps.length-1))=ps[ps.length-1-1]'(by omega):=by
 have hl:(ps.take (ps.length-1)).length=ps.length-1:=by rw[Xb];omega
 rw[Zcz (by omega),Xf]
 congr 1
 rw[hl]
theorem Zq1{d:LI}{ps:List LI}(h1:∀j,(h:j<ps.length)→ZpN ps[j]=false)(h2:∀j,(h:j<d.length)→d[j]≤127)(h3:((d.length:Int)==0||d.any ZfV)=false):ZiM d ps=domTail d (if 1<ps.length∧(Zbp ps).length=0 then ps.take (ps.length-1)else ps):=by
 unfold ZiM
 rw[if_neg,if_neg (by rw[h3];decide)]
 rintro(h|h)
 ·obtain⟨x,hx,hb⟩:=Xc.1 h
  obtain⟨j,hj,rfl⟩:=Xe hx;rw[h1 j hj]at hb
  exact absurd hb (by decide)
 ·obtain⟨x,hx,hb⟩:=Xc.1 h
  obtain⟨j,hj,rfl⟩:=Xe hx;have:=h2 j hj
  simp at hb
  omega
theorem Zv6{d:LI}{ps:List LI}{j:Nat}(h:j<ps.length)(hx:ZpN ps[j]=true):ZiM d ps=(false,[],3):=by unfold ZiM;rw[if_pos (Or.inl (Xc.2 ⟨_,Xd h,hx⟩))]
theorem Zq2{d:LI}{ps:List LI}{j:Nat}(h:j<d.length)(hx:127<d[j]):ZiM d ps=(false,[],3):=by
 unfold ZiM
 rw[if_pos (Or.inr (Xc.2 ⟨_,Xd h,by simpa using hx⟩))]
theorem Ztl{d:LI}{ps:List LI}(h1:∀j,(h:j<ps.length)→ZpN ps[j]=false)(h2:∀j,(h:j<d.length)→d[j]≤127)(h3:((d.length:Int)==0||d.any ZfV)=true):ZiM d ps=(false,[],2):=by
 unfold ZiM;rw[if_neg,if_pos h3];rintro(h|h)
 ·obtain⟨x,hx,hb⟩:=Xc.1 h
  obtain⟨j,hj,rfl⟩:=Xe hx;rw[h1 j hj]at hb
  exact absurd hb (by decide)
 ·obtain⟨x,hx,hb⟩:=Xc.1 h
  obtain⟨j,hj,rfl⟩:=Xe hx;have:=h2 j hj
  simp at hb
  omega
theorem Zq3(n:Nat)(ps:List LI):∀(i:Nat) (sum:Int),0≤sum→0≤(fourGo n i sum ps).1∧(fourGo n i sum ps).1≤sum+ps.length*1099511627776:=by
 induction ps with
 | nil=>intro i sum h;rw[fourGo];exact⟨h,by simp⟩
 | cons p r ih=>
  intro i sum h;obtain⟨hv0,hv1⟩:=ZiF p
  have hP:0≤(sum+(valueOf p).1*(if i+1=n then 1 else 256^(3-i)))-sum∧(¬((valueOf p).2=false∨(if i+1=n then 256^(4-i)else 256)≤(valueOf p).1)→(sum+(valueOf p).1*(if i+1=n then 1 else 256^(3-i)))-sum≤1099511627776):=by
   by_cases hin:i+1=n
   ·rw[if_pos hin];exact⟨by omega,fun _=>by omega⟩
   ·rw[if_neg hin,if_neg hin]
    have h3:3-i=0∨3-i=1∨3-i=2∨3-i=3:=by omega
    rcases h3 with h3|h3|h3|h3<;>rw[h3]<;>exact⟨by omega,fun hh=>by have:=fun hx=>hh (Or.inr hx);omega⟩
  rw[fourGo]
  generalize (sum+(valueOf p).1*(if i+1=n then 1 else 256^(3-i)))=s' at hP ⊢
  rw[Xj]
  by_cases hh:(valueOf p).2=false∨(if i+1=n then 256^(4-i)else 256)≤(valueOf p).1
  ·rw[if_pos hh]
   exact⟨Int.le_refl _,by show(0:Int)≤_;omega⟩
  ·rw[if_neg hh]
   have h2:=hP.2 hh
   obtain⟨h3,h4⟩:=ih (i+1) s' (by omega)
   exact⟨h3,by omega⟩
theorem ZgQ(ps:List LI):0≤(fourOf ps).1∧(fourOf ps).1≤4398046511104:=by
 unfold fourOf
 split
 ·exact⟨by decide,by decide⟩
 ·obtain⟨h1,h2⟩:=Zq3 ps.length ps 0 0 (by omega)
  exact⟨h1,by omega⟩
theorem PartsAt.on{w w':World}{v:Value}{ps:List LI}(h:PartsAt w v ps)(hb:Nx w w'):PartsAt w' v ps:=by obtain⟨vs,h1,h2⟩:=h;exact⟨vs,h1.on hb,h2.on hb⟩
theorem PartsAt.upto{w:World}{ao:Option Addr}{cap:Nat}{ps:List LI}(h:PartsAt w (.slice ao ps.length cap) ps)(n:Nat)(hn:n≤ps.length):PartsAt w (.slice ao n cap) (ps.take n):=by
 obtain⟨vs,⟨ao',cap',he,hlc,hcap,hnone,hsome⟩,hfa⟩:=h
 injection he with e1 e2 e3
 subst e1 e3;have hl:=hfa.1
 refine⟨vs.take n,⟨ao,cap,by rw[Xb,Nat.min_eq_left (by omega)],by rw[Xb];omega,hcap,fun ha=>by rw[(hnone ha).1];exact⟨by simp,(hnone ha).2⟩,fun a ha=>?_⟩,by simp[hl],fun i h1 h2=>?_⟩
 ·obtain⟨b,off,h1,cs,fz,h2,h3⟩:=hsome a ha
  refine⟨b,off,h1,cs,fz,h2,fun i hi=>?_⟩
  rw[Xf]
  exact h3 i (by rw[Xb]at hi;omega)
 ·rw[Xf,Xf]
  exact hfa.2 i (by rw[Xb]at h1;omega) (by rw[Xb]at h2;omega)
def Cell2(w:World)(rb:Nat):Prop:=∃(a b:Value),w.heap[rb]?=some (Obj.cells #[a,b] 128 (0,0))
theorem Cell2.on{w w':World}{rb:Nat}(h:Cell2 w rb)(hb:Nx w w'):Cell2 w' rb:=by obtain⟨a,b,hh⟩:=h;exact⟨a,b,(hb.block rb (Xg.1 hh).1).trans hh⟩
theorem Cell2.facts{w:World}{rb:Nat}(h:Cell2 w rb):∃a b,w.cell? ⟨rb,0,none⟩=some a∧w.cell? ⟨rb,1,none⟩=some b∧w.frozen? ⟨rb,0,none⟩=false∧w.frozen? ⟨rb,1,none⟩=false∧rb<w.heap.size:=by
 obtain⟨a,b,hh⟩:=h
 refine⟨a,b,by simp[World.cell?,hh],by simp[World.cell?,hh],by simp[World.frozen?,hh],by simp[World.frozen?,hh],(Xg.1 hh).1⟩
theorem Cell2.ret{w:World}{rb:Nat}(h:Cell2 w rb)(x y:Value):(w.setCell ⟨rb,0,none⟩ x).cell? ⟨rb,0,none⟩=some x∧((w.setCell ⟨rb,0,none⟩ x).setCell ⟨rb,1,none⟩ y).cell? ⟨rb,1,none⟩=some y:=by
 obtain⟨a,b,h0,h1,_⟩:=h.facts
 exact⟨World.cell?_setCell_same _ _ _ h0,World.cell?_setCell_same _ _ _ (by rw[World.cell?_setCell_other _ _ _ _ (by simp)];exact h1)⟩
theorem Zht(v:Value)(l:LI)(w:World)(hv:IntsAt w v l)(hl:l.length≤20000)(hp:∀c∈l,Pt c):Calls Tryz.prog 215 #[v] w fun e w'=>∃t:BA,e=.returned (.tuple #[.agg #[.bool (domainOf l).1,.string t],.int .i64 (domainOf l).2.2])∧tl t=(domainOf l).2.1∧Nx w w':=by
 have HV:=Za hv;have HPP:=Za hp;clear hv hp
 go_enter Tryz.func215,Tryz.ntmps215
 go_wp2_with fail
 refine(ZbC _ l _ (HV.out.on (Nx.rfl.alloc _)) (by omega) HPP.out).mono ?_
 rintro e w1 ⟨r1,rfl,hr1,hn1⟩
 have hs1:r1.size≤80000:=by have h:=Zbh l;rw[←hr1,tl_length]at h;omega
 have HC1:=Za (Cell2.on (⟨_,_,heap_alloc_new w _⟩:Cell2 (w.alloc _) w.heap.size) hn1);have HN1:=Za ((Nx.rfl.alloc _).then hn1);have HR1:=Za hr1;clear hr1 hn1 HV;go_wp2_with fail
 refine(ZfG 80000 _ _ hs1 (by omega)).mono ?_
 rintro e w2 ⟨r2,rfl,hr2,hn2⟩
 have hs2:r2.size≤80000:=by have h:=Zbi (tl r1);rw[←hr2,tl_length,tl_length]at h;omega
 have HC2:=Za (HC1.out.on hn2);have HN2:=Za (HN1.out.then hn2);have HR2:=Za hr2;clear hr2 hn2 HC1 HN1;go_wp2_with fail
 refine(Za5 _ _ (by omega)).mono ?_
 rintro e w3 ⟨vd,rfl,hvd,hn3⟩;have HC3:=Za (HC2.out.on hn3);have HN3:=Za (HN2.out.then hn3);have hld:=ZaO (tl r2);have HDP:=Za (Zct (tl r2));rw[tl_length]at hld;clear hn3 HC2 HN2;generalize hd:Zk (tl r2)=d at *;have HD:=Za hd;clear hd;have HVD:=Za hvd;go_wp2_with fail
 refine(ZdO _ d _ _ (Ze (by decide)) HVD.out (by omega)).mono ?_
 rintro e w4 ⟨vp,rfl,hpa,hn4⟩
 have HE:=Za (show domainOf l=ZiM d (parts d (tl ⟨#[46]⟩))by unfold domainOf;rw[←HR1.out,←HR2.out,HD.out];rfl)
 clear HR1 HR2 HD;have HPA:=Za hpa;obtain⟨vs,hvs,hfa⟩:=hpa;have HPM:=Za (ZaQ d (tl ⟨#[46]⟩))
 have hp0:0<(parts d (tl ⟨#[46]⟩)).length:=by obtain⟨p,q,h⟩:=ZkO d (tl ⟨#[46]⟩);rw[h];simp
 generalize parts d (tl ⟨#[46]⟩)=ps at *;have HC4:=Za (HC3.out.on hn4);have HN4:=Za (HN3.out.then hn4);have HVD4:=Za (HVD.out.on hn4);have hlen:=hfa.1;have HFA:=Za hfa;have hpl:=HPM.out.1;have HMEM:=Za HPM.out.2;clear hn4 HC3 HN3 HVD hvd hfa HPM;obtain⟨ao,cap,rfl,hlc,hcap,hnone,hsome⟩:=hvs;unfold maxLen at hcap;rw[hlen]at HPA;rw[hlen];rw[hlen]at hlc;go_wp2
 go_loopw [7] (fun i wr=>∃k:Nat,k≤ps.length∧i=.int .i64 k∧(∀j,(h:j<ps.length)→j<k→ZpN ps[j]=false)∧Nx w4 wr) (fun i _=>ps.length-(intOf i).toNat)
 case atStart=>exact⟨0,Xl _,rfl,fun j _ h=>by omega,Nx.rfl⟩
 case round=>
  obtain⟨k,hk,rfl,hno,hnx⟩:=hrel;have HNO:=Za hno;have HNX:=Za hnx;clear hno hnx
  by_cases hlt:k<ps.length
  ·obtain⟨a,ha⟩:=Zw (k:=k) (by omega) hnone
   subst ha;obtain⟨b,off,rfl,hr⟩:=hsome a rfl
   have hck:=(hr.on HNX.out).cell (i:=k) (by omega)
   simp only[id]at hck;have HVK:=Za ((HFA.out.at_ hlt).on HNX.out);obtain⟨hm1,hm2⟩:=HMEM.out ps[k] (Xd _)
   have HPK:=Za (fun c (h:c∈ps[k])=>HDP.out c (hm2 c h))
   clear hm2;go_wp2_with fail
   refine(ZbC _ ps[k] _ HVK.out (by omega) HPK.out).mono ?_
   rintro e w5 ⟨r5,rfl,hr5,hn5⟩
   have hs5:r5.size≤320000:=by have h:=Zbh ps[k];rw[←hr5,tl_length]at h;omega
   go_wp2_with fail
   refine(ZeA _ _ (by omega)).mono ?_
   rintro e w6 ⟨r6,rfl,hr6,hn6⟩;have HN6:=Za ((HNX.out.then hn5).then hn6)
   have HR6:=Za (show tl r6=lower (Zb ps[k])by rw[hr6,hr5])
   have HC6:=Za (HC4.out.on HN6.out);clear hr5 hr6 hn5 hn6;obtain⟨ca,cb,hc0,hc1,hf0,hf1,hrb⟩:=HC6.out.facts
   by_cases h4:4≤r6.size
   ·by_cases hx:(tl r6).take 4=xnB
    ·have hx':((r6.extract 0 4).toList == [120,110,45,45])=true:=by rw[Zga,tl_to,hx];rfl
     have HQ:=Za (HE.out.trans (Zv6 hlt (by unfold ZpN;rw[←HR6.out,tl_length,hx];simp[h4])))
     clear hx;obtain⟨hs0,hs1'⟩:=HC6.out.ret (.bool false) (.string ⟨#[]⟩);go_wp2
     exact bodyPost_ret (v:=.tuple #[.agg #[.bool false,.string ⟨#[]⟩],.int .i64 3]) (by simp[results,Tryz.results215,go_sem,hs0,hs1']) rfl ⟨⟨#[]⟩,by rw[HQ.out],by rw[HQ.out];rfl,((HN4.out.then HN6.out).setCell (Xa _) _).setCell (Xa _) _⟩
    ·have hx':((r6.extract 0 4).toList == [120,110,45,45])=false:=by rw[Zga,tl_to,beq_eq_false_iff_ne];exact hx
     have HX:=Za (show ZpN ps[k]=false by unfold ZpN;rw[←HR6.out,beq_eq_false_iff_ne.2 hx,Bool.and_false])
     clear hx;go_wp2
     refine⟨⟨k+1,by omega,by simp,fun j h hj=>?_,HN6.out⟩,by simp[intOf];omega⟩
     by_cases hjk:j=k
     ·subst hjk;exact HX.out
     ·exact HNO.out j h (by omega)
   ·have HX:=Za (show ZpN ps[k]=false by unfold ZpN;rw[←HR6.out,tl_length];simp[h4])
    go_wp2
    refine⟨⟨k+1,by omega,by simp,fun j h hj=>?_,HN6.out⟩,by simp[intOf];omega⟩
    by_cases hjk:j=k
    ·subst hjk;exact HX.out
    ·exact HNO.out j h (by omega)
  ·have HXA:=Za (fun j (h:j<ps.length)=>HNO.out j h (by omega))
   have HNR:=Za (HN4.out.then HNX.out);have HCR:=Za (HC4.out.on HNX.out);have HVR:=Za (HVD4.out.on HNX.out);clear HNO HC4 HN4;have HVD5:=HVR.out;obtain⟨aod,capd,hvde,hlcd,hcapd,hnoned,hsomed⟩:=HVD5;subst hvde;unfold maxLen at hcapd;have HVV:=Za HVD4.out;clear HVD4;go_wp2
   go_loopw [8,9] (fun f i wr'=>∃k:Nat,k≤d.length∧i=.int .i64 k∧f=.bool (((d.length:Int)==0)||(d.take k).any ZfV)∧(∀j,(h:j<d.length)→j<k→d[j]≤127)∧Nx wr wr') (fun _ i _=>d.length-(intOf i).toNat)
   case atStart=>exact⟨0,Xl _,rfl,by simp,fun j _ h=>by omega,Nx.rfl⟩
   case round=>
    obtain⟨m,hm,rfl,rfl,hle,hnx⟩:=hrel;have HLE:=Za hle;have HNY:=Za hnx;clear hle hnx
    by_cases hlt2:m<d.length
    ·obtain⟨a,ha⟩:=Zw hlt2 hnoned
     subst ha;obtain⟨b,off,rfl,hrow⟩:=hsomed a rfl;have hck:=(hrow.on HNY.out).cell hlt2
     by_cases h127:127<d[m]
     ·have HC7:=Za (HCR.out.on HNY.out)
      have HQ:=Za (HE.out.trans (Zq2 hlt2 h127));obtain⟨ca,cb,hc0,hc1,hf0,hf1,hrb⟩:=HC7.out.facts;obtain⟨hs0,hs1'⟩:=HC7.out.ret (.bool false) (.string ⟨#[]⟩);go_wp2
      exact bodyPost_ret (v:=.tuple #[.agg #[.bool false,.string ⟨#[]⟩],.int .i64 3]) (by simp[results,Tryz.results215,go_sem,hs0,hs1']) rfl ⟨⟨#[]⟩,by rw[HQ.out],by rw[HQ.out];rfl,((HNR.out.then HNY.out).setCell (Xa _) _).setCell (Xa _) _⟩
     ·go_wp2_with fail
      refine(Za2 _ _ _ (Ze (by decide))).mono ?_
      rintro e w7 ⟨rfl,rfl⟩
      cases hA:among d[m] (tl ⟨#[0,9,10,13,32,35,47,58,60,62,63,64,91,92,93,94,124]⟩)
      all_goals
       go_wp2
       all_goals
        refine⟨⟨m+1,by omega,by simp,?_,fun j h hj=>?_,HNY.out⟩,by simp[intOf];omega⟩
        ·rw[List.take_succ_eq_append_getElem hlt2,List.any_append,List.any_cons,List.any_nil]
         try simp only[beq_iff_eq,beq_eq_false_iff_ne,ne_eq]at *
         cases hb:ZfV d[m]<;>first
          | (simp;done)
          | (exfalso
             unfold ZfV ZcI at hb;rw[show among d[m] [0,9,10,13,32,35,47,58,60,62,63,64,91,92,93,94,124]=_ from hA]at hb
             simp at hb<;>omega)
        ·by_cases hjm:j=m
         ·subst hjm;omega
         ·exact HLE.out j h (by omega)
    ·have HNZ:=Za (HNR.out.then HNY.out)
     have HC7:=Za (HCR.out.on HNY.out);have HNW:=Za (HNX.out.then HNY.out)
     have HLD:=Za (fun j (h:j<d.length)=>HLE.out j h (by omega))
     rw[List.take_of_length_le (show d.length≤m by omega)]
     clear HNR HNX HNY HCR HLE HVR hsomed hnoned
     cases hF:((d.length:Int)==0||d.any ZfV)
     ·have HQ:=Za (HE.out.trans (Zq1 HXA.out HLD.out hF))
      clear hF;go_wp2_with fail
      refine(ZbC _ d _ (HVV.out.on HNW.out) (by omega) HDP.out).mono ?_
      rintro e w8 ⟨r8,rfl,hr8,hn8⟩
      have hs8:r8.size≤320000:=by have h:=Zbh d;rw[←hr8,tl_length]at h;omega
      go_wp2_with fail
      refine(ZeA _ _ (by omega)).mono ?_
      rintro e w9 ⟨r9,rfl,hr9,hn9⟩;have hn89:=hn8.then hn9;have HNZ9:=Za (HNZ.out.then hn89);have HC9:=Za (HC7.out.on hn89);have HNW9:=Za (HNW.out.then hn89)
      have HR9:=Za (show tl r9=lower (Zb d)by rw[hr9,hr8])
      have hs9:r9.size≤320000:=by have h:=ZlH (tl r8);rw[←hr9,tl_length,tl_length]at h;omega
      clear hr8 hr9 hn8 hn9 hn89 HNZ HC7 HNW
      by_cases h1:1<ps.length
      ·obtain⟨a,ha⟩:=Zw (k:=ps.length - 1) (by omega) hnone
       subst ha;obtain⟨b,off,rfl,hr⟩:=hsome a rfl
       have hck:=(hr.on HNW9.out).cell (i:=ps.length-1) (by omega)
       simp only[id]at hck
       have hvl:ps.length-1<ps.length:=by omega
       have HVL:=(HFA.out.at_ hvl).on HNW9.out;obtain⟨aol,capl,hvle,hlcl,hcapl,-,-⟩:=HVL;rw[hvle]at hck;have HVLE:=Za hvle;clear hvle
       by_cases h0:0<ps[ps.length-1].length
       ·have HL:=Za ((HFA.out.at_ hvl).on HNW9.out)
        rw[HVLE.out]at HL;obtain⟨hm1,hm2⟩:=HMEM.out ps[ps.length - 1] (Xd _)
        have HLP:=Za (fun c (h:c∈ps[ps.length-1])=>HDP.out c (hm2 c h))
        clear hm2
        have HT:=Za (show domainOf l=domTail d (ps)from HQ.out.trans (congrArg (domTail d) (by rw[if_neg (fun hh=>by have h2:=hh.2;rw[Zcz hvl]at h2;omega)])))
        go_wp2_with fail
        refine(ZaJ _ ps[ps.length-1] _ HL.out (by omega) HLP.out).mono ?_
        rintro e wa ⟨rfl,hna⟩;go_wp2_with fail
        refine(Z4 _ ps[ps.length-1] _ (HL.out.on hna)).mono ?_
        rintro e wb ⟨rfl,rfl⟩;have HNA:=Za (HNZ9.out.then hna);have HCA:=Za (HC9.out.on hna);have HPB:=Za (((PartsAt.on (PartsAt.on HPA.out HNW9.out) hna)));clear hna HNZ9 HC9 HNW9
        by_cases hvv:(valueOf ps[ps.length-1]).2=false∧ZP ps[ps.length-1]=false
        ·obtain⟨hv1,hv2⟩:=hvv
         have HU:=Za (show domainOf l=(true,lower (Zb d),0)by rw[HT.out,domTail,Zcz hvl,if_pos ⟨hv1,hv2⟩])
         rw[hv1,hv2];clear hv1 hv2;obtain⟨ca,cb,hc0,hc1,hf0,hf1,hrb⟩:=HCA.out.facts;obtain⟨hs0,hs1'⟩:=HCA.out.ret (.bool true) (.string r9);go_wp2
         exact bodyPost_ret (v:=.tuple #[.agg #[.bool true,.string r9],.int .i64 0]) (by simp[results,Tryz.results215,go_sem,hs0,hs1']) rfl ⟨r9,by rw[HU.out],by rw[HU.out];exact HR9.out,(HNA.out.setCell (Xa _) _).setCell (Xa _) _⟩
        ·have HT2:=Za (show domainOf l=if(fourOf (ps)).2=true then(true,ZaY (fourOf (ps)).1.toNat,0)else(false,[],2)by rw[HT.out,domTail,Zcz hvl,if_neg hvv])
         clear HT
         have hwp:(!(valueOf ps[ps.length-1]).2 && !(ZP ps[ps.length-1]))=false:=by cases h1:(valueOf ps[ps.length-1]).2<;>cases h2:ZP ps[ps.length-1]<;>simp_all
         clear hvv
         cases hv1:(valueOf ps[ps.length-1]).2<;>cases hv2:ZP ps[ps.length-1]<;>rw[hv1,hv2]at hwp<;>first|(exact absurd hwp (by decide))|skip
         all_goals
          clear hwp hv1 hv2;go_wp2_with fail
          refine(ZgN _ (ps) _ HPB.out (fun p hp=>by have h:=(HMEM.out p (hp)).1;omega) (fun p hp c hc=>HDP.out c ((HMEM.out p (hp)).2 c hc))).mono ?_
          rintro e wc ⟨rfl,hnc⟩;have HNC:=Za (HNA.out.then hnc);have HCC:=Za (HCA.out.on hnc);obtain⟨hf1,hf2⟩:=ZgQ (ps)
          cases h4:(fourOf (ps)).2
          ·have HU:=Za (show domainOf l=(false,[],2)by rw[HT2.out,if_neg (by rw[h4];decide)])
           clear h4 HT2;obtain⟨ca,cb,hc0,hc1,hf0,hf1,hrb⟩:=HCC.out.facts;obtain⟨hs0,hs1'⟩:=HCC.out.ret (.bool false) (.string ⟨#[]⟩);go_wp2
           exact bodyPost_ret (v:=.tuple #[.agg #[.bool false,.string ⟨#[]⟩],.int .i64 2]) (by simp[results,Tryz.results215,go_sem,hs0,hs1']) rfl ⟨⟨#[]⟩,by rw[HU.out],by rw[HU.out];rfl,(HNC.out.setCell (Xa _) _).setCell (Xa _) _⟩
          ·have HU:=Za (show domainOf l=(true,ZaY (fourOf (ps)).1.toNat,0)by rw[HT2.out,if_pos h4])
           clear h4 HT2;generalize (fourOf (ps)).1=N at hf1 hf2 HU ⊢;go_wp2_with fail
           refine(ZbY 1000000 _ _ (by omega) (by omega) (by decide)).mono ?_
           rintro e x1 ⟨q1,rfl,hq1,hm1'⟩
           have hz1:q1.size≤1000001:=by have h:=congrArg List.length hq1;have h2:=ZbX (N/16777216).toNat;rw[tl_length]at h;omega
           go_wp2_with fail
           refine(ZbY 1000000 _ _ (by omega) (by omega) (by decide)).mono ?_
           rintro e x2 ⟨q2,rfl,hq2,hm2'⟩
           have hz2:q2.size≤1000001:=by have h:=congrArg List.length hq2;have h2:=ZbX (N/65536%256).toNat;rw[tl_length]at h;omega
           go_wp2_with fail
           refine(ZbY 1000000 _ _ (by omega) (by omega) (by decide)).mono ?_
           rintro e x3 ⟨q3,rfl,hq3,hm3'⟩
           have hz3:q3.size≤1000001:=by have h:=congrArg List.length hq3;have h2:=ZbX (N/256%256).toNat;rw[tl_length]at h;omega
           go_wp2_with fail
           refine(ZbY 1000000 _ _ (by omega) (by omega) (by decide)).mono ?_
           rintro e x4 ⟨q4,rfl,hq4,hm4'⟩
           have hz4:q4.size≤1000001:=by have h:=congrArg List.length hq4;have h2:=ZbX (N%256).toNat;rw[tl_length]at h;omega
           have hmm:=((hm1'.then hm2').then hm3').then hm4';have HNX4:=Za (HNC.out.then hmm);have HCX:=Za (HCC.out.on hmm)
           have HTX:=Za (show tl (q1++(⟨#[46]⟩:BA)++q2++(⟨#[46]⟩:BA)++q3++(⟨#[46]⟩:BA)++q4)=ZaY N.toNat by
            rw[tl_append,tl_append,tl_append,tl_append,tl_append,tl_append,hq1,hq2,hq3,hq4];unfold ZaY
            rw[show(N/16777216).toNat=N.toNat/16777216 by omega,show(N/65536%256).toNat=N.toNat/65536%256 by omega,show(N/256%256).toNat=N.toNat/256%256 by omega,show(N%256).toNat=N.toNat%256 by omega]
            rfl)
           clear hq1 hq2 hq3 hq4 hm1' hm2' hm3' hm4' hmm HNC HCC;obtain⟨ca,cb,hc0,hc1,hf0,hf1,hrb⟩:=HCX.out.facts;obtain⟨hs0,hs1'⟩:=HCX.out.ret (.bool true) (.string (q1++(⟨#[46]⟩:BA)++q2++(⟨#[46]⟩:BA)++q3++(⟨#[46]⟩:BA)++q4));go_wp2
           exact bodyPost_ret (v:=.tuple #[.agg #[.bool true,.string (q1++(⟨#[46]⟩:BA)++q2++(⟨#[46]⟩:BA)++q3++(⟨#[46]⟩:BA)++q4)],.int .i64 0]) (by simp[results,Tryz.results215,go_sem,hs0,hs1']) rfl ⟨_,by rw[HU.out],by rw[HU.out];exact HTX.out,(HNX4.out.setCell (Xa _) _).setCell (Xa _) _⟩
       ·have hck2:=(hr.on HNW9.out).cell (i:=ps.length-1-1) (by omega)
        simp only[id]at hck2
        have hvl2:ps.length-1-1<ps.length:=by omega
        have HL:=Za ((HFA.out.at_ hvl2).on HNW9.out);obtain⟨hm1,hm2⟩:=HMEM.out ps[ps.length - 1 - 1] (Xd _)
        have HLP:=Za (fun c (h:c∈ps[ps.length-1-1])=>HDP.out c (hm2 c h))
        clear hm2
        have HT:=Za (show domainOf l=domTail d (ps.take (ps.length-1))from HQ.out.trans (congrArg (domTail d) (by rw[if_pos ⟨h1,by rw[Zcz hvl];omega⟩])))
        go_wp2_with fail
        refine(ZaJ _ ps[ps.length-1-1] _ HL.out (by omega) HLP.out).mono ?_
        rintro e wa ⟨rfl,hna⟩;go_wp2_with fail
        refine(Z4 _ ps[ps.length-1-1] _ (HL.out.on hna)).mono ?_
        rintro e wb ⟨rfl,rfl⟩;have HNA:=Za (HNZ9.out.then hna);have HCA:=Za (HC9.out.on hna);have HPB:=Za (((PartsAt.on (PartsAt.on HPA.out HNW9.out) hna)));clear hna HNZ9 HC9 HNW9
        by_cases hvv:(valueOf ps[ps.length-1-1]).2=false∧ZP ps[ps.length-1-1]=false
        ·obtain⟨hv1,hv2⟩:=hvv
         have HU:=Za (show domainOf l=(true,lower (Zb d),0)by rw[HT.out,domTail,ZiN h1,if_pos ⟨hv1,hv2⟩])
         rw[hv1,hv2];clear hv1 hv2;obtain⟨ca,cb,hc0,hc1,hf0,hf1,hrb⟩:=HCA.out.facts;obtain⟨hs0,hs1'⟩:=HCA.out.ret (.bool true) (.string r9);go_wp2
         exact bodyPost_ret (v:=.tuple #[.agg #[.bool true,.string r9],.int .i64 0]) (by simp[results,Tryz.results215,go_sem,hs0,hs1']) rfl ⟨r9,by rw[HU.out],by rw[HU.out];exact HR9.out,(HNA.out.setCell (Xa _) _).setCell (Xa _) _⟩
        ·have HT2:=Za (show domainOf l=if(fourOf (ps.take (ps.length-1))).2=true then(true,ZaY (fourOf (ps.take (ps.length-1))).1.toNat,0)else(false,[],2)by rw[HT.out,domTail,ZiN h1,if_neg hvv])
         clear HT
         have hwp:(!(valueOf ps[ps.length-1-1]).2 && !(ZP ps[ps.length-1-1]))=false:=by cases h1:(valueOf ps[ps.length-1-1]).2<;>cases h2:ZP ps[ps.length-1-1]<;>simp_all
         clear hvv
         cases hv1:(valueOf ps[ps.length-1-1]).2<;>cases hv2:ZP ps[ps.length-1-1]<;>rw[hv1,hv2]at hwp<;>first|(exact absurd hwp (by decide))|skip
         all_goals
          clear hwp hv1 hv2;go_wp2_with fail
          refine(ZgN _ (ps.take (ps.length-1)) _ (PartsAt.upto HPB.out _ (by omega)) (fun p hp=>by have h:=(HMEM.out p (Xi hp)).1;omega) (fun p hp c hc=>HDP.out c ((HMEM.out p (Xi hp)).2 c hc))).mono ?_
          rintro e wc ⟨rfl,hnc⟩;have HNC:=Za (HNA.out.then hnc);have HCC:=Za (HCA.out.on hnc);obtain⟨hf1,hf2⟩:=ZgQ (ps.take (ps.length - 1))
          cases h4:(fourOf (ps.take (ps.length-1))).2
          ·have HU:=Za (show domainOf l=(false,[],2)by rw[HT2.out,if_neg (by rw[h4];decide)])
           clear h4 HT2;obtain⟨ca,cb,hc0,hc1,hf0,hf1,hrb⟩:=HCC.out.facts;obtain⟨hs0,hs1'⟩:=HCC.out.ret (.bool false) (.string ⟨#[]⟩);go_wp2
           exact bodyPost_ret (v:=.tuple #[.agg #[.bool false,.string ⟨#[]⟩],.int .i64 2]) (by simp[results,Tryz.results215,go_sem,hs0,hs1']) rfl ⟨⟨#[]⟩,by rw[HU.out],by rw[HU.out];rfl,(HNC.out.setCell (Xa _) _).setCell (Xa _) _⟩
          ·have HU:=Za (show domainOf l=(true,ZaY (fourOf (ps.take (ps.length-1))).1.toNat,0)by rw[HT2.out,if_pos h4])
           clear h4 HT2;generalize (fourOf (ps.take (ps.length-1))).1=N at hf1 hf2 HU ⊢;go_wp2_with fail
           refine(ZbY 1000000 _ _ (by omega) (by omega) (by decide)).mono ?_
           rintro e x1 ⟨q1,rfl,hq1,hm1'⟩
           have hz1:q1.size≤1000001:=by have h:=congrArg List.length hq1;have h2:=ZbX (N/16777216).toNat;rw[tl_length]at h;omega
           go_wp2_with fail
           refine(ZbY 1000000 _ _ (by omega) (by omega) (by decide)).mono ?_
           rintro e x2 ⟨q2,rfl,hq2,hm2'⟩
           have hz2:q2.size≤1000001:=by have h:=congrArg List.length hq2;have h2:=ZbX (N/65536%256).toNat;rw[tl_length]at h;omega
           go_wp2_with fail
           refine(ZbY 1000000 _ _ (by omega) (by omega) (by decide)).mono ?_
           rintro e x3 ⟨q3,rfl,hq3,hm3'⟩
           have hz3:q3.size≤1000001:=by have h:=congrArg List.length hq3;have h2:=ZbX (N/256%256).toNat;rw[tl_length]at h;omega
           go_wp2_with fail
           refine(ZbY 1000000 _ _ (by omega) (by omega) (by decide)).mono ?_
           rintro e x4 ⟨q4,rfl,hq4,hm4'⟩
           have hz4:q4.size≤1000001:=by have h:=congrArg List.length hq4;have h2:=ZbX (N%256).toNat;rw[tl_length]at h;omega
           have hmm:=((hm1'.then hm2').then hm3').then hm4';have HNX4:=Za (HNC.out.then hmm);have HCX:=Za (HCC.out.on hmm)
           have HTX:=Za (show tl (q1++(⟨#[46]⟩:BA)++q2++(⟨#[46]⟩:BA)++q3++(⟨#[46]⟩:BA)++q4)=ZaY N.toNat by
            rw[tl_append,tl_append,tl_append,tl_append,tl_append,tl_append,hq1,hq2,hq3,hq4];unfold ZaY
            rw[show(N/16777216).toNat=N.toNat/16777216 by omega,show(N/65536%256).toNat=N.toNat/65536%256 by omega,show(N/256%256).toNat=N.toNat/256%256 by omega,show(N%256).toNat=N.toNat%256 by omega]
            rfl)
           clear hq1 hq2 hq3 hq4 hm1' hm2' hm3' hm4' hmm HNC HCC;obtain⟨ca,cb,hc0,hc1,hf0,hf1,hrb⟩:=HCX.out.facts;obtain⟨hs0,hs1'⟩:=HCX.out.ret (.bool true) (.string (q1++(⟨#[46]⟩:BA)++q2++(⟨#[46]⟩:BA)++q3++(⟨#[46]⟩:BA)++q4));go_wp2
           exact bodyPost_ret (v:=.tuple #[.agg #[.bool true,.string (q1++(⟨#[46]⟩:BA)++q2++(⟨#[46]⟩:BA)++q3++(⟨#[46]⟩:BA)++q4)],.int .i64 0]) (by simp[results,Tryz.results215,go_sem,hs0,hs1']) rfl ⟨_,by rw[HU.out],by rw[HU.out];exact HTX.out,(HNX4.out.setCell (Xa _) _).setCell (Xa _) _⟩
      ·have hp0:0<ps.length:=hp0
       obtain⟨a,ha⟩:=Zw (k:=ps.length - 1) (by omega) hnone
       subst ha;obtain⟨b,off,rfl,hr⟩:=hsome a rfl
       have hck:=(hr.on HNW9.out).cell (i:=ps.length-1) (by omega)
       simp only[id]at hck
       have hvl:ps.length-1<ps.length:=by omega
       have HL:=Za ((HFA.out.at_ hvl).on HNW9.out);obtain⟨hm1,hm2⟩:=HMEM.out ps[ps.length - 1] (Xd _)
       have HLP:=Za (fun c (h:c∈ps[ps.length-1])=>HDP.out c (hm2 c h))
       clear hm2
       have HT:=Za (show domainOf l=domTail d (ps)from HQ.out.trans (congrArg (domTail d) (by rw[if_neg (fun hh=>h1 hh.1)])))
       go_wp2_with fail
       refine(ZaJ _ ps[ps.length-1] _ HL.out (by omega) HLP.out).mono ?_
       rintro e wa ⟨rfl,hna⟩;go_wp2_with fail
       refine(Z4 _ ps[ps.length-1] _ (HL.out.on hna)).mono ?_
       rintro e wb ⟨rfl,rfl⟩;have HNA:=Za (HNZ9.out.then hna);have HCA:=Za (HC9.out.on hna);have HPB:=Za (((PartsAt.on (PartsAt.on HPA.out HNW9.out) hna)));clear hna HNZ9 HC9 HNW9
       by_cases hvv:(valueOf ps[ps.length-1]).2=false∧ZP ps[ps.length-1]=false
       ·obtain⟨hv1,hv2⟩:=hvv
        have HU:=Za (show domainOf l=(true,lower (Zb d),0)by rw[HT.out,domTail,Zcz hvl,if_pos ⟨hv1,hv2⟩])
        rw[hv1,hv2];clear hv1 hv2;obtain⟨ca,cb,hc0,hc1,hf0,hf1,hrb⟩:=HCA.out.facts;obtain⟨hs0,hs1'⟩:=HCA.out.ret (.bool true) (.string r9);go_wp2
        exact bodyPost_ret (v:=.tuple #[.agg #[.bool true,.string r9],.int .i64 0]) (by simp[results,Tryz.results215,go_sem,hs0,hs1']) rfl ⟨r9,by rw[HU.out],by rw[HU.out];exact HR9.out,(HNA.out.setCell (Xa _) _).setCell (Xa _) _⟩
       ·have HT2:=Za (show domainOf l=if(fourOf (ps)).2=true then(true,ZaY (fourOf (ps)).1.toNat,0)else(false,[],2)by rw[HT.out,domTail,Zcz hvl,if_neg hvv])
        clear HT
        have hwp:(!(valueOf ps[ps.length-1]).2 && !(ZP ps[ps.length-1]))=false:=by cases h1:(valueOf ps[ps.length-1]).2<;>cases h2:ZP ps[ps.length-1]<;>simp_all
        clear hvv
        cases hv1:(valueOf ps[ps.length-1]).2<;>cases hv2:ZP ps[ps.length-1]<;>rw[hv1,hv2]at hwp<;>first|(exact absurd hwp (by decide))|skip
        all_goals
         clear hwp hv1 hv2;go_wp2_with fail
         refine(ZgN _ (ps) _ HPB.out (fun p hp=>by have h:=(HMEM.out p (hp)).1;omega) (fun p hp c hc=>HDP.out c ((HMEM.out p (hp)).2 c hc))).mono ?_
         rintro e wc ⟨rfl,hnc⟩;have HNC:=Za (HNA.out.then hnc);have HCC:=Za (HCA.out.on hnc);obtain⟨hf1,hf2⟩:=ZgQ (ps)
         cases h4:(fourOf (ps)).2
         ·have HU:=Za (show domainOf l=(false,[],2)by rw[HT2.out,if_neg (by rw[h4];decide)])
          clear h4 HT2;obtain⟨ca,cb,hc0,hc1,hf0,hf1,hrb⟩:=HCC.out.facts;obtain⟨hs0,hs1'⟩:=HCC.out.ret (.bool false) (.string ⟨#[]⟩);go_wp2
          exact bodyPost_ret (v:=.tuple #[.agg #[.bool false,.string ⟨#[]⟩],.int .i64 2]) (by simp[results,Tryz.results215,go_sem,hs0,hs1']) rfl ⟨⟨#[]⟩,by rw[HU.out],by rw[HU.out];rfl,(HNC.out.setCell (Xa _) _).setCell (Xa _) _⟩
         ·have HU:=Za (show domainOf l=(true,ZaY (fourOf (ps)).1.toNat,0)by rw[HT2.out,if_pos h4])
          clear h4 HT2;generalize (fourOf (ps)).1=N at hf1 hf2 HU ⊢;go_wp2_with fail
          refine(ZbY 1000000 _ _ (by omega) (by omega) (by decide)).mono ?_
          rintro e x1 ⟨q1,rfl,hq1,hm1'⟩
          have hz1:q1.size≤1000001:=by have h:=congrArg List.length hq1;have h2:=ZbX (N/16777216).toNat;rw[tl_length]at h;omega
          go_wp2_with fail
          refine(ZbY 1000000 _ _ (by omega) (by omega) (by decide)).mono ?_
          rintro e x2 ⟨q2,rfl,hq2,hm2'⟩
          have hz2:q2.size≤1000001:=by have h:=congrArg List.length hq2;have h2:=ZbX (N/65536%256).toNat;rw[tl_length]at h;omega
          go_wp2_with fail
          refine(ZbY 1000000 _ _ (by omega) (by omega) (by decide)).mono ?_
          rintro e x3 ⟨q3,rfl,hq3,hm3'⟩
          have hz3:q3.size≤1000001:=by have h:=congrArg List.length hq3;have h2:=ZbX (N/256%256).toNat;rw[tl_length]at h;omega
          go_wp2_with fail
          refine(ZbY 1000000 _ _ (by omega) (by omega) (by decide)).mono ?_
          rintro e x4 ⟨q4,rfl,hq4,hm4'⟩
          have hz4:q4.size≤1000001:=by have h:=congrArg List.length hq4;have h2:=ZbX (N%256).toNat;rw[tl_length]at h;omega
          have hmm:=((hm1'.then hm2').then hm3').then hm4';have HNX4:=Za (HNC.out.then hmm);have HCX:=Za (HCC.out.on hmm)
          have HTX:=Za (show tl (q1++(⟨#[46]⟩:BA)++q2++(⟨#[46]⟩:BA)++q3++(⟨#[46]⟩:BA)++q4)=ZaY N.toNat by
           rw[tl_append,tl_append,tl_append,tl_append,tl_append,tl_append,hq1,hq2,hq3,hq4];unfold ZaY
           rw[show(N/16777216).toNat=N.toNat/16777216 by omega,show(N/65536%256).toNat=N.toNat/65536%256 by omega,show(N/256%256).toNat=N.toNat/256%256 by omega,show(N%256).toNat=N.toNat%256 by omega]
           rfl)
          clear hq1 hq2 hq3 hq4 hm1' hm2' hm3' hm4' hmm HNC HCC;obtain⟨ca,cb,hc0,hc1,hf0,hf1,hrb⟩:=HCX.out.facts;obtain⟨hs0,hs1'⟩:=HCX.out.ret (.bool true) (.string (q1++(⟨#[46]⟩:BA)++q2++(⟨#[46]⟩:BA)++q3++(⟨#[46]⟩:BA)++q4));go_wp2
          exact bodyPost_ret (v:=.tuple #[.agg #[.bool true,.string (q1++(⟨#[46]⟩:BA)++q2++(⟨#[46]⟩:BA)++q3++(⟨#[46]⟩:BA)++q4)],.int .i64 0]) (by simp[results,Tryz.results215,go_sem,hs0,hs1']) rfl ⟨_,by rw[HU.out],by rw[HU.out];exact HTX.out,(HNX4.out.setCell (Xa _) _).setCell (Xa _) _⟩
     ·obtain⟨ca,cb,hc0,hc1,hf0,hf1,hrb⟩:=HC7.out.facts
      obtain⟨hs0,hs1'⟩:=HC7.out.ret (.bool false) (.string ⟨#[]⟩);have HQ:=Za (HE.out.trans (Ztl HXA.out HLD.out hF));clear hF;go_wp2
      exact bodyPost_ret (v:=.tuple #[.agg #[.bool false,.string ⟨#[]⟩],.int .i64 2]) (by simp[results,Tryz.results215,go_sem,hs0,hs1']) rfl ⟨⟨#[]⟩,by rw[HQ.out],by rw[HQ.out];rfl,(HNZ.out.setCell (Xa _) _).setCell (Xa _) _⟩
theorem Ztm(p:LI):∀(v x:Int),0≤v→Zb9 v p=some x→0≤x∧x<(v+1)*16^p.length:=by
 induction p with
 | nil=>intro v x h0 h;rw[Zb9]at h;injection h with h;subst h;simp;omega
 | cons c r ih=>
  intro v x h0 h;rw[Zb9]at h
  split at h
  ·cases h
  ·have h15:digit c≤15:=by unfold digit;repeat' split;all_goals omega
   obtain⟨h1,h2⟩:=ih _ _ (by omega) h
   refine⟨h1,Int.lt_of_lt_of_le h2 ?_⟩
   rw[Xj,Int.pow_succ,Int.mul_comm (16^r.length) 16,←Int.mul_assoc]
   exact Int.mul_le_mul_of_nonneg_right (by omega) (Int.pow_nonneg (by decide))
theorem Zhu{p:LI}{x:Int}(h:Zbd p=some x):0≤x∧x≤65535:=by
 unfold Zbd at h
 split at h
 ·cases h
 ·rename_i hl
  obtain⟨h1,h2⟩:=Ztm p 0 x (by decide) h
  have h3:p.length=1∨p.length=2∨p.length=3∨p.length=4:=by omega
  rcases h3 with h3|h3|h3|h3<;>rw[h3]at h2<;>exact⟨h1,by omega⟩
theorem Zq4{p:LI}{x:Int}(h:ZeT p=some x):0≤x∧x≤255:=by
 unfold ZeT at h
 split at h
 ·cases h
 ·rename_i hb
  unfold byteBad at hb;simp only[Bool.or_eq_true,beq_iff_eq,decide_eq_true_eq,not_or]at hb
  have ha:p.all numeral=true:=by have h1:=hb.1.1;unfold ZP at h1;simp only[Bool.and_eq_false_iff,not_or,Bool.not_eq_false]at h1;exact h1.1
  obtain⟨h1,h2⟩:=Zgl p ha (by omega)
  split at h
  ·cases h
  ·injection h with h
   subst h
   exact⟨h1,by omega⟩
theorem ZiO(ps:List LI):∀q,Z8 ps=some q→∀x∈q,0≤x∧x≤255:=by
 induction ps with
 | nil=>intro q h;rw[Z8]at h;injection h with h;subst h;intro x hx;cases hx
 | cons p r ih=>
  intro q h;rw[Z8]at h
  split at h
  ·cases h
  ·rename_i b hb
   cases hr:Z8 r with
   | none=>rw[hr]at h;cases h
   | some q'=>
    rw[hr]at h
    injection h with h
    subst h;intro x hx;rcases Xh.1 hx with rfl|hx
    ·exact Zq4 hb
    ·exact ih q' hr x hx
theorem dotted_rng(l:LI):∀x∈(dotted l).1,0≤x∧x≤65535:=by
 unfold dotted
 split
 ·rename_i a b c d h
  have hh:=ZiO _ _ h
  have ha:=hh a (by simp)
  have hb:=hh b (by simp)
  have hc:=hh c (by simp)
  have hd:=hh d (by simp)
  intro x hx;simp only[Xh,List.not_mem_nil,or_false]at hx;rcases hx with rfl|rfl<;>omega
 ·intro x hx;cases hx
theorem grpGoR_rng(en:Bool)(ps:List LI):∀q,grpGoR en ps=some q→∀x∈q,0≤x∧x≤65535:=by
 induction ps with
 | nil=>intro q h;rw[grpGoR]at h;injection h with h;subst h;intro x hx;cases hx
 | cons p r ih=>
  intro q h;rw[grpGoR]at h
  split at h
  ·split at h
   ·injection h with h
    subst h;exact dotted_rng p
   ·cases h
  ·split at h
   ·cases h
   ·rename_i v hv
    cases hr:grpGoR en r with
    | none=>rw[hr]at h;cases h
    | some q'=>
     rw[hr]at h
     injection h with h
     subst h;intro x hx;rcases Xh.1 hx with rfl|hx
     ·exact Zhu hv
     ·exact ih q' hr x hx
theorem Zfn(l:LI)(en:Bool):∀x∈(groups l en).1,0≤x∧x≤65535:=by
 unfold groups
 split
 ·intro x hx;cases hx
 ·split
  ·rename_i q h
   exact grpGoR_rng _ _ _ h
  ·intro x hx;cases hx
theorem Ztn{l:LI}{i:Nat}(h:(Zhs l i).2=true):(Zhs l i).1.length=8∧∀x∈(Zhs l i).1,0≤x∧x≤65535:=by
 unfold Zhs at h ⊢
 split at h
 ·cases h
 ·rename_i hn
  rw[if_neg hn]
  refine⟨by simp only[List.length_append,List.length_replicate];omega,fun x hx=>?_⟩
  simp only[List.mem_append]at hx;rcases hx with(hx|hx)|hx
  ·exact Zfn _ _ x hx
  ·rw[(List.mem_replicate.1 hx).2];decide
  ·exact Zfn _ _ x hx
theorem Zn2(l:LI)(n:Nat):∀i,l.length-i≤n→(Zbz l i).2=true→(Zbz l i).1.length=8∧∀x∈(Zbz l i).1,0≤x∧x≤65535:=by
 induction n with
 | zero=>
  intro i hi h
  rw[Zbz,if_neg (by omega)]at h ⊢
  simp only[Bool.and_eq_true,beq_iff_eq]at h;exact⟨h.2,Zfn _ _⟩
 | succ n ih=>
  intro i hi h;rw[Zbz]at h ⊢
  by_cases h1:i+1<l.length
  ·rw[if_pos h1]at h ⊢
   by_cases h2:l.getD i 0=58∧l.getD (i+1) 0=58
   ·rw[if_pos h2]at h ⊢;exact Ztn h
   ·rw[if_neg h2]at h ⊢;exact ih (i+1) (by omega) h
  ·rw[if_neg h1]at h ⊢
   simp only[Bool.and_eq_true,beq_iff_eq]at h;exact⟨h.2,Zfn _ _⟩
theorem Zj6{l:LI}(h:(address l).2=true):(address l).1.length=8∧∀x∈(address l).1,0≤x∧x≤65535:=Zn2 l l.length 0 (by omega) h
end Go.Proofs.YtchkhibgbnhjpabGreatDoor
