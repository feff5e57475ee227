import Derived.Test.YtchkhibgbnhjpabGreatDoorT01
open Array renaming getElem?_eq_some_iff→Xj
open List renaming length_take→Xb,any_eq_true→Xc,getElem_mem→Xd,getElem_take→Xe,getElem_of_mem→Xf,mem_of_mem_take→Xg,take_succ_eq_append_getElem→Xh,length_cons→Xi,mem_cons→Xk,take_of_length_le→Xl,length_append→Xo,length_drop→Xq,any_append→Xr,any_cons→Xs,any_nil→Xt
open Nat renaming le_refl→Xa,add_zero→Xm,zero_le→Xn
open Go.Value renaming string→J,bool→C,int→I
open Go.IntKind renaming i64→X
open Go.Ending renaming returned→Y
open Go.Obj renaming cells→O
namespace Go.Proofs.YtchkhibgbnhjpabGreatDoor
open Tryz
open Go.RowKit
set_option maxHeartbeats 6000000
set_option maxRecDepth 100000
variable [Fl]
set_option linter.all false
def xnB:List UInt8:=[120,110,45,45]
def ZHl(p:List Int):Bool:=decide (4<=(lower (Zb p)).length)&&(lower (Zb p)).take 4==xnB
def ZAF:List UInt8:=[0,9,10,13,32,35,47,58,60,62,63,64,91,92,93,94,124]
def ZB4(c:Int):Bool:=among c ZAF||decide (c<32)||c==127||c==37
def ZAg(n:Nat):List UInt8:=dec (n/16777216)++[46]++dec (n/65536%256)++[46]++dec (n/256%256)++[46]++dec (n%256)
def Zz0(ps:List (List Int)):List Int:=ps.getD (ps.length-1) []
def domTail(d:List Int)(qs:List (List Int)):Bool×List UInt8×Int:=
 if(valueOf (Zz0 qs)).2=false/\ZP (Zz0 qs)=false then(true,lower (Zb d),0)
 else if(fourOf qs).2=true then(true,ZAg (fourOf qs).1.toNat,0)else(false,[],2)
def ZDf(d:List Int)(ps:List (List Int)):Bool×List UInt8×Int:=
 if ps.any ZHl=true∨(d.any fun c=>decide (127<c))=true then(false,[],3)
 else if((d.length:Int)==0||d.any ZB4)=true then(false,[],2)
 else domTail d (if 1<ps.length/\(Zz0 ps).length=0 then ps.take (ps.length-1)else ps)
def domainOf(l:List Int):Bool×List UInt8×Int:=ZDf (Zl (decoded (Zb l))) (parts (Zl (decoded (Zb l))) [46])
theorem ZBd{ps:List LI}(h:ps.length-1<ps.length):Zz0 ps=ps[ps.length-1]:=by unfold Zz0;rw[List.getD_eq_getElem?_getD,List.getElem?_eq_getElem h];rfl
theorem ZDg{ps:List LI}(h1:1<ps.length):Zz0 (ps.take (ps.length-1))=ps[ps.length-1-1]'(by omega):=by
 have hl:(ps.take (ps.length-1)).length=ps.length-1:=by rw[Xb];omega
 rw[ZBd (by omega),Xe]
 congr 1
 rw[hl]
theorem ZH1{d:LI}{ps:List LI}(h1:∀j,(h:j<ps.length)->ZHl ps[j]=false)(h2:∀j,(h:j<d.length)->d[j]<=127)(h3:((d.length:Int)==0||d.any ZB4)=false):ZDf d ps=domTail d (if 1<ps.length/\(Zz0 ps).length=0 then ps.take (ps.length-1)else ps):=by
 unfold ZDf
 rw[ifN,ifN (by rw[h3];decide)]
 rintro(h|h)
 .obtain⟨x,hx,hb⟩:=Xc.1 h
  obtain⟨j,hj,rfl⟩:=Xf hx;rw[h1 j hj]at hb
  exact absurd hb (by decide)
 .obtain⟨x,hx,hb⟩:=Xc.1 h
  obtain⟨j,hj,rfl⟩:=Xf hx;have:=h2 j hj
  simp at hb
  omega
theorem ZKZ{d:LI}{ps:List LI}{j:Nat}(h:j<ps.length)(hx:ZHl ps[j]=true):ZDf d ps=(false,[],3):=by unfold ZDf;rw[ifP (Or.inl (Xc.2 ⟨_,Xd h,hx⟩))]
theorem ZH2{d:LI}{ps:List LI}{j:Nat}(h:j<d.length)(hx:127<d[j]):ZDf d ps=(false,[],3):=by
 unfold ZDf
 rw[ifP (Or.inr (Xc.2 ⟨_,Xd h,by simpa using hx⟩))]
theorem ZJe{d:LI}{ps:List LI}(h1:∀j,(h:j<ps.length)->ZHl ps[j]=false)(h2:∀j,(h:j<d.length)->d[j]<=127)(h3:((d.length:Int)==0||d.any ZB4)=true):ZDf d ps=(false,[],2):=by
 unfold ZDf;rw[ifN,ifP h3];rintro(h|h)
 .obtain⟨x,hx,hb⟩:=Xc.1 h
  obtain⟨j,hj,rfl⟩:=Xf hx;rw[h1 j hj]at hb
  exact absurd hb (by decide)
 .obtain⟨x,hx,hb⟩:=Xc.1 h
  obtain⟨j,hj,rfl⟩:=Xf hx;have:=h2 j hj
  simp at hb
  omega
theorem ZH3(n:Nat)(ps:List LI):∀(i:Nat) (sum:Int),0<=sum->0<=(fourGo n i sum ps).1/\(fourGo n i sum ps).1<=sum+ps.length*1099511627776:=by
 induction ps with
 | nil=>intro i sum h;rw[fourGo];exact⟨h,by simp⟩
 | cons p r ih=>
  intro i sum h;obtain⟨hv0,hv1⟩:=ZC9 p
  have hP:0<=(sum+(valueOf p).1*(if i+1=n then 1 else 256^(3-i)))-sum/\(¬((valueOf p).2=false∨(if i+1=n then 256^(4-i)else 256)<=(valueOf p).1)->(sum+(valueOf p).1*(if i+1=n then 1 else 256^(3-i)))-sum<=1099511627776):=by
   by_cases hin:i+1=n
   .rw[ifP hin];exact⟨by omega,fun _=>by omega⟩
   .rw[ifN hin,ifN hin]
    have h3:3-i=0∨3-i=1∨3-i=2∨3-i=3:=by omega
    rcases h3 with h3|h3|h3|h3<;>rw[h3]<;>exact⟨by omega,fun hh=>by have:=fun hx=>hh (Or.inr hx);omega⟩
  rw[fourGo]
  generalize (sum+(valueOf p).1*(if i+1=n then 1 else 256^(3-i)))=s' at hP ⊢
  rw[Xi]
  by_cases hh:(valueOf p).2=false∨(if i+1=n then 256^(4-i)else 256)<=(valueOf p).1
  .rw[ifP hh]
   exact⟨Int.le_refl _,by show(0:Int)<=_;omega⟩
  .rw[ifN hh]
   have h2:=hP.2 hh
   obtain⟨h3,h4⟩:=ih (i+1) s' (by omega)
   exact⟨h3,by omega⟩
theorem ZDX(ps:List LI):0<=(fourOf ps).1/\(fourOf ps).1<=4398046511104:=by
 unfold fourOf
 split
 .exact⟨by decide,by decide⟩
 .obtain⟨h1,h2⟩:=ZH3 ps.length ps 0 0 (by omega)
  exact⟨h1,by omega⟩
theorem PartsAt.on{w w':World}{v:Value}{ps:List LI}(h:PartsAt w v ps)(hb:Nx w w'):PartsAt w' v ps:=by obtain⟨vs,h1,h2⟩:=h;exact⟨vs,h1.on hb,h2.on hb⟩
theorem PartsAt.upto{w:World}{ao:Option Addr}{cap:Nat}{ps:List LI}(h:PartsAt w (.slice ao ps.length cap) ps)(n:Nat)(hn:n<=ps.length):PartsAt w (.slice ao n cap) (ps.take n):=by
 obtain⟨vs,⟨ao',cap',he,hlc,hcap,hnone,hsome⟩,hfa⟩:=h
 injection he with e1 e2 e3
 subst e1 e3;have hl:=hfa.1
 refine⟨vs.take n,⟨ao,cap,by rw[Xb,Nat.min_eq_left (by omega)],by rw[Xb];omega,hcap,fun ha=>by rw[(hnone ha).1];exact⟨by simp,(hnone ha).2⟩,fun a ha=>?_⟩,by simp[hl],fun i h1 h2=>?_⟩
 .obtain⟨b,off,h1,cs,fz,h2,h3⟩:=hsome a ha
  refine⟨b,off,h1,cs,fz,h2,fun i hi=>?_⟩
  rw[Xe]
  exact h3 i (by rw[Xb]at hi;omega)
 .rw[Xe,Xe]
  exact hfa.2 i (by rw[Xb]at h1;omega) (by rw[Xb]at h2;omega)
def Cell2(w:World)(rb:Nat):Prop:=∃(a b:Value),w.heap[rb]?=some (O #[a,b] 128 (0,0))
theorem Cell2.on{w w':World}{rb:Nat}(h:Cell2 w rb)(hb:Nx w w'):Cell2 w' rb:=by obtain⟨a,b,hh⟩:=h;exact⟨a,b,(hb.block rb (Xj.1 hh).1).trans hh⟩
theorem Cell2.facts{w:World}{rb:Nat}(h:Cell2 w rb):∃a b,w.cell? ⟨rb,0,none⟩=some a/\w.cell? ⟨rb,1,none⟩=some b/\w.frozen? ⟨rb,0,none⟩=false/\w.frozen? ⟨rb,1,none⟩=false/\rb<w.heap.size:=by
 obtain⟨a,b,hh⟩:=h
 refine⟨a,b,by simp[World.cell?,hh],by simp[World.cell?,hh],by simp[World.frozen?,hh],by simp[World.frozen?,hh],(Xj.1 hh).1⟩
theorem Cell2.ret{w:World}{rb:Nat}(h:Cell2 w rb)(x y:Value):(w.setCell ⟨rb,0,none⟩ x).cell? ⟨rb,0,none⟩=some x/\((w.setCell ⟨rb,0,none⟩ x).setCell ⟨rb,1,none⟩ y).cell? ⟨rb,1,none⟩=some y:=by
 obtain⟨a,b,h0,h1,_⟩:=h.facts
 exact⟨World.cell?_setCell_same _ _ _ h0,World.cell?_setCell_same _ _ _ (by rw[World.cell?_setCell_other _ _ _ _ (by simp)];exact h1)⟩
theorem ZE6(v:Value)(l:LI)(w:World)(hv:IntsAt w v l)(hl:l.length<=20000)(hp:∀c∈l,Pt c):Calls prog 215 #[v] w fun e w'=>∃t:BA,e=Y (.tuple #[.agg #[C (domainOf l).1,J t],I X (domainOf l).2.2])/\tl t=(domainOf l).2.1/\Nx w w':=by
 have HV:=A hv;have HPP:=A hp;clear hv hp
 go_enter func215,ntmps215
 go_wp2_with fail
 refine(ZbB _ l _ (HV.o.on (Nx.rfl.alloc _)) (by omega) HPP.o).mono ?_
 rintro e w1 ⟨r1,rfl,hr1,hn1⟩
 have hs1:r1.size<=80000:=by have h:=Za9 l;rw[<-hr1,Za]at h;omega
 have HC1:=A (Cell2.on (⟨_,_,heap_alloc_new w _⟩:Cell2 (w.alloc _) w.heap.size) hn1);have HN1:=A ((Nx.rfl.alloc _).then hn1);have HR1:=A hr1;clear hr1 hn1 HV;go_wp2_with fail
 refine(ZfB 80000 _ _ hs1 (by omega)).mono ?_
 rintro e w2 ⟨r2,rfl,hr2,hn2⟩
 have hs2:r2.size<=80000:=by have h:=Zc6 (tl r1);rw[<-hr2,Za,Za]at h;omega
 have HC2:=A (HC1.o.on hn2);have HN2:=A (HN1.o.then hn2);have HR2:=A hr2;clear hr2 hn2 HC1 HN1;go_wp2_with fail
 refine(Zau _ _ (by omega)).mono ?_
 rintro e w3 ⟨vd,rfl,hvd,hn3⟩;have HC3:=A (HC2.o.on hn3);have HN3:=A (HN2.o.then hn3);have hld:=Zaf (tl r2);have HDP:=A (Zcy (tl r2));rw[Za]at hld;clear hn3 HC2 HN2;generalize hd:Zl (tl r2)=d at *;have HD:=A hd;clear hd;have HVD:=A hvd;go_wp2_with fail
 refine(ZdV _ d _ _ (Ze (by decide)) HVD.o (by omega)).mono ?_
 rintro e w4 ⟨vp,rfl,hpa,hn4⟩
 have HE:=A (show domainOf l=ZDf d (parts d (tl ⟨#[46]⟩))by unfold domainOf;rw[<-HR1.o,<-HR2.o,HD.o];rfl)
 clear HR1 HR2 HD;have HPA:=A hpa;obtain⟨vs,hvs,hfa⟩:=hpa;have HPM:=A (ZzS d (tl ⟨#[46]⟩))
 have hp0:0<(parts d (tl ⟨#[46]⟩)).length:=by obtain⟨p,q,h⟩:=ZkH d (tl ⟨#[46]⟩);rw[h];simp
 generalize parts d (tl ⟨#[46]⟩)=ps at *;have HC4:=A (HC3.o.on hn4);have HN4:=A (HN3.o.then hn4);have HVD4:=A (HVD.o.on hn4);have hlen:=hfa.1;have HFA:=A hfa;have hpl:=HPM.o.1;have HMEM:=A HPM.o.2;clear hn4 HC3 HN3 HVD hvd hfa HPM;obtain⟨ao,cap,rfl,hlc,hcap,hnone,hsome⟩:=hvs;unfold maxLen at hcap;rw[hlen]at HPA;rw[hlen];rw[hlen]at hlc;go_wp2
 go_loopw [7] (fun i wr=>∃k:Nat,k<=ps.length/\i=I X k/\(∀j,(h:j<ps.length)->j<k->ZHl ps[j]=false)/\Nx w4 wr) (fun i _=>ps.length-(intOf i).toNat)
 case atStart=>exact⟨0,Xn _,rfl,fun j _ h=>by omega,Nx.rfl⟩
 case round=>
  obtain⟨k,hk,rfl,hno,hnx⟩:=hrel;have HNO:=A hno;have HNX:=A hnx;clear hno hnx
  by_cases hlt:k<ps.length
  .obtain⟨a,ha⟩:=Zv (k:=k) (by omega) hnone
   subst ha;obtain⟨b,off,rfl,hr⟩:=hsome a rfl
   have hck:=(hr.on HNX.o).cell (i:=k) (by omega)
   simp only[id]at hck;have HVK:=A ((HFA.o.at_ hlt).on HNX.o);obtain⟨hm1,hm2⟩:=HMEM.o ps[k] (Xd _)
   have HPK:=A (fun c (h:c∈ps[k])=>HDP.o c (hm2 c h))
   clear hm2;go_wp2_with fail
   refine(ZbB _ ps[k] _ HVK.o (by omega) HPK.o).mono ?_
   rintro e w5 ⟨r5,rfl,hr5,hn5⟩
   have hs5:r5.size<=320000:=by have h:=Za9 ps[k];rw[<-hr5,Za]at h;omega
   go_wp2_with fail
   refine(ZeD _ _ (by omega)).mono ?_
   rintro e w6 ⟨r6,rfl,hr6,hn6⟩;have HN6:=A ((HNX.o.then hn5).then hn6)
   have HR6:=A (show tl r6=lower (Zb ps[k])by rw[hr6,hr5])
   have HC6:=A (HC4.o.on HN6.o);clear hr5 hr6 hn5 hn6;obtain⟨ca,cb,hc0,hc1,hf0,hf1,hrb⟩:=HC6.o.facts
   by_cases h4:4<=r6.size
   focus
    by_cases hx:(tl r6).take 4=xnB
    .have hx':((r6.extract 0 4).toList == [120,110,45,45])=true:=by rw[Zgh,tl_to,hx];rfl
     have HQ:=A (HE.o.trans (ZKZ hlt (by unfold ZHl;rw[<-HR6.o,Za,hx];simp[h4])))
     clear hx;obtain⟨hs0,hs1'⟩:=HC6.o.ret (C false) (J ⟨#[]⟩);go_wp2
     exact bodyPost_ret (v:=.tuple #[.agg #[C false,J ⟨#[]⟩],I X 3]) (by simp[results,results215,go_sem,hs0,hs1']) rfl ⟨⟨#[]⟩,by rw[HQ.o],by rw[HQ.o];rfl,((HN4.o.then HN6.o).setCell (Xa _) _).setCell (Xa _) _⟩
    focus
     have hx':((r6.extract 0 4).toList == [120,110,45,45])=false:=by rw[Zgh,tl_to,beq_eq_false_iff_ne];exact hx
     have HX:=A (show ZHl ps[k]=false by unfold ZHl;rw[<-HR6.o,beq_eq_false_iff_ne.2 hx,Bool.and_false])
     clear hx
   rotate_left
   focus
    have HX:=A (show ZHl ps[k]=false by unfold ZHl;rw[<-HR6.o,Za];simp[h4])
   all_goals
    go_wp2
    refine⟨⟨k+1,by omega,by simp,fun j h hj=>?_,HN6.o⟩,by simp[intOf];omega⟩
    by_cases hjk:j=k
    .subst hjk;exact HX.o
    .exact HNO.o j h (by omega)
  .have HXA:=A (fun j (h:j<ps.length)=>HNO.o j h (by omega))
   have HNR:=A (HN4.o.then HNX.o);have HCR:=A (HC4.o.on HNX.o);have HVR:=A (HVD4.o.on HNX.o);clear HNO HC4 HN4;have HVD5:=HVR.o;obtain⟨aod,capd,hvde,hlcd,hcapd,hnoned,hsomed⟩:=HVD5;subst hvde;unfold maxLen at hcapd;have HVV:=A HVD4.o;clear HVD4;go_wp2
   go_loopw [8,9] (fun f i wr'=>∃k:Nat,k<=d.length/\i=I X k/\f=C (((d.length:Int)==0)||(d.take k).any ZB4)/\(∀j,(h:j<d.length)->j<k->d[j]<=127)/\Nx wr wr') (fun _ i _=>d.length-(intOf i).toNat)
   case atStart=>exact⟨0,Xn _,rfl,by simp,fun j _ h=>by omega,Nx.rfl⟩
   case round=>
    obtain⟨m,hm,rfl,rfl,hle,hnx⟩:=hrel;have HLE:=A hle;have HNY:=A hnx;clear hle hnx
    by_cases hlt2:m<d.length
    .obtain⟨a,ha⟩:=Zv hlt2 hnoned
     subst ha;obtain⟨b,off,rfl,hrow⟩:=hsomed a rfl;have hck:=(hrow.on HNY.o).cell hlt2
     by_cases h127:127<d[m]
     .have HC7:=A (HCR.o.on HNY.o)
      have HQ:=A (HE.o.trans (ZH2 hlt2 h127));obtain⟨ca,cb,hc0,hc1,hf0,hf1,hrb⟩:=HC7.o.facts;obtain⟨hs0,hs1'⟩:=HC7.o.ret (C false) (J ⟨#[]⟩);go_wp2
      exact bodyPost_ret (v:=.tuple #[.agg #[C false,J ⟨#[]⟩],I X 3]) (by simp[results,results215,go_sem,hs0,hs1']) rfl ⟨⟨#[]⟩,by rw[HQ.o],by rw[HQ.o];rfl,((HNR.o.then HNY.o).setCell (Xa _) _).setCell (Xa _) _⟩
     .go_wp2_with fail
      refine(Zbz _ _ _ (Ze (by decide))).mono ?_
      rintro e w7 ⟨rfl,rfl⟩
      cases hA:among d[m] (tl ⟨#[0,9,10,13,32,35,47,58,60,62,63,64,91,92,93,94,124]⟩)
      all_goals
       go_wp2
       all_goals
        refine⟨⟨m+1,by omega,by simp,?_,fun j h hj=>?_,HNY.o⟩,by simp[intOf];omega⟩
        .rw[Xh hlt2,Xr,Xs,Xt]
         try simp only[beq_iff_eq,beq_eq_false_iff_ne,ne_eq]at *
         cases hb:ZB4 d[m]<;>first
          | (simp;done)
          | (exfalso
             unfold ZB4 ZAF at hb;rw[show among d[m] [0,9,10,13,32,35,47,58,60,62,63,64,91,92,93,94,124]=_ from hA]at hb
             simp at hb<;>omega)
        .by_cases hjm:j=m
         .subst hjm;omega
         .exact HLE.o j h (by omega)
    .have HNZ:=A (HNR.o.then HNY.o)
     have HC7:=A (HCR.o.on HNY.o);have HNW:=A (HNX.o.then HNY.o)
     have HLD:=A (fun j (h:j<d.length)=>HLE.o j h (by omega))
     rw[Xl (show d.length<=m by omega)]
     clear HNR HNX HNY HCR HLE HVR hsomed hnoned
     cases hF:((d.length:Int)==0||d.any ZB4)
     .have HQ:=A (HE.o.trans (ZH1 HXA.o HLD.o hF))
      clear hF;go_wp2_with fail
      refine(ZbB _ d _ (HVV.o.on HNW.o) (by omega) HDP.o).mono ?_
      rintro e w8 ⟨r8,rfl,hr8,hn8⟩
      have hs8:r8.size<=320000:=by have h:=Za9 d;rw[<-hr8,Za]at h;omega
      go_wp2_with fail
      refine(ZeD _ _ (by omega)).mono ?_
      rintro e w9 ⟨r9,rfl,hr9,hn9⟩;have hn89:=hn8.then hn9;have HNZ9:=A (HNZ.o.then hn89);have HC9:=A (HC7.o.on hn89);have HNW9:=A (HNW.o.then hn89)
      have HR9:=A (show tl r9=lower (Zb d)by rw[hr9,hr8])
      have hs9:r9.size<=320000:=by have h:=ZlN (tl r8);rw[<-hr9,Za,Za]at h;omega
      clear hr8 hr9 hn8 hn9 hn89 HNZ HC7 HNW
      by_cases h1:1<ps.length
      focus
       obtain⟨a,ha⟩:=Zv (k:=ps.length - 1) (by omega) hnone
       subst ha;obtain⟨b,off,rfl,hr⟩:=hsome a rfl
       have hck:=(hr.on HNW9.o).cell (i:=ps.length-1) (by omega)
       simp only[id]at hck
       have hvl:ps.length-1<ps.length:=by omega
       have HVL:=(HFA.o.at_ hvl).on HNW9.o;obtain⟨aol,capl,hvle,hlcl,hcapl,-,-⟩:=HVL;rw[hvle]at hck;have HVLE:=A hvle;clear hvle
       by_cases h0:0<ps[ps.length-1].length
       focus
        have HL:=A ((HFA.o.at_ hvl).on HNW9.o);rw[HVLE.o]at HL;obtain⟨hm1,hm2⟩:=HMEM.o ps[ps.length - 1] (Xd _)
        have HLP:=A (fun c (h:c∈ps[ps.length-1])=>HDP.o c (hm2 c h))
        clear hm2
        have HT:=A (show domainOf l=domTail d (ps)from HQ.o.trans (congrArg (domTail d) (by rw[ifN (fun hh=>by have h2:=hh.2;rw[ZBd hvl]at h2;omega)])))
       rotate_left
       .have hck2:=(hr.on HNW9.o).cell (i:=ps.length-1-1) (by omega)
        simp only[id]at hck2
        have hvl2:ps.length-1-1<ps.length:=by omega
        have HL:=A ((HFA.o.at_ hvl2).on HNW9.o);obtain⟨hm1,hm2⟩:=HMEM.o ps[ps.length - 1 - 1] (Xd _)
        have HLP:=A (fun c (h:c∈ps[ps.length-1-1])=>HDP.o c (hm2 c h))
        clear hm2
        have HT:=A (show domainOf l=domTail d (ps.take (ps.length-1))from HQ.o.trans (congrArg (domTail d) (by rw[ifP ⟨h1,by rw[ZBd hvl];omega⟩])))
        go_wp2_with fail
        refine(ZaU _ ps[ps.length-1-1] _ HL.o (by omega) HLP.o).mono ?_
        rintro e wa ⟨rfl,hna⟩;go_wp2_with fail
        refine(ZaN _ ps[ps.length-1-1] _ (HL.o.on hna)).mono ?_
        rintro e wb ⟨rfl,rfl⟩;have HNA:=A (HNZ9.o.then hna);have HCA:=A (HC9.o.on hna);have HPB:=A (((PartsAt.on (PartsAt.on HPA.o HNW9.o) hna)));clear hna HNZ9 HC9 HNW9
        by_cases hvv:(valueOf ps[ps.length-1-1]).2=false/\ZP ps[ps.length-1-1]=false
        .obtain⟨hv1,hv2⟩:=hvv
         have HU:=A (show domainOf l=(true,lower (Zb d),0)by rw[HT.o,domTail,ZDg h1,ifP ⟨hv1,hv2⟩])
         rw[hv1,hv2];clear hv1 hv2;obtain⟨ca,cb,hc0,hc1,hf0,hf1,hrb⟩:=HCA.o.facts;obtain⟨hs0,hs1'⟩:=HCA.o.ret (C true) (J r9);go_wp2
         exact bodyPost_ret (v:=.tuple #[.agg #[C true,J r9],I X 0]) (by simp[results,results215,go_sem,hs0,hs1']) rfl ⟨r9,by rw[HU.o],by rw[HU.o];exact HR9.o,(HNA.o.setCell (Xa _) _).setCell (Xa _) _⟩
        .have HT2:=A (show domainOf l=if(fourOf (ps.take (ps.length-1))).2=true then(true,ZAg (fourOf (ps.take (ps.length-1))).1.toNat,0)else(false,[],2)by rw[HT.o,domTail,ZDg h1,ifN hvv])
         clear HT
         have hwp:(!(valueOf ps[ps.length-1-1]).2 && !(ZP ps[ps.length-1-1]))=false:=by cases h1:(valueOf ps[ps.length-1-1]).2<;>cases h2:ZP ps[ps.length-1-1]<;>simp_all
         clear hvv
         cases hv1:(valueOf ps[ps.length-1-1]).2<;>cases hv2:ZP ps[ps.length-1-1]<;>rw[hv1,hv2]at hwp<;>first|(exact absurd hwp (by decide))|skip
         all_goals
          clear hwp hv1 hv2;go_wp2_with fail
          refine(ZDT _ (ps.take (ps.length-1)) _ (PartsAt.upto HPB.o _ (by omega)) (fun p hp=>by have h:=(HMEM.o p (Xg hp)).1;omega) (fun p hp c hc=>HDP.o c ((HMEM.o p (Xg hp)).2 c hc))).mono ?_
          rintro e wc ⟨rfl,hnc⟩;have HNC:=A (HNA.o.then hnc);have HCC:=A (HCA.o.on hnc);obtain⟨hf1,hf2⟩:=ZDX (ps.take (ps.length - 1))
          cases h4:(fourOf (ps.take (ps.length-1))).2
          .have HU:=A (show domainOf l=(false,[],2)by rw[HT2.o,ifN (by rw[h4];decide)])
           clear h4 HT2;obtain⟨ca,cb,hc0,hc1,hf0,hf1,hrb⟩:=HCC.o.facts;obtain⟨hs0,hs1'⟩:=HCC.o.ret (C false) (J ⟨#[]⟩);go_wp2
           exact bodyPost_ret (v:=.tuple #[.agg #[C false,J ⟨#[]⟩],I X 2]) (by simp[results,results215,go_sem,hs0,hs1']) rfl ⟨⟨#[]⟩,by rw[HU.o],by rw[HU.o];rfl,(HNC.o.setCell (Xa _) _).setCell (Xa _) _⟩
          .have HU:=A (show domainOf l=(true,ZAg (fourOf (ps.take (ps.length-1))).1.toNat,0)by rw[HT2.o,ifP h4])
           clear h4 HT2;generalize (fourOf (ps.take (ps.length-1))).1=N at hf1 hf2 HU ⊢;go_wp2_with fail
           refine(ZdE 1000000 _ _ (by omega) (by omega) (by decide)).mono ?_
           rintro e x1 ⟨q1,rfl,hq1,hm1'⟩
           have hz1:q1.size<=1000001:=by have h:=congrArg List.length hq1;have h2:=ZdD (N/16777216).toNat;rw[Za]at h;omega
           go_wp2_with fail
           refine(ZdE 1000000 _ _ (by omega) (by omega) (by decide)).mono ?_
           rintro e x2 ⟨q2,rfl,hq2,hm2'⟩
           have hz2:q2.size<=1000001:=by have h:=congrArg List.length hq2;have h2:=ZdD (N/65536%256).toNat;rw[Za]at h;omega
           go_wp2_with fail
           refine(ZdE 1000000 _ _ (by omega) (by omega) (by decide)).mono ?_
           rintro e x3 ⟨q3,rfl,hq3,hm3'⟩
           have hz3:q3.size<=1000001:=by have h:=congrArg List.length hq3;have h2:=ZdD (N/256%256).toNat;rw[Za]at h;omega
           go_wp2_with fail
           refine(ZdE 1000000 _ _ (by omega) (by omega) (by decide)).mono ?_
           rintro e x4 ⟨q4,rfl,hq4,hm4'⟩
           have hz4:q4.size<=1000001:=by have h:=congrArg List.length hq4;have h2:=ZdD (N%256).toNat;rw[Za]at h;omega
           have hmm:=((hm1'.then hm2').then hm3').then hm4';have HNX4:=A (HNC.o.then hmm);have HCX:=A (HCC.o.on hmm)
           have HTX:=A (show tl (q1++(⟨#[46]⟩:BA)++q2++(⟨#[46]⟩:BA)++q3++(⟨#[46]⟩:BA)++q4)=ZAg N.toNat by
            rw[tl_append,tl_append,tl_append,tl_append,tl_append,tl_append,hq1,hq2,hq3,hq4];unfold ZAg
            rw[show(N/16777216).toNat=N.toNat/16777216 by omega,show(N/65536%256).toNat=N.toNat/65536%256 by omega,show(N/256%256).toNat=N.toNat/256%256 by omega,show(N%256).toNat=N.toNat%256 by omega]
            rfl)
           clear hq1 hq2 hq3 hq4 hm1' hm2' hm3' hm4' hmm HNC HCC;obtain⟨ca,cb,hc0,hc1,hf0,hf1,hrb⟩:=HCX.o.facts;obtain⟨hs0,hs1'⟩:=HCX.o.ret (C true) (J (q1++(⟨#[46]⟩:BA)++q2++(⟨#[46]⟩:BA)++q3++(⟨#[46]⟩:BA)++q4));go_wp2
           exact bodyPost_ret (v:=.tuple #[.agg #[C true,J (q1++(⟨#[46]⟩:BA)++q2++(⟨#[46]⟩:BA)++q3++(⟨#[46]⟩:BA)++q4)],I X 0]) (by simp[results,results215,go_sem,hs0,hs1']) rfl ⟨_,by rw[HU.o],by rw[HU.o];exact HTX.o,(HNX4.o.setCell (Xa _) _).setCell (Xa _) _⟩
      rotate_left
      focus
       have hp0:0<ps.length:=hp0
       obtain⟨a,ha⟩:=Zv (k:=ps.length - 1) (by omega) hnone
       subst ha;obtain⟨b,off,rfl,hr⟩:=hsome a rfl
       have hck:=(hr.on HNW9.o).cell (i:=ps.length-1) (by omega)
       simp only[id]at hck
       have hvl:ps.length-1<ps.length:=by omega
       have HL:=A ((HFA.o.at_ hvl).on HNW9.o);obtain⟨hm1,hm2⟩:=HMEM.o ps[ps.length - 1] (Xd _)
       have HLP:=A (fun c (h:c∈ps[ps.length-1])=>HDP.o c (hm2 c h))
       clear hm2
       have HT:=A (show domainOf l=domTail d (ps)from HQ.o.trans (congrArg (domTail d) (by rw[ifN (fun hh=>h1 hh.1)])))
      all_goals
       go_wp2_with fail
       refine(ZaU _ ps[ps.length-1] _ HL.o (by omega) HLP.o).mono ?_
       rintro e wa ⟨rfl,hna⟩;go_wp2_with fail
       refine(ZaN _ ps[ps.length-1] _ (HL.o.on hna)).mono ?_
       rintro e wb ⟨rfl,rfl⟩;have HNA:=A (HNZ9.o.then hna);have HCA:=A (HC9.o.on hna);have HPB:=A (((PartsAt.on (PartsAt.on HPA.o HNW9.o) hna)));clear hna HNZ9 HC9 HNW9
       by_cases hvv:(valueOf ps[ps.length-1]).2=false/\ZP ps[ps.length-1]=false
       .obtain⟨hv1,hv2⟩:=hvv
        have HU:=A (show domainOf l=(true,lower (Zb d),0)by rw[HT.o,domTail,ZBd hvl,ifP ⟨hv1,hv2⟩])
        rw[hv1,hv2];clear hv1 hv2;obtain⟨ca,cb,hc0,hc1,hf0,hf1,hrb⟩:=HCA.o.facts;obtain⟨hs0,hs1'⟩:=HCA.o.ret (C true) (J r9);go_wp2
        exact bodyPost_ret (v:=.tuple #[.agg #[C true,J r9],I X 0]) (by simp[results,results215,go_sem,hs0,hs1']) rfl ⟨r9,by rw[HU.o],by rw[HU.o];exact HR9.o,(HNA.o.setCell (Xa _) _).setCell (Xa _) _⟩
       .have HT2:=A (show domainOf l=if(fourOf (ps)).2=true then(true,ZAg (fourOf (ps)).1.toNat,0)else(false,[],2)by rw[HT.o,domTail,ZBd hvl,ifN hvv])
        clear HT
        have hwp:(!(valueOf ps[ps.length-1]).2 && !(ZP ps[ps.length-1]))=false:=by cases h1:(valueOf ps[ps.length-1]).2<;>cases h2:ZP ps[ps.length-1]<;>simp_all
        clear hvv
        cases hv1:(valueOf ps[ps.length-1]).2<;>cases hv2:ZP ps[ps.length-1]<;>rw[hv1,hv2]at hwp<;>first|(exact absurd hwp (by decide))|skip
        all_goals
         clear hwp hv1 hv2;go_wp2_with fail
         refine(ZDT _ (ps) _ HPB.o (fun p hp=>by have h:=(HMEM.o p (hp)).1;omega) (fun p hp c hc=>HDP.o c ((HMEM.o p (hp)).2 c hc))).mono ?_
         rintro e wc ⟨rfl,hnc⟩;have HNC:=A (HNA.o.then hnc);have HCC:=A (HCA.o.on hnc);obtain⟨hf1,hf2⟩:=ZDX (ps)
         cases h4:(fourOf (ps)).2
         .have HU:=A (show domainOf l=(false,[],2)by rw[HT2.o,ifN (by rw[h4];decide)])
          clear h4 HT2;obtain⟨ca,cb,hc0,hc1,hf0,hf1,hrb⟩:=HCC.o.facts;obtain⟨hs0,hs1'⟩:=HCC.o.ret (C false) (J ⟨#[]⟩);go_wp2
          exact bodyPost_ret (v:=.tuple #[.agg #[C false,J ⟨#[]⟩],I X 2]) (by simp[results,results215,go_sem,hs0,hs1']) rfl ⟨⟨#[]⟩,by rw[HU.o],by rw[HU.o];rfl,(HNC.o.setCell (Xa _) _).setCell (Xa _) _⟩
         .have HU:=A (show domainOf l=(true,ZAg (fourOf (ps)).1.toNat,0)by rw[HT2.o,ifP h4])
          clear h4 HT2;generalize (fourOf (ps)).1=N at hf1 hf2 HU ⊢;go_wp2_with fail
          refine(ZdE 1000000 _ _ (by omega) (by omega) (by decide)).mono ?_
          rintro e x1 ⟨q1,rfl,hq1,hm1'⟩
          have hz1:q1.size<=1000001:=by have h:=congrArg List.length hq1;have h2:=ZdD (N/16777216).toNat;rw[Za]at h;omega
          go_wp2_with fail
          refine(ZdE 1000000 _ _ (by omega) (by omega) (by decide)).mono ?_
          rintro e x2 ⟨q2,rfl,hq2,hm2'⟩
          have hz2:q2.size<=1000001:=by have h:=congrArg List.length hq2;have h2:=ZdD (N/65536%256).toNat;rw[Za]at h;omega
          go_wp2_with fail
          refine(ZdE 1000000 _ _ (by omega) (by omega) (by decide)).mono ?_
          rintro e x3 ⟨q3,rfl,hq3,hm3'⟩
          have hz3:q3.size<=1000001:=by have h:=congrArg List.length hq3;have h2:=ZdD (N/256%256).toNat;rw[Za]at h;omega
          go_wp2_with fail
          refine(ZdE 1000000 _ _ (by omega) (by omega) (by decide)).mono ?_
          rintro e x4 ⟨q4,rfl,hq4,hm4'⟩
          have hz4:q4.size<=1000001:=by have h:=congrArg List.length hq4;have h2:=ZdD (N%256).toNat;rw[Za]at h;omega
          have hmm:=((hm1'.then hm2').then hm3').then hm4';have HNX4:=A (HNC.o.then hmm);have HCX:=A (HCC.o.on hmm)
          have HTX:=A (show tl (q1++(⟨#[46]⟩:BA)++q2++(⟨#[46]⟩:BA)++q3++(⟨#[46]⟩:BA)++q4)=ZAg N.toNat by
           rw[tl_append,tl_append,tl_append,tl_append,tl_append,tl_append,hq1,hq2,hq3,hq4];unfold ZAg
           rw[show(N/16777216).toNat=N.toNat/16777216 by omega,show(N/65536%256).toNat=N.toNat/65536%256 by omega,show(N/256%256).toNat=N.toNat/256%256 by omega,show(N%256).toNat=N.toNat%256 by omega]
           rfl)
          clear hq1 hq2 hq3 hq4 hm1' hm2' hm3' hm4' hmm HNC HCC;obtain⟨ca,cb,hc0,hc1,hf0,hf1,hrb⟩:=HCX.o.facts;obtain⟨hs0,hs1'⟩:=HCX.o.ret (C true) (J (q1++(⟨#[46]⟩:BA)++q2++(⟨#[46]⟩:BA)++q3++(⟨#[46]⟩:BA)++q4));go_wp2
          exact bodyPost_ret (v:=.tuple #[.agg #[C true,J (q1++(⟨#[46]⟩:BA)++q2++(⟨#[46]⟩:BA)++q3++(⟨#[46]⟩:BA)++q4)],I X 0]) (by simp[results,results215,go_sem,hs0,hs1']) rfl ⟨_,by rw[HU.o],by rw[HU.o];exact HTX.o,(HNX4.o.setCell (Xa _) _).setCell (Xa _) _⟩
     .obtain⟨ca,cb,hc0,hc1,hf0,hf1,hrb⟩:=HC7.o.facts
      obtain⟨hs0,hs1'⟩:=HC7.o.ret (C false) (J ⟨#[]⟩);have HQ:=A (HE.o.trans (ZJe HXA.o HLD.o hF));clear hF;go_wp2
      exact bodyPost_ret (v:=.tuple #[.agg #[C false,J ⟨#[]⟩],I X 2]) (by simp[results,results215,go_sem,hs0,hs1']) rfl ⟨⟨#[]⟩,by rw[HQ.o],by rw[HQ.o];rfl,(HNZ.o.setCell (Xa _) _).setCell (Xa _) _⟩
theorem ZJf(p:LI):∀(v x:Int),0<=v->ZAo v p=some x->0<=x/\x<(v+1)*16^p.length:=by
 induction p with
 | nil=>intro v x h0 h;rw[ZAo]at h;injection h with h;subst h;simp;omega
 | cons c r ih=>
  intro v x h0 h;rw[ZAo]at h
  split at h
  .cases h
  .have h15:digit c<=15:=by unfold digit;repeat' split;all_goals omega
   obtain⟨h1,h2⟩:=ih _ _ (by omega) h
   refine⟨h1,Int.lt_of_lt_of_le h2 ?_⟩
   rw[Xi,Int.pow_succ,Int.mul_comm (16^r.length) 16,<-Int.mul_assoc]
   exact Int.mul_le_mul_of_nonneg_right (by omega) (Int.pow_nonneg (by decide))
theorem ZCR{p:LI}{x:Int}(h:ZzX p=some x):0<=x/\x<=65535:=by
 unfold ZzX at h
 split at h
 .cases h
 .rename_i hl
  obtain⟨h1,h2⟩:=ZJf p 0 x (by decide) h
  have h3:p.length=1∨p.length=2∨p.length=3∨p.length=4:=by omega
  rcases h3 with h3|h3|h3|h3<;>rw[h3]at h2<;>exact⟨h1,by omega⟩
theorem ZH4{p:LI}{x:Int}(h:ZBB p=some x):0<=x/\x<=255:=by
 unfold ZBB at h
 split at h
 .cases h
 .rename_i hb
  unfold byteBad at hb;simp only[Bool.or_eq_true,beq_iff_eq,decide_eq_true_eq,not_or]at hb
  have ha:p.all numeral=true:=by have h1:=hb.1.1;unfold ZP at h1;simp only[Bool.and_eq_false_iff,not_or,Bool.not_eq_false]at h1;exact h1.1
  obtain⟨h1,h2⟩:=ZCe p ha (by omega)
  split at h
  .cases h
  .injection h with h
   subst h
   exact⟨h1,by omega⟩
theorem ZDh(ps:List LI):∀q,Zzx ps=some q->∀x∈q,0<=x/\x<=255:=by
 induction ps with
 | nil=>intro q h;rw[Zzx]at h;injection h with h;subst h;intro x hx;cases hx
 | cons p r ih=>
  intro q h;rw[Zzx]at h
  split at h
  .cases h
  .rename_i b hb
   cases hr:Zzx r with
   | none=>rw[hr]at h;cases h
   | some q'=>
    rw[hr]at h
    injection h with h
    subst h;intro x hx;rcases Xk.1 hx with rfl|hx
    .exact ZH4 hb
    .exact ih q' hr x hx
theorem dotted_rng(l:LI):∀x∈(dotted l).1,0<=x/\x<=65535:=by
 unfold dotted
 split
 .rename_i a b c d h
  have hh:=ZDh _ _ h
  have ha:=hh a (by simp)
  have hb:=hh b (by simp)
  have hc:=hh c (by simp)
  have hd:=hh d (by simp)
  intro x hx;simp only[Xk,List.not_mem_nil,or_false]at hx;rcases hx with rfl|rfl<;>omega
 .intro x hx;cases hx
theorem grpGoR_rng(en:Bool)(ps:List LI):∀q,grpGoR en ps=some q->∀x∈q,0<=x/\x<=65535:=by
 induction ps with
 | nil=>intro q h;rw[grpGoR]at h;injection h with h;subst h;intro x hx;cases hx
 | cons p r ih=>
  intro q h;rw[grpGoR]at h
  split at h
  .split at h
   .injection h with h
    subst h;exact dotted_rng p
   .cases h
  .split at h
   .cases h
   .rename_i v hv
    cases hr:grpGoR en r with
    | none=>rw[hr]at h;cases h
    | some q'=>
     rw[hr]at h
     injection h with h
     subst h;intro x hx;rcases Xk.1 hx with rfl|hx
     .exact ZCR hv
     .exact ih q' hr x hx
theorem ZBN(l:LI)(en:Bool):∀x∈(groups l en).1,0<=x/\x<=65535:=by
 unfold groups
 split
 .intro x hx;cases hx
 .split
  .rename_i q h
   exact grpGoR_rng _ _ _ h
  .intro x hx;cases hx
theorem ZJg{l:LI}{i:Nat}(h:(ZCQ l i).2=true):(ZCQ l i).1.length=8/\∀x∈(ZCQ l i).1,0<=x/\x<=65535:=by
 unfold ZCQ at h ⊢
 split at h
 .cases h
 .rename_i hn
  rw[ifN hn]
  refine⟨by simp only[Xo,List.length_replicate];omega,fun x hx=>?_⟩
  simp only[List.mem_append]at hx;rcases hx with(hx|hx)|hx
  .exact ZBN _ _ x hx
  .rw[(List.mem_replicate.1 hx).2];decide
  .exact ZBN _ _ x hx
theorem ZGd(l:LI)(n:Nat):∀i,l.length-i<=n->(Zz6 l i).2=true->(Zz6 l i).1.length=8/\∀x∈(Zz6 l i).1,0<=x/\x<=65535:=by
 induction n with
 | zero=>
  intro i hi h
  rw[Zz6,ifN (by omega)]at h ⊢
  simp only[Bool.and_eq_true,beq_iff_eq]at h;exact⟨h.2,ZBN _ _⟩
 | succ n ih=>
  intro i hi h;rw[Zz6]at h ⊢
  by_cases h1:i+1<l.length
  .rw[ifP h1]at h ⊢
   by_cases h2:l.getD i 0=58/\l.getD (i+1) 0=58
   .rw[ifP h2]at h ⊢;exact ZJg h
   .rw[ifN h2]at h ⊢;exact ih (i+1) (by omega) h
  .rw[ifN h1]at h ⊢
   simp only[Bool.and_eq_true,beq_iff_eq]at h;exact⟨h.2,ZBN _ _⟩
theorem ZDY{l:LI}(h:(address l).2=true):(address l).1.length=8/\∀x∈(address l).1,0<=x/\x<=65535:=ZGd l l.length 0 (by omega) h
def hostOf(l:List Int)(sp:Bool):Bool×List UInt8×Int:=
 if l.getD 0 0=91 then
  (if l.getD (l.length-1) 0≠93 then(false,[],2)
   else if(address ((l.take (l.length-1)).drop 1)).2=true then(true,[91]++brief (address ((l.take (l.length-1)).drop 1)).1++[93],0)else(false,[],2))
 else if sp=true then domainOf l
 else if(l.any fun c=>among c ZAF)=true then(false,[],2)else(true,encoded l [],0)
theorem ZEy(v:LI)(hl:v.length=8)(hp:∀x∈v,0<=x/\x<=65535)(n i:Nat):(briefFrom v n i).length<=100:=by
 fun_induction briefFrom v n i
 .have:=ZcY v hp;omega
 .rename_i n i _ _ _
  have h1:=ZcY (v.take i) fun x hx=>hp x (Xg hx)
  have h2:=fun k=>ZcY (v.drop k) fun x hx=>hp x (List.mem_of_mem_drop hx)
  simp only[Xo,Xi]
  have h3:=fun k=>Xq (i:=k) (l:=v)
  have h4:=List.length_take_le' i v;have h5:=h2 (i+n);have h6:=h3 (i+n)
  omega
 .assumption
 .assumption
theorem ZK0{α:Type}{e:TypeId}{f:α->Value}{w:World}{b off:Nat}{l:List α}(hr:RowAt e f w b off l)(k:Nat):RowAt e f w b off (l.take k):=by
 obtain⟨cs,fz,h1,h2⟩:=hr
 exact⟨cs,fz,h1,fun i hi=>by rw[Xe];exact h2 i (by rw[Xb]at hi;omega)⟩
theorem ZCw(v:Value)(l:LI)(sp:Bool)(w:World)(hv:IntsAt w v l)(hl:l.length<=20000)(hp:∀c∈l,Pt c):Calls prog 181 #[v,C sp] w fun e w'=>∃t:BA,e=Y (.tuple #[.agg #[C (hostOf l sp).1,J t],I X (hostOf l sp).2.2])/\tl t=(hostOf l sp).2.1/\Nx w w':=by
 have HV:=A hv;have HPP:=A hp;clear hp;have HC0:Hid (Cell2 (w.alloc (.cells #[C false,J ⟨#[]⟩] 128 (0,0))) w.heap.size):=A ⟨_,_,heap_alloc_new w _⟩;obtain⟨ao,cap,rfl,hlc,hcap,hnone,hsome⟩:=hv;have HCAP:=A hcap;unfold maxLen at hcap
 by_cases h91:l.getD 0 0=91
 .have hl0:0<l.length:=by cases l with
   | nil=>cases h91
   | cons=>simp
  obtain⟨a,ha⟩:=Zv (k:=0) hl0 hnone;subst ha;obtain⟨b,off,rfl,hrow⟩:=hsome a rfl;have hck0:=(hrow.on (Nx.rfl.alloc (.cells #[C false,J ⟨#[]⟩] 128 (0,0)))).cell (i:=0) hl0
  have hckl:=(hrow.on (Nx.rfl.alloc (.cells #[C false,J ⟨#[]⟩] 128 (0,0)))).cell (i:=l.length-1) (by omega)
  rw[ZAI hl0]at h91;rw[h91,Xm]at hck0
  have HG:=A (show hostOf l sp=if l[l.length-1]'(by omega)≠93 then(false,[],2)else if(address ((l.take (l.length-1)).drop 1)).2=true then(true,[91]++brief (address ((l.take (l.length-1)).drop 1)).1++[93],0)else(false,[],2)by
   unfold hostOf;rw[ZAI hl0,ifP h91,ZAI (by omega:l.length-1<l.length)])
  by_cases h93:l[l.length-1]'(by omega)=93
  .have h2:2<=l.length:=by
    rcases Nat.lt_or_ge l.length 2 with h|h
    .have e:l.length-1=0:=by omega
     simp only[e]at h93;rw[h91]at h93
     cases h93
    .exact h
   rw[h93]at hckl
   have HG2:=A (HG.o.trans (ifN (fun h=>h h93)))
   clear h93 h91 HG
   have HS:=A (Zfz (ZK0 (hrow.on (Nx.rfl.alloc (.cells #[C false,J ⟨#[]⟩] 128 (0,0)))) (l.length-1)) (by rw[Xb];omega) HCAP.o 1 (by rw[Xb];omega))
   rw[show(l.take (l.length-1)).length=l.length-1 by rw[Xb];omega]at HS
   go_enter func181,ntmps181
   go_wp2_with fail
   refine(ZGc _ ((l.take (l.length-1)).drop 1) _ HS.o (by rw[Xq,Xb];omega)).mono ?_
   rintro e w1 ⟨va,rfl,hva,hn1⟩;have HOK:=A (ZDY (l:=(l.take (l.length-1)).drop 1));generalize address ((l.take (l.length-1)).drop 1)=ad at *;obtain⟨q,ok⟩:=ad;simp only at *;have HN1:=A ((Nx.rfl.alloc _).then hn1);have HC1:=A (HC0.o.on hn1);have HVA:=A hva;clear hva hn1 HC0 HS
   cases ok
   .obtain⟨ca,cb,hc0,hc1,hf0,hf1,hrb⟩:=HC1.o.facts
    obtain⟨hs0,hs1'⟩:=HC1.o.ret (C false) (J ⟨#[]⟩);go_wp2
    exact bodyPost_ret (v:=.tuple #[.agg #[C false,J ⟨#[]⟩],I X 2]) (by simp[results,results181,go_sem,hs0,hs1']) rfl ⟨⟨#[]⟩,by rw[HG2.o];rfl,by rw[HG2.o];rfl,(HN1.o.setCell (Xa _) _).setCell (Xa _) _⟩
   .have HQ:=A (HOK.o rfl)
    clear HOK;go_wp2_with fail
    refine(ZsV _ q _ HVA.o HQ.o.1 HQ.o.2).mono ?_
    rintro e w2 ⟨r2,rfl,hr2,hn2⟩;have HR2:=A hr2;have HN2:=A (HN1.o.then hn2);have HC2:=A (HC1.o.on hn2)
    have hs2:r2.size<=1000:=by
     have h:=congrArg List.length hr2;rw[Za]at h;have h2:=ZEy q HQ.o.1 HQ.o.2 8 0;unfold brief at h
     omega
    clear hr2 hn2 HN1 HC1;obtain⟨ca,cb,hc0,hc1,hf0,hf1,hrb⟩:=HC2.o.facts;obtain⟨hs0,hs1'⟩:=HC2.o.ret (C true) (J ((⟨#[91]⟩:BA)++r2++(⟨#[93]⟩:BA)));go_wp2
    exact bodyPost_ret (v:=.tuple #[.agg #[C true,J ((⟨#[91]⟩:BA)++r2++(⟨#[93]⟩:BA))],I X 0]) (by simp[results,results181,go_sem,hs0,hs1']) rfl ⟨_,by rw[HG2.o];rfl,by rw[HG2.o,tl_append,tl_append,HR2.o];rfl,(HN2.o.setCell (Xa _) _).setCell (Xa _) _⟩
  .have HG2:=A (HG.o.trans (ifP h93))
   clear h91 HG
   go_enter func181,ntmps181
   go_wp2
   exact bodyPost_ret (v:=.tuple #[.agg #[C false,J ⟨#[]⟩],I X 2]) (by simp[results,results181,go_sem]) rfl ⟨⟨#[]⟩,by rw[HG2.o],by rw[HG2.o];rfl,Nx.rfl.alloc _⟩
 .have HH:=A (show hostOf l sp=if sp=true then domainOf l else if(l.any fun c=>among c ZAF)=true then(false,[],2)else(true,encoded l [],0)by unfold hostOf;rw[ifN h91])
  cases sp
  .have HH2:Hid (hostOf l false=if(l.any fun c=>among c ZAF)=true then(false,[],2)else(true,encoded l [],0)):=A HH.o
   clear HH
   by_cases hl0:0<l.length
   .obtain⟨a,ha⟩:=Zv (k:=0) hl0 hnone
    subst ha;obtain⟨b,off,rfl,hrow⟩:=hsome a rfl;have hck0:=(hrow.on (Nx.rfl.alloc (.cells #[C false,J ⟨#[]⟩] 128 (0,0)))).cell (i:=0) hl0;rw[Xm]at hck0;rw[ZAI hl0]at h91;have hx91:(l[0]==91)=false:=beq_eq_false_iff_ne.2 h91;clear h91;clear hnone hsome
    go_enter func181,ntmps181
    go_wp2
    go_loopw [9] (fun i wr=>∃k:Nat,k<=l.length/\i=I X k/\((l.take k).any fun c=>among c ZAF)=false/\Nx (w.alloc (.cells #[C false,J ⟨#[]⟩] 128 (0,0))) wr) (fun i _=>l.length-(intOf i).toNat)
    case atStart=>exact⟨0,Xn _,rfl,rfl,Nx.rfl⟩
    case round=>
     obtain⟨k,hk,rfl,hno,hnx⟩:=hrel;have HNO:=A hno;have HNX:=A hnx;have HC2:=A (HC0.o.on hnx);clear hno hnx HC0
     by_cases hlt:k<l.length
     .have hck:=(hrow.on ((Nx.rfl.alloc _).then HNX.o)).cell (i:=k) hlt
      go_wp2_with fail
      refine(Zbz _ _ _ (Ze (by decide))).mono ?_
      rintro e w7 ⟨rfl,rfl⟩
      cases hA:among l[k] (tl ⟨#[0,9,10,13,32,35,47,58,60,62,63,64,91,92,93,94,124]⟩)
      .have HA:=A hA
       clear hA;go_wp2
       refine⟨⟨k+1,by omega,by simp,?_,HNX.o⟩,by simp[intOf];omega⟩
       rw[Xh hlt,Xr,HNO.o,Xs,Xt,show among l[k] ZAF=false from HA.o]
       rfl
      .have HG2:=A (HH2.o.trans (ifP (Xc.2 ⟨l[k],Xd _,hA⟩)))
       clear hA;obtain⟨ca,cb,hc0,hc1,hf0,hf1,hrb⟩:=HC2.o.facts;obtain⟨hs0,hs1'⟩:=HC2.o.ret (C false) (J ⟨#[]⟩);go_wp2
       exact bodyPost_ret (v:=.tuple #[.agg #[C false,J ⟨#[]⟩],I X 2]) (by simp[results,results181,go_sem,hs0,hs1']) rfl ⟨⟨#[]⟩,by rw[HG2.o],by rw[HG2.o];rfl,(((Nx.rfl.alloc _).then HNX.o).setCell (Xa _) _).setCell (Xa _) _⟩
     .have HG2:=A (HH2.o.trans (ifN (by have h:=HNO.o;rw[Xl (by omega)]at h;rw[h];decide)))
      go_wp2_with fail
      refine(Z5 _ l _ _ (HV.o.on ((Nx.rfl.alloc _).then HNX.o)) (Ze (by decide)) (by omega) HPP.o).mono ?_
      rintro e w1 ⟨r1,rfl,hr1,hn1⟩;have HR1:=A hr1;have HN1:=A (((Nx.rfl.alloc _).then HNX.o).then hn1);have HC1:=A (HC2.o.on hn1);clear hr1 hn1;obtain⟨ca,cb,hc0,hc1,hf0,hf1,hrb⟩:=HC1.o.facts;obtain⟨hs0,hs1'⟩:=HC1.o.ret (C true) (J r1);go_wp2
      exact bodyPost_ret (v:=.tuple #[.agg #[C true,J r1],I X 0]) (by simp[results,results181,go_sem,hs0,hs1']) rfl ⟨r1,by rw[HG2.o],by rw[HG2.o];exact HR1.o,(HN1.o.setCell (Xa _) _).setCell (Xa _) _⟩
   .have HG2:=A (HH2.o.trans (ifN (by rw[List.eq_nil_of_length_eq_zero (by omega:l.length=0)];decide)))
    clear hnone hsome
    go_enter func181,ntmps181
    go_wp2
    go_loopw [9] (fun i wr=>i=I X 0/\Nx (w.alloc (.cells #[C false,J ⟨#[]⟩] 128 (0,0))) wr) (fun i _=>l.length-(intOf i).toNat)
    case atStart=>exact⟨rfl,Nx.rfl⟩
    case round=>
     obtain⟨rfl,hnx⟩:=hrel;have HNX:=A hnx;have HC2:=A (HC0.o.on hnx);clear hnx HC0;go_wp2_with fail
     refine(Z5 _ l _ _ (HV.o.on ((Nx.rfl.alloc _).then HNX.o)) (Ze (by decide)) (by omega) HPP.o).mono ?_
     rintro e w1 ⟨r1,rfl,hr1,hn1⟩;have HR1:=A hr1;have HN1:=A (((Nx.rfl.alloc _).then HNX.o).then hn1);have HC1:=A (HC2.o.on hn1);clear hr1 hn1;obtain⟨ca,cb,hc0,hc1,hf0,hf1,hrb⟩:=HC1.o.facts;obtain⟨hs0,hs1'⟩:=HC1.o.ret (C true) (J r1);go_wp2
     exact bodyPost_ret (v:=.tuple #[.agg #[C true,J r1],I X 0]) (by simp[results,results181,go_sem,hs0,hs1']) rfl ⟨r1,by rw[HG2.o],by rw[HG2.o];exact HR1.o,(HN1.o.setCell (Xa _) _).setCell (Xa _) _⟩
  .have HH2:Hid (hostOf l true=domainOf l):=A HH.o
   clear HH
   by_cases hl0:0<l.length
   focus
    obtain⟨a,ha⟩:=Zv (k:=0) hl0 hnone;subst ha;obtain⟨b,off,rfl,hrow⟩:=hsome a rfl;have hck0:=(hrow.on (Nx.rfl.alloc (.cells #[C false,J ⟨#[]⟩] 128 (0,0)))).cell (i:=0) hl0;rw[Xm]at hck0;rw[ZAI hl0]at h91
   rotate_left
   all_goals
    clear hnone hsome
    go_enter func181,ntmps181
    go_wp2_with fail
    refine(ZE6 _ l _ (HV.o.on (Nx.rfl.alloc _)) hl HPP.o).mono ?_
    rintro e w1 ⟨r1,rfl,hr1,hn1⟩;have HR1:=A hr1;have HN1:=A ((Nx.rfl.alloc _).then hn1);have HC1:=A (HC0.o.on hn1);clear hr1 hn1;obtain⟨ca,cb,hc0,hc1,hf0,hf1,hrb⟩:=HC1.o.facts;obtain⟨hs0,hs1'⟩:=HC1.o.ret (C (domainOf l).1) (J r1);go_wp2
    exact bodyPost_ret (v:=.tuple #[.agg #[C (domainOf l).1,J r1],I X (domainOf l).2.2]) (by simp[results,results181,go_sem,hs0,hs1']) rfl ⟨r1,by rw[HH2.o],by rw[HH2.o];exact HR1.o,(HN1.o.setCell (Xa _) _).setCell (Xa _) _⟩
end Go.Proofs.YtchkhibgbnhjpabGreatDoor
