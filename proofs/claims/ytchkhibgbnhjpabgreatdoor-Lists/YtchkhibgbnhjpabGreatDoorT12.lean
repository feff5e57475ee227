import Derived.Test.YtchkhibgbnhjpabGreatDoorT11
import Derived.ArgAppend
open List renaming take_of_length_le→Xa,length_append→Xb,length_map→Xc,take_succ_eq_append_getElem→Xd,getElem_mem→Xe,length_take→Xh,map_append→Xi,map_cons→Xk,length_drop→Xl,drop_of_length_le→Xm,length_nil→Xn,mem_filter→Xo,sum_cons→Xp,mem_map→Xq,length_cons→Xr,drop_eq_getElem_cons→Xs,map_map→Xt,any_eq_true→Xu,append_nil→Xv
open Nat renaming zero_le→Xf,le_refl→Xg,le_trans→Xj
open Go.Value renaming string→J,bool→C,int→I
open Go.IntKind renaming i64→X
open Go.Ending renaming returned→Y
namespace Go.Proofs.YtchkhibgbnhjpabGreatDoor
open Tryz
open Go.RowKit
set_option maxHeartbeats 8000000
set_option maxRecDepth 8000
variable [Fl]
set_option linter.all false
theorem Zz7(s:BA)(w:World)(hs:s.size<=100000):Calls prog 102 #[J s] w fun e w'=>∃r:BA,e=Y (J r)/\tl r=clean (tl s)/\Nx w w':=by
 have hpl:=Zaf (tl s);rw[Za]at hpl
 go_enter func102,ntmps102
 go_wp2_with fail
 refine(Zau s _ (by omega)).mono ?_
 rintro e w1 ⟨v1,rfl,h1,hn1⟩;have H1:=A h1;have HN1:=A hn1;clear h1 hn1;go_wp2_with fail
 refine(ZbB _ (Zl (tl s)) _ H1.o (by omega) (Zcy _)).mono ?_
 rintro e w2 ⟨r,rfl,hr,hn2⟩;have HR:=A hr;have HN2:=A (HN1.o.then hn2);clear hr hn2;go_wp2;go_ret
 exact⟨r,rfl,by rw[HR.o,ZAB],HN2.o⟩
theorem ZIP(c:UInt8)(ls:List LB)(k:Nat):(ZzV c (ls.take k)).length<=ZCG ls:=Xj (ZAu _ _) (ZFG ls k)
theorem ZFS(t:LB)(l:LI):((parts l t).map fun x=>x.length+1).sum=l.length+1:=by
 induction l with
 | nil=>rfl
 | cons c r ih=>
  obtain⟨p,q,hpq⟩:=ZkH r t
  by_cases hc:among c t=true
  .rw[show parts (c::r) t=[]::parts r t by rw[parts,ifP hc],Xk,Xp,ih];simp;omega
  .rw[show parts (c::r) t=(c::p)::q by rw[parts,ifN hc,hpq],Xk,Xp]
   rw[hpq,Xk,Xp]at ih;simp only[Xr]
   omega
theorem ZKs(set:LB)(ls:List LI):ZCG (ls.map fun a=>encoded a set)<=12*(ls.map fun x=>x.length+1).sum:=by
 induction ls with
 | nil=>exact Xf _
 | cons a r ih=>
  rw[Xk,sumL_cons,Xk,Xp];have:=Zdb a set
  omega
theorem ZAc(l:LB):(ZzT l).length<=12*l.length+12:=by
 have h1:=ZKs formR (parts (Zl l) [32]);rw[ZFS]at h1;have h2:=Zaf l
 have h3:=ZAu 43 ((parts (Zl l) [32]).map fun a=>encoded a formR)
 unfold ZzT
 omega
theorem ZA7(s:BA)(w:World)(hs:s.size<=300000):Calls prog 158 #[J s] w fun e w'=>∃r:BA,e=Y (J r)/\tl r=ZzT (tl s)/\Nx w w':=by
 go_enter func158,ntmps158
 go_wp2_with fail
 refine(Zau s _ (by omega)).mono ?_
 rintro e w1 ⟨v1,rfl,h1,hn1⟩;have H1:=A h1;have HN1:=A hn1;have hpl:=Zaf (tl s);rw[Za]at hpl;clear h1 hn1;go_wp2_with fail
 refine(ZdV _ (Zl (tl s)) ⟨#[32]⟩ _ (Ze (by decide)) H1.o (by omega)).mono ?_
 rintro e w2 ⟨v2,rfl,h2,hn2⟩;rw[show tl (⟨#[32]⟩:BA)=[32]from rfl]at h2;have H2:=A h2;have HN2:=A (HN1.o.then hn2);obtain⟨hm1,hm2⟩:=ZzS (Zl (tl s)) [32]
 have HPP:=A (show ∀p∈parts (Zl (tl s)) [32],p.length<=300000/\∀c∈p,Pt c from fun p hp=>⟨by have:=(hm2 p hp).1;omega,fun c hc=>Zcy _ c ((hm2 p hp).2 c hc)⟩)
 have HPR:=A (show ZzT (tl s)=ZzV 43 ((parts (Zl (tl s)) [32]).map fun a=>encoded a formR)from rfl)
 have HSM:=A (show ZCG ((parts (Zl (tl s)) [32]).map fun a=>encoded a formR)<=3600012 by
  have h:=ZKs formR (parts (Zl (tl s)) [32]);rw[ZFS]at h
  omega)
 have hpn:(parts (Zl (tl s)) [32]).length<=300001:=by omega
 clear h2 hn2 H1 HN1 hm1 hm2;generalize parts (Zl (tl s)) [32]=ss at *
 obtain⟨po,pc,hpe⟩:∃po pc,v2=.slice po ss.length pc:=by
  obtain⟨vs,⟨po,pc,h,-⟩,hf⟩:=H2.o
  exact⟨po,pc,by rw[h,hf.1]⟩
 subst hpe;go_wp2
 go_loopw [4,6,7] (fun o i _ wr=>∃(k:Nat) (t:BA),k<=ss.length/\i=I X k/\o=J t/\tl t=ZzV 43 ((ss.take k).map fun a=>encoded a formR)/\t.size<=3600012/\PartsAt wr (.slice po ss.length pc) ss/\Nx w wr) (fun _ i _ _=>ss.length-(intOf i).toNat)
 case atStart=>exact⟨0,_,Xf _,rfl,rfl,rfl,by decide,H2.o,HN2.o⟩
 case round=>
  obtain⟨k,t,hk,rfl,rfl,hE,htl,hpa,hnx⟩:=hrel;have HE:=A hE;have HPA:=A hpa;have HN:=A hnx;clear hE hpa hnx H2 HN2
  by_cases hlt:k<ss.length
  .obtain⟨vs,hvs,hfa⟩:=HPA.o
   have hvl:vs.length=ss.length:=hfa.1
   obtain⟨pb,poff,pcap,hve,-,hcap,hrow⟩:=hvs.open_ (k:=k) (by omega)
   simp only[Value.slice.injEq]at hve;obtain⟨rfl,-,rfl⟩:=hve
   have hck:=hrow.cell (i:=k) (by omega)
   have hsk:=hfa.at_ hlt;simp only[id]at hck;generalize vs[k]=vk at *
   obtain⟨ko,kc,rfl⟩:∃ko kc,vk=.slice ko ss[k].length kc:=by obtain⟨ko,kc,h,-⟩:=hsk;exact⟨ko,kc,h⟩
   have HSK:=A hsk;obtain⟨hkl,hkp⟩:=HPP.o _ (Xe hlt);have HKP:=A hkp
   have HS:=A (show(ss.take (k+1)).map (fun a=>encoded a formR)=(ss.take k).map (fun a=>encoded a formR)++[encoded ss[k] formR]by rw[Xd hlt,Xi];rfl)
   have HL1:=A (show(ZzV 43 ((ss.take (k+1)).map fun a=>encoded a formR)).length<=3600012 by
    have h:=ZIP 43 (ss.map fun a=>encoded a formR) (k+1)
    rw[<-List.map_take]at h
    exact Xj h HSM.o)
   have HT0:=A (show((ss.take k).map fun a=>encoded a formR)=[]↔k=0 by
    constructor
    .intro g
     have:=congrArg List.length g;rw[Xc,Xh]at this;simp only[Xn]at this
     omega
    .rintro rfl;rfl)
   unfold maxLen at hcap;clear hsk hkp hvs hfa hrow hvl;generalize ss[k]=a at *;have HEN:=A (Zdb a formR)
   by_cases h0:0<k
   .have h0':decide ((0:Int)<(k:Int))=true:=decide_eq_true (by omega)
    go_wp2_with fail
    refine(Z5 _ a _ _ HSK.o (Ze (by decide)) (by omega) HKP.o).mono ?_
    rintro e w3 ⟨r,rfl,hr,hn3⟩;have HN3:=A (HN.o.then hn3);have HPA3:=A (HPA.o.on hn3);have hr':tl r=encoded a formR:=hr
    have e1:tl (t++(⟨#[43]⟩:BA)++r)=ZzV 43 ((ss.take (k+1)).map fun a=>encoded a formR):=by
     rw[HS.o,joinW_snoc,ifN (fun g=>by have:=HT0.o.1 g;omega),Zd,Zd,HE.o,hr']
     simp[tl]
    have e2:(t++(⟨#[43]⟩:BA)++r).size<=3600012:=by rw[<-Za,e1];exact HL1.o
    have hrl:r.size<=36000000:=by rw[<-Za,hr'];have:=HEN.o;omega
    have HE1:=A e1;have HE2:=A e2;clear hr hr' hn3 e1 e2;go_wp2
    go_roundw
    exact⟨k+1,t++(⟨#[43]⟩:BA)++r,by omega,by go_num,rfl,HE1.o,HE2.o,HPA3.o,HN3.o⟩
    simp[intOf];omega
   .have h0':decide ((0:Int)<(k:Int))=false:=decide_eq_false (by omega)
    go_wp2_with fail
    refine(Z5 _ a _ _ HSK.o (Ze (by decide)) (by omega) HKP.o).mono ?_
    rintro e w3 ⟨r,rfl,hr,hn3⟩;have HN3:=A (HN.o.then hn3);have HPA3:=A (HPA.o.on hn3);have hr':tl r=encoded a formR:=hr
    have e1:tl (t++r)=ZzV 43 ((ss.take (k+1)).map fun a=>encoded a formR):=by
     have hk0:k=0:=by omega
     rw[HS.o,joinW_snoc,ifP (HT0.o.2 hk0),Zd,HE.o,hr',HT0.o.2 hk0]
     rfl
    have e2:(t++r).size<=3600012:=by rw[<-Za,e1];exact HL1.o
    have hrl:r.size<=36000000:=by rw[<-Za,hr'];have:=HEN.o;omega
    have HE1:=A e1;have HE2:=A e2;clear hr hr' hn3 e1 e2;go_wp2
    go_roundw
    exact⟨k+1,t++r,by omega,by go_num,rfl,HE1.o,HE2.o,HPA3.o,HN3.o⟩
    simp[intOf];omega
  .have HF:=A (show tl t=ZzT (tl s)by rw[HE.o,HPR.o,Xa (by omega)])
   go_wp2;go_ret;exact⟨t,rfl,HF.o,HN.o⟩
theorem ZEn(v:Value)(ps:List Pq)(w:World)(hp:PlAt w v ps)(hl:ps.length<=1000000)(hz:∀p∈ps,p.1.size<=300000/\p.2.size<=300000):Calls prog 111 #[v] w fun e w'=>∃r:BA,e=Y (J r)/\tl r=ZBx (ps.map tl2)/\Nx w w':=by
 have HZ:=A hz;clear hz
 have HLN:Hid (∀k,k<=ps.length->ZCG ((ps.take k).map fun p=>pairTextR (tl2 p))<=7200026*k):=A (fun k hk=>by
  induction k with
  | zero=>exact Xf _
  | succ k ih=>
   rw[Xd (show k<ps.length by omega),Xi,ZEO]
   have h1:=ih (by omega)
   have h2:=ZAc (tl ps[k].1);have h3:=ZAc (tl ps[k].2);have h4:=HZ.o ps[k] (Xe _);rw[Za]at h2 h3
   show _+ZCG [pairTextR (tl2 ps[k])]<=_
   rw[sumL_cons]
   show _+((ZzT (tl ps[k].1)++61::ZzT (tl ps[k].2)).length+1+0)<=_
   rw[Xb,Xr]
   omega)
 obtain⟨ao,cap,rfl,hlc,hcap,hnone,hsome⟩:=hp;unfold maxLen at hcap
 go_enter func111,ntmps111
 go_wp2
 go_loopw [3,4,5,6] (fun o i _ _ wr=>∃(k:Nat) (t:BA),k<=ps.length/\i=I X k/\o=J t/\tl t=ZzV 38 ((ps.take k).map fun p=>pairTextR (tl2 p))/\t.size<=7200026000000/\Nx w wr) (fun _ i _ _ _=>ps.length-(intOf i).toNat)
 case atStart=>exact⟨0,_,Xf _,rfl,rfl,rfl,by decide,Nx.rfl⟩
 case round=>
  obtain⟨k,t,hk,rfl,rfl,hE,htl,hnx⟩:=hrel;have HE:=A hE;have HN:=A hnx;clear hE
  by_cases hlt:k<ps.length
  .obtain⟨a,ha⟩:=ZAh hlt hnone
   subst ha;obtain⟨b,off,rfl,hr⟩:=hsome a rfl;obtain⟨c0,c1⟩:=(hr.on hnx).cell hlt;have HRW:=A hr
   have HS:=A (show(ps.take (k+1)).map (fun p=>pairTextR (tl2 p))=(ps.take k).map (fun p=>pairTextR (tl2 p))++[pairTextR (tl2 ps[k])]by rw[Xd hlt,Xi];rfl)
   obtain⟨hz1,hz2⟩:=HZ.o ps[k] (Xe hlt)
   have HL1:=A (show ZCG ((ps.take (k+1)).map fun p=>pairTextR (tl2 p))<=7200026000000 by have:=HLN.o (k+1) (by omega);omega)
   have HT0:=A (show((ps.take k).map fun p=>pairTextR (tl2 p))=[]↔k=0 by
    constructor
    .intro g
     have:=congrArg List.length g;rw[Xc,Xh]at this;simp only[Xn]at this
     omega
    .rintro rfl;rfl)
   have HC1:Hid (∀w3,Nx w w3->w3.cell? ⟨b,off+k*2+1,none⟩=some (J ps[k].2)):=A (fun w3 h3=>((HRW.o.on h3).cell hlt).2)
   clear hnone hsome hr hnx HRW;generalize ps[k]=c at *;obtain⟨cn,cv⟩:=c;simp only at c0 c1 hz1 hz2 HC1
   by_cases h0:0<k
   focus
    have h0':decide ((0:Int)<(k:Int))=true:=decide_eq_true (by omega)
    clear c1;go_wp2_with fail
    refine(ZA7 cn _ hz1).mono ?_
    rintro e w2 ⟨r1,rfl,hr1,hn2⟩;have HN2:=A (HN.o.then hn2);have HR1:=A hr1
    have hl1:r1.size<=3600012:=by rw[<-Za,hr1];have:=ZAc (tl cn);rw[Za]at this;omega
    have c1:=HC1.o _ HN2.o;clear hr1 hn2 c0;go_wp2_with fail
    refine(ZA7 cv _ hz2).mono ?_
    rintro e w3 ⟨r2,rfl,hr2,hn3⟩;have HN3:=A (HN2.o.then hn3)
    have hl2:r2.size<=3600012:=by rw[<-Za,hr2];have:=ZAc (tl cv);rw[Za]at this;omega
    have e1:tl (t++(⟨#[38]⟩:BA)++r1++(⟨#[61]⟩:BA)++r2)=ZzV 38 ((ps.take (k+1)).map fun p=>pairTextR (tl2 p)):=by
     rw[HS.o,joinW_snoc,ifN (fun g=>by have:=HT0.o.1 g;omega),Zd,Zd,Zd,Zd,HE.o,HR1.o,hr2]
     show _=_++38::(ZzT (tl cn)++61::ZzT (tl cv))
     simp[tl]
    have e2:(t++(⟨#[38]⟩:BA)++r1++(⟨#[61]⟩:BA)++r2).size<=7200026000000:=by rw[<-Za,e1];exact Xj (ZAu _ _) HL1.o
   rotate_left
   focus
    have h0':decide ((0:Int)<(k:Int))=false:=decide_eq_false (by omega)
    clear c1;go_wp2_with fail
    refine(ZA7 cn _ hz1).mono ?_
    rintro e w2 ⟨r1,rfl,hr1,hn2⟩;have HN2:=A (HN.o.then hn2);have HR1:=A hr1
    have hl1:r1.size<=3600012:=by rw[<-Za,hr1];have:=ZAc (tl cn);rw[Za]at this;omega
    have c1:=HC1.o _ HN2.o;clear hr1 hn2 c0;go_wp2_with fail
    refine(ZA7 cv _ hz2).mono ?_
    rintro e w3 ⟨r2,rfl,hr2,hn3⟩;have HN3:=A (HN2.o.then hn3)
    have hl2:r2.size<=3600012:=by rw[<-Za,hr2];have:=ZAc (tl cv);rw[Za]at this;omega
    have e1:tl (t++r1++(⟨#[61]⟩:BA)++r2)=ZzV 38 ((ps.take (k+1)).map fun p=>pairTextR (tl2 p)):=by
     have hk0:k=0:=by omega
     rw[HS.o,joinW_snoc,ifP (HT0.o.2 hk0),Zd,Zd,Zd,HE.o,HR1.o,hr2,HT0.o.2 hk0]
     show _=ZzT (tl cn)++61::ZzT (tl cv)
     simp[tl,ZzV]
    have e2:(t++r1++(⟨#[61]⟩:BA)++r2).size<=7200026000000:=by rw[<-Za,e1];exact Xj (ZAu _ _) HL1.o
   all_goals
    have HE1:=A e1;have HE2:=A e2;clear hr2 hn3 e1 e2 c1;go_wp2
    go_roundw
    exact⟨k+1,_,by omega,by go_num,rfl,HE1.o,HE2.o,HN3.o⟩
    simp[intOf];omega
  .have HF:=A (show tl t=ZBx (ps.map tl2)by
    rw[HE.o,Xa (by omega)]
    unfold ZBx;rw[Xt]
    rfl)
   clear hnx hnone hsome;go_wp2;go_ret;exact⟨t,rfl,HF.o,HN.o⟩
theorem ZIQ{w:World}{b off:Nat}{x y:Value}(h0:w.cell? ⟨b,off,none⟩=some x)(h1:w.cell? ⟨b,off+1,none⟩=some y):
  ∀(j:Nat) (u:Value),[x,y][j]?=some u->w.cell? ((⟨b,off,none⟩:Addr).add j)=some u:=ZBK h0 h1
theorem ZKt{ops:Array Oper}{o:Oper}{a:Act}{K:Act->World->Prop}{Q:Exit->Act->World->Prop}{E:Prop}(w:World)(x0 x1:Int)
  (hgd:o.guard=none) (s x:Operand) (ho:o.op=.call { callee:=.builtin .append,args:=#[s,x],argTypes:=#[124,124] })
  (base:Nat) (v:Value) (l:LI) (hs:a.eval s=v) (hown:OwnI w base v l)
  (ab ao c:Nat) (hx:a.eval x=.slice (some ⟨ab,ao,none⟩) 2 c) (h0:w.cell? ⟨ab,ao,none⟩=some (I X x0)) (h1:w.cell? ⟨ab,ao+1,none⟩=some (I X x1))
  (hn:l.length<1000000000000) (hbase:base<=w.heap.size)
  (h:∀v' w',OwnI w' base v' (l++[x0,x1])->Below base w w'->Kp 3 w w'->K (a.put o.dst v') w'):if Region.wanted o (yielded ops a.tmps)=true then Oper.wp prog o a w K Q else E:=by
 refine ZoL w _ _ (I X 0) 8 underlying124 ZfA rfl hgd s x ho base v l.length _ hs hown ⟨ab,ao,none⟩ 2 c [I X x0,I X x1] hx rfl (ZIQ h0 h1) (by simp[Value.oneCell']) (by omega) (by decide) hbase ?_
 intro v' w' q1 q2 q3
 refine h v' w' ?_ q2 q3
 unfold OwnI;rw[Xb,Xi];exact q1
theorem ZMQ{c:Int}(h0:65536<=c)(h1:c<=1114111):∃d q r hi lo:Int,IntKind.i64.wrap (c-65536)=d/\IntKind.i64.wrap (d.tdiv 1024)=q/\IntKind.i64.wrap (55296+q)=hi/\c.tmod 1024=r/\IntKind.i64.wrap (56320+r)=lo/\ZA6 c=[hi,lo]:=by
 have e1:(c-65536).tdiv 1024=(c-65536)/1024:=Int.tdiv_eq_ediv_of_nonneg (by omega)
 have e2:c.tmod 1024=c%1024:=Int.tmod_eq_emod_of_nonneg (by omega)
 have hw:∀x:Int,0<=x->x<=10000000->IntKind.i64.wrap x=x:=fun x g0 g1=>by rw[IntKind.wrap_i64];omega
 refine⟨c-65536,(c-65536)/1024,c%1024,55296+(c-65536)/1024,56320+c%1024,hw _ (by omega) (by omega),?_,hw _ (by omega) (by omega),e2,hw _ (by omega) (by omega),?_⟩
 .rw[e1];exact hw _ (by omega) (by omega)
 .unfold ZA6;rw[ifN (by omega)]
theorem ZEo(s:BA)(w:World)(hs:s.size<=1000000):Calls prog 109 #[J s] w fun e w'=>∃v,e=Y v/\IntsAt w' v (ZzY (Zl (tl s)))/\Nx w w':=by
 have hpl:=Zaf (tl s);rw[Za]at hpl;have HPT:=A (Zcy (tl s))
 have HPA:=A (fun w'=>Zau s w' hs)
 generalize Zl (tl s)=l at *
 go_enter func109,ntmps109
 go_wp2_with fail
 refine(HPA.o _).mono ?_
 rintro e w1 ⟨v1,rfl,h1,hn1⟩;have HN1:=A hn1;clear hn1 HPA;obtain⟨ao,cap,rfl,hlc,hcap,hnone,hsome⟩:=h1;unfold maxLen at hcap;go_wp2
 go_loopw [4,5] (fun o i wr=>∃k:Nat,k<=l.length/\i=I X k/\OwnI wr w1.heap.size o (ZzY (l.take k))/\Nx w1 wr) (fun _ i _=>l.length-(intOf i).toNat)
 case atStart=>exact⟨0,Xf _,rfl,World.ownsRow_nil _ _ _ _,Nx.rfl⟩
 case round=>
  obtain⟨k,hk,rfl,hown,hnx⟩:=hrel
  by_cases hlt:k<l.length
  .obtain⟨a,ha⟩:=Zv hlt hnone
   subst ha;obtain⟨b,off,rfl,hr⟩:=hsome a rfl;have hck:=(hr.on hnx).cell hlt
   have hsz:(ZzY (l.take k)).length<1000000000000:=by have:=ZIx (l.take k);have:=List.length_take_le k l;omega
   have hz:=hnx.size;have HTK:=A ((congrArg ZzY (Zai l k hlt)).trans (ZGz (l.take k) l[k]));have hpt:=HPT.o _ (Xe hlt);have HO:=A hown;have HN:=A hnx;have HR:=A (hr.on hnx);have HR1:=A hr;clear hnone hsome hr hown hnx
   by_cases hc:l[k]<65536
   .have hc':decide (l[k]<65536)=true:=decide_eq_true hc
    have HU:=A (show ZA6 l[k]=[l[k]]from ifP hc)
    go_wp2_with (at_builtin;go_must (refine Zd8 wr l[k] rfl _ _ rfl w1.heap.size _ _ rfl HO.o rfl (by omega) hz ?_;intro v' w2 ho1 hb1 _;have HO1:=A ho1;clear ho1))
    go_roundw
    exact⟨k+1,by omega,by go_num,by rw[HTK.o,HU.o];exact HO1.o,HN.o.trans hb1⟩
    simp[intOf];omega
   .have hc':decide (l[k]<65536)=false:=decide_eq_false hc
    obtain⟨d,q,r,hi,lo,q1,q2,q3,q4,q5,hu⟩:=ZMQ (c:=l[k]) (by omega) hpt.2
    have HU:=A hu;clear hu;have HO2:=A (World.ownsRow.alloc HO.o (.cells #[I X hi,I X lo] 3)).drew
    have HZ2:=A (show w1.heap.size<=(wr.alloc (.cells #[I X hi,I X lo] 3)).drew.heap.size by simp;omega)
    go_wp2
    go_region_held_law (fun w'=>w'.cell? ⟨b,off+k,none⟩=some (I X l[k])) (first|exact hck|exact(HR.o.on (Nx.rfl.alloc _)).cell hlt|exact(HR1.o.on ((HN.o.alloc _).drew.trans hb1)).cell hlt) ((refine ZKt ((wr.alloc (.cells #[I X hi,I X lo] 3)).drew) hi lo rfl (.tmp 26) (.tmp 40) rfl w1.heap.size u4 _ (by simp[Act.eval]) HO2.o wr.heap.size 0 2 (by simp[Act.eval]) (by simp) (by simp) hsz HZ2.o ?_;intro v' w2 ho1 hb1 hk1;have HO1:=A ho1;clear ho1))
    all_goals
     have HF:=A (show OwnI w2 w1.heap.size v' (ZzY (l.take (k+1)))/\Nx w1 w2 from⟨by rw[HTK.o,HU.o];exact HO1.o,(HN.o.alloc _).drew.trans hb1⟩)
     clear hb1 hk1 HO1;go_wp2
     go_roundw
     case measure=>simp[intOf];omega
     case rel=>first|exact⟨k+1,by omega,by go_num,HF.o⟩|((repeat apply Exists.intro);exact⟨⟨k+1,by omega,by go_num,HF.o⟩,rfl⟩)
  .go_wp2
   go_ret
   rw[Xa (by omega)]at hown
   exact⟨_,rfl,OwnI.ints hown,HN1.o.then hnx⟩
theorem ZIR{a b:LI}(h:b=[]):aheadK id a b=false:=by subst h;cases a<;>rfl
theorem ZFT{a b:LI}{y:Int}(h:a=[]):aheadK id a (y::b)=true:=by subst h;rfl
theorem ZKu{a b:LI}{x y:Int}(h:x<y):aheadK id (x::a) (y::b)=true:=by
 simp only[aheadK,id]
 rw[ifN (by omega)]
 exact decide_eq_true h
theorem ZKv{a b:LI}{x y:Int}(h:y<x):aheadK id (x::a) (y::b)=false:=by
 simp only[aheadK,id]
 rw[ifN (by omega)]
 exact decide_eq_false (by omega)
theorem ZKw{a b:LI}{x y:Int}(h:x=y):aheadK id (x::a) (y::b)=aheadK id a b:=by simp only[aheadK];rw[ifP h]
theorem ZIS(va vb:Value)(a b:LI)(w:World)(ha:IntsAt w va a)(hb:IntsAt w vb b):Calls prog 110 #[va,vb] w fun e w'=>e=Y (C (aheadK id a b))/\Nx w w':=by
 obtain⟨ao,cap,rfl,hlc,hcap,hnone,hsome⟩:=ha;obtain⟨ao2,cap2,rfl,hlc2,hcap2,hnone2,hsome2⟩:=hb;unfold maxLen at hcap hcap2
 go_enter func110,ntmps110
 go_wp2
 go_loopw [5] (fun i wr=>∃k:Nat,k<=a.length/\k<=b.length/\i=I X k/\aheadK id a b=aheadK id (a.drop k) (b.drop k)/\∃m,wr=w.drewN m) (fun i _=>b.length-(intOf i).toNat)
 case atStart=>exact⟨0,Xf _,Xf _,rfl,rfl,0,rfl⟩
 case round=>
  obtain⟨k,hka,hkb,rfl,hE,m,rfl⟩:=hrel;have HE:=A hE;clear hE
  by_cases h2:k<b.length
  focus
   obtain⟨a2,ha2⟩:=Zv h2 hnone2;subst ha2;obtain⟨b2,off2,rfl,hr2⟩:=hsome2 a2 rfl;have hck2:=hr2.cell h2;have HB:=A (Xs h2)
   by_cases h1:k<a.length
   focus
    obtain⟨a1,ha1⟩:=Zv h1 hnone;subst ha1;obtain⟨b1,off1,rfl,hr1⟩:=hsome a1 rfl;have hck1:=hr1.cell h1;have HA:=A (Xs h1)
    have z1:((k:Int)==(a.length:Int))=false:=beq_eq_false_iff_ne.2 (by omega)
    clear hnone hsome hnone2 hsome2 hr1 hr2
    by_cases c1:a[k]<b[k]
    focus
     have HF:=A (show aheadK id a b=true by rw[HE.o,HA.o,HB.o];exact ZKu c1)
     have t1:decide (a[k]<b[k])=true:=decide_eq_true c1;go_wp2
     go_quiet (fail)
    rotate_left
    focus
     by_cases c2:b[k]<a[k]
     focus
      have HF:=A (show aheadK id a b=false by rw[HE.o,HA.o,HB.o];exact ZKv c2)
      have t1:decide (a[k]<b[k])=false:=decide_eq_false c1;have t2:decide (b[k]<a[k])=true:=decide_eq_true c2;go_wp2
      go_quiet (fail)
      go_wp2
      go_quiet (fail)
     rotate_left
     .have HF:=A (show aheadK id a b=aheadK id (a.drop (k+1)) (b.drop (k+1))by rw[HE.o,HA.o,HB.o];exact ZKw (by omega))
      have t1:decide (a[k]<b[k])=false:=decide_eq_false c1;have t2:decide (b[k]<a[k])=false:=decide_eq_false c2;go_wp2
      go_quiet (fail)
      go_wp2
      go_quiet (fail)
      go_wp2
      go_roundw
      exact⟨k+1,by omega,by omega,by go_num,HF.o,_,rfl⟩
      simp[intOf];omega
   rotate_left 2
   focus
    have HF:=A (show aheadK id a b=true by rw[HE.o,HB.o];exact ZFT (Xm (by omega)))
    have z1:((k:Int)==(a.length:Int))=true:=beq_iff_eq.2 (by omega)
    clear hnone hsome hnone2 hsome2 hr2;go_wp2
    go_quiet (fail)
  rotate_left 3
  focus
   have HF:=A (show aheadK id a b=false by rw[HE.o];exact ZIR (Xm (by omega)))
   clear hnone hsome hnone2 hsome2
  all_goals
   go_wp2;go_ret
   exact⟨Zm HF.o.symm,by first|exact ZAm _ _|exact(ZAm _ _).then (ZAm _ _)|exact((ZAm _ _).then (ZAm _ _)).then (ZAm _ _)⟩
theorem OwnP.nx{w w':World}{base:Nat}{v:Value}{ps:List Pq}(h:OwnP w base v ps)(hb:Nx w w'):OwnP w' base v ps:=
 World.ownsRow.kept h (row:=none) ⟨hb.os,hb.tape,hb.output,hb.size,fun k hk _=>hb.block k hk⟩ (by cases hv:v.ownBlock<;>simp)
theorem RowP.same{w w':World}{b off:Nat}{ps:List Pq}(h:RowP w b off ps)(hb:w'.heap[b]?=w.heap[b]?):RowP w' b off ps:=by obtain⟨cs,fz,h1,h2⟩:=h;exact⟨cs,fz,hb.trans h1,h2⟩
theorem RowP.lt{w:World}{b off:Nat}{ps:List Pq}(h:RowP w b off ps):b<w.heap.size:=by obtain⟨cs,fz,h1,-⟩:=h;exact(Array.getElem?_eq_some_iff.1 h1).1
theorem RowP.take{w:World}{b off:Nat}{ps:List Pq}(h:RowP w b off ps)(k:Nat):RowP w b off (ps.take k):=by
 obtain⟨cs,fz,h1,h2⟩:=h
 refine⟨cs,fz,h1,fun i hi=>?_⟩
 rw[Xh]at hi
 have:=h2 i (by omega)
 rw[List.getElem_take];exact this
theorem RowP.drop{w:World}{b off:Nat}{ps:List Pq}(h:RowP w b off ps)(k:Nat):RowP w b (off+k*2) (ps.drop k):=by
 obtain⟨cs,fz,h1,h2⟩:=h
 refine⟨cs,fz,h1,fun i hi=>?_⟩
 rw[Xl]at hi
 have:=h2 (k+i) (by omega)
 rw[List.getElem_drop,show off+k*2+i*2=off+(k+i)*2 by omega]
 exact this
theorem RowP.cellsP{w:World}{b off:Nat}{ps:List Pq}(h:RowP w b off ps):∀(j:Nat) (u:Value),(cellsP ps)[j]?=some u->w.cell? ((⟨b,off,none⟩:Addr).add j)=some u:=by
 intro j u hu
 have hj:j<2*ps.length:=by rw[<-cellsP_len];exact(List.getElem?_eq_some_iff.1 hu).1
 obtain⟨c0,c1⟩:=h.cell (i:=j/2) (by omega)
 obtain⟨g0,g1⟩:=ZAO ps (j/2) (by omega)
 rw[Addr.add_lit]
 have hm:j=j/2*2∨j=j/2*2+1:=by omega
 rcases hm with hm|hm
 .rw[hm,g0]at hu
  rw[<-Option.some.inj hu,show off+j=off+j/2*2 by omega]
  exact c0
 .rw[hm,g1]at hu
  rw[<-Option.some.inj hu,show off+j=off+j/2*2+1 by omega]
  exact c1
theorem ZLP{ops:Array Oper}{rest:List Oper}{o:Oper}{a:Act}{Q:Exit->Act->World->Prop}(w:World)(p:Pq)
  (hgd:o.guard=none) (s x:Operand) (ho:o.op=.call { callee:=.builtin .append,args:=#[s,x],argTypes:=#[68,68] })
  (base:Nat) (v:Value) (ps:List Pq) (hs:a.eval s=v) (hown:OwnP w base v ps) (hx:a.eval x=.slice (some ⟨w.heap.size,0,none⟩) 1 1)
  (hn:ps.length<1000000000000) (hbase:base<=w.heap.size)
  (h:∀v' w',OwnP w' base v' (ps++[p])->(∀k,k<w.heap.size->v.ownBlock≠some k->w'.heap[k]?=w.heap[k]?)->(∀k,v'.ownBlock=some k->v.ownBlock=some k∨w.heap.size<=k)->Below base w w'->wpList prog ops Q rest (a.put o.dst v') w'):
  wpList prog ops Q (o::rest) a (w.alloc (.cells #[J p.1,J p.2] 113)):=by
 obtain⟨i,hi,hz0,hz1,hz2⟩:=info_parts ZAK;have own1:=World.ownsRow.alloc hown (.cells #[J p.1,J p.2] 113)
 refine wpList_append_own_at _ hgd s x 68 ho base 113 i _ 2 32 underlying68 hi hz0 hz1 hz2 rfl (by decide) v ps.length _ hs own1 ⟨w.heap.size,0,none⟩ 1 1 [J p.1,J p.2] hx rfl (ZBK (by simp) (by simp)) (by simp[Value.oneCell']) (by unfold maxLen;omega) (by omega) (by simp;omega) ?_
 intro v' w' q1 q2 _ q3
 refine h v' w' ?_ ?_ ?_ (((Below.refl base w).alloc hbase _).trans ((Below.refl base _).grown q2 (by simp;omega) (fun k hk=>(own1.lt k hk).1)))
 .unfold OwnP
  rw[Xb,ZBk];exact q1
 .intro k hk hne
  exact(q2.block k (by simp;omega) (fun e=>hne e.symm)).trans (heap_alloc_old w _ hk)
 .intro k hk
  rcases q3 with q3|q3
  .exact Or.inl (q3 ▸ hk)
  .rw[q3]at hk
   have:=Option.some.inj hk
   simp at this
   exact Or.inr (by omega)
theorem ZKx{ops:Array Oper}{o:Oper}{a:Act}{K:Act->World->Prop}{Q:Exit->Act->World->Prop}{E:Prop}(w:World)
  (hgd:o.guard=none) (s x:Operand) (ho:o.op=.call { callee:=.builtin .append,args:=#[s,x],argTypes:=#[68,68] })
  (b off cap:Nat) (xs:List Pq) (hs:a.eval s=.slice (some ⟨b,off,none⟩) xs.length cap) (hrow:RowP w b off xs)
  (b2 off2 c:Nat) (ys:List Pq) (hx:a.eval x=.slice (some ⟨b2,off2,none⟩) ys.length c) (hrow2:RowP w b2 off2 ys)
  (hfull:cap<xs.length+ys.length) (hn:xs.length+ys.length<1000000000000)
  (h:∀v' w',OwnP w' w.heap.size v' (xs++ys)->Nx w w'->K (a.put o.dst v') w'):if Region.wanted o (yielded ops a.tmps)=true then Oper.wp prog o a w K Q else E:=by
 have hw:Region.wanted o (yielded ops a.tmps)=true:=by simp[Region.wanted,hgd]
 rw[ifP hw];obtain⟨i,hi,hz0,hz1,hz2⟩:=info_parts ZAK
 obtain⟨v',w',hrun,r1,r2⟩:=run_append_arg_grows (P:=prog) w 68 o.type 113 i _ 2 32 underlying68 hi hz0 hz1 hz2 rfl (by decide) ⟨b,off,none⟩ xs.length cap (Go.Proofs.YtchkhibgbnhjpabGreatDoor.cellsP xs) (by rw[cellsP_len];omega) hrow.cellsP ⟨b2,off2,none⟩ ys.length c (Go.Proofs.YtchkhibgbnhjpabGreatDoor.cellsP ys) (by rw[cellsP_len];omega) hrow2.cellsP hfull (by unfold maxLen;omega) (by omega)
 unfold Oper.wp
 simp[execOp,ho,resolve,invoke,builtin,hs,hx,hrun,Result.andThen]
 refine h v' w' ?_ ⟨r2.os,r2.tape,r2.output,r2.size,fun k hk=>r2.block k hk (by simp)⟩
 unfold OwnP;rw[Xb,ZBk];exact r1
theorem ZDH(w:World)(ty:TypeId)(b:Addr)(n cap:Nat)(x:Option Addr)(c:Nat)(hn:n<=cap):(Builtin.append_ #[68,68] ty #[.slice (some b) n cap,.slice x 0 c]).run prog w=.ok (.slice (some b) n cap) w:=by
 obtain⟨i,hi,hz0,hz1,hz2⟩:=info_parts ZAK
 cases x<;>simp[Builtin.append_,run_underlying underlying68,sizeOf,typeInfo,hi,Builtin.lenOf,Builtin.firstCells,loadCells,loadCellsFrom,hn,storeCells]
theorem ZFU{ops:Array Oper}{o:Oper}{a:Act}{K:Act->World->Prop}{Q:Exit->Act->World->Prop}{E:Prop}(w:World)
  (hgd:o.guard=none) (s x:Operand) (ho:o.op=.call { callee:=.builtin .append,args:=#[s,x],argTypes:=#[68,68] })
  (b:Addr) (n cap:Nat) (hs:a.eval s=.slice (some b) n cap) (xo:Option Addr) (c:Nat) (hx:a.eval x=.slice xo 0 c) (hn:n<=cap)
  (h:K (a.put o.dst (.slice (some b) n cap)) w):if Region.wanted o (yielded ops a.tmps)=true then Oper.wp prog o a w K Q else E:=by
 have hw:Region.wanted o (yielded ops a.tmps)=true:=by simp[Region.wanted,hgd]
 rw[ifP hw];have hrun:=ZDH w o.type b n cap xo c hn;unfold Oper.wp
 simp[execOp,ho,resolve,invoke,builtin,hs,hx,hrun,Result.andThen]
 exact h
def ltV(p q:Pq):Bool:=ZHG (tl p.1) (tl q.1)
theorem ZHK(ps:List Pq):(ZzB ltV ps).map tl2=ZzB ltW (ps.map tl2):=ZFN (lt:=ltV) (lt':=ltW) tl2 (fun _ _=>rfl) ps
def ZNn:Value->Nat | .slice _ n _=>n|_=>0
def Off(o l:Value):Prop:=∀k b off n cap,o.ownBlock=some k->l=.slice (some ⟨b,off,none⟩) n cap->b≠k
theorem ZNo:∃i,prog.info? 113=some i/\i.size=2:=by obtain⟨i,hi,hz0,hz1,hz2⟩:=info_parts ZAK;exact⟨i,hi,hz1⟩
theorem ZGO{ops:Array Oper}{rest:List Oper}{o:Oper}{a:Act}{Q:Exit->Act->World->Prop}(w:World)
  (hgd:o.guard=none) (s x:Operand) (ho:o.op=.call { callee:=.builtin .append,args:=#[s,x],argTypes:=#[68,68] })
  (hs:a.eval s=.slice none 0 0) (b off c:Nat) (ys:List Pq) (hx:a.eval x=.slice (some ⟨b,off,none⟩) ys.length c) (hrow:RowP w b off ys) (hn:ys.length<1000000000000)
  (h:∀v' w',OwnP w' w.heap.size v' ys->Nx w w'->wpList prog ops Q rest (a.put o.dst v') w'):wpList prog ops Q (o::rest) a w:=by
 obtain⟨i,hi,hz0,hz1,hz2⟩:=info_parts ZAK
 refine wpList_append_own w hgd s x 68 ho w.heap.size 113 i _ 2 32 underlying68 hi hz0 hz1 hz2 rfl (by decide) (.slice none 0 0) 0 [] hs (World.ownsRow_nil _ _ _ _) ⟨b,off,none⟩ ys.length c (Go.Proofs.YtchkhibgbnhjpabGreatDoor.cellsP ys) hx (by rw[cellsP_len];omega) hrow.cellsP (fun u hu=>?_) (by unfold maxLen;omega) (by omega) (Xg _) ?_
 .obtain⟨p,-,hp⟩:=List.mem_flatMap.1 hu
  simp only[List.mem_cons,List.not_mem_nil,or_false]at hp;rcases hp with rfl|rfl<;>rfl
 .intro v' w' q1 q2 _
  refine h v' w' ?_ ⟨q2.os,q2.tape,q2.output,q2.size,fun k hk=>q2.block k hk (by simp[Value.ownBlock])⟩
  unfold OwnP;rw[List.nil_append,Nat.zero_add]at q1;exact q1
theorem ZKy{a b c:Pq}(h1:ltV a b=true)(h2:ltV b c=true):ltV a c=true:=ZFC h1 h2
theorem ZMR{a b c:Pq}(h1:ltV a c=true)(h2:ltV b c=false):ltV a b=true:=ZIw h1 h2
theorem ZGP(v:Value)(ps:List Pq)(w:World)(hp:PlAt w v ps)(hl:ps.length<=1000000)(hz:∀p∈ps,p.1.size<=1000000):Calls prog 50 #[v] w fun e w'=>∃x qs,e=Y x/\OwnP w' w.heap.size x qs/\qs.map tl2=ZzB ltW (ps.map tl2)/\Nx w w':=by
 have HZ:=A hz;clear hz;obtain⟨ao,cap,rfl,hlc,hcap,hnone,hsome⟩:=hp;unfold maxLen at hcap
 cases ao with
 | none=>
  obtain⟨rfl,rfl⟩:=hnone rfl;obtain⟨i0,hi0,hi1⟩:=ZNo;clear hnone hsome;simp only[Xn]
  go_enter func50,ntmps50
  go_wp2_with (at_builtin;go_must (refine wpList_append_own_none rfl _ _ 68 rfl w.heap.size 113 i0 2 underlying68 hi0 (.slice none 0 0) 0 [] rfl (World.ownsRow_nil _ _ _ _) rfl ?_))
  go_loopw [3,4,5,6,7,8,9] (fun o l _ _ _ _ _ wr=>o=.slice none 0 0/\l=.slice none 0 0/\wr=w) (fun _ _ _ _ _ _ _ _=>0)
  case atStart=>exact⟨rfl,rfl,rfl⟩
  case round=>
   obtain⟨rfl,rfl,rfl⟩:=hrel;go_wp2;go_ret;exact⟨_,[],rfl,World.ownsRow_nil _ _ _ _,rfl,Nx.rfl⟩
 | some a0=>
  obtain⟨b0,off0,rfl,hrow0⟩:=hsome a0 rfl;clear hnone hsome
  go_enter func50,ntmps50
  go_wp2_with (at_builtin;go_must (refine ZGO w rfl _ _ rfl rfl b0 off0 cap ps rfl hrow0 (by omega) ?_;intro v1 w1 ho1 hn1;have HO1:=A ho1;have HN1:=A hn1;clear ho1 hn1))
  obtain⟨ao1,cp1,hv1⟩:=ZzC HO1.o;subst hv1
  go_loopw [3,4,5,6,7,8,9] (fun o l _ _ _ _ _ wr=>∃os ls,OwnP wr w.heap.size o os/\PlAt wr l ls/\Off o l/\os.map tl2++ZzB ltW (ls.map tl2)=ZzB ltW (ps.map tl2)/\(∀p∈ls,p∈ps)/\os.length+ls.length<=1000000/\Nx w wr) (fun _ l _ _ _ _ _ _=>ZNn l)
  case atStart=>exact⟨[],ps,World.ownsRow_nil _ _ _ _,OwnP.at HO1.o,fun k b off n c h1=>by simp[Value.ownBlock]at h1,rfl,fun p hp=>hp,by simpa using hl,HN1.o⟩
  case round=>
   obtain⟨os,ls,hO,hP,hoff,hE,hsub,hlen,hnx⟩:=hrel;obtain⟨wo,hwo⟩:∃wo,wo=wr:=⟨_,rfl⟩;subst hwo;have HO:=A hO;have HOF:=A hoff;have HE:=A hE;have HSB:=A hsub;have HN:=A hnx;have hzr:=hnx.size;clear hO hoff hE hsub hnx HO1 HN1 hrow0;obtain⟨lao,lcap,rfl,llc,llcap,lnone,lsome⟩:=hP;unfold maxLen at llcap
   by_cases h0:0<ls.length
   .obtain⟨a,ha⟩:=ZAh h0 lnone
    subst ha;obtain⟨b,off,rfl,hrow⟩:=lsome a rfl;have HRW:=A hrow;clear lnone lsome hrow;go_wp2
    go_loopw [5,6,7,8,9] (fun kk i _ _ _ wi=>∃k j:Nat,kk=I X k/\i=I X j/\ZMO ltV ls k j/\Nx wo wi) (fun _ i _ _ _ _=>ls.length-(intOf i).toNat)
    case atStart=>exact⟨0,1,rfl,rfl,ZIC ltV h0,Nx.rfl⟩
    case round=>
     obtain⟨k,j,rfl,rfl,hpk,hni⟩:=hrel;have hkj:=hpk.1;have hjl:=hpk.2.1;have HPK:=A hpk;have HNI:=A hni;clear hpk
     have hk:k<ls.length:=by omega
     obtain⟨ck0,ck1⟩:=(HRW.o.on hni).cell hk
     by_cases hj:j<ls.length
     .obtain⟨cj0,cj1⟩:=(HRW.o.on hni).cell hj
      have zj:=HZ.o _ (HSB.o _ (Xe hj));have zk:=HZ.o _ (HSB.o _ (Xe hk))
      have HCK:Hid (∀wx,Nx wo wx->wx.cell? ⟨b,off+k*2,none⟩=some (J ls[k].1)):=A (fun wx hx=>((HRW.o.on hx).cell hk).1)
      have HKE:=A (ZJ4 HPK.o hj hk)
      have HTU:=A (fun h=>ZJ5 HPK.o hj hk h (fun _ _ _ _ _ _=>ZKy) (fun _ _ _ _ _ _=>ZMR))
      have HLT:=A (show ltV ls[j] ls[k]=aheadK id (ZzY (Zl (tl ls[j].1))) (ZzY (Zl (tl ls[k].1)))from rfl);clear hni ck0 ck1 cj1;generalize ls[j]=x at *;generalize ls[k]=y at *;go_wp2_with fail
      refine(ZEo x.1 _ zj).mono ?_
      rintro e wa ⟨va,rfl,ha,hna⟩;have HA:=A ha;have HNA:=A (HNI.o.then hna);have cka:=HCK.o _ HNA.o
      obtain⟨aoa,capa,hva⟩:∃ao cap,va=.slice ao (ZzY (Zl (tl x.1))).length cap:=by obtain⟨ao,cap,h,-⟩:=ha;exact⟨ao,cap,h⟩
      subst hva;clear ha hna cj0;go_wp2_with fail
      refine(ZEo y.1 _ zk).mono ?_
      rintro e wb ⟨vb,rfl,hb,hnb⟩;have HA2:=A (HA.o.on hnb);have HB:=A hb;have HNB:=A (HNA.o.then hnb);clear hb hnb cka;go_wp2_with fail
      refine(ZIS _ vb _ _ _ HA2.o HB.o).mono ?_
      rintro e wc ⟨rfl,hnc⟩;have HNC:=A (HNB.o.then hnc);clear hnc
      cases hless:aheadK id (ZzY (Zl (tl x.1))) (ZzY (Zl (tl y.1)))
      .have HP2:=A (HKE.o (HLT.o.trans hless))
       clear HKE HTU HLT hless;go_wp2
       go_roundw
       exact⟨k,j+1,rfl,by go_num,HP2.o,HNC.o⟩
       simp[intOf];omega
      .have HP2:=A (HTU.o (HLT.o.trans hless))
       clear HKE HTU HLT hless;go_wp2
       go_roundw
       exact⟨j,j+1,rfl,by go_num,HP2.o,HNC.o⟩
       simp[intOf];omega
     .have hjj:j=ls.length:=by omega
      have HPS:=A (show ZzB ltW (ls.map tl2)=tl2 ls[k]::ZzB ltW ((ls.take k++ls.drop (k+1)).map tl2)by
       have h:=HPK.o;rw[hjj]at h;have e:=congrArg (List.map tl2) (ZJ6 h hk);rw[ZHK,Xk,ZHK]at e
       exact e)
      have HRWI:=A (HRW.o.on hni);have HOI:=A (OwnP.nx HO.o hni);have HNW:=A (HN.o.then hni);have hzi:w.heap.size<=wr.heap.size:=HNW.o.size;have hbl:=HRWI.o.lt
      have hol:os.length<1000000000000:=by omega
      have HMEM:Hid (∀p∈ls.take k++ls.drop (k+1),p∈ps):=A (fun p hp=>HSB.o p (by
       rcases List.mem_append.1 hp with g|g
       .exact List.mem_of_mem_take g
       .exact List.mem_of_mem_drop g))
      clear hni HPK hjj
      have HOFF:Hid (∀k',u3.ownBlock=some k'->b≠k'):=A (fun k' h'=>HOF.o k' b off _ _ h' rfl)
      clear HRW HO HN HSB HOF;generalize hyy:ls[k]=y at *;obtain⟨yn,yv⟩:=y;simp only at ck0 ck1
      go_upto_region 14 with(at_builtin;go_must (refine ZLP wr (yn,yv) rfl _ _ rfl w.heap.size _ os rfl HOI.o rfl hol hzi ?_;intro v' w3 ho3 hkeep hblk hb3;have HO3:=A ho3;have HKP:=A hkeep;have HBK:=A hblk;have HB3:=A hb3;clear ho3 hkeep hblk hb3))
      have HR3:=A (HRWI.o.same (HKP.o b hbl (fun e=>HOFF.o b e rfl)))
      have HN3:=A (show Nx w w3 from HNW.o.trans HB3.o)
      have HOF3:Hid (∀k',v'.ownBlock=some k'->b≠k'):=A (fun k' h'=>by
       rcases HBK.o k' h' with g|g
       .exact HOFF.o k' g
       .omega)
      have HE3:=A (show(os++[(yn,yv)]).map tl2++ZzB ltW ((ls.take k++ls.drop (k+1)).map tl2)=ZzB ltW (ps.map tl2)by
       rw[Xi,List.append_assoc,<-HE.o,HPS.o]
       rfl)
      clear HE HPS HKP HBK HB3 HRWI HOI HNW HOFF ck0 ck1
      have hk1:k+1<=ls.length:=by omega
      have hk2:k<=lcap:=by omega
      have hk3:k+1<=lcap:=by omega
      have hkA:(k:Int)<=(k:Int)+1:=by omega
      have hkB:(0:Int)<=(k:Int)+1:=by omega
      have hkC:(k:Int)+1<=(ls.length:Int):=by omega
      have hwrp:IntKind.i64.wrap ((k:Int)+1)=((k+1:Nat):Int):=by
       rw[IntKind.wrap_i64]
       omega
      have HTL:=A (show(ls.take k).length=k by rw[Xh];omega)
      have HGO:Hid (∀x:Value,(∀b' off' n' c',x=.slice (some ⟨b',off',none⟩) n' c'->b'=b∨w3.heap.size<=b')->Off v' x):=A (fun x hbx k' b' off' n' c' h1 h2=>by
       rcases hbx b' off' n' c' h2 with g|g
       .rw[g];exact HOF3.o k' h1
       .have:=(HO3.o.lt k' h1).2
        omega)
      have HLL:=A (show(os++[(yn,yv)]).length+(ls.take k++ls.drop (k+1)).length<=1000000 by
       rw[Xb,Xb,HTL.o,Xl];simp only[Xr,Xn]
       omega)
      by_cases hlast:k+1=ls.length
      .have HLS:=A (show ls.take k++ls.drop (k+1)=ls.take k by rw[Xm (by omega),Xv])
       have HLA:=A (show ls.length-(k+1)=0 by omega)
       have HLK:=A (show ZNn (.slice (some ⟨b,off,none⟩) k k)<ls.length from hk);clear hlast
       by_cases hc1:lcap=k+1
       .subst hc1
        go_region_held_law (fun w'=>w'.os=w3.os) (first|rfl|exact HN4.o.os) ((refine ZFU _ rfl (.tmp 48) (.tmp 52) rfl ⟨b,off,none⟩ k k (by simp[Act.eval]) (some ⟨b,off,none⟩) 0 (by simp[Act.eval]<;>exact HLA.o) (Xg _) ?_))
        all_goals have HRL:=A (show PlAt w3.drew (.slice (some ⟨b,off,none⟩) k k) (ls.take k++ls.drop (k+1))/\(∀b' off' n' c',Value.slice (some ⟨b,off,none⟩) k k=.slice (some ⟨b',off',none⟩) n' c'->b'=b∨w3.heap.size<=b')/\ZNn (.slice (some ⟨b,off,none⟩) k k)<ls.length/\Nx w3 w3.drew from⟨⟨some ⟨b,off,none⟩,k,by rw[HLS.o,HTL.o],by rw[HLS.o,HTL.o];exact Xg _,by unfold maxLen;omega,(fun g=>by cases g),fun a' ha'=>⟨b,off,(Option.some.inj ha').symm,by rw[HLS.o];exact(HR3.o.on Nx.rfl.drew).take k⟩⟩,fun b' off' n' c' h2=>Or.inl (by simp only[Value.slice.injEq,Option.some.injEq,Addr.mk.injEq]at h2;exact h2.1.1.symm),HLK.o,Nx.rfl.drew⟩)
        all_goals clear hk1 hk2 hk3 hkA hkB hkC hwrp
        all_goals go_wp2
        all_goals go_roundw
        all_goals first
         | exact HRL.o.2.2.1
         | (obtain⟨hPx,hbx,hlx,hnx⟩:=HRL.o;exact⟨os++[(yn,yv)],ls.take k++ls.drop (k+1),OwnP.nx HO3.o hnx,hPx,HGO.o _ hbx,HE3.o,HMEM.o,HLL.o,HN3.o.then hnx⟩)
         | (rename_i dst d heq;obtain rfl:53=d:=Option.some.inj heq;obtain⟨hPx,hbx,hlx,hnx⟩:=HRL.o;refine⟨_,_,⟨os++[(yn,yv)],OwnP.nx HO3.o hnx,ls.take k++ls.drop (k+1),hPx,HGO.o _ hbx,HE3.o,fun a b h=>HMEM.o (a,b) h,HLL.o,HN3.o.then hnx⟩,?_⟩;(repeat apply Exists.intro);rfl)
       .go_region_held_law (fun w'=>w'.os=w3.os) (first|rfl|exact HN4.o.os) ((refine ZFU _ rfl (.tmp 48) (.tmp 52) rfl ⟨b,off,none⟩ k k (by simp[Act.eval]) (some ⟨b,off+(k+1)*2,none⟩) (lcap-(k+1)) (by simp[Act.eval]<;>exact HLA.o) (Xg _) ?_))
        all_goals have HRL:=A (show PlAt w3.drew (.slice (some ⟨b,off,none⟩) k k) (ls.take k++ls.drop (k+1))/\(∀b' off' n' c',Value.slice (some ⟨b,off,none⟩) k k=.slice (some ⟨b',off',none⟩) n' c'->b'=b∨w3.heap.size<=b')/\ZNn (.slice (some ⟨b,off,none⟩) k k)<ls.length/\Nx w3 w3.drew from⟨⟨some ⟨b,off,none⟩,k,by rw[HLS.o,HTL.o],by rw[HLS.o,HTL.o];exact Xg _,by unfold maxLen;omega,(fun g=>by cases g),fun a' ha'=>⟨b,off,(Option.some.inj ha').symm,by rw[HLS.o];exact(HR3.o.on Nx.rfl.drew).take k⟩⟩,fun b' off' n' c' h2=>Or.inl (by simp only[Value.slice.injEq,Option.some.injEq,Addr.mk.injEq]at h2;exact h2.1.1.symm),HLK.o,Nx.rfl.drew⟩)
        all_goals clear hk1 hk2 hk3 hkA hkB hkC hwrp
        all_goals go_wp2
        all_goals go_roundw
        all_goals first
         | exact HRL.o.2.2.1
         | (obtain⟨hPx,hbx,hlx,hnx⟩:=HRL.o;exact⟨os++[(yn,yv)],ls.take k++ls.drop (k+1),OwnP.nx HO3.o hnx,hPx,HGO.o _ hbx,HE3.o,HMEM.o,HLL.o,HN3.o.then hnx⟩)
         | (rename_i dst d heq;obtain rfl:53=d:=Option.some.inj heq;obtain⟨hPx,hbx,hlx,hnx⟩:=HRL.o;refine⟨_,_,⟨os++[(yn,yv)],OwnP.nx HO3.o hnx,ls.take k++ls.drop (k+1),hPx,HGO.o _ hbx,HE3.o,fun a b h=>HMEM.o (a,b) h,HLL.o,HN3.o.then hnx⟩,?_⟩;(repeat apply Exists.intro);rfl)
      .have hc1:¬lcap=k+1:=by omega
       have HLD:=A (show(ls.drop (k+1)).length=ls.length-(k+1)by rw[Xl])
       have HR4:=A (HR3.o.on Nx.rfl.drew)
       have hfl:k<(ls.take k).length+(ls.drop (k+1)).length:=by rw[HTL.o,HLD.o];omega
       have hfn:(ls.take k).length+(ls.drop (k+1)).length<1000000000000:=by rw[HTL.o,HLD.o];omega
       clear hlast
       go_region_held_law (fun w'=>w'.os=w3.os) (first|rfl|exact HN4.o.os) ((refine ZKx w3.drew rfl (.tmp 48) (.tmp 52) rfl b off k (ls.take k) (by simp[Act.eval,HTL.o]) (HR4.o.take k) b (off+(k+1)*2) (lcap-(k+1)) (ls.drop (k+1)) (by simp[Act.eval,HLD.o]) (HR4.o.drop (k+1)) hfl hfn ?_;intro v4 w4 ho4 hn4;have HO4:=A ho4;have HN4:=A hn4;clear ho4 hn4))
       all_goals obtain⟨ao4,cp4,hv4⟩:=ZzC HO4.o
       all_goals subst hv4
       all_goals have HL4:=A (show(ls.take k++ls.drop (k+1)).length=min k ls.length+(ls.length-(k+1))by rw[Xb,Xh,Xl])
       all_goals have HRL:=A (show PlAt w4 (.slice ao4 (min k ls.length+(ls.length-(k+1))) cp4) (ls.take k++ls.drop (k+1))/\(∀b' off' n' c',Value.slice ao4 (min k ls.length+(ls.length-(k+1))) cp4=.slice (some ⟨b',off',none⟩) n' c'->b'=b∨w3.heap.size<=b')/\ZNn (.slice ao4 (min k ls.length+(ls.length-(k+1))) cp4)<ls.length/\Nx w3 w4 from(by rw[<-HL4.o];exact⟨OwnP.at HO4.o,fun b' off' n' c' h2=>Or.inr (by simp only[Value.slice.injEq]at h2;exact(HO4.o.lt b' (by rw[h2.1];rfl)).1),(by show(ls.take k++ls.drop (k+1)).length<ls.length;rw[Xb,HTL.o,HLD.o];omega),Nx.rfl.drew.then HN4.o⟩))
       all_goals clear hk1 hk2 hk3 hkA hkB hkC hwrp hfl hfn hc1
       all_goals go_wp2
       all_goals go_roundw
       all_goals first
        | exact HRL.o.2.2.1
        | (obtain⟨hPx,hbx,hlx,hnx⟩:=HRL.o;exact⟨os++[(yn,yv)],ls.take k++ls.drop (k+1),OwnP.nx HO3.o hnx,hPx,HGO.o _ hbx,HE3.o,HMEM.o,HLL.o,HN3.o.then hnx⟩)
        | (rename_i dst d heq;obtain rfl:53=d:=Option.some.inj heq;obtain⟨hPx,hbx,hlx,hnx⟩:=HRL.o;refine⟨_,_,⟨os++[(yn,yv)],OwnP.nx HO3.o hnx,ls.take k++ls.drop (k+1),hPx,HGO.o _ hbx,HE3.o,fun a b h=>HMEM.o (a,b) h,HLL.o,HN3.o.then hnx⟩,?_⟩;(repeat apply Exists.intro);rfl)
   .have HE2:=A (show os.map tl2=ZzB ltW (ps.map tl2)by
     have h:=HE.o
     rw[List.eq_nil_of_length_eq_zero (show ls.length=0 by omega)]at h
     simpa [ZzB]using h)
    clear lnone lsome;go_wp2;go_ret;exact⟨_,os,rfl,HO.o,HE2.o,HN.o⟩
theorem ZCK(ub rb:Nat)(v:Value)(ps:List Pq)(w:World)(hu:URB w ub rb v)(hp:PlAt w v ps):Calls prog 57 #[.pointer (some ⟨ub,0,none⟩)] w fun e w'=>e=Y v/\w=w':=by
 obtain⟨a0,a1⟩:=hu.cells;obtain⟨ao,cap,rfl,-⟩:=hp;clear hu
 go_enter func57,ntmps57
 go_wp2;go_ret;exact⟨rfl,rfl⟩
theorem ZFV(ub rb:Nat)(v:Value)(ps:List Pq)(w:World)(hu:URB w ub rb v)(hp:PlAt w v ps)(hl:ps.length<=1000000)(hz:∀p∈ps,p.1.size<=300000/\p.2.size<=300000):Calls prog 58 #[.pointer (some ⟨ub,0,none⟩)] w fun e w'=>∃t:BA,e=Y (J t)/\tl t=ZBx (ps.map tl2)/\Nx w w':=by
 obtain⟨a0,a1⟩:=hu.cells;have HP:=A hp;obtain⟨ao,cap,rfl,-⟩:=hp;have HQ:=A (ZEn _ ps w HP.o hl hz);clear hu
 go_enter func58,ntmps58
 go_wp2_with fail
 refine HQ.o.mono ?_
 rintro e w1 ⟨t,rfl,ht,hn⟩;have HT:=A ht;have HN:=A hn;clear ht hn;go_wp2;go_ret;exact⟨t,rfl,HT.o,HN.o⟩
def ZAZ(n:ByteArray)(ps:List Pq):List ByteArray:=(ps.filter fun p=>p.1.toList==n.toList).map (·.2)
theorem ZHL(n:BA)(ps:List Pq):(ZAZ n ps).map tl=((ps.map tl2).filter (ZBZ (tl n) [] false)).map (·.2):=by
 unfold ZAZ;rw[List.filter_map,Xt,Xt]
 have e:ps.filter (fun p=>p.1.toList==n.toList)=ps.filter ((ZBZ (tl n) [] false) ∘ tl2):=by
  apply List.filter_congr
  intro p _
  show _=(tl p.1==tl n&&(!false||_))
  rw[ByteArray.toList_eq,ByteArray.toList_eq]
  simp[tl]
 rw[e]
 rfl
theorem ZKz{n:BA}{ps:List Pq}{k:Nat}(h:k<ps.length)(hf:(ps[k].1.toList==n.toList)=true):ZAZ n (ps.take (k+1))=ZAZ n (ps.take k)++[ps[k].2]:=by
 unfold ZAZ;rw[ZAY _ ps k h,hf,ifP rfl,Xi]
 rfl
theorem ZIT{n:BA}{ps:List Pq}{k:Nat}(h:k<ps.length)(hf:(ps[k].1.toList==n.toList)=false):ZAZ n (ps.take (k+1))=ZAZ n (ps.take k):=by
 unfold ZAZ
 rw[ZAY _ ps k h,hf,ifN (by decide),Xv]
theorem ZDI(n:BA)(ps:List Pq)(k:Nat):(ZAZ n (ps.take k)).length<=k:=by
 unfold ZAZ;rw[Xc]
 exact Xj (List.length_filter_le _ _) (by rw[Xh];omega)
theorem ZCa(ub rb:Nat)(v:Value)(ps:List Pq)(n:BA)(w:World)(hu:URB w ub rb v)(hp:PlAt w v ps)(hl:ps.length<=1000000):Calls prog 103 #[.pointer (some ⟨ub,0,none⟩),J n] w fun e w'=>∃x,e=Y x/\ZbK w' w.heap.size x (ZAZ n ps)/\Nx w w':=by
 have HU:=A hu;obtain⟨ao,cap,rfl,hlc,hcap,hnone,hsome⟩:=hp;unfold maxLen at hcap;clear hu
 go_enter func103,ntmps103
 go_wp2
 go_loopw [5,6] (fun o i wr=>∃k:Nat,k<=ps.length/\i=I X k/\ZbK wr w.heap.size o (ZAZ n (ps.take k))/\Nx w wr) (fun _ i _=>ps.length-(intOf i).toNat)
 case atStart=>exact⟨0,Xf _,rfl,World.ownsRow_nil _ _ _ _,Nx.rfl⟩
 case round=>
  obtain⟨k,hk,rfl,hown,hnx⟩:=hrel;obtain⟨a0,a1⟩:=(HU.o.on hnx).cells;have HO:=A hown;have HN:=A hnx;have hz:=hnx.size
  by_cases hlt:k<ps.length
  .obtain⟨a,ha⟩:=ZAh hlt hnone
   subst ha;obtain⟨b,off,rfl,hr⟩:=hsome a rfl;obtain⟨c0,c1⟩:=(hr.on hnx).cell hlt
   have hvl:(ZAZ n (ps.take k)).length<1099511627776:=by have:=ZDI n ps k;omega
   cases hd:(ps[k].1.toList==n.toList)
   .have HS:=A (ZIT (n:=n) hlt hd)
    clear hnone hsome hr hnx hown;go_wp2
    go_roundw
    exact⟨k+1,by omega,by go_num,by rw[HS.o];exact HO.o,HN.o⟩
    simp[intOf];omega
   .have HS:=A (ZKz (n:=n) hlt hd)
    clear hnone hsome hr hnx hown
    go_wp2_with (at_builtin;go_must (refine Zds wr ps[k].2 rfl _ _ rfl w.heap.size _ _ rfl HO.o rfl hvl hz ?_;intro v' w2 ho2 hb2 _;have HO2:=A ho2;clear ho2))
    go_roundw
    exact⟨k+1,by omega,by go_num,by rw[HS.o];exact HO2.o,HN.o.trans hb2⟩
    simp[intOf];omega
  .have HE:=A (show ZbK wr w.heap.size _ (ZAZ n ps)by have h:=hown;rw[Xa (by omega)]at h;exact h)
   clear hnone hsome hnx hown;go_wp2;go_ret;exact⟨_,rfl,HE.o,HN.o⟩
theorem ZGQ(ub rb:Nat)(v:Value)(ps:List Pq)(n:BA)(w:World)(hu:URB w ub rb v)(hp:PlAt w v ps)(hl:ps.length<=1000000)(hn:n.size<=160):Calls prog 44 #[.pointer (some ⟨ub,0,none⟩),J n] w fun e w'=>∃x ss,e=Y x/\ZbK w' w.heap.size x ss/\ss.map tl=((ps.map tl2).filter (ZBZ (clean (tl n)) [] false)).map (·.2)/\ss.length<=1000000/\Nx w w':=by
 have HU:=A hu;have HP:=A hp;clear hu hp
 go_enter func44,ntmps44
 go_wp2_with fail
 refine(ZzH n _ (by unfold maxLen;omega)).mono ?_
 rintro e w' ⟨rfl,rfl⟩
 rw[decide_eq_false (show ¬160<n.size by omega)]
 go_wp2_with fail
 refine(Zz7 n _ (by omega)).mono ?_
 rintro e w1 ⟨m,rfl,hm,hn1⟩;have HM:=A hm;have HN1:=A hn1;have hz1:=hn1.size;clear hm hn1;go_wp2_with fail
 refine(ZCa ub rb v ps m _ (HU.o.on HN1.o) (HP.o.on HN1.o) hl).mono ?_
 rintro e w2 ⟨x,rfl,ho,hn2⟩;have HO:=A ho;have HN2:=A (HN1.o.then hn2);clear ho hn2;go_wp2;go_ret
 refine⟨x,ZAZ m ps,rfl,?_,by rw[ZHL,HM.o],?_,HN2.o⟩
 .obtain⟨h1,h2⟩:=HO.o
  refine⟨h1,?_⟩
  rcases h2 with g|⟨g,cap,cur,e1,e2,e3⟩
  .exact Or.inl g
  .exact Or.inr ⟨g,cap,cur,e1,Xj hz1 e2,e3⟩
 .have:=ZDI m ps ps.length
  rw[Xa (Xg _)]at this
  omega
theorem ZCL{w:World}{base:Nat}{v:Value}{ss:LA}(h:ZbK w base v ss):∃ao cp,v=.slice ao ss.length cp:=by
 obtain⟨-,⟨rfl,h3⟩|⟨g,cap,cur,rfl,-⟩⟩:=h
 .exact⟨none,0,by rw[h3]⟩
 .exact⟨_,_,rfl⟩
theorem ZLQ{α:Type}(f:α->Bool)(l:List α)(k:Nat)(h:k<l.length)(h0:(l.take k).any f=false)(hf:f l[k]=false):(l.take (k+1)).any f=false:=by
 rw[Xd h,List.any_append,h0]
 simp[hf]
theorem ZLR(ub rb:Nat)(v:Value)(ps:List Pq)(n x:BA)(valued:Bool)(w:World)(hu:URB w ub rb v)(hp:PlAt w v ps)(hl:ps.length<=1000000)(hn:n.size<=160)(hx:x.size<=160):Calls prog 45 #[.pointer (some ⟨ub,0,none⟩),J n,J x,C valued] w fun e w'=>e=Y (C (decide (0<((ps.map tl2).filter (ZBZ (clean (tl n)) (clean (tl x)) valued)).length)))/\Nx w w':=by
 have HU:=A hu;have HP:=A hp;clear hu hp
 go_enter func45,ntmps45
 go_wp2_with fail
 refine(ZzH n _ (by unfold maxLen;omega)).mono ?_
 rintro e w' ⟨rfl,rfl⟩
 rw[decide_eq_false (show ¬160<n.size by omega)]
 go_wp2_with fail
 refine(ZzH x _ (by unfold maxLen;omega)).mono ?_
 rintro e w' ⟨rfl,rfl⟩
 rw[decide_eq_false (show ¬160<x.size by omega)]
 go_wp2_with fail
 refine(Zz7 n _ (by omega)).mono ?_
 rintro e w1 ⟨m,rfl,hm,hn1⟩;have HM:=A hm;have HN1:=A hn1;clear hm hn1;go_wp2_with fail
 refine(Zz7 x _ (by omega)).mono ?_
 rintro e w2 ⟨y,rfl,hy,hn2⟩;have HY:=A hy;have HN2:=A (HN1.o.then hn2);clear hy hn2 HN1;go_wp2_with fail
 refine(ZCa ub rb v ps m _ (HU.o.on HN2.o) (HP.o.on HN2.o) hl).mono ?_
 rintro e w3 ⟨z,rfl,ho,hn3⟩;have HN3:=A (HN2.o.then hn3);have hsl:=Zcf ho;obtain⟨ao,cap,rfl,hlc,hcap,hnone,hsome⟩:=hsl;unfold maxLen at hcap
 have hvl:(ZAZ m ps).length<=1000000:=by
  have:=ZDI m ps ps.length;rw[Xa (Xg _)]at this
  omega
 have HF0:=A (show((ps.map tl2).filter (ZBZ (clean (tl n)) (clean (tl x)) false)).length=(ZAZ m ps).length by
  have e:=congrArg List.length (ZHL m ps);rw[Xc,Xc]at e;rw[e,HM.o]
  rfl)
 have HF1:=A (show decide (0<((ps.map tl2).filter (ZBZ (clean (tl n)) (clean (tl x)) true)).length)=(ZAZ m ps).any (fun s=>s.toList==y.toList)by
  rw[<-HM.o,<-HY.o,<-filter_tl2 m y true ps,Xc,Bool.eq_iff_iff,decide_eq_true_eq,Xu];unfold ZAZ
  constructor
  .intro g
   obtain⟨p,hp⟩:=List.exists_mem_of_length_pos g;obtain⟨hp1,hp2⟩:=Xo.1 hp;unfold ZBy at hp2;simp only[Bool.not_true,Bool.false_or,Bool.and_eq_true]at hp2;exact⟨p.2,Xq.2 ⟨p,Xo.2 ⟨hp1,hp2.1⟩,rfl⟩,hp2.2⟩
  .rintro⟨s,hs,he⟩
   obtain⟨p,hp,rfl⟩:=Xq.1 hs;obtain⟨hp1,hp2⟩:=Xo.1 hp
   refine List.length_pos_of_mem (a:=p) (Xo.2 ⟨hp1,?_⟩)
   unfold ZBy;rw[hp2,he]
   rfl)
 clear ho hn3 HN2;generalize ZAZ m ps=vs at *
 cases valued
 .clear hnone hsome
  go_wp2;go_ret
  exact⟨Zm (by rw[HF0.o,Bool.eq_iff_iff]<;>simp),HN3.o⟩
 .go_wp2
  go_loopw [14] (fun i wr=>∃k:Nat,k<=vs.length/\i=I X k/\(vs.take k).any (fun s=>s.toList==y.toList)=false/\wr=w3) (fun i _=>vs.length-(intOf i).toNat)
  case atStart=>exact⟨0,Xf _,rfl,rfl,rfl⟩
  case round=>
   obtain⟨k,hk,rfl,hE,hwr⟩:=hrel;subst hwr;have HE:=A hE;clear hE
   by_cases hlt:k<vs.length
   .obtain⟨a,ha⟩:=Zv hlt hnone
    subst ha;obtain⟨b,off,rfl,hr⟩:=hsome a rfl;have hck:=hr.cell hlt
    cases hd:(vs[k].toList==y.toList)
    .have HS:=A (ZLQ (fun s=>s.toList==y.toList) vs k hlt HE.o hd)
     clear hnone hsome hr;go_wp2
     go_roundw
     case rel=>first|exact⟨k+1,by omega,by go_num,HS.o,rfl⟩|exact⟨k+1,by omega,by go_num,HS.o,trivial⟩
     case measure=>simp[intOf];omega
    .have HS:=A (show vs.any (fun s=>s.toList==y.toList)=true from Xu.2 ⟨_,Xe hlt,hd⟩)
     clear hnone hsome hr;go_wp2;go_ret
     exact⟨Zm (by rw[HF1.o,HS.o]),HN3.o⟩
   .have HS:=A (show vs.any (fun s=>s.toList==y.toList)=false by have h:=HE.o;rw[Xa (by omega)]at h;exact h)
    clear hnone hsome;go_wp2;go_ret
    exact⟨Zm (by rw[HF1.o,HS.o]),HN3.o⟩
def ZFW(u:RU)(l:List (List UInt8×List UInt8)):RU:=ZDv { u with q:=ZBx l,hq:=decide (0<l.length) }
theorem ZCp(ub rb:Nat)(v:Value)(R:RR)(u:RU)(bs:LA)(ps:List Pq)(w:World)(hu:URB w ub rb v)(h:RB w rb R)(hr:RIs w R u bs)(hl:R.bl.size<=300000)(hp:PlAt w v ps)(hlp:ps.length<=1000000)(hz:∀p∈ps,p.1.size<=300000/\p.2.size<=300000):Calls prog 51 #[.pointer (some ⟨ub,0,none⟩)] w fun e w'=>e=Y (.tuple #[])/\(∃R',RB w' rb R'/\RIs w' R' (ZFW u (ps.map tl2)) bs)/\But rb w w':=by
 have HU:=A hu;have HB:=A h;have HR:=A hr;have HNE:=A (hu.ne h);obtain⟨ao,cap,hve,-⟩:=id hp;subst hve
 have HQY:Hid (∀wz,Nx w wz->Calls prog 111 #[.slice ao ps.length cap] wz fun e w'=>∃r:BA,e=Y (J r)/\tl r=ZBx (ps.map tl2)/\Nx wz w'):=A (fun wz hzz=>ZEn _ ps wz (hp.on hzz) hlp hz)
 obtain⟨a0,a1⟩:=hu.cells;clear hu h hr hp hz
 go_enter func51,ntmps51
 go_upto_region 0 with fail
 go_cut [0]from 2 (fun x wx=>∃t:BA,x=.pointer (some ⟨ub,0,none⟩)/\tl t=ZBx (ps.map tl2)/\RB wx rb { R with q:=t }/\But rb w wx)
 case first=>
  go_region_with (go_at_call 111;refine(HQY.o _ (by first|exact Nx.rfl.drew|exact Nx.rfl|exact Nx.rfl.drew.drew)).mono ?_;rintro e w4 ⟨t,rfl,ht,hn4⟩;have HT:=A ht;have HN4:=A (show Nx w w4 from Nx.then (show Nx w _ by first|exact Nx.rfl.drew|exact Nx.rfl|exact Nx.rfl.drew.drew) hn4);have HB4:=A (HB.o.on HN4.o);obtain⟨a0',a1'⟩:=(HU.o.on HN4.o).cells;have fS:=HB4.o.free 10;have cS:=HB4.o.cells.2.2.2.2.2.2.2.2.2.2.1;clear ht hn4)
  all_goals go_wp2_with fail
  all_goals go_meet
  all_goals first
   | exact⟨_,rfl,HT.o,HB4.o.s10 _,(But.nx HN4.o).set 10 _⟩
   | exact⟨_,HT.o,HB4.o.s10 _,(But.nx HN4.o).set 10 _⟩
 case rest=>
  obtain⟨t,rfl,ht,hB5,hbt5⟩:=hcut;have HT:=A ht;have HB5:=A hB5;have HBT5:=A hbt5;have HU5:=A (HU.o.but hbt5 HNE.o);clear ht hB5 hbt5 a0 a1;obtain⟨w5,hw5⟩:∃w5,w5=wc:=⟨_,rfl⟩;subst hw5;obtain⟨a0,a1⟩:=HU5.o.cells;have f9:=HB5.o.free 9;have c9:=HB5.o.cells.2.2.2.2.2.2.2.2.2.1;go_upto_region 1 with fail
  go_cut [0]from 13 (fun x wx=>x=.pointer (some ⟨ub,0,none⟩)/\RB wx rb { R with q:=t,hq:=decide (0<(ps.map tl2).length) }/\But rb w wx)
  case first=>
   have HDE:=A (show decide ((0:Int)<(ps.length:Int))=decide (0<(ps.map tl2).length)by rw[Xc,decide_eq_decide];omega)
   generalize hgg:decide (0<(ps.map tl2).length)=hqv at *;have hde:decide ((0:Int)<(ps.length:Int))=hqv:=HDE.o
   have hdn:decide (0<ps.length)=hqv:=by rw[<-hde,decide_eq_decide];omega
   go_region
   all_goals go_wp2_with fail
   all_goals go_meet
   all_goals first
    | exact⟨rfl,HB5.o.s9 _,HBT5.o.set 9 _⟩
    | exact⟨rfl,(HB5.o.s9 _).on Nx.rfl.drew,(HBT5.o.set 9 _).then (But.nx Nx.rfl.drew)⟩
    | exact⟨HB5.o.s9 _,HBT5.o.set 9 _⟩
    | exact⟨(HB5.o.s9 _).on Nx.rfl.drew,(HBT5.o.set 9 _).then (But.nx Nx.rfl.drew)⟩
  case rest=>
   obtain⟨rfl,hB6,hbt6⟩:=hcut;have HB6:=A hB6;have HBT6:=A hbt6;have HU6:=A (HU.o.but hbt6 HNE.o);clear hB6 hbt6 a0 a1 f9 c9
   have HR6:Hid (RIs wc { R with q:=t,hq:=decide (0<(ps.map tl2).length) } { u with q:=ZBx (ps.map tl2),hq:=decide (0<(ps.map tl2).length) } bs):=A { HR.o.kp (HBT6.o.kp HB.o)with eq:=by rw[<-HT.o,<-HR.o.eq];rfl }
   go_wp2_with fail
   refine(ZKr ub rb _ _ _ bs wc HU6.o HB6.o HR6.o hl).mono ?_
   rintro e w7 ⟨rfl,hx,hbt⟩;have HX:=A hx;have HBT7:=A (HBT6.o.then hbt);clear hx hbt;go_wp2;obtain⟨R',k1,k2⟩:=HX.o;exact bodyPost_end (results_none rfl _ _ _) rfl ⟨rfl,⟨R',k1,k2⟩,HBT7.o⟩
theorem ZKA(ub rb:Nat)(v:Value)(R:RR)(u:RU)(bs:LA)(ps:List Pq)(w:World)(hu:URB w ub rb v)(h:RB w rb R)(hr:RIs w R u bs)(hl:R.bl.size<=300000)(hp:PlAt w v ps)(hlp:ps.length<=1000000)(hz:∀p∈ps,p.1.size<=300000/\p.2.size<=300000):Calls prog 20 #[.pointer (some ⟨ub,0,none⟩)] w fun e w'=>e=Y (.tuple #[])/\(∃R' v' qs,URB w' ub rb v'/\RB w' rb R'/\RIs w' R' (ZFW u (ZzB ltW (ps.map tl2))) bs/\PlAt w' v' qs/\qs.map tl2=ZzB ltW (ps.map tl2)/\OwnP w' w.heap.size v' qs)/\Two ub rb w w':=by
 have HU:=A hu;have HB:=A h;have HR:=A hr;have HZ:=A hz;have HNE:=A (hu.ne h);obtain⟨ao,cap,hve,-⟩:=id hp;subst hve
 have HS:=A (ZGP _ ps w hp hlp (fun p hp=>Xj (hz p hp).1 (by omega)))
 obtain⟨a0,a1⟩:=hu.cells;clear hu h hr hp hz
 go_enter func20,ntmps20
 go_wp2_with fail
 refine HS.o.mono ?_
 rintro e w1 ⟨x,qs,rfl,ho,hqs,hn1⟩;have HN1:=A hn1;have HU1:=A (HU.o.on hn1);have HQS:=A hqs;have HPL:=A (OwnP.at ho);have HVN:=A ho
 have hql:qs.length<=1000000:=by
  have e:=congrArg List.length hqs;rw[Xc,sortI_len,Xc]at e
  omega
 have HQZ:=A (show ∀p∈qs,p.1.size<=300000/\p.2.size<=300000 from fun p hp=>by
  have hm:tl2 p∈ps.map tl2:=ZDB (by rw[<-hqs];exact Xq.2 ⟨p,hp,rfl⟩)
  obtain⟨p',hp',e⟩:=Xq.1 hm;rw[<-ZGs e]
  exact HZ.o p' hp')
 obtain⟨ao1,cp1,hv1⟩:=ZzC ho;subst hv1;have f1:=HU1.o.free 1;obtain⟨b0,b1⟩:=HU1.o.cells;clear hn1 hqs ho a0 a1;go_upto_region 1 with fail;have HBT:Hid (But ub w1 (w1.setCell ⟨ub,1,none⟩ (.slice ao1 qs.length cp1))):=A ((But.refl ub w1).set 1 _);have HU2:=A (HU1.o.s1 (.slice ao1 qs.length cp1));have HB2:=A ((HB.o.on HN1.o).but HBT.o (Ne.symm HNE.o));have HR2:=A ((HR.o.on HN1.o).kpU (HBT.o.kpU HU1.o))
 have HP2:=A (HPL.o.kp (HBT.o.kpU HU1.o) (by decide))
 clear b0 b1 f1;generalize w1.setCell ⟨ub,1,none⟩ (.slice ao1 qs.length cp1)=w2 at *;go_wp2_with fail
 refine(ZCp ub rb _ R u bs qs w2 HU2.o HB2.o HR2.o hl HP2.o hql HQZ.o).mono ?_
 rintro e w3 ⟨rfl,hx,hbt⟩;rw[HQS.o]at hx;have HX:=A hx;have HB3:=A hbt;clear hx hbt;go_wp2;obtain⟨R',k1,k2⟩:=HX.o
 exact bodyPost_end (results_none rfl _ _ _) rfl ⟨rfl,⟨R',_,qs,HU2.o.but HB3.o HNE.o,k1,k2,HP2.o.kp (HB3.o.kp HB2.o) (by decide),HQS.o,OwnP.kp (OwnP.kp HVN.o (HBT.o.kpU HU1.o) (by decide) (Xg _)) (HB3.o.kp HB2.o) (by decide) (Xg _)⟩,((Two.nx HN1.o).then (Two.l HBT.o)).then (Two.r HB3.o)⟩
end Go.Proofs.YtchkhibgbnhjpabGreatDoor
