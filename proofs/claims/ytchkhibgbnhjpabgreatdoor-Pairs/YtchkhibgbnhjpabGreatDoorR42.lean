import Derived.Test.YtchkhibgbnhjpabGreatDoorR41
import Derived.ArgAppend
open List renaming length_append→Xa,getElem_mem→Xb,take_succ_eq_append_getElem→Xc,length_take→Xd,map_cons→Xe,map_append→Xg,length_drop→Xh,take_of_length_le→Xi,drop_of_length_le→Xj,length_nil→Xk,sum_cons→Xm,length_cons→Xo,drop_eq_getElem_cons→Xp,length_map→Xq
open Nat renaming zero_le→Xf,le_refl→Xl,le_trans→Xn
namespace Go.Proofs.YtchkhibgbnhjpabGreatDoor
open Go.RowKit
set_option maxHeartbeats 8000000
set_option maxRecDepth 8000
theorem Zg7(s:BA)(w:World)(hs:s.size≤100000):Calls Tryz.prog 102 #[.string s] w fun e w'=>∃r:BA,e=.returned (.string r)∧tl r=clean (tl s)∧Nx w w':=by
 have hpl:=ZaO (tl s);rw[tl_length]at hpl
 go_enter Tryz.func102,Tryz.ntmps102
 go_wp2_with fail
 refine(Za5 s _ (by omega)).mono ?_
 rintro e w1 ⟨v1,rfl,h1,hn1⟩;have H1:=Za h1;have HN1:=Za hn1;clear h1 hn1;go_wp2_with fail
 refine(ZbC _ (Zk (tl s)) _ H1.out (by omega) (Zct _)).mono ?_
 rintro e w2 ⟨r,rfl,hr,hn2⟩;have HR:=Za hr;have HN2:=Za (HN1.out.then hn2);clear hr hn2;go_wp2;go_ret
 exact⟨r,rfl,by rw[HR.out,ZcB],HN2.out⟩
theorem ZrQ(c:UInt8)(ls:List LB)(k:Nat):(Za9 c (ls.take k)).length≤Zg4 ls:=Xn (Zco _ _) (ZmX ls k)
theorem Zm5(t:LB)(l:LI):((parts l t).map fun x=>x.length+1).sum=l.length+1:=by
 induction l with
 | nil=>rfl
 | cons c r ih=>
  obtain⟨p,q,hpq⟩:=ZkO r t
  by_cases hc:among c t=true
  ·rw[show parts (c::r) t=[]::parts r t by rw[parts,if_pos hc],Xe,Xm,ih];simp;omega
  ·rw[show parts (c::r) t=(c::p)::q by rw[parts,if_neg hc,hpq],Xe,Xm]
   rw[hpq,Xe,Xm]at ih;simp only[Xo]
   omega
theorem ZuP(set:LB)(ls:List LI):Zg4 (ls.map fun a=>encoded a set)≤12*(ls.map fun x=>x.length+1).sum:=by
 induction ls with
 | nil=>exact Xf _
 | cons a r ih=>
  rw[Xe,sumL_cons,Xe,Xm];have:=Zc3 a set
  omega
theorem ZbT(l:LB):(Za0 l).length≤12*l.length+12:=by
 have h1:=ZuP formR (parts (Zk l) [32]);rw[Zm5]at h1;have h2:=ZaO l
 have h3:=Zco 43 ((parts (Zk l) [32]).map fun a=>encoded a formR)
 unfold Za0
 omega
theorem Zdv(s:BA)(w:World)(hs:s.size≤300000):Calls Tryz.prog 158 #[.string s] w fun e w'=>∃r:BA,e=.returned (.string r)∧tl r=Za0 (tl s)∧Nx w w':=by
 go_enter Tryz.func158,Tryz.ntmps158
 go_wp2_with fail
 refine(Za5 s _ (by omega)).mono ?_
 rintro e w1 ⟨v1,rfl,h1,hn1⟩;have H1:=Za h1;have HN1:=Za hn1;have hpl:=ZaO (tl s);rw[tl_length]at hpl;clear h1 hn1;go_wp2_with fail
 refine(ZdO _ (Zk (tl s)) ⟨#[32]⟩ _ (Ze (by decide)) H1.out (by omega)).mono ?_
 rintro e w2 ⟨v2,rfl,h2,hn2⟩;rw[show tl (⟨#[32]⟩:BA)=[32]from rfl]at h2;have H2:=Za h2;have HN2:=Za (HN1.out.then hn2);obtain⟨hm1,hm2⟩:=ZaQ (Zk (tl s)) [32]
 have HPP:=Za (show ∀p∈parts (Zk (tl s)) [32],p.length≤300000∧∀c∈p,Pt c from fun p hp=>⟨by have:=(hm2 p hp).1;omega,fun c hc=>Zct _ c ((hm2 p hp).2 c hc)⟩)
 have HPR:=Za (show Za0 (tl s)=Za9 43 ((parts (Zk (tl s)) [32]).map fun a=>encoded a formR)from rfl)
 have HSM:=Za (show Zg4 ((parts (Zk (tl s)) [32]).map fun a=>encoded a formR)≤3600012 by
  have h:=ZuP formR (parts (Zk (tl s)) [32]);rw[Zm5]at h
  omega)
 have hpn:(parts (Zk (tl s)) [32]).length≤300001:=by omega
 clear h2 hn2 H1 HN1 hm1 hm2;generalize parts (Zk (tl s)) [32]=ss at *
 obtain⟨po,pc,hpe⟩:∃po pc,v2=.slice po ss.length pc:=by
  obtain⟨vs,⟨po,pc,h,-⟩,hf⟩:=H2.out
  exact⟨po,pc,by rw[h,hf.1]⟩
 subst hpe;go_wp2
 go_loopw [4,6,7] (fun o i _ wr=>∃(k:Nat) (t:BA),k≤ss.length∧i=.int .i64 k∧o=.string t∧tl t=Za9 43 ((ss.take k).map fun a=>encoded a formR)∧t.size≤3600012∧PartsAt wr (.slice po ss.length pc) ss∧Nx w wr) (fun _ i _ _=>ss.length-(intOf i).toNat)
 case atStart=>exact⟨0,_,Xf _,rfl,rfl,rfl,by decide,H2.out,HN2.out⟩
 case round=>
  obtain⟨k,t,hk,rfl,rfl,hE,htl,hpa,hnx⟩:=hrel;have HE:=Za hE;have HPA:=Za hpa;have HN:=Za hnx;clear hE hpa hnx H2 HN2
  by_cases hlt:k<ss.length
  ·obtain⟨vs,hvs,hfa⟩:=HPA.out
   have hvl:vs.length=ss.length:=hfa.1
   obtain⟨pb,poff,pcap,hve,-,hcap,hrow⟩:=hvs.open_ (k:=k) (by omega)
   simp only[Value.slice.injEq]at hve;obtain⟨rfl,-,rfl⟩:=hve
   have hck:=hrow.cell (i:=k) (by omega)
   have hsk:=hfa.at_ hlt;simp only[id]at hck;generalize vs[k]=vk at *
   obtain⟨ko,kc,rfl⟩:∃ko kc,vk=.slice ko ss[k].length kc:=by obtain⟨ko,kc,h,-⟩:=hsk;exact⟨ko,kc,h⟩
   have HSK:=Za hsk;obtain⟨hkl,hkp⟩:=HPP.out _ (Xb hlt);have HKP:=Za hkp
   have HS:=Za (show(ss.take (k+1)).map (fun a=>encoded a formR)=(ss.take k).map (fun a=>encoded a formR)++[encoded ss[k] formR]by rw[Xc hlt,Xg];rfl)
   have HL1:=Za (show(Za9 43 ((ss.take (k+1)).map fun a=>encoded a formR)).length≤3600012 by
    have h:=ZrQ 43 (ss.map fun a=>encoded a formR) (k+1)
    rw[←List.map_take]at h
    exact Xn h HSM.out)
   have HT0:=Za (show((ss.take k).map fun a=>encoded a formR)=[]↔k=0 by
    constructor
    ·intro g
     have:=congrArg List.length g;rw[Xq,Xd]at this;simp only[Xk]at this
     omega
    ·rintro rfl;rfl)
   unfold maxLen at hcap;clear hsk hkp hvs hfa hrow hvl;generalize ss[k]=a at *;have HEN:=Za (Zc3 a formR)
   by_cases h0:0<k
   ·have h0':decide ((0:Int)<(k:Int))=true:=decide_eq_true (by omega)
    go_wp2_with fail
    refine(Z5 _ a _ _ HSK.out (Ze (by decide)) (by omega) HKP.out).mono ?_
    rintro e w3 ⟨r,rfl,hr,hn3⟩;have HN3:=Za (HN.out.then hn3);have HPA3:=Za (HPA.out.on hn3);have hr':tl r=encoded a formR:=hr
    have e1:tl (t++(⟨#[43]⟩:BA)++r)=Za9 43 ((ss.take (k+1)).map fun a=>encoded a formR):=by
     rw[HS.out,joinW_snoc,if_neg (fun g=>by have:=HT0.out.1 g;omega),Zd,Zd,HE.out,hr']
     simp[tl]
    have e2:(t++(⟨#[43]⟩:BA)++r).size≤3600012:=by rw[←tl_length,e1];exact HL1.out
    have hrl:r.size≤36000000:=by rw[←tl_length,hr'];have:=HEN.out;omega
    have HE1:=Za e1;have HE2:=Za e2;clear hr hr' hn3 e1 e2;go_wp2
    go_roundw
    case rel=>exact⟨k+1,t++(⟨#[43]⟩:BA)++r,by omega,by go_num,rfl,HE1.out,HE2.out,HPA3.out,HN3.out⟩
    case measure=>simp[intOf];omega
   ·have h0':decide ((0:Int)<(k:Int))=false:=decide_eq_false (by omega)
    go_wp2_with fail
    refine(Z5 _ a _ _ HSK.out (Ze (by decide)) (by omega) HKP.out).mono ?_
    rintro e w3 ⟨r,rfl,hr,hn3⟩;have HN3:=Za (HN.out.then hn3);have HPA3:=Za (HPA.out.on hn3);have hr':tl r=encoded a formR:=hr
    have e1:tl (t++r)=Za9 43 ((ss.take (k+1)).map fun a=>encoded a formR):=by
     have hk0:k=0:=by omega
     rw[HS.out,joinW_snoc,if_pos (HT0.out.2 hk0),Zd,HE.out,hr',HT0.out.2 hk0]
     rfl
    have e2:(t++r).size≤3600012:=by rw[←tl_length,e1];exact HL1.out
    have hrl:r.size≤36000000:=by rw[←tl_length,hr'];have:=HEN.out;omega
    have HE1:=Za e1;have HE2:=Za e2;clear hr hr' hn3 e1 e2;go_wp2
    go_roundw
    case rel=>exact⟨k+1,t++r,by omega,by go_num,rfl,HE1.out,HE2.out,HPA3.out,HN3.out⟩
    case measure=>simp[intOf];omega
  ·have HF:=Za (show tl t=Za0 (tl s)by rw[HE.out,HPR.out,Xi (by omega)])
   go_wp2;go_ret;exact⟨t,rfl,HF.out,HN.out⟩
theorem ZkA(v:Value)(ps:List Pq)(w:World)(hp:PlAt w v ps)(hl:ps.length≤1000000)(hz:∀p∈ps,p.1.size≤300000∧p.2.size≤300000):Calls Tryz.prog 111 #[v] w fun e w'=>∃r:BA,e=.returned (.string r)∧tl r=Ze2 (ps.map tl2)∧Nx w w':=by
 have HZ:=Za hz;clear hz
 have HLN:Hid (∀k,k≤ps.length→Zg4 ((ps.take k).map fun p=>pairTextR (tl2 p))≤7200026*k):=Za (fun k hk=>by
  induction k with
  | zero=>exact Xf _
  | succ k ih=>
   rw[Xc (show k<ps.length by omega),Xg,Zlq]
   have h1:=ih (by omega)
   have h2:=ZbT (tl ps[k].1);have h3:=ZbT (tl ps[k].2);have h4:=HZ.out ps[k] (Xb _);rw[tl_length]at h2 h3
   show _+Zg4 [pairTextR (tl2 ps[k])]≤_
   rw[sumL_cons]
   show _+((Za0 (tl ps[k].1)++61::Za0 (tl ps[k].2)).length+1+0)≤_
   rw[Xa,Xo]
   omega)
 obtain⟨ao,cap,rfl,hlc,hcap,hnone,hsome⟩:=hp;unfold maxLen at hcap
 go_enter Tryz.func111,Tryz.ntmps111
 go_wp2
 go_loopw [3,4,5,6] (fun o i _ _ wr=>∃(k:Nat) (t:BA),k≤ps.length∧i=.int .i64 k∧o=.string t∧tl t=Za9 38 ((ps.take k).map fun p=>pairTextR (tl2 p))∧t.size≤7200026000000∧Nx w wr) (fun _ i _ _ _=>ps.length-(intOf i).toNat)
 case atStart=>exact⟨0,_,Xf _,rfl,rfl,rfl,by decide,Nx.rfl⟩
 case round=>
  obtain⟨k,t,hk,rfl,rfl,hE,htl,hnx⟩:=hrel;have HE:=Za hE;have HN:=Za hnx;clear hE
  by_cases hlt:k<ps.length
  ·obtain⟨a,ha⟩:=Zc2 hlt hnone
   subst ha;obtain⟨b,off,rfl,hr⟩:=hsome a rfl;obtain⟨c0,c1⟩:=(hr.on hnx).cell hlt;have HRW:=Za hr
   have HS:=Za (show(ps.take (k+1)).map (fun p=>pairTextR (tl2 p))=(ps.take k).map (fun p=>pairTextR (tl2 p))++[pairTextR (tl2 ps[k])]by rw[Xc hlt,Xg];rfl)
   obtain⟨hz1,hz2⟩:=HZ.out ps[k] (Xb hlt)
   have HL1:=Za (show Zg4 ((ps.take (k+1)).map fun p=>pairTextR (tl2 p))≤7200026000000 by have:=HLN.out (k+1) (by omega);omega)
   have HT0:=Za (show((ps.take k).map fun p=>pairTextR (tl2 p))=[]↔k=0 by
    constructor
    ·intro g
     have:=congrArg List.length g;rw[Xq,Xd]at this;simp only[Xk]at this
     omega
    ·rintro rfl;rfl)
   have HC1:Hid (∀w3,Nx w w3→w3.cell? ⟨b,off+k*2+1,none⟩=some (.string ps[k].2)):=Za (fun w3 h3=>((HRW.out.on h3).cell hlt).2)
   clear hnone hsome hr hnx HRW;generalize ps[k]=c at *;obtain⟨cn,cv⟩:=c;simp only at c0 c1 hz1 hz2 HC1
   by_cases h0:0<k
   ·have h0':decide ((0:Int)<(k:Int))=true:=decide_eq_true (by omega)
    clear c1;go_wp2_with fail
    refine(Zdv cn _ hz1).mono ?_
    rintro e w2 ⟨r1,rfl,hr1,hn2⟩;have HN2:=Za (HN.out.then hn2);have HR1:=Za hr1
    have hl1:r1.size≤3600012:=by rw[←tl_length,hr1];have:=ZbT (tl cn);rw[tl_length]at this;omega
    have c1:=HC1.out _ HN2.out;clear hr1 hn2 c0;go_wp2_with fail
    refine(Zdv cv _ hz2).mono ?_
    rintro e w3 ⟨r2,rfl,hr2,hn3⟩;have HN3:=Za (HN2.out.then hn3)
    have hl2:r2.size≤3600012:=by rw[←tl_length,hr2];have:=ZbT (tl cv);rw[tl_length]at this;omega
    have e1:tl (t++(⟨#[38]⟩:BA)++r1++(⟨#[61]⟩:BA)++r2)=Za9 38 ((ps.take (k+1)).map fun p=>pairTextR (tl2 p)):=by
     rw[HS.out,joinW_snoc,if_neg (fun g=>by have:=HT0.out.1 g;omega),Zd,Zd,Zd,Zd,HE.out,HR1.out,hr2]
     show _=_++38::(Za0 (tl cn)++61::Za0 (tl cv))
     simp[tl]
    have e2:(t++(⟨#[38]⟩:BA)++r1++(⟨#[61]⟩:BA)++r2).size≤7200026000000:=by rw[←tl_length,e1];exact Xn (Zco _ _) HL1.out
    have HE1:=Za e1;have HE2:=Za e2;clear hr2 hn3 e1 e2 c1;go_wp2
    go_roundw
    case rel=>exact⟨k+1,_,by omega,by go_num,rfl,HE1.out,HE2.out,HN3.out⟩
    case measure=>simp[intOf];omega
   ·have h0':decide ((0:Int)<(k:Int))=false:=decide_eq_false (by omega)
    clear c1;go_wp2_with fail
    refine(Zdv cn _ hz1).mono ?_
    rintro e w2 ⟨r1,rfl,hr1,hn2⟩;have HN2:=Za (HN.out.then hn2);have HR1:=Za hr1
    have hl1:r1.size≤3600012:=by rw[←tl_length,hr1];have:=ZbT (tl cn);rw[tl_length]at this;omega
    have c1:=HC1.out _ HN2.out;clear hr1 hn2 c0;go_wp2_with fail
    refine(Zdv cv _ hz2).mono ?_
    rintro e w3 ⟨r2,rfl,hr2,hn3⟩;have HN3:=Za (HN2.out.then hn3)
    have hl2:r2.size≤3600012:=by rw[←tl_length,hr2];have:=ZbT (tl cv);rw[tl_length]at this;omega
    have e1:tl (t++r1++(⟨#[61]⟩:BA)++r2)=Za9 38 ((ps.take (k+1)).map fun p=>pairTextR (tl2 p)):=by
     have hk0:k=0:=by omega
     rw[HS.out,joinW_snoc,if_pos (HT0.out.2 hk0),Zd,Zd,Zd,HE.out,HR1.out,hr2,HT0.out.2 hk0]
     show _=Za0 (tl cn)++61::Za0 (tl cv)
     simp[tl,Za9]
    have e2:(t++r1++(⟨#[61]⟩:BA)++r2).size≤7200026000000:=by rw[←tl_length,e1];exact Xn (Zco _ _) HL1.out
    have HE1:=Za e1;have HE2:=Za e2;clear hr2 hn3 e1 e2 c1;go_wp2
    go_roundw
    case rel=>exact⟨k+1,_,by omega,by go_num,rfl,HE1.out,HE2.out,HN3.out⟩
    case measure=>simp[intOf];omega
  ·have HF:=Za (show tl t=Ze2 (ps.map tl2)by
    rw[HE.out,Xi (by omega)]
    unfold Ze2;rw[List.map_map]
    rfl)
   clear hnx hnone hsome;go_wp2;go_ret;exact⟨t,rfl,HF.out,HN.out⟩
theorem ZrR{w:World}{b off:Nat}{x y:Value}(h0:w.cell? ⟨b,off,none⟩=some x)(h1:w.cell? ⟨b,off+1,none⟩=some y):
  ∀(j:Nat) (u:Value),[x,y][j]?=some u→w.cell? ((⟨b,off,none⟩:Addr).add j)=some u:=Zd0 h0 h1
theorem ZuQ{ops:Array Oper}{o:Oper}{a:Act}{K:Act→World→Prop}{Q:Exit→Act→World→Prop}{E:Prop}(w:World)(x0 x1:Int)
  (hgd:o.guard=none) (s x:Operand) (ho:o.op=.call { callee:=.builtin .append,args:=#[s,x],argTypes:=#[124,124] })
  (base:Nat) (v:Value) (l:LI) (hs:a.eval s=v) (hown:OwnI w base v l)
  (ab ao c:Nat) (hx:a.eval x=.slice (some ⟨ab,ao,none⟩) 2 c) (h0:w.cell? ⟨ab,ao,none⟩=some (.int .i64 x0)) (h1:w.cell? ⟨ab,ao+1,none⟩=some (.int .i64 x1))
  (hn:l.length<1000000000000) (hbase:base≤w.heap.size)
  (h:∀v' w',OwnI w' base v' (l++[x0,x1])→Below base w w'→Kp 3 w w'→K (a.put o.dst v') w'):if Region.wanted o (yielded ops a.tmps)=true then Oper.wp Tryz.prog o a w K Q else E:=by
 refine ZoY w _ _ (.int .i64 0) 8 Tryz.underlying124 Zex rfl hgd s x ho base v l.length _ hs hown ⟨ab,ao,none⟩ 2 c [.int .i64 x0,.int .i64 x1] hx rfl (ZrR h0 h1) (by simp[Value.oneCell']) (by omega) (by decide) hbase ?_
 intro v' w' q1 q2 q3
 refine h v' w' ?_ q2 q3
 unfold OwnI;rw[Xa,Xg];exact q1
theorem ZyP{c:Int}(h0:65536≤c)(h1:c≤1114111):∃d q r hi lo:Int,IntKind.i64.wrap (c-65536)=d∧IntKind.i64.wrap (d.tdiv 1024)=q∧IntKind.i64.wrap (55296+q)=hi∧c.tmod 1024=r∧IntKind.i64.wrap (56320+r)=lo∧Zdu c=[hi,lo]:=by
 have e1:(c-65536).tdiv 1024=(c-65536)/1024:=Int.tdiv_eq_ediv_of_nonneg (by omega)
 have e2:c.tmod 1024=c%1024:=Int.tmod_eq_emod_of_nonneg (by omega)
 have hw:∀x:Int,0≤x→x≤10000000→IntKind.i64.wrap x=x:=fun x g0 g1=>by rw[IntKind.wrap_i64];omega
 refine⟨c-65536,(c-65536)/1024,c%1024,55296+(c-65536)/1024,56320+c%1024,hw _ (by omega) (by omega),?_,hw _ (by omega) (by omega),e2,hw _ (by omega) (by omega),?_⟩
 ·rw[e1];exact hw _ (by omega) (by omega)
 ·unfold Zdu;rw[if_neg (by omega)]
theorem ZkB(s:BA)(w:World)(hs:s.size≤1000000):Calls Tryz.prog 109 #[.string s] w fun e w'=>∃v,e=.returned v∧IntsAt w' v (Zbf (Zk (tl s)))∧Nx w w':=by
 have hpl:=ZaO (tl s);rw[tl_length]at hpl;have HPT:=Za (Zct (tl s))
 have HPA:=Za (fun w'=>Za5 s w' hs)
 generalize Zk (tl s)=l at *
 go_enter Tryz.func109,Tryz.ntmps109
 go_wp2_with fail
 refine(HPA.out _).mono ?_
 rintro e w1 ⟨v1,rfl,h1,hn1⟩;have HN1:=Za hn1;clear hn1 HPA;obtain⟨ao,cap,rfl,hlc,hcap,hnone,hsome⟩:=h1;unfold maxLen at hcap;go_wp2
 go_loopw [4,5] (fun o i wr=>∃k:Nat,k≤l.length∧i=.int .i64 k∧OwnI wr w1.heap.size o (Zbf (l.take k))∧Nx w1 wr) (fun _ i _=>l.length-(intOf i).toNat)
 case atStart=>exact⟨0,Xf _,rfl,World.ownsRow_nil _ _ _ _,Nx.rfl⟩
 case round=>
  obtain⟨k,hk,rfl,hown,hnx⟩:=hrel
  by_cases hlt:k<l.length
  ·obtain⟨a,ha⟩:=Zw hlt hnone
   subst ha;obtain⟨b,off,rfl,hr⟩:=hsome a rfl;have hck:=(hr.on hnx).cell hlt
   have hsz:(Zbf (l.take k)).length<1000000000000:=by have:=Zrz (l.take k);have:=List.length_take_le k l;omega
   have hz:=hnx.size;have HTK:=Za ((congrArg Zbf (Z3 l k hlt)).trans (Zot (l.take k) l[k]));have hpt:=HPT.out _ (Xb hlt);have HO:=Za hown;have HN:=Za hnx;have HR:=Za (hr.on hnx);have HR1:=Za hr;clear hnone hsome hr hown hnx
   by_cases hc:l[k]<65536
   ·have hc':decide (l[k]<65536)=true:=decide_eq_true hc
    have HU:=Za (show Zdu l[k]=[l[k]]from if_pos hc)
    go_wp2_with (at_builtin;go_must (refine ZbW wr l[k] rfl _ _ rfl w1.heap.size _ _ rfl HO.out rfl (by omega) hz ?_;intro v' w2 ho1 hb1 _;have HO1:=Za ho1;clear ho1))
    go_roundw
    case rel=>exact⟨k+1,by omega,by go_num,by rw[HTK.out,HU.out];exact HO1.out,HN.out.trans hb1⟩
    case measure=>simp[intOf];omega
   ·have hc':decide (l[k]<65536)=false:=decide_eq_false hc
    obtain⟨d,q,r,hi,lo,q1,q2,q3,q4,q5,hu⟩:=ZyP (c:=l[k]) (by omega) hpt.2
    have HU:=Za hu;clear hu;have HO2:=Za (World.ownsRow.alloc HO.out (.cells #[.int .i64 hi,.int .i64 lo] 3)).drew
    have HZ2:=Za (show w1.heap.size≤(wr.alloc (.cells #[.int .i64 hi,.int .i64 lo] 3)).drew.heap.size by simp;omega)
    go_wp2
    go_region_held_law (fun w'=>w'.cell? ⟨b,off+k,none⟩=some (.int .i64 l[k])) (first|exact hck|exact(HR.out.on (Nx.rfl.alloc _)).cell hlt|exact(HR1.out.on ((HN.out.alloc _).drew.trans hb1)).cell hlt) ((refine ZuQ ((wr.alloc (.cells #[.int .i64 hi,.int .i64 lo] 3)).drew) hi lo rfl (.tmp 26) (.tmp 40) rfl w1.heap.size u4 _ (by simp[Act.eval]) HO2.out wr.heap.size 0 2 (by simp[Act.eval]) (by simp) (by simp) hsz HZ2.out ?_;intro v' w2 ho1 hb1 hk1;have HO1:=Za ho1;clear ho1))
    all_goals
     have HF:=Za (show OwnI w2 w1.heap.size v' (Zbf (l.take (k+1)))∧Nx w1 w2 from⟨by rw[HTK.out,HU.out];exact HO1.out,(HN.out.alloc _).drew.trans hb1⟩)
     clear hb1 hk1 HO1;go_wp2
     go_roundw
     case measure=>simp[intOf];omega
     case rel=>first|exact⟨k+1,by omega,by go_num,HF.out⟩|((repeat apply Exists.intro);exact⟨⟨k+1,by omega,by go_num,HF.out⟩,rfl⟩)
  ·go_wp2
   go_ret
   rw[Xi (by omega)]at hown
   exact⟨_,rfl,OwnI.ints hown,HN1.out.then hnx⟩
theorem ZrS{a b:LI}(h:b=[]):aheadK id a b=false:=by subst h;cases a<;>rfl
theorem Zm6{a b:LI}{y:Int}(h:a=[]):aheadK id a (y::b)=true:=by subst h;rfl
theorem ZuR{a b:LI}{x y:Int}(h:x<y):aheadK id (x::a) (y::b)=true:=by
 simp only[aheadK,id]
 rw[if_neg (by omega)]
 exact decide_eq_true h
theorem ZuS{a b:LI}{x y:Int}(h:y<x):aheadK id (x::a) (y::b)=false:=by
 simp only[aheadK,id]
 rw[if_neg (by omega)]
 exact decide_eq_false (by omega)
theorem ZuT{a b:LI}{x y:Int}(h:x=y):aheadK id (x::a) (y::b)=aheadK id a b:=by simp only[aheadK];rw[if_pos h]
theorem ZrT(va vb:Value)(a b:LI)(w:World)(ha:IntsAt w va a)(hb:IntsAt w vb b):Calls Tryz.prog 110 #[va,vb] w fun e w'=>e=.returned (.bool (aheadK id a b))∧Nx w w':=by
 obtain⟨ao,cap,rfl,hlc,hcap,hnone,hsome⟩:=ha;obtain⟨ao2,cap2,rfl,hlc2,hcap2,hnone2,hsome2⟩:=hb;unfold maxLen at hcap hcap2
 go_enter Tryz.func110,Tryz.ntmps110
 go_wp2
 go_loopw [5] (fun i wr=>∃k:Nat,k≤a.length∧k≤b.length∧i=.int .i64 k∧aheadK id a b=aheadK id (a.drop k) (b.drop k)∧∃m,wr=w.drewN m) (fun i _=>b.length-(intOf i).toNat)
 case atStart=>exact⟨0,Xf _,Xf _,rfl,rfl,0,rfl⟩
 case round=>
  obtain⟨k,hka,hkb,rfl,hE,m,rfl⟩:=hrel;have HE:=Za hE;clear hE
  by_cases h2:k<b.length
  ·obtain⟨a2,ha2⟩:=Zw h2 hnone2
   subst ha2;obtain⟨b2,off2,rfl,hr2⟩:=hsome2 a2 rfl;have hck2:=hr2.cell h2;have HB:=Za (Xp h2)
   by_cases h1:k<a.length
   ·obtain⟨a1,ha1⟩:=Zw h1 hnone
    subst ha1;obtain⟨b1,off1,rfl,hr1⟩:=hsome a1 rfl;have hck1:=hr1.cell h1;have HA:=Za (Xp h1)
    have z1:((k:Int)==(a.length:Int))=false:=beq_eq_false_iff_ne.2 (by omega)
    clear hnone hsome hnone2 hsome2 hr1 hr2
    by_cases c1:a[k]<b[k]
    ·have HF:=Za (show aheadK id a b=true by rw[HE.out,HA.out,HB.out];exact ZuR c1)
     have t1:decide (a[k]<b[k])=true:=decide_eq_true c1;go_wp2
     go_quiet (fail)
     go_wp2;go_ret
     exact⟨Zj HF.out.symm,by first|exact ZF _ _|exact(ZF _ _).then (ZF _ _)|exact((ZF _ _).then (ZF _ _)).then (ZF _ _)⟩
    ·by_cases c2:b[k]<a[k]
     ·have HF:=Za (show aheadK id a b=false by rw[HE.out,HA.out,HB.out];exact ZuS c2)
      have t1:decide (a[k]<b[k])=false:=decide_eq_false c1;have t2:decide (b[k]<a[k])=true:=decide_eq_true c2;go_wp2
      go_quiet (fail)
      go_wp2
      go_quiet (fail)
      go_wp2;go_ret
      exact⟨Zj HF.out.symm,by first|exact ZF _ _|exact(ZF _ _).then (ZF _ _)|exact((ZF _ _).then (ZF _ _)).then (ZF _ _)⟩
     ·have HF:=Za (show aheadK id a b=aheadK id (a.drop (k+1)) (b.drop (k+1))by rw[HE.out,HA.out,HB.out];exact ZuT (by omega))
      have t1:decide (a[k]<b[k])=false:=decide_eq_false c1;have t2:decide (b[k]<a[k])=false:=decide_eq_false c2;go_wp2
      go_quiet (fail)
      go_wp2
      go_quiet (fail)
      go_wp2
      go_roundw
      case rel=>exact⟨k+1,by omega,by omega,by go_num,HF.out,_,rfl⟩
      case measure=>simp[intOf];omega
   ·have HF:=Za (show aheadK id a b=true by rw[HE.out,HB.out];exact Zm6 (Xj (by omega)))
    have z1:((k:Int)==(a.length:Int))=true:=beq_iff_eq.2 (by omega)
    clear hnone hsome hnone2 hsome2 hr2;go_wp2
    go_quiet (fail)
    go_wp2;go_ret
    exact⟨Zj HF.out.symm,by first|exact ZF _ _|exact(ZF _ _).then (ZF _ _)|exact((ZF _ _).then (ZF _ _)).then (ZF _ _)⟩
  ·have HF:=Za (show aheadK id a b=false by rw[HE.out];exact ZrS (Xj (by omega)))
   clear hnone hsome hnone2 hsome2;go_wp2;go_ret
   exact⟨Zj HF.out.symm,by first|exact ZF _ _|exact(ZF _ _).then (ZF _ _)|exact((ZF _ _).then (ZF _ _)).then (ZF _ _)⟩
theorem OwnP.nx{w w':World}{base:Nat}{v:Value}{ps:List Pq}(h:OwnP w base v ps)(hb:Nx w w'):OwnP w' base v ps:=
 World.ownsRow.kept h (row:=none) ⟨hb.os,hb.tape,hb.output,hb.size,fun k hk _=>hb.block k hk⟩ (by cases hv:v.ownBlock<;>simp)
theorem RowP.same{w w':World}{b off:Nat}{ps:List Pq}(h:RowP w b off ps)(hb:w'.heap[b]?=w.heap[b]?):RowP w' b off ps:=by obtain⟨cs,fz,h1,h2⟩:=h;exact⟨cs,fz,hb.trans h1,h2⟩
theorem RowP.lt{w:World}{b off:Nat}{ps:List Pq}(h:RowP w b off ps):b<w.heap.size:=by obtain⟨cs,fz,h1,-⟩:=h;exact(Array.getElem?_eq_some_iff.1 h1).1
theorem RowP.take{w:World}{b off:Nat}{ps:List Pq}(h:RowP w b off ps)(k:Nat):RowP w b off (ps.take k):=by
 obtain⟨cs,fz,h1,h2⟩:=h
 refine⟨cs,fz,h1,fun i hi=>?_⟩
 rw[Xd]at hi
 have:=h2 i (by omega)
 rw[List.getElem_take];exact this
theorem RowP.drop{w:World}{b off:Nat}{ps:List Pq}(h:RowP w b off ps)(k:Nat):RowP w b (off+k*2) (ps.drop k):=by
 obtain⟨cs,fz,h1,h2⟩:=h
 refine⟨cs,fz,h1,fun i hi=>?_⟩
 rw[Xh]at hi
 have:=h2 (k+i) (by omega)
 rw[List.getElem_drop,show off+k*2+i*2=off+(k+i)*2 by omega]
 exact this
theorem RowP.cellsP{w:World}{b off:Nat}{ps:List Pq}(h:RowP w b off ps):∀(j:Nat) (u:Value),(cellsP ps)[j]?=some u→w.cell? ((⟨b,off,none⟩:Addr).add j)=some u:=by
 intro j u hu
 have hj:j<2*ps.length:=by rw[←cellsP_len];exact(List.getElem?_eq_some_iff.1 hu).1
 obtain⟨c0,c1⟩:=h.cell (i:=j/2) (by omega)
 obtain⟨g0,g1⟩:=ZdN ps (j/2) (by omega)
 rw[Addr.add_lit]
 have hm:j=j/2*2∨j=j/2*2+1:=by omega
 rcases hm with hm|hm
 ·rw[hm,g0]at hu
  rw[←Option.some.inj hu,show off+j=off+j/2*2 by omega]
  exact c0
 ·rw[hm,g1]at hu
  rw[←Option.some.inj hu,show off+j=off+j/2*2+1 by omega]
  exact c1
theorem Zxj{ops:Array Oper}{rest:List Oper}{o:Oper}{a:Act}{Q:Exit→Act→World→Prop}(w:World)(p:Pq)
  (hgd:o.guard=none) (s x:Operand) (ho:o.op=.call { callee:=.builtin .append,args:=#[s,x],argTypes:=#[68,68] })
  (base:Nat) (v:Value) (ps:List Pq) (hs:a.eval s=v) (hown:OwnP w base v ps) (hx:a.eval x=.slice (some ⟨w.heap.size,0,none⟩) 1 1)
  (hn:ps.length<1000000000000) (hbase:base≤w.heap.size)
  (h:∀v' w',OwnP w' base v' (ps++[p])→(∀k,k<w.heap.size→v.ownBlock≠some k→w'.heap[k]?=w.heap[k]?)→(∀k,v'.ownBlock=some k→v.ownBlock=some k∨w.heap.size≤k)→Below base w w'→wpList Tryz.prog ops Q rest (a.put o.dst v') w'):
  wpList Tryz.prog ops Q (o::rest) a (w.alloc (.cells #[.string p.1,.string p.2] 113)):=by
 obtain⟨i,hi,hz0,hz1,hz2⟩:=info_parts Zdm;have own1:=World.ownsRow.alloc hown (.cells #[.string p.1,.string p.2] 113)
 refine wpList_append_own_at _ hgd s x 68 ho base 113 i _ 2 32 Tryz.underlying68 hi hz0 hz1 hz2 rfl (by decide) v ps.length _ hs own1 ⟨w.heap.size,0,none⟩ 1 1 [.string p.1,.string p.2] hx rfl (Zd0 (by simp) (by simp)) (by simp[Value.oneCell']) (by unfold maxLen;omega) (by omega) (by simp;omega) ?_
 intro v' w' q1 q2 _ q3
 refine h v' w' ?_ ?_ ?_ (((Below.refl base w).alloc hbase _).trans ((Below.refl base _).grown q2 (by simp;omega) (fun k hk=>(own1.lt k hk).1)))
 ·unfold OwnP
  rw[Xa,Zfw];exact q1
 ·intro k hk hne
  exact(q2.block k (by simp;omega) (fun e=>hne e.symm)).trans (heap_alloc_old w _ hk)
 ·intro k hk
  rcases q3 with q3|q3
  ·exact Or.inl (q3 ▸ hk)
  ·rw[q3]at hk
   have:=Option.some.inj hk
   simp at this
   exact Or.inr (by omega)
theorem ZuU{ops:Array Oper}{o:Oper}{a:Act}{K:Act→World→Prop}{Q:Exit→Act→World→Prop}{E:Prop}(w:World)
  (hgd:o.guard=none) (s x:Operand) (ho:o.op=.call { callee:=.builtin .append,args:=#[s,x],argTypes:=#[68,68] })
  (b off cap:Nat) (xs:List Pq) (hs:a.eval s=.slice (some ⟨b,off,none⟩) xs.length cap) (hrow:RowP w b off xs)
  (b2 off2 c:Nat) (ys:List Pq) (hx:a.eval x=.slice (some ⟨b2,off2,none⟩) ys.length c) (hrow2:RowP w b2 off2 ys)
  (hfull:cap<xs.length+ys.length) (hn:xs.length+ys.length<1000000000000)
  (h:∀v' w',OwnP w' w.heap.size v' (xs++ys)→Nx w w'→K (a.put o.dst v') w'):if Region.wanted o (yielded ops a.tmps)=true then Oper.wp Tryz.prog o a w K Q else E:=by
 have hw:Region.wanted o (yielded ops a.tmps)=true:=by simp[Region.wanted,hgd]
 rw[if_pos hw];obtain⟨i,hi,hz0,hz1,hz2⟩:=info_parts Zdm
 obtain⟨v',w',hrun,r1,r2⟩:=run_append_arg_grows (P:=Tryz.prog) w 68 o.type 113 i _ 2 32 Tryz.underlying68 hi hz0 hz1 hz2 rfl (by decide) ⟨b,off,none⟩ xs.length cap (Go.Proofs.YtchkhibgbnhjpabGreatDoor.cellsP xs) (by rw[cellsP_len];omega) hrow.cellsP ⟨b2,off2,none⟩ ys.length c (Go.Proofs.YtchkhibgbnhjpabGreatDoor.cellsP ys) (by rw[cellsP_len];omega) hrow2.cellsP hfull (by unfold maxLen;omega) (by omega)
 unfold Oper.wp
 simp[execOp,ho,resolve,invoke,builtin,hs,hx,hrun,Result.andThen]
 refine h v' w' ?_ ⟨r2.os,r2.tape,r2.output,r2.size,fun k hk=>r2.block k hk (by simp)⟩
 unfold OwnP;rw[Xa,Zfw];exact r1
theorem Zjc(w:World)(ty:TypeId)(b:Addr)(n cap:Nat)(x:Option Addr)(c:Nat)(hn:n≤cap):(Builtin.append_ #[68,68] ty #[.slice (some b) n cap,.slice x 0 c]).run Tryz.prog w=.ok (.slice (some b) n cap) w:=by
 obtain⟨i,hi,hz0,hz1,hz2⟩:=info_parts Zdm
 cases x<;>simp[Builtin.append_,run_underlying Tryz.underlying68,sizeOf,typeInfo,hi,Builtin.lenOf,Builtin.firstCells,loadCells,loadCellsFrom,hn,storeCells]
theorem Zm7{ops:Array Oper}{o:Oper}{a:Act}{K:Act→World→Prop}{Q:Exit→Act→World→Prop}{E:Prop}(w:World)
  (hgd:o.guard=none) (s x:Operand) (ho:o.op=.call { callee:=.builtin .append,args:=#[s,x],argTypes:=#[68,68] })
  (b:Addr) (n cap:Nat) (hs:a.eval s=.slice (some b) n cap) (xo:Option Addr) (c:Nat) (hx:a.eval x=.slice xo 0 c) (hn:n≤cap)
  (h:K (a.put o.dst (.slice (some b) n cap)) w):if Region.wanted o (yielded ops a.tmps)=true then Oper.wp Tryz.prog o a w K Q else E:=by
 have hw:Region.wanted o (yielded ops a.tmps)=true:=by simp[Region.wanted,hgd]
 rw[if_pos hw];have hrun:=Zjc w o.type b n cap xo c hn;unfold Oper.wp
 simp[execOp,ho,resolve,invoke,builtin,hs,hx,hrun,Result.andThen]
 exact h
def ltV(p q:Pq):Bool:=Zp8 (tl p.1) (tl q.1)
theorem Zqb(ps:List Pq):(ZV ltV ps).map tl2=ZV ltW (ps.map tl2):=Zm2 (lt:=ltV) (lt':=ltW) tl2 (fun _ _=>rfl) ps
def Zzq:Value→Nat | .slice _ n _=>n|_=>0
def Off(o l:Value):Prop:=∀k b off n cap,o.ownBlock=some k→l=.slice (some ⟨b,off,none⟩) n cap→b≠k
theorem Zzr:∃i,Tryz.prog.info? 113=some i∧i.size=2:=by obtain⟨i,hi,hz0,hz1,hz2⟩:=info_parts Zdm;exact⟨i,hi,hz1⟩
theorem ZoJ{ops:Array Oper}{rest:List Oper}{o:Oper}{a:Act}{Q:Exit→Act→World→Prop}(w:World)
  (hgd:o.guard=none) (s x:Operand) (ho:o.op=.call { callee:=.builtin .append,args:=#[s,x],argTypes:=#[68,68] })
  (hs:a.eval s=.slice none 0 0) (b off c:Nat) (ys:List Pq) (hx:a.eval x=.slice (some ⟨b,off,none⟩) ys.length c) (hrow:RowP w b off ys) (hn:ys.length<1000000000000)
  (h:∀v' w',OwnP w' w.heap.size v' ys→Nx w w'→wpList Tryz.prog ops Q rest (a.put o.dst v') w'):wpList Tryz.prog ops Q (o::rest) a w:=by
 obtain⟨i,hi,hz0,hz1,hz2⟩:=info_parts Zdm
 refine wpList_append_own w hgd s x 68 ho w.heap.size 113 i _ 2 32 Tryz.underlying68 hi hz0 hz1 hz2 rfl (by decide) (.slice none 0 0) 0 [] hs (World.ownsRow_nil _ _ _ _) ⟨b,off,none⟩ ys.length c (Go.Proofs.YtchkhibgbnhjpabGreatDoor.cellsP ys) hx (by rw[cellsP_len];omega) hrow.cellsP (fun u hu=>?_) (by unfold maxLen;omega) (by omega) (Xl _) ?_
 ·obtain⟨p,-,hp⟩:=List.mem_flatMap.1 hu
  simp only[List.mem_cons,List.not_mem_nil,or_false]at hp;rcases hp with rfl|rfl<;>rfl
 ·intro v' w' q1 q2 _
  refine h v' w' ?_ ⟨q2.os,q2.tape,q2.output,q2.size,fun k hk=>q2.block k hk (by simp[Value.ownBlock])⟩
  unfold OwnP;rw[List.nil_append,Nat.zero_add]at q1;exact q1
theorem ZuV{a b c:Pq}(h1:ltV a b=true)(h2:ltV b c=true):ltV a c=true:=ZmT h1 h2
theorem ZyQ{a b c:Pq}(h1:ltV a c=true)(h2:ltV b c=false):ltV a b=true:=Zry h1 h2
theorem ZoK(v:Value)(ps:List Pq)(w:World)(hp:PlAt w v ps)(hl:ps.length≤1000000)(hz:∀p∈ps,p.1.size≤1000000):Calls Tryz.prog 50 #[v] w fun e w'=>∃x qs,e=.returned x∧OwnP w' w.heap.size x qs∧qs.map tl2=ZV ltW (ps.map tl2)∧Nx w w':=by
 have HZ:=Za hz;clear hz;obtain⟨ao,cap,rfl,hlc,hcap,hnone,hsome⟩:=hp;unfold maxLen at hcap
 cases ao with
 | none=>
  obtain⟨rfl,rfl⟩:=hnone rfl;obtain⟨i0,hi0,hi1⟩:=Zzr;clear hnone hsome;simp only[Xk]
  go_enter Tryz.func50,Tryz.ntmps50
  go_wp2_with (at_builtin;go_must (refine wpList_append_own_none rfl _ _ 68 rfl w.heap.size 113 i0 2 Tryz.underlying68 hi0 (.slice none 0 0) 0 [] rfl (World.ownsRow_nil _ _ _ _) rfl ?_))
  go_loopw [3,4,5,6,7,8,9] (fun o l _ _ _ _ _ wr=>o=.slice none 0 0∧l=.slice none 0 0∧wr=w) (fun _ _ _ _ _ _ _ _=>0)
  case atStart=>exact⟨rfl,rfl,rfl⟩
  case round=>
   obtain⟨rfl,rfl,rfl⟩:=hrel;go_wp2;go_ret;exact⟨_,[],rfl,World.ownsRow_nil _ _ _ _,rfl,Nx.rfl⟩
 | some a0=>
  obtain⟨b0,off0,rfl,hrow0⟩:=hsome a0 rfl;clear hnone hsome
  go_enter Tryz.func50,Tryz.ntmps50
  go_wp2_with (at_builtin;go_must (refine ZoJ w rfl _ _ rfl rfl b0 off0 cap ps rfl hrow0 (by omega) ?_;intro v1 w1 ho1 hn1;have HO1:=Za ho1;have HN1:=Za hn1;clear ho1 hn1))
  obtain⟨ao1,cp1,hv1⟩:=Za7 HO1.out;subst hv1
  go_loopw [3,4,5,6,7,8,9] (fun o l _ _ _ _ _ wr=>∃os ls,OwnP wr w.heap.size o os∧PlAt wr l ls∧Off o l∧os.map tl2++ZV ltW (ls.map tl2)=ZV ltW (ps.map tl2)∧(∀p∈ls,p∈ps)∧os.length+ls.length≤1000000∧Nx w wr) (fun _ l _ _ _ _ _ _=>Zzq l)
  case atStart=>exact⟨[],ps,World.ownsRow_nil _ _ _ _,OwnP.at HO1.out,fun k b off n c h1=>by simp[Value.ownBlock]at h1,rfl,fun p hp=>hp,by simpa using hl,HN1.out⟩
  case round=>
   obtain⟨os,ls,hO,hP,hoff,hE,hsub,hlen,hnx⟩:=hrel;obtain⟨wo,hwo⟩:∃wo,wo=wr:=⟨_,rfl⟩;subst hwo;have HO:=Za hO;have HOF:=Za hoff;have HE:=Za hE;have HSB:=Za hsub;have HN:=Za hnx;have hzr:=hnx.size;clear hO hoff hE hsub hnx HO1 HN1 hrow0;obtain⟨lao,lcap,rfl,llc,llcap,lnone,lsome⟩:=hP;unfold maxLen at llcap
   by_cases h0:0<ls.length
   ·obtain⟨a,ha⟩:=Zc2 h0 lnone
    subst ha;obtain⟨b,off,rfl,hrow⟩:=lsome a rfl;have HRW:=Za hrow;clear lnone lsome hrow;go_wp2
    go_loopw [5,6,7,8,9] (fun kk i _ _ _ wi=>∃k j:Nat,kk=.int .i64 k∧i=.int .i64 j∧ZyL ltV ls k j∧Nx wo wi) (fun _ i _ _ _ _=>ls.length-(intOf i).toNat)
    case atStart=>exact⟨0,1,rfl,rfl,ZrE ltV h0,Nx.rfl⟩
    case round=>
     obtain⟨k,j,rfl,rfl,hpk,hni⟩:=hrel;have hkj:=hpk.1;have hjl:=hpk.2.1;have HPK:=Za hpk;have HNI:=Za hni;clear hpk
     have hk:k<ls.length:=by omega
     obtain⟨ck0,ck1⟩:=(HRW.out.on hni).cell hk
     by_cases hj:j<ls.length
     ·obtain⟨cj0,cj1⟩:=(HRW.out.on hni).cell hj
      have zj:=HZ.out _ (HSB.out _ (Xb hj));have zk:=HZ.out _ (HSB.out _ (Xb hk))
      have HCK:Hid (∀wx,Nx wo wx→wx.cell? ⟨b,off+k*2,none⟩=some (.string ls[k].1)):=Za (fun wx hx=>((HRW.out.on hx).cell hk).1)
      have HKE:=Za (Zur HPK.out hj hk)
      have HTU:=Za (fun h=>Zus HPK.out hj hk h (fun _ _ _ _ _ _=>ZuV) (fun _ _ _ _ _ _=>ZyQ))
      have HLT:=Za (show ltV ls[j] ls[k]=aheadK id (Zbf (Zk (tl ls[j].1))) (Zbf (Zk (tl ls[k].1)))from rfl);clear hni ck0 ck1 cj1;generalize ls[j]=x at *;generalize ls[k]=y at *;go_wp2_with fail
      refine(ZkB x.1 _ zj).mono ?_
      rintro e wa ⟨va,rfl,ha,hna⟩;have HA:=Za ha;have HNA:=Za (HNI.out.then hna);have cka:=HCK.out _ HNA.out
      obtain⟨aoa,capa,hva⟩:∃ao cap,va=.slice ao (Zbf (Zk (tl x.1))).length cap:=by obtain⟨ao,cap,h,-⟩:=ha;exact⟨ao,cap,h⟩
      subst hva;clear ha hna cj0;go_wp2_with fail
      refine(ZkB y.1 _ zk).mono ?_
      rintro e wb ⟨vb,rfl,hb,hnb⟩;have HA2:=Za (HA.out.on hnb);have HB:=Za hb;have HNB:=Za (HNA.out.then hnb);clear hb hnb cka;go_wp2_with fail
      refine(ZrT _ vb _ _ _ HA2.out HB.out).mono ?_
      rintro e wc ⟨rfl,hnc⟩;have HNC:=Za (HNB.out.then hnc);clear hnc
      cases hless:aheadK id (Zbf (Zk (tl x.1))) (Zbf (Zk (tl y.1)))
      ·have HP2:=Za (HKE.out (HLT.out.trans hless))
       clear HKE HTU HLT hless;go_wp2
       go_roundw
       case rel=>exact⟨k,j+1,rfl,by go_num,HP2.out,HNC.out⟩
       case measure=>simp[intOf];omega
      ·have HP2:=Za (HTU.out (HLT.out.trans hless))
       clear HKE HTU HLT hless;go_wp2
       go_roundw
       case rel=>exact⟨j,j+1,rfl,by go_num,HP2.out,HNC.out⟩
       case measure=>simp[intOf];omega
     ·have hjj:j=ls.length:=by omega
      have HPS:=Za (show ZV ltW (ls.map tl2)=tl2 ls[k]::ZV ltW ((ls.take k++ls.drop (k+1)).map tl2)by
       have h:=HPK.out;rw[hjj]at h;have e:=congrArg (List.map tl2) (Zut h hk);rw[Zqb,Xe,Zqb]at e
       exact e)
      have HRWI:=Za (HRW.out.on hni);have HOI:=Za (OwnP.nx HO.out hni);have HNW:=Za (HN.out.then hni);have hzi:w.heap.size≤wr.heap.size:=HNW.out.size;have hbl:=HRWI.out.lt
      have hol:os.length<1000000000000:=by omega
      have HMEM:Hid (∀p∈ls.take k++ls.drop (k+1),p∈ps):=Za (fun p hp=>HSB.out p (by
       rcases List.mem_append.1 hp with g|g
       ·exact List.mem_of_mem_take g
       ·exact List.mem_of_mem_drop g))
      clear hni HPK hjj
      have HOFF:Hid (∀k',u3.ownBlock=some k'→b≠k'):=Za (fun k' h'=>HOF.out k' b off _ _ h' rfl)
      clear HRW HO HN HSB HOF;generalize hyy:ls[k]=y at *;obtain⟨yn,yv⟩:=y;simp only at ck0 ck1
      go_upto_region 14 with(at_builtin;go_must (refine Zxj wr (yn,yv) rfl _ _ rfl w.heap.size _ os rfl HOI.out rfl hol hzi ?_;intro v' w3 ho3 hkeep hblk hb3;have HO3:=Za ho3;have HKP:=Za hkeep;have HBK:=Za hblk;have HB3:=Za hb3;clear ho3 hkeep hblk hb3))
      have HR3:=Za (HRWI.out.same (HKP.out b hbl (fun e=>HOFF.out b e rfl)))
      have HN3:=Za (show Nx w w3 from HNW.out.trans HB3.out)
      have HOF3:Hid (∀k',v'.ownBlock=some k'→b≠k'):=Za (fun k' h'=>by
       rcases HBK.out k' h' with g|g
       ·exact HOFF.out k' g
       ·omega)
      have HE3:=Za (show(os++[(yn,yv)]).map tl2++ZV ltW ((ls.take k++ls.drop (k+1)).map tl2)=ZV ltW (ps.map tl2)by
       rw[Xg,List.append_assoc,←HE.out,HPS.out]
       rfl)
      clear HE HPS HKP HBK HB3 HRWI HOI HNW HOFF ck0 ck1
      have hk1:k+1≤ls.length:=by omega
      have hk2:k≤lcap:=by omega
      have hk3:k+1≤lcap:=by omega
      have hkA:(k:Int)≤(k:Int)+1:=by omega
      have hkB:(0:Int)≤(k:Int)+1:=by omega
      have hkC:(k:Int)+1≤(ls.length:Int):=by omega
      have hwrp:IntKind.i64.wrap ((k:Int)+1)=((k+1:Nat):Int):=by
       rw[IntKind.wrap_i64]
       omega
      have HTL:=Za (show(ls.take k).length=k by rw[Xd];omega)
      have HGO:Hid (∀x:Value,(∀b' off' n' c',x=.slice (some ⟨b',off',none⟩) n' c'→b'=b∨w3.heap.size≤b')→Off v' x):=Za (fun x hbx k' b' off' n' c' h1 h2=>by
       rcases hbx b' off' n' c' h2 with g|g
       ·rw[g];exact HOF3.out k' h1
       ·have:=(HO3.out.lt k' h1).2
        omega)
      have HLL:=Za (show(os++[(yn,yv)]).length+(ls.take k++ls.drop (k+1)).length≤1000000 by
       rw[Xa,Xa,HTL.out,Xh];simp only[Xo,Xk]
       omega)
      by_cases hlast:k+1=ls.length
      ·have HLS:=Za (show ls.take k++ls.drop (k+1)=ls.take k by rw[Xj (by omega),List.append_nil])
       have HLA:=Za (show ls.length-(k+1)=0 by omega)
       have HLK:=Za (show Zzq (.slice (some ⟨b,off,none⟩) k k)<ls.length from hk);clear hlast
       by_cases hc1:lcap=k+1
       ·subst hc1
        go_region_held_law (fun w'=>w'.os=w3.os) (first|rfl|exact HN4.out.os) ((refine Zm7 _ rfl (.tmp 48) (.tmp 52) rfl ⟨b,off,none⟩ k k (by simp[Act.eval]) (some ⟨b,off,none⟩) 0 (by simp[Act.eval]<;>exact HLA.out) (Xl _) ?_))
        all_goals have HRL:=Za (show PlAt w3.drew (.slice (some ⟨b,off,none⟩) k k) (ls.take k++ls.drop (k+1))∧(∀b' off' n' c',Value.slice (some ⟨b,off,none⟩) k k=.slice (some ⟨b',off',none⟩) n' c'→b'=b∨w3.heap.size≤b')∧Zzq (.slice (some ⟨b,off,none⟩) k k)<ls.length∧Nx w3 w3.drew from⟨⟨some ⟨b,off,none⟩,k,by rw[HLS.out,HTL.out],by rw[HLS.out,HTL.out];exact Xl _,by unfold maxLen;omega,(fun g=>by cases g),fun a' ha'=>⟨b,off,(Option.some.inj ha').symm,by rw[HLS.out];exact(HR3.out.on Nx.rfl.drew).take k⟩⟩,fun b' off' n' c' h2=>Or.inl (by simp only[Value.slice.injEq,Option.some.injEq,Addr.mk.injEq]at h2;exact h2.1.1.symm),HLK.out,Nx.rfl.drew⟩)
        all_goals clear hk1 hk2 hk3 hkA hkB hkC hwrp
        all_goals go_wp2
        all_goals go_roundw
        all_goals first
         | exact HRL.out.2.2.1
         | (obtain⟨hPx,hbx,hlx,hnx⟩:=HRL.out;exact⟨os++[(yn,yv)],ls.take k++ls.drop (k+1),OwnP.nx HO3.out hnx,hPx,HGO.out _ hbx,HE3.out,HMEM.out,HLL.out,HN3.out.then hnx⟩)
         | (rename_i dst d heq;obtain rfl:53=d:=Option.some.inj heq;obtain⟨hPx,hbx,hlx,hnx⟩:=HRL.out;refine⟨_,_,⟨os++[(yn,yv)],OwnP.nx HO3.out hnx,ls.take k++ls.drop (k+1),hPx,HGO.out _ hbx,HE3.out,fun a b h=>HMEM.out (a,b) h,HLL.out,HN3.out.then hnx⟩,?_⟩;(repeat apply Exists.intro);rfl)
       ·go_region_held_law (fun w'=>w'.os=w3.os) (first|rfl|exact HN4.out.os) ((refine Zm7 _ rfl (.tmp 48) (.tmp 52) rfl ⟨b,off,none⟩ k k (by simp[Act.eval]) (some ⟨b,off+(k+1)*2,none⟩) (lcap-(k+1)) (by simp[Act.eval]<;>exact HLA.out) (Xl _) ?_))
        all_goals have HRL:=Za (show PlAt w3.drew (.slice (some ⟨b,off,none⟩) k k) (ls.take k++ls.drop (k+1))∧(∀b' off' n' c',Value.slice (some ⟨b,off,none⟩) k k=.slice (some ⟨b',off',none⟩) n' c'→b'=b∨w3.heap.size≤b')∧Zzq (.slice (some ⟨b,off,none⟩) k k)<ls.length∧Nx w3 w3.drew from⟨⟨some ⟨b,off,none⟩,k,by rw[HLS.out,HTL.out],by rw[HLS.out,HTL.out];exact Xl _,by unfold maxLen;omega,(fun g=>by cases g),fun a' ha'=>⟨b,off,(Option.some.inj ha').symm,by rw[HLS.out];exact(HR3.out.on Nx.rfl.drew).take k⟩⟩,fun b' off' n' c' h2=>Or.inl (by simp only[Value.slice.injEq,Option.some.injEq,Addr.mk.injEq]at h2;exact h2.1.1.symm),HLK.out,Nx.rfl.drew⟩)
        all_goals clear hk1 hk2 hk3 hkA hkB hkC hwrp
        all_goals go_wp2
        all_goals go_roundw
        all_goals first
         | exact HRL.out.2.2.1
         | (obtain⟨hPx,hbx,hlx,hnx⟩:=HRL.out;exact⟨os++[(yn,yv)],ls.take k++ls.drop (k+1),OwnP.nx HO3.out hnx,hPx,HGO.out _ hbx,HE3.out,HMEM.out,HLL.out,HN3.out.then hnx⟩)
         | (rename_i dst d heq;obtain rfl:53=d:=Option.some.inj heq;obtain⟨hPx,hbx,hlx,hnx⟩:=HRL.out;refine⟨_,_,⟨os++[(yn,yv)],OwnP.nx HO3.out hnx,ls.take k++ls.drop (k+1),hPx,HGO.out _ hbx,HE3.out,fun a b h=>HMEM.out (a,b) h,HLL.out,HN3.out.then hnx⟩,?_⟩;(repeat apply Exists.intro);rfl)
      ·have hc1:¬lcap=k+1:=by omega
       have HLD:=Za (show(ls.drop (k+1)).length=ls.length-(k+1)by rw[Xh])
       have HR4:=Za (HR3.out.on Nx.rfl.drew)
       have hfl:k<(ls.take k).length+(ls.drop (k+1)).length:=by rw[HTL.out,HLD.out];omega
       have hfn:(ls.take k).length+(ls.drop (k+1)).length<1000000000000:=by rw[HTL.out,HLD.out];omega
       clear hlast
       go_region_held_law (fun w'=>w'.os=w3.os) (first|rfl|exact HN4.out.os) ((refine ZuU w3.drew rfl (.tmp 48) (.tmp 52) rfl b off k (ls.take k) (by simp[Act.eval,HTL.out]) (HR4.out.take k) b (off+(k+1)*2) (lcap-(k+1)) (ls.drop (k+1)) (by simp[Act.eval,HLD.out]) (HR4.out.drop (k+1)) hfl hfn ?_;intro v4 w4 ho4 hn4;have HO4:=Za ho4;have HN4:=Za hn4;clear ho4 hn4))
       all_goals obtain⟨ao4,cp4,hv4⟩:=Za7 HO4.out
       all_goals subst hv4
       all_goals have HL4:=Za (show(ls.take k++ls.drop (k+1)).length=min k ls.length+(ls.length-(k+1))by rw[Xa,Xd,Xh])
       all_goals have HRL:=Za (show PlAt w4 (.slice ao4 (min k ls.length+(ls.length-(k+1))) cp4) (ls.take k++ls.drop (k+1))∧(∀b' off' n' c',Value.slice ao4 (min k ls.length+(ls.length-(k+1))) cp4=.slice (some ⟨b',off',none⟩) n' c'→b'=b∨w3.heap.size≤b')∧Zzq (.slice ao4 (min k ls.length+(ls.length-(k+1))) cp4)<ls.length∧Nx w3 w4 from(by rw[←HL4.out];exact⟨OwnP.at HO4.out,fun b' off' n' c' h2=>Or.inr (by simp only[Value.slice.injEq]at h2;exact(HO4.out.lt b' (by rw[h2.1];rfl)).1),(by show(ls.take k++ls.drop (k+1)).length<ls.length;rw[Xa,HTL.out,HLD.out];omega),Nx.rfl.drew.then HN4.out⟩))
       all_goals clear hk1 hk2 hk3 hkA hkB hkC hwrp hfl hfn hc1
       all_goals go_wp2
       all_goals go_roundw
       all_goals first
        | exact HRL.out.2.2.1
        | (obtain⟨hPx,hbx,hlx,hnx⟩:=HRL.out;exact⟨os++[(yn,yv)],ls.take k++ls.drop (k+1),OwnP.nx HO3.out hnx,hPx,HGO.out _ hbx,HE3.out,HMEM.out,HLL.out,HN3.out.then hnx⟩)
        | (rename_i dst d heq;obtain rfl:53=d:=Option.some.inj heq;obtain⟨hPx,hbx,hlx,hnx⟩:=HRL.out;refine⟨_,_,⟨os++[(yn,yv)],OwnP.nx HO3.out hnx,ls.take k++ls.drop (k+1),hPx,HGO.out _ hbx,HE3.out,fun a b h=>HMEM.out (a,b) h,HLL.out,HN3.out.then hnx⟩,?_⟩;(repeat apply Exists.intro);rfl)
   ·have HE2:=Za (show os.map tl2=ZV ltW (ps.map tl2)by
     have h:=HE.out
     rw[List.eq_nil_of_length_eq_zero (show ls.length=0 by omega)]at h
     simpa [ZV]using h)
    clear lnone lsome;go_wp2;go_ret;exact⟨_,os,rfl,HO.out,HE2.out,HN.out⟩
end Go.Proofs.YtchkhibgbnhjpabGreatDoor
